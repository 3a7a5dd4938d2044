import PyProof.Rows.All
import Wide.All
import OpenK.AllK
import Wide.FinOn
import HandS.ForMost
import HandS.Codes
import HandS.WideBits
import HandS.IsInst
import HandS.Defaults
import HandS.EndBits
import PyProof.ReprRoads
import HandS.TupSets
import HandS.DictComp
import HandS.Star
import KE.GoesMore
import HandS.MakeKwOnly
import HandS.Property
import KE.KCallOwn
import PySem.Challenge.RW_passedits_k33_errors_of_likeness
import HandS.Evl
import HandS.WordsDict
import HandS.DictSub
import HandS.Walk
import PyProof.ReprLen
import KE.KxAffix
import OpenK.KMake
import OpenK.KMore
import HandS.OwnEq
import HandS.ClsMeth
import PyProof.InstEq
import PyProof.Rows.CallKw2
import OpenK.KMeth
import HandS.TupAny
import HandS.TupLe
import HandS.TryOnly
import KE.KExcSuper
import HandS.ExcInit
import HandS.ExcSuper
import KE.KExcIs
import KE.KIsAll
import HandS.ExcIs
import HandS.ExcOwn
import KE.KTryMore
import HandS.List
import HandS.Lambda
import HandS.EndTab
import HandS.SortInts
import HandS.Conv
import HandS.Comp
import HandS.WordsExc
import HandS.Dict
import KE.KDictDisplayH
import KE.KDictCopyH
import HandS.HotCalls
set_option Elab.async false
set_option linter.all false
set_option maxRecDepth 100000
set_option maxHeartbeats 4000000
/-! Own: defs that are called where no repr runs, repr of data, the end of a law for such a def. -/
namespace XG
open PySem PySem.Spec PyProof.Rows L2
/-- no repr runs around -/
def Calm (A : Around) : Prop := A.guards = some []
theorem Calm.deeper {A : Around} (h : Calm A) (e : Env) : Calm (A.deeper e) := h
/-- what a def promises where no repr runs around -/
structure FnG (P : Program) (w : World) (K : PySem.W.Frag) (mg : Str → Option Value) (base : Heap) (CX : CXT) (k : Nat) (f : Addr) (fd : FuncData) (ps : List Str) (sp : Sp) : Prop where
  len : ∀ vs H Q E, sp vs H Q E → vs.length = ps.length
  run : ∀ (A : Around) (outer : List Env) (s : Shared) (H : Hp) (args : Args) (us : List Value) (vs : List V) (Q : VK) (E : XK), Calm A → Room k A → Env0 P w K mg base A outer s H → BindsTo s fd args (ps.zip us) → Vals vs us → sp vs H Q E →
    codeAny (model P w) A (.call (.ref f) args) (CR CX outer P w H s Q E) s
section
variable {CX : CXT} {P : Program} {w : World} {K : PySem.W.Frag} {mg : Str → Option Value} {base : Heap} {k : Nat}
theorem fn_calm {f : Addr} {name qual : Str} {params : Arguments} {body : List Stmt} {scope : Scope} {dV kV doc pm cdv ct oc : Value} {an od : Option Addr}
    {osl : Array (Option Value)} {N ps : List Str} {sp : Sp} (lk : K.lookup f = some ⟨oc, od, .func (PySem.W.fnOf name qual params body scope dV kV doc pm an cdv ct), osl⟩) (hcd : PySem.W.codeIn K cdv qual = true) (S : FnScope N ps scope)
    (len : ∀ vs H Q E, sp vs H Q E → vs.length = ps.length)
    (hbody : ∀ (A : Around) (outer : List Env) (s : Shared) (H : Hp) (vs : List V) (Q : VK) (E : XK), Calm (A.deeper (envOfC qual scope s.heap.objs.size f cdv)) → Room k (A.deeper (envOfC qual scope s.heap.objs.size f cdv)) → sp vs H Q E →
      ∃ t, PSs (cxOf CX P w K mg base N qual scope f cdv A outer s H E) body t ∧ t { nx := fun _ H' => Q .non H', rt := Q } (start N vs) H) :
    FnG P w K mg base CX (k + 1) f (PySem.W.fnOf name qual params body scope dV kV doc pm an cdv ct) ps sp := by
  refine ⟨len, fun A outer s H args us vs Q E hc hr e0 hb r hsp => ?_⟩
  -- the rule for a def, at this one call: another promise that holds here alone
  have hl := len _ _ _ _ hsp
  have KX : K.In s.heap := e0.mod.kin.keeps fun b o e => (e0.bs b o e).1
  have lim : s.heap.NoLimit := e0.mod.nolimit.keeps fun b o e => (e0.bs b o e).1
  refine codeAny_call_function hr.depth (KX _ _ lk) rfl S.co S.gen rfl (PySem.W.codeRec_of KX hcd) (hb _ _ _ _ ?_)
  have hkind : ∀ y ∈ ps.zip us, scope.names.lookup y.1 = some .local ∨ (scope.names.lookup y.1 = some .cell ∧ ((cellsFrom (s.heap.objs.size + 1) scope.names []).lookup y.1).isSome = true) := by
    rintro ⟨n, v⟩ hy
    rcases S.par n (List.of_mem_zip hy).1 with q | q
    · exact .inl q
    · exact .inr ⟨q, PySem.W.cellsFrom_some _ _ _ (.inl q)⟩
  refine wpAny_newFunctionEnv_cells S.kind hkind fun env he s1 x => ?_
  subst he
  refine ⟨lim.keeps x.toInCall.keep, codeAny_func ?_⟩
  obtain ⟨t, ht, hq⟩ := hbody A outer s H vs Q E (hc.deeper _) (hr.deeper _) hsp
  have I := inv_start (CX := CX) (E := E) S hr.hd e0 hl r x
  refine wpAny_mono (ht.run [] s1 (start N vs) H _ I hq) (fun fl s' hs => ?_) fun e s' hs => hs
  cases fl with
  | ret u =>
    obtain ⟨v, σ', H', J, rv, q⟩ := hs
    exact ⟨v, H', J.os, J.bare, J.base, J.hok, rv, q⟩
  | next =>
    obtain ⟨σ', H', J, q⟩ := hs
    exact ⟨.non, H', J.os, J.bare, J.base, J.hok, rfl, q⟩
  | brk => obtain ⟨_, _, _, q⟩ := hs; exact False.elim q
  | cont => obtain ⟨_, _, _, q⟩ := hs; exact False.elim q
theorem okG {x qual : Str} {st : Stmt} {f : Addr} {fd : FuncData} {N ps : List Str} {sp : Sp} (F : Fun K x qual st f fd) (S : FnScope N ps (defScope st)) (len : ∀ vs H Q E, sp vs H Q E → vs.length = ps.length)
    (hbody : ∀ (cdv : Value) (A : Around) (outer : List Env) (s : Shared) (H : Hp) (vs : List V) (Q : VK) (E : XK), Calm (A.deeper (envOfC qual (defScope st) s.heap.objs.size f cdv)) → Room k (A.deeper (envOfC qual (defScope st) s.heap.objs.size f cdv)) → sp vs H Q E →
      ∃ t, PSs (cxOf CX0 P w K mg base N qual (defScope st) f cdv A outer s H E).nox (defBody st) t ∧ t { nx := fun _ H' => Q .non H', rt := Q } (start N vs) H) : FnG P w K mg base CX0 (k + 1) f fd ps sp := by
  obtain ⟨oc, od, kV, doc, pm, an, cdv, ct, osl, rfl, lk, hcd⟩ := F.ex
  refine fn_calm lk hcd S len fun A outer s H vs Q E hc hr hsp => ?_
  obtain ⟨t, h, q⟩ := hbody cdv A outer s H vs Q E hc hr hsp
  exact ⟨t, h.nox, q⟩
end
section
variable {X : Cx} {CX : CXT} {k : Nat} {f : Addr} {fd : FuncData} {ps : List Str} {sp : Sp} {dvs : List V} {ds : List Value} {E : XK} {x : Str} {p pos : Pos} {e : Expr} {es : List Expr} {t : TA}
/-- f(e, ..) of such a def -/
theorem pe_callG (F : FnG X.prog X.w X.K X.mg X.base CX k f fd ps sp) (hc : Calm X.A) (hr : Room k X.A) (hg : Gl X x) (hm : X.mg x = some (.ref f)) (hk : PySem.W.keepIn X.K (.ref f) = true) (hb : Binds X.K fd ps ds) (hd : Vals dvs ds) (hx : Passes CX X E)
    (ha : PA X (e :: es) t) (hdb : (x == ("__debug__" : Str)) = false := by decide) (he : starEach (e :: es) X.env = (false, eval e X.env) :: starEach es X.env := by rfl) (hpl : (backTo pos (starEach es X.env)).any (·.1) = false := by rfl) :
    PE X (.Call (.Name x p) (e :: es) [] pos) (tCall sp dvs E t) := by
  refine ⟨fun pins s σ H Q I h => wpAny_Call_Name_kw (ld_glob I hg hm ?_ hdb)⟩
  refine PySem.W.callWith_K (h₀ := X.base) I.ok.mod.kin hk (thn (ha.run pos pins s σ H _ I h) fun us s1 ⟨vs, H1, I1, r, q⟩ => ⟨I1.kIn, ?_⟩) he hpl
  have r2 : Vals (vs ++ dvs) (us ++ ds) := r.append hd
  have hl : (us ++ ds).length = ps.length := by rw [← r2.length]; exact F.len _ _ _ _ q
  refine wpAny_call (codeAny_mono (F.run X.A X.stack s1 H1 ⟨us, []⟩ (us ++ ds) (vs ++ dvs) Q E hc hr I1.env0 (hb s1 us I1.kIn hl) r2 q) fun r s' hq => ?_)
  cases r with
  | error er => exact hx pins σ H1 s1 er s' I1 hq
  | ok fl =>
    cases fl with
    | ret u => exact I1.after hq
    | _ => exact False.elim hq

/-! ### repr of data -/
def rRepr (K : PySem.W.Frag) : List V → Hp → VK → Prop := fun xs H Q => ∃ v d, xs = [v] ∧ Dp K H v d ∧ d.showable = true ∧ d.hasDict = false ∧ d.depth ≤ 32 ∧ d.shown.length ≤ sizeLine ∧ Q (.str d.shown) H
theorem call_repr (hc : Calm X.A) (hu : X.A.units + 64 < cLine) : CallR X (.builtin "repr") (rRepr X.K) := by
  intro pins s σ H xs us Q I r h
  obtain ⟨v, d, rfl, hd, hs, hn, hdp, hz, q⟩ := h
  obtain ⟨u, rfl, ru⟩ := Vals.one r
  obtain ⟨as, rd⟩ := Dp.reads I d v u hd ru
  have onHeap : ∀ a, u = Value.ref a → wpAny (model X.prog X.w) X.A (call (.builtin "repr") [u]) (EP X pins σ Q) X.xe s := fun a e => by
    subst e
    refine repr_of_reads' rd hs (PyData.noDict_hsm hn) hc (by omega) (fun _ _ z => z) (fun h' u tk hk => ?_) hz
    exact ⟨.str d.shown, H, I.kept hk, ⟨u, rfl⟩, q⟩
  cases hd with
  | non =>
    cases ru
    exact PySem.P.repr_of_none ⟨.str _, H, I.tok _, ⟨_, rfl⟩, by simpa only [PyData.shown] using q⟩
  | bl b =>
    cases ru
    exact PySem.P.repr_of_bool ⟨.str _, H, I.tok _, ⟨_, rfl⟩, by simpa only [PyData.shown] using q⟩
  | int i =>
    obtain ⟨t, rfl⟩ := ru
    exact PySem.P.repr_of_int (by simpa [PyData.showable] using hs) ⟨.str _, H, I.tok _, ⟨_, rfl⟩, by simpa only [PyData.shown] using q⟩
  | str x =>
    obtain ⟨t, rfl⟩ := ru
    exact PySem.P.repr_of_str ⟨.str _, H, I.tok _, ⟨_, rfl⟩, by simpa only [PyData.shown] using q⟩ (by simpa only [PyData.shown] using hz)
  | lst _ _ => exact onHeap _ ru
  | tup _ _ => exact onHeap _ ru
end

/-! ### the end of a law whose def wants that no repr runs around -/
theorem end_calm {P : Program} {w : World} {K : PySem.W.Frag} {mg mb : Str → Option Value} {k : Nat} {fa a : Addr} {fd : FuncData} {x : Str} {sp : Sp} {z : Shared} {vs : List Value} {ns : List Int}
    (KX : K.In z.heap) (hns : z.heap.Ns mainGlobals mg) (hb : z.heap.Ns builtinsNs mb) (hbb : ∀ x : Str, x ≠ "__name__" → mb x = bootBuiltins x) (hlim : z.heap.NoLimit) (hg : z.gens = #[])
    (ha : z.heap.get? a = some { cls := .type "list", data := .seq vs.toArray }) (hi : IntsAre vs ns) (hl : ns.length ≤ sizeLine) (hr : Room k callerA)
    (F : ∀ base : Heap, K.In base → base.Ns mainGlobals mg → FnG P w K mg base CX0 k fa fd [x] sp) (hbind : ∀ (s : Shared) (u : Value), BindsTo s fd ⟨[u], []⟩ [(x, u)])
    (hsp : ∀ H : Hp, Only H → SqL K H a (ns.map V.int) → sp [.ref a] H (fun v _ => v = .bl true) fun _ _ _ => False) :
    codeAny (model P w) callerA (.call (.ref fa) ⟨[.ref a], []⟩) (fun r s' => r = .ok (.ret (.bool true)) ∧ OldK z.heap s'.heap ∧ s'.os = z.os ∧ AllBare s'.gens) z := by
  have go : ∀ H : Hp, Only H → SqL K H a (ns.map V.int) → HOk P w H z.heap → (∀ b, H b ≠ none → b = a ∧ K.lookup a = none) →
      codeAny (model P w) callerA (.call (.ref fa) ⟨[.ref a], []⟩) (fun r s' => r = .ok (.ret (.bool true)) ∧ OldK z.heap s'.heap ∧ s'.os = z.os ∧ AllBare s'.gens) z := by
    intro H hO hS hok hA
    have free : ∀ {b : Addr} {o : Obj}, z.heap.get? b = some o → o.data ≠ .seq vs.toArray 0 → H b = none := fun {b o} e d => by
      cases q : H b with
      | none => rfl
      | some u =>
        have e1 := (hA b (by rw [q]; simp)).1
        rw [e1, ha] at e
        exact absurd (by rw [← Option.some.inj e]) d
    have ns_of : ∀ {b : Addr} {m : Str → Option Value}, z.heap.Ns b m → (hidT z.heap H).Ns b m := fun {b m} n => by
      obtain ⟨o, es, ep, e, d, r⟩ := n
      exact ⟨o, es, ep, hidT_get e (free e fun q => by rw [d] at q; cases q), d, r⟩
    have kb : K.In (hidT z.heap H) := fun b o e => by
      refine hidT_get (KX b o e) ?_
      cases q : H b with
      | none => rfl
      | some u =>
        obtain ⟨e1, e2⟩ := hA b (by rw [q]; simp)
        rw [e1, e2] at e
        cases e
    obtain ⟨mc, c1, c2⟩ := hlim
    have M : Mod K mg (hidT z.heap H) := ⟨kb, ns_of hns, ⟨mb, ns_of hb, hbb⟩, mc, ns_of c1, c2⟩
    have e0 : Env0 P w K mg (hidT z.heap H) callerA [] z H := ⟨rfl, M, fun b o e => of_hidT e, Nat.le_of_eq (hidT_size _ _), trivial, fun b hb => absurd (show b ∈ ([] : List Addr) from hb) (by simp), hok, .of_eq hg⟩
    refine codeAny_mono ((F _ kb (ns_of hns)).run callerA [] z H ⟨[.ref a], []⟩ [.ref a] [.ref a] _ _ rfl hr e0 (hbind z (.ref a)) (.cons rfl .nil) (hsp H hO hS)) fun r s' h => ?_
    cases r with
    | error e => exact h.elim
    | ok fl =>
      cases fl with
      | ret u =>
        obtain ⟨v, H', os, bare, un, hok', r', q⟩ := h
        obtain rfl : v = .bl true := q
        obtain rfl : u = Value.bool true := r'
        refine ⟨rfl, OldK.of_keep fun b o e => ?_, os, bare⟩
        rcases hO b with q | ⟨ob, xs, q⟩
        · exact un.keep b o e q (fun i => absurd (show b ∈ ([] : List Addr) from i) (by simp)) (by simp)
        · have e1 := (hok b _ q).1
          rw [e] at e1
          rw [Option.some.inj e1]
          exact (hok' b _ (un.frzs b ob _ q)).1
      | _ => exact False.elim h
  have rv := vals_ints hi
  cases hk : K.lookup a with
  | some o =>
    have e := KX a o hk
    rw [ha] at e
    cases e
    exact go (fun _ => none) (fun _ => .inl rfl) (.inr ⟨_, vs.toArray, _, hk, rfl, rfl, rfl, by rw [List.size_toArray, hi.length]; exact hl, by simpa using rv⟩) (fun b u q => by cases (show (none : Option HO) = some u from q)) fun b q => absurd rfl q
  | none =>
    refine go (fun b => if b = a then some (.frz { cls := .type "list", data := .seq vs.toArray } (.lst (ns.map V.int))) else none) (fun b => ?_) (.inl (.inr ⟨{ cls := .type "list", data := .seq vs.toArray }, if_pos rfl⟩)) (fun b u q => ?_) fun b q => ?_
    · by_cases hb : b = a
      · exact .inr ⟨_, _, if_pos hb⟩
      · exact .inl (if_neg hb)
    · by_cases hb : b = a
      · have q' := (if_pos hb).symm.trans q
        cases q'
        subst hb
        exact ⟨ha, by rw [List.length_map]; exact hl, vs, _, rv, ha⟩
      · have q' := (if_neg hb).symm.trans q
        cases q'
    · by_cases hb : b = a
      · exact ⟨hb, hk⟩
      · exact absurd (if_neg hb) q
theorem walk_calm {l : PySem.W.OpenLaw} {n k : Nat} {q : Program} {loose : List Str} {XP : (Str → Option Value) → Heap → Prop} {YP : World → Heap → Prop} {d : DefRec} {K : Params → PySem.W.Frag} {sp : World → Sp} {x : Str}
    (hn : l.most = some n) (hn2 : n ≤ sizeLine) (hdf : d.params.defaults = []) (hr : Room k callerA)
    (hY : ∀ (w : World) (h : Heap), YP w h → (K w.params).In h)
    (F : ∀ (w : World) (mg : Str → Option Value) (fa : Addr) (h : Heap), (K w.params).In h → h.Ns mainGlobals mg → mg d.name = some (.ref fa) →
      ∃ fd : FuncData, (∀ (s : Shared) (u : Value), BindsTo s fd ⟨[u], []⟩ [(x, u)]) ∧
        ∀ base : Heap, (K w.params).In base → base.Ns mainGlobals mg → FnG l.prog w (K w.params) mg base CX0 k fa fd [x] (sp w))
    (hsp : ∀ (w : World) (H : Hp) (a : Addr) (ns : List Int), ns.length ≤ n → (∀ z ∈ ns, Builtin.Int.intBits z ≤ 1048576) → Only H → SqL (K w.params) H a (ns.map V.int) → sp w [.ref a] H (fun v _ => v = .bl true) fun _ _ _ => False) :
    PySem.W.WalkO q loose XP YP l.row.toRowW d [] (fun f vs => PySem.call f vs) := by
  refine Att.attach_callB hn hdf fun w s₀ s₁ mg mb fa o pm cd doc a vs ns G Y ho hd hcd hmg hobj hints hlen hbits hg => ?_
  have KX := hY w _ Y
  obtain ⟨fd, hb, hF⟩ := F w mg fa _ KX G.T.g hmg
  exact end_calm KX G.T.g G.T.b G.T.builtins G.T.nolimit hg hobj hints (Nat.le_trans hlen hn2) hr hF hb fun H hO hS => hsp w H a ns hlen hbits hO hS
end XG
/-! Own: sets whose members are tuples of ints and texts; made, grown, asked. -/
namespace XS
open PySem PySem.Spec PyProof.Rows L2
abbrev Nm := List Key
abbrev kh (P : Program) (w : World) (k : Nm) : Int := tupleKeyHash (mixKind P w) k
abbrev At (P : Program) (w : World) (h : Heap) (k : Nm) (b : Addr) : Prop := IsTupleKey (mixKind P w) h k b

section
variable {P : Program} {w : World} {A : Around} {E : Value → Shared → Prop} {s : Shared}
theorem stmt_val (n : Nat) {v : Value} (h : carriedByValue v = true) : ofAClassStatement n v = pure false := by
  cases v with
  | ref a => exact absurd h (by simp [carriedByValue])
  | _ => cases n <;> rfl
theorem stmt_tup {k : Nm} {b : Addr} {Q : Bool → Shared → Prop} (hk : At P w s.heap k b) (h : Q false s) : wpAny (model P w) A (ofAClassStatement 8 (.ref b)) Q E s := by
  have ty := hk.typeIs
  obtain ⟨o, its, n, ho, _, hd, hi⟩ := hk
  unfold ofAClassStatement
  refine wpAny_bind (wpAny_typeOf ty ?_)
  dsimp only
  simp only [show (("tuple" : String) == "tuple") = true from by decide, if_true, Bool.not_true, Bool.false_eq_true, if_false]
  try refine wpAny_bind (wpAny_pure ?_)
  try simp only [Bool.not_true, Bool.false_eq_true, if_false]
  show wpAny _ _ (seqItems? (.ref b) >>= _) _ _ s
  refine wpAny_bind (wpAny_seqItems ho hd ?_)
  dsimp only
  refine wpAny_bind ?_
  show wpAny _ _ (forIn its _ _) _ _ s
  rw [← Array.forIn_toList]
  refine wpAny_forIn_list _ (fun rest r t => r.1 = none ∧ t = s ∧ ∀ v ∈ rest, carriedByValue v = true) _ ?_ ?_ _ _ ⟨rfl, rfl, hi.byValue⟩
  · rintro v rest r t ⟨hr, rfl, al⟩
    rw [stmt_val _ (al v List.mem_cons_self)]
    refine wpAny_bind (wpAny_pure ?_)
    simp only [Bool.false_eq_true, if_false]
    exact wpAny_pure ⟨rfl, rfl, fun u hu => al u (List.mem_cons_of_mem _ hu)⟩
  · rintro ⟨r1, r2⟩ t ⟨hr, rfl, _⟩
    simp only at hr
    subst hr
    exact wpAny_pure h
/-- whatever is said of the hash, some truth comes out -/
theorem byval_some (n : Nat) {k : Key} {v : Value} (h : keyIs k v = true) : ∃ r : Bool, hashByValue n v = pure r := by
  rcases keyIs_shape h with ⟨i, t, rfl, rfl⟩ | ⟨x, t, rfl, rfl⟩
  · exact ⟨true, by cases n <;> rfl⟩
  · exact ⟨false, by cases n <;> rfl⟩
theorem items_some {k : Nm} {vs : List Value} (h : ItemsAre (mixKind P w) k vs) : ∀ v ∈ vs, ∃ q : Key, keyIs q v = true := by
  induction h with
  | nil => intro v hv; cases hv
  | @cons q v' ks vs h1 _ ih =>
    intro v hv
    rcases List.mem_cons.mp hv with e | hv
    · exact ⟨q, by rw [e]; exact h1⟩
    · exact ih v hv
theorem byval_tup {k : Nm} {b : Addr} {Q : Bool → Shared → Prop} (hk : At P w s.heap k b) (h : ∀ r, Q r s) : wpAny (model P w) A (hashByValue 8 (.ref b)) Q E s := by
  have ty := hk.typeIs
  obtain ⟨o, its, n, ho, _, hd, hi⟩ := hk
  unfold hashByValue
  refine wpAny_bind (wpAny_specialOf ty F.slot_tuple_hash.lookup ?_)
  show wpAny _ _ (seqItems? (.ref b) >>= _) _ _ s
  refine wpAny_bind (wpAny_seqItems ho hd ?_)
  refine wpAny_bind ?_
  show wpAny _ _ (forIn its _ _) _ _ s
  rw [← Array.forIn_toList]
  refine wpAny_forIn_list _ (fun rest r t => t = s ∧ ∀ v ∈ rest, ∃ q : Key, keyIs q v = true) _ ?_ ?_ _ _ ⟨rfl, items_some hi⟩
  · rintro v rest r t ⟨rfl, al⟩
    obtain ⟨q, hq⟩ := al v List.mem_cons_self
    obtain ⟨y, ey⟩ := byval_some 7 hq
    rw [ey]
    refine wpAny_bind (wpAny_pure ?_)
    cases y with
    | true =>
      simp only [Bool.not_true, Bool.false_eq_true, if_false]
      exact wpAny_pure ⟨rfl, fun u hu => al u (List.mem_cons_of_mem _ hu)⟩
    | false =>
      simp only [Bool.not_false, if_true]
      refine wpAny_pure ?_
      exact wpAny_pure (h _)
  · rintro ⟨r1, r2⟩ t ⟨rfl, _⟩
    cases r1 with
    | none => exact wpAny_pure (h _)
    | some y => exact wpAny_pure (h _)
theorem seen_keys {k : Nm} {b : Addr} {Q : Bool → Shared → Prop} (hk : At P w s.heap k b) {ys : List Value} (hy : ∀ y ∈ ys, ∃ k' c, y = Value.ref c ∧ At P w s.heap k' c) (h : Q false s) :
    wpAny (model P w) A (searchCouldBeSeen (.ref b) ys) Q E s := by
  unfold searchCouldBeSeen
  refine wpAny_bind ?_
  refine wpAny_forIn_list _ (fun rest r t => r.1 = none ∧ t = s ∧ ∀ y ∈ rest, ∃ k' c, y = Value.ref c ∧ At P w s.heap k' c) _ ?_ ?_ _ _ ⟨rfl, rfl, hy⟩
  · rintro v rest r t ⟨hr, rfl, al⟩
    obtain ⟨k', c, rfl, hc⟩ := al v List.mem_cons_self
    have more : ∀ y ∈ rest, ∃ k' c, y = Value.ref c ∧ At P w t.heap k' c := fun u hu => al u (List.mem_cons_of_mem _ hu)
    dsimp only
    by_cases hv : (b == c || (carriedByValue (.ref b) && carriedByValue (.ref c))) = true
    · exact wp_if_pos hv (wpAny_pure ⟨rfl, rfl, more⟩)
    · refine wp_if_neg hv ?_
      refine wpAny_bind (wpAny_eqIsQuiet_tuple hk ?_)
      simp only [Bool.not_true, Bool.false_eq_true, if_false]
      refine wpAny_bind (wpAny_eqIsQuiet_tuple hc ?_)
      simp only [Bool.not_true, Bool.false_eq_true, if_false]
      refine wpAny_bind (stmt_tup hk ?_)
      simp only [Bool.false_eq_true, if_false]
      refine wpAny_bind (stmt_tup hc ?_)
      simp only [Bool.false_eq_true, if_false]
      exact wpAny_pure ⟨rfl, rfl, more⟩
  · rintro ⟨r1, r2⟩ t ⟨hr, rfl, _⟩
    simp only at hr
    subst hr
    exact wpAny_pure h

abbrev names (L : List (Addr × Nm)) : List Nm := L.map Prod.snd
def hasN (L : List (Addr × Nm)) (k : Nm) : Bool := (names L).any fun j => decide (j = k)
theorem hasN_pos {L : List (Addr × Nm)} {k : Nm} (h : k ∈ names L) : hasN L k = true := List.any_eq_true.mpr ⟨k, h, decide_eq_true rfl⟩
theorem hasN_neg {L : List (Addr × Nm)} {k : Nm} (h : k ∉ names L) : hasN L k = false := by
  cases e : hasN L k with
  | false => rfl
  | true =>
    obtain ⟨j, hj, ej⟩ := List.any_eq_true.mp e
    exact absurd (of_decide_eq_true ej ▸ hj) h
theorem hasN_iff {L : List (Addr × Nm)} {k : Nm} : hasN L k = true ↔ k ∈ names L :=
  ⟨fun h => Classical.byContradiction fun n => (by rw [hasN_neg n] at h; cases h), hasN_pos⟩
/-- the entries of the set's table for the rows L -/
def ents (P : Program) (w : World) (L : List (Addr × Nm)) : List (Int × Value) := L.map fun p => (kh P w p.2, Value.ref p.1)
theorem ents_len (L : List (Addr × Nm)) : (ents P w L).length = L.length := by
  unfold ents
  exact List.length_map ..
/-- the set at a has the rows L, its table being laid as it should -/
structure Tab (P : Program) (w : World) (h : Heap) (a : Addr) (L : List (Addr × Nm)) (es : Array (Int × Value)) (ep : Nat) (t : SetTable) : Prop where
  obj : ∃ o, h.get? a = some o ∧ o.ExactSet ∧ o.data = .set es ep t
  rows : es.toList = ents P w L
  tab : TabOk t (L.map fun p => kh P w p.2)
  once : (names L).Nodup
  mem : ∀ p ∈ L, At P w h p.2 p.1
  room : L.length * 5 < t.mask * 3
variable {a : Addr} {L : List (Addr × Nm)} {es : Array (Int × Value)} {ep : Nat} {t : SetTable}
theorem Tab.size (R : Tab P w s.heap a L es ep t) : es.size = L.length := by
  have q := congrArg List.length R.rows
  rw [ents_len, Array.length_toList] at q
  exact q
theorem Tab.fits (R : Tab P w s.heap a L es ep t) : t.fits es.size = true := by
  have q1 := R.tab.sz
  rw [List.length_map] at q1
  have q2 := R.size
  have q3 := R.room
  unfold SetTable.fits SetTable.fill
  rw [R.tab.dm, Bool.and_eq_true, beq_iff_eq, decide_eq_true_eq]
  refine ⟨by omega, ?_⟩
  show t.place.size + 0 ≤ t.mask
  omega
theorem Tab.entry (R : Tab P w s.heap a L es ep t) {i : Nat} {p : Addr × Nm} (h : L[i]? = some p) : es[i]? = some (kh P w p.2, Value.ref p.1) := by
  rw [← Array.getElem?_toList, R.rows, ents, List.getElem?_map, h]
  rfl
theorem Tab.stays (R : Tab P w s.heap a L es ep t) : ¬ t.gaveWay = true := by
  unfold SetTable.gaveWay
  rw [mask_odd R.tab.mok]
  decide
theorem dummy_nth (m : Nat) : ∀ (n : Nat) (p : SetTable.Probe), p.dummy = none → (nth m p n).dummy = none
  | 0, _, h => h
  | n + 1, p, h => dummy_nth m n (adv m p) (by
      unfold adv
      split <;> exact h)

/-- the c-th probe on the way of the hash -/
abbrev onWay (t : SetTable) (h : Int) (c : Nat) : SetTable.Probe := nth t.mask (runAt t.mask (SetTable.bits h % (t.mask + 1)) (SetTable.bits h)) c
theorem find_from (adding : Bool) (R : Tab P w s.heap a L es ep t) {x : Addr} {k : Nm} (hx : At P w s.heap k x) (hu : A.units < cLine) {K : Nat} (hKf : K < 10 * SetTable.turns t.mask)
    (hK : way t.mask (kh P w k) K ∉ t.place.toList) (hKb : ∀ c, c < K → way t.mask (kh P w k) c ∈ t.place.toList) {Q : SetFound → Shared → Prop}
    (hin : k ∈ names L → ∀ r : Option Nat, (adding = false → r.isSome = true) → Q (.there r) s) (hout : k ∉ names L → Q (.free (way t.mask (kh P w k) K) false) s) :
    ∀ (f c : Nat) (stand : Option SetTable.Probe), stand.getD (t.probeStart (kh P w k)) = onWay t (kh P w k) c → c ≤ K → K - c < f →
      (∀ (i : Nat) p, L[i]? = some p → p.2 = k → ∃ c', c ≤ c' ∧ c' < K ∧ t.place.toList[i]? = some (way t.mask (kh P w k) c')) →
      wpAny (model P w) A (setSearchFrom a (.ref x) (kh P w k) adding f stand) Q E s
  | 0, c, stand, _, _, hf, _ => absurd hf (Nat.not_lt_zero _)
  | f + 1, c, stand, hst, hc, hf, hre => by
    obtain ⟨o, ho, hex, hd⟩ := R.obj
    rw [setSearchFrom_succ]
    refine wpAny_bind (wpAny_setState_of ho hd R.fits ?_)
    dsimp only
    refine wp_if_neg R.stays ?_
    try refine wpAny_bind (wpAny_pure ?_)
    have sh : ∀ q, nth t.mask (onWay t (kh P w k) c) q = onWay t (kh P w k) (c + q) := fun q => (nth_add t.mask c _ q).symm
    have e1 : ∀ q, (nth t.mask (onWay t (kh P w k) c) q).j = way t.mask (kh P w k) (c + q) := fun q => congrArg SetTable.Probe.j (sh q)
    have spec := go_spec t R.tab.ris R.tab.dm (fun i => (es[i]?.map (·.1)).getD 0) (kh P w k) (10 * SetTable.turns t.mask) (K - c) (onWay t (kh P w k) c) (dummy_nth _ c _ rfl) (by omega)
      (fun q hq => by rw [e1]; exact hKb (c + q) (by omega)) (by rw [e1, show c + (K - c) = K by omega]; exact hK)
    have hashAt : ∀ (i : Nat) p, L[i]? = some p → (fun i => (es[i]?.map (·.1)).getD 0) i = kh P w p.2 := fun i p hp => by
      show (es[i]?.map (·.1)).getD 0 = _
      rw [R.entry hp]
      rfl
    rcases spec with ⟨q, i, hq, hi, hh, hno, hpr⟩ | ⟨hno, hpr⟩
    · have hpr' : t.probe (fun i => (es[i]?.map (·.1)).getD 0) (kh P w k) (stand.getD (t.probeStart (kh P w k))) = some (.candidate (way t.mask (kh P w k) (c + q)) i (onWay t (kh P w k) (c + (q + 1)))) := by
        rw [hst, ← e1, ← sh]
        exact hpr
      rw [hpr']
      dsimp only
      rw [e1] at hi
      have hil : i < L.length := by
        have z1 : i < t.place.toList.length := (List.getElem?_eq_some_iff.mp hi).1
        have z2 := R.tab.sz
        rw [List.length_map] at z2
        rw [Array.length_toList] at z1
        omega
      obtain ⟨p, hp⟩ : ∃ p, L[i]? = some p := ⟨_, List.getElem?_eq_getElem hil⟩
      have hmem : p ∈ L := List.mem_of_getElem? hp
      have hpt := R.mem p hmem
      have hsl : t.slot (way t.mask (kh P w k) (c + q)) = .live i := slot_live R.tab.ris hi
      have rest : wpAny (model P w) A (searchRest a (.ref x) (kh P w k) adding f es t (way t.mask (kh P w k) (c + q)) i (onWay t (kh P w k) (c + (q + 1)))) Q E s := by
        unfold searchRest
        rw [R.entry hp]
        dsimp only
        refine wpAny_bind (wpAny_holding (wpAny_eqBool_tuple hu hpt hx ?_))
        refine wpAny_bind (wpAny_setState_of ho hd R.fits ?_)
        dsimp only
        by_cases hkk : p.2 = k
        · have hm : k ∈ names L := List.mem_map.mpr ⟨p, hmem, hkk⟩
          cases adding with
          | true =>
            refine wp_if_pos (by simp [hkk]) ?_
            exact wpAny_pure (hin hm none fun z => nomatch z)
          | false =>
            refine wp_if_neg (by simp) ?_
            try refine wpAny_bind (wpAny_pure ?_)
            rw [sameMem]
            dsimp only
            simp only [if_true, hsl, R.entry hp]
            refine wpAny_bind (wpAny_isSame_ref_self (wpAny_bind (wpAny_pure ?_)))
            simp only [if_true]
            refine wp_if_pos (by simp [hkk]) ?_
            exact wpAny_pure (hin hm (some i) fun _ => rfl)
        · refine wp_if_neg (by simp [hkk]) ?_
          try refine wpAny_bind (wpAny_pure ?_)
          rw [sameMem]
          dsimp only
          simp only [if_true, hsl, R.entry hp]
          refine wpAny_bind (wpAny_isSame_ref_self (wpAny_bind (wpAny_pure ?_)))
          simp only [if_true]
          refine wp_if_neg (by simp [hkk]) ?_
          refine find_from adding R hx hu hKf hK hKb hin hout f (c + (q + 1)) _ rfl (by omega) (by omega) fun i0 p0 h0 hk0 => ?_
          obtain ⟨c', a1, a2, a3⟩ := hre i0 p0 h0 hk0
          refine ⟨c', ?_, a2, a3⟩
          have hne : c' ≠ c + q := fun z => by
            rw [z] at a3
            have s0 := slot_live R.tab.ris a3
            rw [hsl] at s0
            injection s0 with s0
            rw [← s0, hp] at h0
            exact hkk ((congrArg Prod.snd (Option.some.inj h0)).trans hk0)
          have hge : ¬ c' < c + q := fun z => by
            refine hno (c' - c) i0 (by omega) (by rw [e1, show c + (c' - c) = c' by omega]; exact a3) ?_
            exact (hashAt i0 p0 h0).trans (congrArg (kh P w) hk0)
          omega
      by_cases hl : t.led = true
      · refine wp_if_neg (by simp [hl]) ?_
        try refine wpAny_bind (wpAny_pure ?_)
        exact rest
      · refine wp_if_pos (by simp [hl]) ?_
        refine wpAny_bind (seen_keys hx (fun y hy => ?_) ?_)
        · obtain ⟨e, he, ee⟩ := List.mem_map.mp hy
          have he1 : e ∈ es ∧ e.1 = kh P w k := by simpa using he
          have he2 : e ∈ es.toList := by simpa using he1.1
          rw [R.rows] at he2
          obtain ⟨p2, hp2, e2⟩ := List.mem_map.mp he2
          exact ⟨p2.2, p2.1, by rw [← ee, ← e2], R.mem p2 hp2⟩
        · refine wp_if_neg (by decide) ?_
          try refine wpAny_bind (wpAny_pure ?_)
          exact rest
    · have hpr' : t.probe (fun i => (es[i]?.map (·.1)).getD 0) (kh P w k) (stand.getD (t.probeStart (kh P w k))) = some (.empty (way t.mask (kh P w k) K) none) := by
        have e2 : way t.mask (kh P w k) K = (nth t.mask (onWay t (kh P w k) c) (K - c)).j := by
          rw [e1, show c + (K - c) = K by omega]
        rw [hst, e2]
        exact hpr
      rw [hpr']
      dsimp only
      refine wpAny_pure (hout fun hm => ?_)
      obtain ⟨p0, h0, hk0⟩ := List.mem_map.mp hm
      obtain ⟨i0, hi0, e0⟩ := List.getElem_of_mem h0
      have h00 : L[i0]? = some p0 := by rw [List.getElem?_eq_getElem hi0, e0]
      obtain ⟨c', a1, a2, a3⟩ := hre i0 p0 h00 hk0
      refine hno (c' - c) i0 (by omega) (by rw [e1, show c + (c' - c) = c' by omega]; exact a3) ?_
      exact (hashAt i0 p0 h00).trans (congrArg (kh P w) hk0)
theorem find_at (adding : Bool) (R : Tab P w s.heap a L es ep t) {x : Addr} {k : Nm} (hx : At P w s.heap k x) (hu : A.units < cLine) {Q : SetFound → Shared → Prop}
    (hin : k ∈ names L → ∀ r : Option Nat, (adding = false → r.isSome = true) → Q (.there r) s)
    (hout : ∀ K, k ∉ names L → way t.mask (kh P w k) K ∉ t.place.toList → (∀ c, c < K → way t.mask (kh P w k) c ∈ t.place.toList) → Q (.free (way t.mask (kh P w k) K) false) s) :
    wpAny (model P w) A (setSearch a (.ref x) (kh P w k) adding) Q E s := by
  have hroom := R.room
  obtain ⟨K, hKf, hK, hKb⟩ := R.tab.first (by rw [List.length_map]; omega) (kh P w k)
  have hbig : K < 100000 := by
    have : 10 * SetTable.turns t.mask ≤ 1420 := by
      unfold SetTable.turns
      rcases R.tab.mok with e | e | e <;> omega
    omega
  unfold setSearch
  refine find_from adding R hx hu hKf hK hKb hin (fun hn => hout K hn hK hKb) 100000 0 none rfl (Nat.zero_le _) (by omega) fun i p hp hk => ?_
  have hi : (L.map fun p => kh P w p.2)[i]? = some (kh P w k) := by
    rw [List.getElem?_map, hp, ← hk]
    rfl
  have hil : i < t.place.toList.length := by
    have z1 : i < L.length := (List.getElem?_eq_some_iff.mp hp).1
    have z2 := R.tab.sz
    rw [List.length_map] at z2
    rw [Array.length_toList]
    omega
  have hj := List.getElem?_eq_getElem hil
  obtain ⟨c, hc, e⟩ := R.tab.before hK hi hj
  exact ⟨c, Nat.zero_le _, hc, by rw [hj, e]⟩

/-! ### asking -/
theorem has_tup {x : Addr} {k : Nm} {Q : Value → Shared → Prop} (R : Tab P w s.heap a L es ep t) (hx : At P w s.heap k x) (hu : A.units + 1 < cLine) (h : ∀ tk, Q (.bool (hasN L k)) { s with toks := tk }) :
    wpAny (model P w) A (compareOp .In (.ref x) (.ref a)) Q E s := by
  obtain ⟨o, ho, hex, hd⟩ := R.obj
  have ty : s.TypeIs (.ref a) "set" := ⟨o, ho, hex.1⟩
  show wpAny _ _ (do return .bool (← contains (.ref a) (.ref x))) Q E s
  refine wpAny_bind ?_
  unfold contains
  try with_reducible refine wpAny_holding ?_
  refine wpAny_bind (wpAny_specialOf ty F.slot_set_contains.lookup ?_)
  show wpAny _ _ (if (some (Value.builtin "set.__contains__") == some Value.none) = true then _ else _) _ E s
  rw [if_neg (by rw [beq_builtin_none]; exact Bool.false_ne_true)]
  refine wpAny_bind (wpAny_callSpecialUnlessNone?_slot (name := Str.ofString "__contains__") ty F.slot_set_contains
    (wpAny_call_entry F.slot_set_contains ty entry_set_contains ?_ (F.args_set_contains_2 _ _)))
  unfold Builtin.«frozenset.__contains__» Builtin.Frozenset.oneOther
  simp only [List.isEmpty_nil, bind_assoc]
  unfold Builtin.Frozenset.addrOf Builtin.Frozenset.withSetAsKey setContains
  refine wpAny_bind (wpAny_pure ?_)
  try dsimp only
  refine wpAny_bind (wpAny_pure ?_)
  try dsimp only
  refine wpAny_bind (wpAny_tryCatch ?_)
  refine wpAny_holding ?_
  have hu1 : A.in1.units < cLine := hu
  refine wpAny_bind ((tupleKind (mixKind P w)).pyHash hu1 hx ?_)
  have hR : Tab P w ({ s with toks := s.toks + (tupleKind (mixKind P w)).draws k } : Shared).heap a L es ep t := R
  unfold setFind
  rw [show (100000 : Nat) = 99999 + 1 from rfl]
  unfold setFindIn
  refine wpAny_bind ?_
  refine wpAny_bind (wpAny_setState_of ho hd R.fits ?_)
  dsimp only
  refine wp_if_neg (by simp [byScan, Value.scannable]) ?_
  try refine wpAny_bind (wpAny_pure ?_)
  refine wpAny_bind (find_at false hR hx hu1 (fun hm r hr => ?_) fun K hm _ _ => ?_)
  · dsimp only
    refine wpAny_pure ?_
    refine wpAny_pure ?_
    rw [hr rfl]
    refine wpAny_pure ⟨_, rfl, wpAny_truthy_bool (wpAny_pure ?_)⟩
    have q := h (s.toks + (tupleKind (mixKind P w)).draws k)
    rw [hasN_pos hm] at q
    exact q
  · dsimp only
    refine wpAny_pure ?_
    refine wpAny_pure ?_
    refine wpAny_pure ⟨_, rfl, wpAny_truthy_bool (wpAny_pure ?_)⟩
    have q := h (s.toks + (tupleKind (mixKind P w)).draws k)
    rw [hasN_neg hm] at q
    exact q

/-! ### growing -/
theorem at_set {h h' : Heap} {k : Nm} {a b : Addr} {o : Obj} {es : Array (Int × Value)} {ep : Nat} {t : SetTable} (hb : At P w h k b) (ho : h.get? a = some o) (hd : o.data = .set es ep t) (hs : Heap.SameBut a h h') : At P w h' k b := by
  obtain ⟨o', its, n, ho', hc, hd', hi⟩ := hb
  have hne : b ≠ a := fun z => by
    rw [z, ho] at ho'
    rw [← Option.some.inj ho', hd] at hd'
    exact nomatch hd'
  exact ⟨o', its, n, (hs.2 b hne).trans ho', hc, hd', hi⟩
theorem at_keep {h h' : Heap} {k : Nm} {b : Addr} (x : At P w h k b) (hk : ∀ c o, h.get? c = some o → h'.get? c = some o) : At P w h' k b := by
  obtain ⟨o, its, n, ho, r⟩ := x
  exact ⟨o, its, n, hk b o ho, r⟩
theorem ents_put (L : List (Addr × Nm)) (p : Nat) (x : Addr) (k : Nm) : ents P w (L.take p ++ (x, k) :: L.drop p) = (ents P w L).take p ++ (kh P w k, Value.ref x) :: (ents P w L).drop p := by
  unfold ents
  rw [List.map_append, List.map_cons, List.map_take, List.map_drop]
theorem mid_perm {α : Type} (L : List α) (p : Nat) (x : α) : (L.take p ++ x :: L.drop p).Perm (x :: L) := by
  have q : (L.take p ++ x :: L.drop p).Perm (x :: (L.take p ++ L.drop p)) := List.perm_middle
  rwa [List.take_append_drop] at q
theorem pick_all {α : Type} (L : List α) : (List.range L.length).filterMap (fun i => L[i]?) = L := by
  have key : ∀ n, n ≤ L.length → (List.range n).filterMap (fun i => L[i]?) = L.take n := by
    intro n
    induction n with
    | zero => intro _; rfl
    | succ n ih =>
      intro hn
      have hlt : n < L.length := hn
      rw [List.range_succ, List.filterMap_append, ih (Nat.le_of_lt hlt), List.take_succ, List.getElem?_eq_getElem hlt, List.filterMap_cons_some (List.getElem?_eq_getElem hlt)]
      rfl
  rw [key L.length (Nat.le_refl _), List.take_length]
/-- rows laid in another order -/
theorem reorder (L : List (Addr × Nm)) (es : Array (Int × Value)) (order : Array Nat) (hr : es.toList = ents P w L) (hp : order.toList.Perm (List.range L.length)) :
    ∃ L2, (order.filterMap (es[·]?)).toList = ents P w L2 ∧ L2.Perm L ∧ (L2.map fun p => kh P w p.2) = order.toList.map fun i => (es.map (·.1)).getD i 0 := by
  have ent : ∀ i (h : i < L.length), es[i]? = some (kh P w (L[i]).2, Value.ref (L[i]).1) := fun i h => by
    rw [← Array.getElem?_toList, hr, ents, List.getElem?_map, List.getElem?_eq_getElem h]
    rfl
  have hsz : es.size = L.length := by
    have q := congrArg List.length hr
    rw [ents_len, Array.length_toList] at q
    exact q
  have key : ∀ l : List Nat, (∀ i ∈ l, i < L.length) → l.filterMap (fun i => es[i]?) = ents P w (l.filterMap fun i => L[i]?) ∧ ((l.filterMap fun i => L[i]?).map fun p => kh P w p.2) = l.map fun i => (es.map (·.1)).getD i 0 := by
    intro l
    induction l with
    | nil => intro _; exact ⟨rfl, rfl⟩
    | cons i l ih =>
      intro hl
      have hi := hl i List.mem_cons_self
      obtain ⟨e1, e3⟩ := ih fun j hj => hl j (List.mem_cons_of_mem _ hj)
      have e4 : (es.map (·.1)).getD i 0 = kh P w (L[i]).2 := by
        have e5 : (es.map (·.1))[i]? = some (kh P w (L[i]).2) := by
          rw [Array.getElem?_map, ent i hi]
          rfl
        simp [Array.getD_eq_getD_getElem?, e5]
      rw [List.filterMap_cons_some (ent i hi), List.filterMap_cons_some (List.getElem?_eq_getElem hi), e1, List.map_cons, List.map_cons, e3, e4]
      exact ⟨rfl, rfl⟩
  obtain ⟨e1, e3⟩ := key order.toList fun i hi => List.mem_range.mp (hp.mem_iff.mp hi)
  refine ⟨_, by first | (rw [Array.toList_filterMap]; exact e1) | simpa using e1, ?_, e3⟩
  have q := hp.filterMap (fun i => L[i]?)
  rwa [pick_all L] at q
theorem relay_tab {o : Obj} (ho : s.heap.get? a = some o) (hex : o.ExactSet) (hd : o.data = .set es ep t) (hrows : es.toList = ents P w L) (hsz : t.place.size = es.size) (hdm : t.dummies = #[]) (hfl : es.size ≤ t.mask)
    (once : (names L).Nodup) (mem : ∀ p ∈ L, At P w s.heap p.2 p.1) {wanted M : Nat} (few : L.length < 64)
    (hw : SetTable.sizeAbove wanted - 1 = M) (hM : MaskOk M) (hw2 : SetTable.sizeAbove wanted ≤ 128) (hn : L.length * 5 < M * 3) {Q : Unit → Shared → Prop}
    (hQ : ∀ h' L' es' ep' t', Heap.SameBut a s.heap h' → Tab P w h' a L' es' ep' t' → L'.Perm L → Q () { s with heap := h' }) : wpAny (model P w) A (setRelay a wanted) Q E s := by
  have hsl : es.size = L.length := by
    have q := congrArg List.length hrows
    rw [ents_len, Array.length_toList] at q
    exact q
  have hfits : t.fits es.size = true := by
    unfold SetTable.fits SetTable.fill
    rw [hdm, Bool.and_eq_true, beq_iff_eq, decide_eq_true_eq]
    refine ⟨hsz, ?_⟩
    show t.place.size + 0 ≤ t.mask
    omega
  obtain ⟨t', order, e, hp, T, em, el, ep', ed⟩ := relaid_ok t (hs := es.map (·.1)) (wanted := wanted) hw hM (by rw [Array.size_map, hsl]; omega)
  rw [Array.size_map, hsl] at hp
  obtain ⟨L2, r1, r2, r3⟩ := reorder L es order hrows hp
  rw [← r3] at T
  have hs2 : (order.filterMap (es[·]?)).size = es.size := by
    have q := congrArg List.length r1
    rw [ents_len, Array.length_toList, r2.length_eq] at q
    rw [q, hsl]
  rw [setRelay_eq]
  refine wpAny_bind (wpAny_setState_of ho hd hfits ?_)
  dsimp only
  refine wp_if_neg (by rw [sizeLine_eq]; omega) ?_
  try refine wpAny_bind (wpAny_pure ?_)
  rw [e]
  dsimp only
  refine wpAny_bind ?_
  refine wp_if_neg (by rw [hs2]; simp) ?_
  try refine wpAny_bind (wpAny_pure ?_)
  refine wpAny_pure ?_
  dsimp only
  refine wpAny_storeSet_of ho hd ?_ (by rw [hs2, hsl, sizeLine_eq]; omega)
  have sb : Heap.SameBut a s.heap (s.heap.update a (Obj.putSet (order.filterMap (es[·]?)) t')) := Heap.SameBut.update ..
  refine hQ _ L2 (order.filterMap (es[·]?)) (ep + 1) t' sb ?_ r2
  exact ⟨⟨_, store_at ho hd, ⟨hex.1, hex.2.1, hex.2.2⟩, rfl⟩, r1, T, (r2.map Prod.snd).nodup_iff.mpr once, fun p hpm => at_set (mem p (r2.mem_iff.mp hpm)) ho hd sb, by rw [r2.length_eq, em]; exact hn⟩
theorem TabOk.unplain {t : SetTable} {hs : List Int} (T : TabOk t hs) : TabOk { t with plain := false } hs := ⟨T.ris, T.dm, T.sz, T.mok, T.bd, T.reach⟩
theorem add_tab (R : Tab P w s.heap a L es ep t) {x : Addr} {k : Nm} (hx : At P w s.heap k x) (hu : A.units < cLine) (hfew : L.length + 1 < 64) {Q : Bool → Shared → Prop}
    (hQ : ∀ b h' L' es' ep' t', Heap.SameBut a s.heap h' → Tab P w h' a L' es' ep' t' → (k ∈ names L → L' = L) → (k ∉ names L → L'.Perm ((x, k) :: L)) → Q b { s with heap := h' }) :
    wpAny (model P w) A (setAddHashed a (.ref x) (kh P w k)) Q E s := by
  obtain ⟨o, ho, hex, hd⟩ := R.obj
  have hsl := R.size
  have hroom := R.room
  unfold setAddHashed
  refine wpAny_holding ?_
  rw [show (100000 : Nat) = 99999 + 1 from rfl, setAddHashedIn_succ]
  refine wpAny_bind (wpAny_setState_of ho hd R.fits ?_)
  dsimp only
  refine wp_if_neg (by simp [byScan, Value.scannable]) ?_
  try refine wpAny_bind (wpAny_pure ?_)
  refine wpAny_bind (find_at true R hx hu (fun hm r _ => ?_) fun K hm hK hb => ?_)
  · dsimp only
    exact wpAny_pure (hQ false s.heap L es ep t (Heap.SameBut.refl a s.heap) R (fun _ => rfl) fun z => absurd hm z)
  · dsimp only
    refine wpAny_bind (wpAny_setState_of ho hd R.fits ?_)
    dsimp only
    obtain ⟨q1, q2, q3, q4, q5, q6, q7, q8, q9⟩ := R.tab.put hK hb
    generalize hpt : t.put (way t.mask (kh P w k) K) = pt at q1 q3 q4 q5 q6 q7 q8 q9 ⊢
    obtain ⟨t0, p⟩ := pt
    dsimp only at q1 q3 q4 q5 q6 q7 q8 q9 ⊢
    subst q1
    have hin : (SetTable.insertAt es (SetTable.below t.place (way t.mask (kh P w k) K)) (kh P w k, Value.ref x)).toList = ents P w (L.take (SetTable.below t.place (way t.mask (kh P w k) K)) ++ (x, k) :: L.drop (SetTable.below t.place (way t.mask (kh P w k) K))) := by
      rw [SetTable.toList_insertAt, ents_put, R.rows]
    generalize hpp : SetTable.below t.place (way t.mask (kh P w k) K) = p at q2 q3 hin ⊢
    have pm := mid_perm L p (x, k)
    have hlen : (L.take p ++ (x, k) :: L.drop p).length = L.length + 1 := pm.length_eq
    have hhs : (L.take p ++ (x, k) :: L.drop p).map (fun p => kh P w p.2) = (L.map fun p => kh P w p.2).take p ++ kh P w k :: (L.map fun p => kh P w p.2).drop p := by
      rw [List.map_append, List.map_cons, List.map_take, List.map_drop]
    rw [← hhs] at q3
    have nd1 : (names (L.take p ++ (x, k) :: L.drop p)).Nodup := by
      refine (pm.map Prod.snd).nodup_iff.mpr ?_
      rw [List.map_cons]
      exact List.nodup_cons.mpr ⟨hm, R.once⟩
    have hes : (SetTable.insertAt es p (kh P w k, Value.ref x)).size = L.length + 1 := by
      have q := congrArg List.length hin
      rw [ents_len, Array.length_toList, hlen] at q
      exact q
    generalize SetTable.insertAt es p (kh P w k, Value.ref x) = es1 at hin hes ⊢
    generalize L.take p ++ (x, k) :: L.drop p = L1 at pm hlen q3 nd1 hin
    -- the table, plain or not
    have main : ∀ t1 : SetTable, TabOk t1 (L1.map fun p => kh P w p.2) → t1.mask = t.mask → t1.fill = L.length + 1 →
        wpAny (model P w) A (storeSet a es1 t1 >>= fun _ => (if (!false && t1.tooFull) = true then (setRelay a (SetTable.grown (es.size + 1)) >>= fun _ => pure true) else pure true)) Q E s := fun t1 T1 em1 ef1 => by
      refine wpAny_bind (wpAny_storeSet_of ho hd ?_ (by rw [hes, sizeLine_eq]; omega))
      have sb : Heap.SameBut a s.heap (s.heap.update a (Obj.putSet es1 t1)) := Heap.SameBut.update ..
      have ho1 := store_at (es' := es1) (t' := t1) ho hd
      generalize s.heap.update a (Obj.putSet es1 t1) = h1 at sb ho1 ⊢
      have mem1 : ∀ p ∈ L1, At P w h1 p.2 p.1 := fun p hp => by
        rcases List.mem_cons.mp (pm.mem_iff.mp hp) with e | hp
        · rw [e]; exact at_set hx ho hd sb
        · exact at_set (R.mem p hp) ho hd sb
      by_cases hf : t1.tooFull = true
      · refine wp_if_pos (by simp [hf]) ?_
        have hfull : (L.length + 1) * 5 ≥ t1.mask * 3 := by
          have q := hf
          unfold SetTable.tooFull at q
          rw [decide_eq_true_eq, ef1] at q
          exact q
        rw [hsl]
        have hsz1 : t1.place.size = es1.size := by
          have q := T1.sz
          rw [List.length_map, hlen] at q
          rw [q, hes]
        have two : (t.mask = 7 ∧ L.length = 4) ∨ (t.mask = 31 ∧ L.length = 18) := by
          rcases R.tab.mok with e | e | e
          · left; rw [em1, e] at hfull; rw [e] at hroom; exact ⟨e, by omega⟩
          · right; rw [em1, e] at hfull; rw [e] at hroom; exact ⟨e, by omega⟩
          · exfalso; rw [em1, e] at hfull; omega
        have go : ∀ M, SetTable.sizeAbove (SetTable.grown (L.length + 1)) - 1 = M → MaskOk M → SetTable.sizeAbove (SetTable.grown (L.length + 1)) ≤ 128 → (L.length + 1) * 5 < M * 3 →
            wpAny (model P w) A (setRelay a (SetTable.grown (L.length + 1)) >>= fun _ => pure true) Q E { s with heap := h1 } := fun M h1' h2' h3' h4' => by
          refine wpAny_bind (relay_tab (s := { s with heap := h1 }) ho1 ⟨hex.1, hex.2.1, hex.2.2⟩ rfl hin hsz1 T1.dm (by rw [hes, em1]; rcases two with ⟨e, e2⟩ | ⟨e, e2⟩ <;> omega) nd1 mem1 (by rw [hlen]; exact hfew) h1' h2' h3' (by rw [hlen]; exact h4') ?_)
          intro h2 L2 es2 ep2 t2 sb2 R2 pm2
          exact wpAny_pure (hQ true h2 L2 es2 ep2 t2 (sb.trans sb2) R2 (fun z => absurd z hm) fun _ => pm2.trans pm)
        rcases two with ⟨_, e2⟩ | ⟨_, e2⟩
        · exact go 31 (by rw [e2, size_20]) (.inr (.inl rfl)) (by rw [e2, size_20]; decide) (by omega)
        · exact go 127 (by rw [e2, size_76]) (.inr (.inr rfl)) (by rw [e2, size_76]; decide) (by omega)
      · refine wp_if_neg (by simp [hf]) ?_
        refine wpAny_pure (hQ true h1 L1 es1 (ep + 1) t1 sb ⟨⟨_, ho1, ⟨hex.1, hex.2.1, hex.2.2⟩, rfl⟩, hin, T1, nd1, mem1, ?_⟩ (fun z => absurd z hm) fun _ => pm)
        have q := hf
        unfold SetTable.tooFull at q
        rw [decide_eq_true_eq, ef1] at q
        rw [hlen]
        omega
    have q9' : t0.fill = L.length + 1 := by rw [q9, List.length_map]
    have both : ∀ y : Bool, TabOk (if y = true then t0 else { t0 with plain := false }) (L1.map fun p => kh P w p.2) ∧ (if y = true then t0 else { t0 with plain := false }).mask = t.mask ∧ (if y = true then t0 else { t0 with plain := false }).fill = L.length + 1 := fun y => by
      cases y with
      | true => exact ⟨q3, q4, q9'⟩
      | false => exact ⟨TabOk.unplain q3, q4, q9'⟩
    by_cases hpl : t0.plain = true
    · refine wp_if_pos hpl ?_
      refine wpAny_bind (byval_tup hx fun y => ?_)
      exact main _ (both y).1 (both y).2.1 (both y).2.2
    · refine wp_if_neg hpl ?_
      refine wpAny_bind (wpAny_pure ?_)
      exact main _ (both true).1 (both true).2.1 (both true).2.2
theorem Tab.keep {h h' : Heap} {a : Addr} {L : List (Addr × Nm)} {es : Array (Int × Value)} {ep : Nat} {t : SetTable} (R : Tab P w h a L es ep t) (ha : ∀ o, h.get? a = some o → h'.get? a = some o) (hm : ∀ p ∈ L, At P w h' p.2 p.1) : Tab P w h' a L es ep t := by
  obtain ⟨o, ho, r⟩ := R.obj
  exact ⟨⟨o, ha o ho, r⟩, R.rows, R.tab, R.once, hm, R.room⟩
theorem Tab.fresh {h : Heap} {a : Addr} (ho : h.get? a = some { cls := .type "set", dict := none, data := .set #[] 0 (.fresh 0 0 (!w.params.followText "set-order")) }) : Tab P w h a [] #[] 0 (.fresh 0 0 (!w.params.followText "set-order")) where
  obj := ⟨_, ho, ⟨rfl, rfl, rfl⟩, rfl⟩
  rows := rfl
  tab := ⟨List.Pairwise.nil, rfl, rfl, .inl rfl, fun x hx => (by cases hx), fun i h j hi => (by simp at hi)⟩
  once := List.nodup_nil
  mem := fun p hp => (by cases hp)
  room := (by show 0 * 5 < 7 * 3; decide)
theorem add_call {x : Addr} {k : Nm} {Q : Value → Shared → Prop} (R : Tab P w s.heap a L es ep t) (hx : At P w s.heap k x) (hu : A.units + 1 < cLine) (hfew : L.length + 1 < 64)
    (hQ : ∀ h' L' es' ep' t' tk, Heap.SameBut a s.heap h' → Tab P w h' a L' es' ep' t' → (k ∈ names L → L' = L) → (k ∉ names L → L'.Perm ((x, k) :: L)) → Q .none { s with heap := h', toks := tk }) :
    wpAny (model P w) A (call (.builtin "set.add") [.ref a, .ref x]) Q E s := by
  obtain ⟨o, ho, hex, hd⟩ := id R.obj
  have ty : s.TypeIs (.ref a) "set" := ⟨o, ho, hex.1⟩
  refine wpAny_call_entry F.slot_set_add ty F.entry_set_add ?_ (F.args_set_add_2 _ _)
  unfold Builtin.«set.add» Builtin.Frozenset.oneOther
  simp only [List.isEmpty_nil, bind_assoc]
  unfold Builtin.Frozenset.addrOf setAdd
  refine wpAny_bind (wpAny_pure ?_)
  try dsimp only
  refine wpAny_bind (wpAny_pure ?_)
  try dsimp only
  refine wpAny_bind ?_
  refine wpAny_holding ?_
  have hu1 : A.in1.units < cLine := hu
  refine wpAny_bind ((tupleKind (mixKind P w)).pyHash hu1 hx ?_)
  have hR : Tab P w ({ s with toks := s.toks + (tupleKind (mixKind P w)).draws k } : Shared).heap a L es ep t := R
  refine add_tab hR hx hu1 hfew fun b h' L' es' ep' t' hs R' h1 h2 => ?_
  show wpAny _ _ (ret Value.none) _ _ _
  exact wpAny_pure ⟨_, rfl, hQ h' L' es' ep' t' _ hs R' h1 h2⟩
end

/-! ### over the layer -/
/-- the set of tuples at a, by its rows (the tuples' addresses and names); the tuples themselves are tracked beside it -/
structure Held (P : Program) (w : World) (h : Heap) (a : Addr) (L : List (Addr × Nm)) : Prop where
  ex : ∃ (es : Array (Int × Value)) (ep : Nat) (t : SetTable), (∃ o, h.get? a = some o ∧ o.ExactSet ∧ o.data = .set es ep t) ∧ es.toList = ents P w L ∧ TabOk t (L.map fun p => kh P w p.2) ∧ (names L).Nodup ∧ L.length * 5 < t.mask * 3
def SetN (P : Program) (w : World) (a : Addr) (L : List (Addr × Nm)) : HO := .ext fun h => Held P w h a L
section
variable {P : Program} {w : World} {H : Hp} {h : Heap} {a : Addr} {L : List (Addr × Nm)}
theorem Tab.held {es : Array (Int × Value)} {ep : Nat} {t : SetTable} (R : Tab P w h a L es ep t) : Held P w h a L := ⟨⟨es, ep, t, R.obj, R.rows, R.tab, R.once, R.room⟩⟩
theorem setN_ok (R : Held P w h a L) : ObjOk P w H h a (SetN P w a L) := by
  obtain ⟨es, ep, t, ⟨o, ho, r⟩, q⟩ := R.ex
  exact ⟨R, ⟨o, ho⟩, fun h1 h2 p k => by
    obtain ⟨es, ep, t, ⟨o, ho, r⟩, q⟩ := p.ex
    exact ⟨⟨es, ep, t, ⟨o, k o ho, r⟩, q⟩⟩⟩
/-- the rows' tuples stand in the heap -/
def Rows (H : Hp) (L : List (Addr × Nm)) : Prop := ∀ p ∈ L, H p.1 = some (.tup (p.2.map kV))
theorem setN_tab {X : Cx} {pins : List (Addr × Obj)} {σ : L2.St} {s : Shared} (I : Inv X pins σ H s) (ha : H a = some (SetN X.prog X.w a L)) (hr : Rows H L) : ∃ es ep t, Tab X.prog X.w s.heap a L es ep t := by
  obtain ⟨es, ep, t, ob, e, T, nd, rm⟩ := ((I.hok a _ ha).1 : Held X.prog X.w s.heap a L).ex
  exact ⟨es, ep, t, ob, e, T, nd, fun p hp => key_of I.hok (hr p hp), rm⟩
end
section
variable {X : Cx} {o e : Expr} {es : List Expr} {to : TE} {t : TA} {apos cpos : Pos}
/-- set() -/
def rSetNew (P : Program) (w : World) : List V → Hp → VK → Prop := fun xs H Q => xs = [] ∧ ∀ p, H p = none → Q (.ref p) (upd H p (SetN P w p []))
theorem cr_setNew : CallR X (.type "set") (rSetNew X.prog X.w) := by
  intro pins s σ H xs us Q I r h
  obtain ⟨rfl, q⟩ := h
  cases r
  refine setR_new fun _ => ?_
  exact ⟨.ref _, upd H s.heap.objs.size (SetN X.prog X.w s.heap.objs.size []), I.laid (t' := s.toks) (fun b u e => Heap.get?_push_of_some _ e) (Nat.le_refl _) (setN_ok (Tab.fresh (Heap.get?_push_size _ rfl)).held), rfl, q _ (I.hok.fresh (Nat.le_refl _))⟩
/-- found.add(t), t a tuple of names -/
def rSetAdd (P : Program) (w : World) : V → List V → Hp → VK → Prop := fun x xs H Q => ∃ (a b : Addr) (k : Nm) (L : List (Addr × Nm)), x = V.ref a ∧ xs = [V.ref b] ∧ H a = some (SetN P w a L) ∧ Rows H L ∧ H b = some (.tup (k.map kV)) ∧ L.length + 1 < 64 ∧
  ∀ L', (k ∈ names L → L' = L) → (k ∉ names L → L'.Perm ((b, k) :: L)) → Q .non (upd H a (SetN P w a L'))
theorem mt_setAdd (hu : X.A.units + 1 < cLine) : MtR X "set.add" (rSetAdd X.prog X.w) := by
  intro pins s σ H x xs v us Q I rx rxs h
  obtain ⟨a, b, k, L, rfl, rfl, ha, hr, hb, few, q⟩ := h
  cases rx
  cases rxs with
  | cons ry rt =>
    cases rt
    obtain rfl : _ = Value.ref b := ry
    obtain ⟨es, ep, t, R⟩ := setN_tab I ha hr
    refine add_call R (key_of I.hok hb) hu few fun h' L' es' ep' t' tk hs R' h1 h2 => ?_
    obtain ⟨o', ho', _⟩ := R'.obj
    exact ⟨.non, upd H a (SetN X.prog X.w a L'), I.write (e := a) (t' := tk) (by rw [ha]; trivial) (.inl rfl) (fun b u hb hu => (hs.2 b hb).trans hu) ⟨o', ho'⟩ (setN_ok R'.held), rfl, q L' h1 h2⟩
def tSetAdd (P : Program) (w : World) (to : TE) (t : TA) : TE := fun σ H Q => to σ H fun x H1 => (∃ a L, x = V.ref a ∧ H1 a = some (SetN P w a L) ∧ Rows H1 L) ∧ t σ H1 fun xs H2 => rSetAdd P w x xs H2 Q
theorem pe_setAdd (hu : X.A.units + 1 < cLine) (ho : PE X o to) (ha : PA X (e :: es) t)
    (hbase : attributeBase o "add" X.env (eval o X.env) = eval o X.env := by rfl)
    (hfew : ((backTo cpos (starEach (e :: es) X.env)).all (fun x => !x.1) && (backToKw cpos (keywordEach [] X.env)).all (fun x => x.1.isSome)
      && decide ((e :: es).length + ([] : List Keyword).length + (if ([] : List Keyword).isEmpty then 0 else 1) < 30)) = true := by rfl)
    (hline : (apos.endLine == cpos.line) = true := by rfl) (hs : starEach (e :: es) X.env = (false, eval e X.env) :: starEach es X.env := by rfl) (hplain : (backTo cpos (starEach es X.env)).any (·.1) = false := by rfl) :
    PE X (.Call (.Attribute o "add" apos) (e :: es) [] cpos) (tSetAdd X.prog X.w to t) := by
  refine ⟨fun pins s σ H Q I h => ?_⟩
  refine wpAny_Call_method_late hbase hfew hline rfl (thn (ho.run pins s σ H _ I h) fun v s1 ⟨x, H1, I1, r1, ty, q1⟩ => ?_)
  obtain ⟨a, L, rfl, hka, hkr⟩ := ty
  obtain ⟨es0, ep0, t0, R⟩ := setN_tab I1 hka hkr
  obtain ⟨o0, ho0, hex0, hd0⟩ := R.obj
  cases r1
  refine ⟨"set", "set.add", F.plainAttrs_set, F.slot_set_add, F.type_set_add, ⟨o0, ho0, hex0.1⟩, fun b eb => by injection eb with eb; subst eb; exact ⟨o0, ho0, hex0.2.1⟩, ?_⟩
  have hA := ha.run cpos pins s1 σ H1 _ I1 q1
  rw [hs] at hA ⊢
  refine Calls.callWith_builtin (by show (false || (backTo cpos (starEach es X.env)).any (·.1)) = false; rw [hplain] <;> rfl) (Calls.evalArgs_plain ?_)
  exact thn hA fun us s2 ⟨vs, H2, I2, r2, q2⟩ => mt_setAdd hu pins s2 σ H2 (.ref a) vs (.ref a) us Q I2 rfl r2 q2
/-- t in found -/
def rSetIn (P : Program) (w : World) : V → V → Hp → VK → Prop := fun x y H Q => ∃ (a b : Addr) (k : Nm) (L : List (Addr × Nm)), x = V.ref b ∧ y = V.ref a ∧ H a = some (SetN P w a L) ∧ Rows H L ∧ H b = some (.tup (k.map kV)) ∧ Q (.bl (hasN L k)) H
theorem op_setIn (hu : X.A.units + 1 < cLine) : OpR X (compareOp .In) (rSetIn X.prog X.w) := by
  intro pins s σ H x y v u Q I rx ry h
  obtain ⟨a, b, k, L, rfl, rfl, ha, hr, hb, q⟩ := h
  obtain rfl : v = Value.ref b := rx
  obtain rfl : u = Value.ref a := ry
  obtain ⟨es, ep, t, R⟩ := setN_tab I ha hr
  exact has_tup R (key_of I.hok hb) hu fun tk => ⟨.bl (hasN L k), H, I.tok tk, rfl, q⟩
end
end XS
/-! Own: enumerate over a tuple; a dict comprehension whose keys are tuples. -/
namespace XI
open PySem PySem.Spec PyProof.Rows L2
open AutoSeq1 (wpAny_loadPart')
theorem enum_new_tup (l : Addr) (items : Array Value) (o : Obj) (hc : o.cls = .type "tuple") (n : Nat) (hd : o.data = .seq items n) :
    Meets (Builtin.«enumerate.__new__» ⟨[.type "enumerate", .ref l], []⟩) (fun _ R s => s.heap.get? l = some o ∧
      R (.ok (.ret (.ref (s.heap.push { cls := .type "tuple_iterator", data := .fields #[.ref l, .int 0 0] }).objs.size)))
        { s with heap := (s.heap.push { cls := .type "tuple_iterator", data := .fields #[.ref l, .int 0 0] }).push { cls := .type "enumerate", data := .fields #[.none, .bool false, .ref s.heap.objs.size, rawInt 0, .none, .none] } }) :=
  .of_wp fun prog w A R s h => by
    obtain ⟨hp, g, d, tk, os⟩ := s
    obtain ⟨hl, h⟩ := h
    have hsub := sub_enumerate
    have hL : Heap.IsTuple (Shared.heap ⟨hp, g, d, tk, os⟩) l items := ⟨o, hl, hc, n, hd⟩
    wp_walk using wpAny_loadPart' hl
    refine wpAny_stack_any fun st => wpAny_pure ?_
    split
    · rename_i c _ _ _ _ _
      cases (c == Value.type "enumerate")
      · wp_walk using wpAny_loadPart' hl, wpAny_pyIter_tuple hL
        exact ⟨_, rfl, h⟩
      · wp_walk using wpAny_loadPart' hl, wpAny_pyIter_tuple hL
        exact ⟨_, rfl, h⟩
    · wp_walk using wpAny_loadPart' hl, wpAny_pyIter_tuple hL
      exact ⟨_, rfl, h⟩
theorem enum_call {prog : Program} {w : World} {A : Around} {E : Value → Shared → Prop} {s : Shared} {l : Addr} {items : Array Value} {Q : Value → Shared → Prop} (hL : s.heap.IsTuple l items)
    (h : ∀ h', IsEnum h' (s.heap.objs.size + 1) s.heap.objs.size 0 .none → h'.IsTupleIter s.heap.objs.size l 0 → h'.objs.size = s.heap.objs.size + 2 →
      (∀ b o, s.heap.get? b = some o → h'.get? b = some o) → Q (.ref (s.heap.objs.size + 1)) { s with heap := h' }) :
    wpAny (model prog w) A (call (.type "enumerate") [.ref l]) Q E s := by
  obtain ⟨o, hl, hc, n, hd⟩ := hL
  refine callType_new F.called_enumerate (by decide) (F.typeCall_enumerate_1 _) (F.newCall_enumerate_1 _) (fun obj => F.args_object_init_2 obj _) F.entry_enumerate_new
    (enum_new_tup l items o hc n hd) ⟨hl, ?_⟩
  have hz : (s.heap.push { cls := .type "tuple_iterator", data := .fields #[.ref l, .int 0 0] }).objs.size = s.heap.objs.size + 1 := Heap.size_push ..
  show _ ∧ _
  rw [hz]
  have he : IsEnum ((s.heap.push { cls := .type "tuple_iterator", data := .fields #[.ref l, .int 0 0] }).push
      { cls := .type "enumerate", data := .fields #[.none, .bool false, .ref s.heap.objs.size, rawInt 0, .none, .none] }) (s.heap.objs.size + 1) s.heap.objs.size 0 .none := by
    have q := Heap.get?_push_size (s.heap.push { cls := .type "tuple_iterator", data := .fields #[.ref l, .int 0 0] })
      (o := { cls := .type "enumerate", data := .fields #[.none, .bool false, .ref s.heap.objs.size, rawInt 0, .none, .none] }) rfl
    rw [hz] at q
    exact q
  exact ⟨⟨_, he, rfl⟩, h _ he ⟨_, Heap.get?_push_of_some _ (Heap.get?_push_size _ rfl), rfl, rfl⟩ (by rw [Heap.size_push, hz]) fun b o x => Heap.get?_push_of_some _ (Heap.get?_push_of_some _ x)⟩
theorem enum_endT {prog : Program} {w : World} {A : Around} {E : Value → Shared → Prop} {s : Shared} {e it l : Addr} {i : Nat} {k : Int} {items : Array Value} {old : Value} {Q : Option Value → Shared → Prop} (hh : A.handled = none)
    (he : IsEnum s.heap e it k old) (hit : s.heap.IsTupleIter it l i) (hl : s.heap.IsTuple l items) (hx : items[i]? = none) (hQ : ∀ h', Heap.ExtBut it s.heap h' → Q none { s with heap := h' }) : wpAny (model prog w) A (pyNext (.ref e)) Q E s := by
  have ty : s.TypeIs (.ref e) "enumerate" := ⟨_, he, rfl⟩
  unfold pyNext
  refine wpAny_bind (wpAny_attempt (wpAny_callSpecial?_slot (name := Str.ofString "__next__") ty F.slot_enumerate_next
    (wpAny_call_entry F.slot_enumerate_next ty F.entry_enumerate_next ?_ (F.args_enumerate_next_1 _))))
  show wpAny _ _ (field (.ref e) 2 >>= _) _ _ _
  refine wpAny_bind (wpAny_field he rfl (x := .ref it) rfl ?_)
  refine wpAny_bind (wpAny_nextOf_tuple_end hh hit hl hx fun h' x he' hx' => ?_)
  obtain ⟨o, ho, hc⟩ := hx'
  refine wpAny_bind (wpAny_isInstance (T := "StopIteration") (b := true) ⟨o, ho, hc⟩ isSubtype_stop ?_)
  exact wpAny_pure (hQ _ he')
/-- the tuple at a, each item in a new pair with its place -/
def Itet (K : PySem.W.Frag) (a : Addr) : It :=
  ⟨fun i H => ∃ (xs : List V) (x : V), SqT K H a xs ∧ xs[i]? = some x, fun i H v H' => ∃ T x, v = .ref T ∧ H T = none ∧ H' = upd H T (.tup [.int (i : Nat), x]) ∧ ∀ xs, SqT K H a xs → xs[i]? = some x, fun i H => ∃ xs : List V, SqT K H a xs ∧ xs.length ≤ i⟩
theorem turn_enumT {P : Program} {w : World} {K : PySem.W.Frag} {elts : List Expr} {kk : Nat} {tpos : Pos} (a e it : Addr) :
    Turn P w K (.Tuple elts kk tpos) (Itet K a) [e, it] e (fun i h => (∃ old, IsEnum h e it ((i : Nat) : Int) old) ∧ h.IsTupleIter it a i ∧ e ≠ it ∧ a ≠ it ∧ a ≠ e) where
  mem := by simp
  obj := fun i h st b hb => by
    obtain ⟨⟨old, he⟩, ⟨o, ho, hc, hd⟩, _⟩ := st
    have e' : b = e ∨ b = it := by simpa using hb
    rcases e' with z | z
    · rw [z]; exact ⟨_, he, fun v q => nomatch q⟩
    · rw [z]; exact ⟨o, ho, fun v q => by rw [hd] at q; cases q⟩
  keep := fun i h h' st k => by
    obtain ⟨⟨old, he⟩, hi, hne⟩ := st
    exact ⟨⟨old, k e (by simp) _ he⟩, hi.at fun o q => k it (by simp) o q, hne⟩
  item := by
    intro X hP hw hK hc i pins s σ H E I hf st hg
    subst hP hw hK
    obtain ⟨⟨old, he⟩, hit, hne, hai, hae⟩ := st
    obtain ⟨xs, x, hq, hx⟩ := hg
    obtain ⟨its, rv, p, hz⟩ := I.tuple hq
    obtain ⟨u, hu, ru⟩ := rv.get hx
    have hel : e < s.heap.objs.size := Heap.lt_size he
    have hil : it < s.heap.objs.size := by obtain ⟨_, q, _⟩ := hit; exact Heap.lt_size q
    have hT : s.heap.IsTuple a its.toArray := p
    have hlt : i < its.toArray.size := by
      have z1 := (List.getElem?_eq_some_iff.mp hu).1
      simpa using z1
    refine wpAny_pyNext_enum_itemD (Draws.tuple (A := X.A.in1) (I.ok.hd hc) it a hai its.toArray) he ⟨hit, hT⟩ hlt hne (by simp [hne, Ne.symm hae]) fun y h' tk hy ho hit' hT' hsz hk => ?_
    obtain rfl : y = u := by
      have z1 : its.toArray[i]? = some u := by simpa using hu
      exact Option.some.inj (hy.symm.trans z1)
    refine ⟨_, rfl, wpAny_letOwnedTupleGo_enum (s := { s with heap := h', toks := tk + 1 }) ho fun h'' he' sb => ?_⟩
    have hT2 : h''.get? s.heap.objs.size = some { cls := .type "tuple", data := .seq #[.int i tk, y] } := (sb.2 _ (Nat.ne_of_gt hel)).trans hT'
    have new : ObjOk X.prog X.w (upd H s.heap.objs.size (.tup [.int (i : Nat), x])) h'' s.heap.objs.size (.tup [.int (i : Nat), x]) :=
      ⟨by show 2 ≤ sizeLine; decide, [.int i tk, y], .cons ⟨_, rfl⟩ (.cons ru .nil), ⟨_, hT2, rfl, _, rfl⟩⟩
    have I1 : L2.Inv X pins σ (upd H s.heap.objs.size (.tup [.int (i : Nat), x])) { s with heap := h'', toks := tk + 1 } :=
      I.turnedNew (ch := [e, it]) (fun b ob hb q => (sb.2 b (fun z => hb (by simp [z]))).trans (hk b ob (fun z => hb (by simp [z])) (fun z => hb (by simp [z])) q)) hf (Nat.le_refl _) new
    refine ⟨.ref s.heap.objs.size, _, I1, rfl, ⟨_, x, rfl, I.hok.fresh (Nat.le_refl _), rfl, fun ys hy => by rw [I.tuple_inj hy hq]; exact hx⟩, ⟨⟨y, ?_⟩, hit'.1.at fun o q => (sb.2 it (Ne.symm hne)).trans q, hne, hai, hae⟩, fun b hb => ?_⟩
    · have e1 : ((i + 1 : Nat) : Int) = (i : Int) + 1 := by omega
      rw [e1]; exact he'
    · have hb' : b < s.heap.objs.size := by
        have e' : b = e ∨ b = it := by simpa using hb
        rcases e' with z | z
        · rw [z]; exact hel
        · rw [z]; exact hil
      rw [upd_ne (Nat.ne_of_lt hb')]
      exact (hf b hb).1
  done := by
    intro X hP hw hK hc i pins s σ H E I hf st hg
    subst hP hw hK
    obtain ⟨⟨old, he⟩, hit, hne, hai, hae⟩ := st
    obtain ⟨xs, hq, hx⟩ := hg
    obtain ⟨its, rv, p, hz⟩ := I.tuple hq
    obtain ⟨f0, f1, f2, f3, f4, f5⟩ := hf it (by simp)
    have hl := rv.length
    exact enum_endT (I.ok.hd hc) he hit (show s.heap.IsTuple a its.toArray from p) (by simp; omega) fun h' eb => ⟨rfl, I.turned (t' := s.toks) (fun b o hb q => eb b o hb q) f0 f1 f3 f4 f5⟩
  self := fun A i s Q E st h => by
    obtain ⟨⟨_, he⟩, _⟩ := st
    exact wpAny_pyIter_enum he h
def iEnumT (K : PySem.W.Frag) (ta : TA) : TI := fun σ H R => ta σ H fun vs H1 => ∃ a xs, vs = [.ref a] ∧ SqT K H1 a xs ∧ R (Itet K a) H1
theorem pi_enumT {X : Cx} {e : Expr} {ta : TA} {p pos tpos : Pos} {elts : List Expr} {kk : Nat} (hg : Gl X "enumerate") (hm : X.mg "enumerate" = none) (ha : PA X [e] ta) (hs : starEach [e] X.env = [(false, eval e X.env)] := by rfl) :
    PI X (.Tuple elts kk tpos) (.Call (.Name "enumerate" p) [e] [] pos) (iEnumT X.K ta) := by
  refine ⟨fun pins s σ H R I h => ?_⟩
  refine Call_ (ld_blt I hg hm boot_enumerate (PyProof.Rows.callWith_type1 (thn (ha.run pos pins s σ H _ I h) fun us s1 ⟨vs, H1, I1, r1, q1⟩ => ?_) hs rfl))
  obtain ⟨a, xs, ex, hq, q⟩ := q1
  subst ex
  obtain ⟨u, rfl, r⟩ := Vals.one r1
  obtain rfl : u = Value.ref a := r
  obtain ⟨its, rv, p', hz⟩ := I1.tuple hq
  have hal : a < s1.heap.objs.size := by obtain ⟨_, z, _⟩ := p'; exact Heap.lt_size z
  refine enum_call p' fun h' he hit hsz hk => wpAny_pyIter_enum he ?_
  have I2 : L2.Inv X pins σ H1 { s1 with heap := h' } := I1.kept (t' := s1.toks) hk
  refine ⟨s1.heap.objs.size + 1, [s1.heap.objs.size + 1, s1.heap.objs.size], _, _, H1, rfl, I2, turn_enumT a (s1.heap.objs.size + 1) s1.heap.objs.size, ⟨⟨.none, he⟩, hit, Nat.succ_ne_self _, Nat.ne_of_lt hal, Nat.ne_of_lt (Nat.lt_succ_of_lt hal)⟩, fun b hb => ?_, q⟩
  have e' : b = s1.heap.objs.size + 1 ∨ b = s1.heap.objs.size := by simpa using hb
  have hle : s1.heap.objs.size ≤ b := by
    rcases e' with z | z
    · rw [z]; exact Nat.le_add_right _ _
    · rw [z]; exact Nat.le_refl _
  exact I1.fpOk hle (I1.hok.fresh hle)

/-! ### {k: v for x in t}, the keys tuples of names -/
theorem dt_put {X : Cx} {pins : List (Addr × Obj)} {σ : L2.St} {H : Hp} {s : Shared} {E : Value → Shared → Prop} {D b : Addr} {kvs : List (List Key × V)} {k : List Key} {v : V} {r : Value} {Q : Unit → Shared → Prop} (hu : X.A.units + 1 < cLine) (I : L2.Inv X pins σ H s) (hD : H D = some (.dT kvs)) (hz : kvs.length < sizeLine)
    (hb : H b = some (.tup (k.map kV))) (rv : L2.RelV v r) (h : ∀ s', L2.Inv X pins σ (upd H D (.dT (putK kvs k v))) s' → Q () s') : wpAny (model X.prog X.w) X.A (dictSet D (.ref b) r) Q E s := by
  obtain ⟨z, hd, xs, rel, dd⟩ := dt_of I.hok hD
  have hzx : xs.length ≤ sizeLine := by rw [← Paired.length rel]; exact z
  have hl : (putK kvs k v).length ≤ sizeLine := by
    have := length_putK kvs k v
    omega
  refine wpAny_dictSet_heap (hsz := hzx) (knd := tupleKind (mixKind X.prog X.w)) (show X.A.units < cLine by omega) (key_of I.hok hb) dd fun h' dd' hs => h _ ?_
  obtain ⟨q, es, ep, hq, h2, h3, h4, _, h5⟩ := dd'
  refine d_write I (by rw [hD]; exact True.intro) hs ⟨q, hq⟩ ⟨hl, hd, _, (rel.put k hb rv).keeps fun c ys ec => ?_, q, es, ep, hq, h2, h3, h4, h5⟩
  rw [upd_ne (ne_of ec hD (fun z => nomatch z))]
  exact ec
section
variable {X : Cx}
def tDcT (wi : TI) (g : TG) (tt : TT) (tk tv : TE) (vs : List Nat) : TE := fun σ H Q => wi σ H fun J H1 => ∀ D, H1 D = none → ∃ W : Nat → Nat → Hp → Prop, (∃ m, W 0 m (upd H1 D (.dT []))) ∧ ∀ i m H, W i m H →
  (J.stop i H ∧ Q (.ref D) H) ∨ (J.go i H ∧ ∃ Nx : Hp → Prop, (∀ H', Nx H' → ∃ m', m' < m ∧ W (i + 1) m' H') ∧ ∀ x H', J.yld i H x H' → g x (wipe σ vs) H' fun σ2 H2 => wipe σ2 vs = wipe σ vs ∧ tt σ2 H2 fun b H3 =>
    if b = true then tk σ2 H3 fun y H4 => tv σ2 H4 fun z H5 => ∃ kvs k a, y = .ref a ∧ H5 a = some (.tup (List.map kV k)) ∧ H5 D = some (.dT kvs) ∧ kvs.length < sizeLine ∧ Nx (upd H5 D (.dT (putK kvs k z))) else Nx H3)
theorem pe_dcT {kx vx tg iter : Expr} {ifs : List Expr} {scope : Scope} {own : List (Str × Nat)} {pos : Pos} {wi : TI} {g : TG} {tt : TT} {tk tv : TE} (hu : X.A.units + 1 < cLine) (hc : X.calm = true) (hN : X.N.Nodup) (hi : PI X tg iter wi) (ok : BlkOk X.N X.env.scope scope own)
    (hg : ∀ (s : Shared) (H : Hp) (C : Addr) (cl : List (Str × Addr)) (fp : List Addr), PG (X.blk s H scope (compEnvC scope cl C X.env) fp) tg g) (ht : ∀ (s : Shared) (H : Hp) (C : Addr) (cl : List (Str × Addr)) (fp : List Addr), PTs (X.blk s H scope (compEnvC scope cl C X.env) fp) ifs tt)
    (hk : ∀ (s : Shared) (H : Hp) (C : Addr) (cl : List (Str × Addr)) (fp : List Addr), PE (X.blk s H scope (compEnvC scope cl C X.env) fp) kx tk)
    (he : ∀ (s : Shared) (H : Hp) (C : Addr) (cl : List (Str × Addr)) (fp : List Addr), PE (X.blk s H scope (compEnvC scope cl C X.env) fp) vx tv) (hs : ∀ x, foldedSetIterable iter X.env x = pure x := by intro _; rfl) :
    PE X (.DictComp kx vx [⟨tg, iter, ifs, 0⟩] scope pos) (tDcT wi g tt tk tv (own.map (·.2))) := by
  refine ⟨fun pins s σ H Q I h => ?_⟩
  rw [arm_eval_DictComp]
  have hfree : ∀ y ∈ scope.names, y.2 = .free → ∃ c, X.env.cells.lookup y.1 = some c := fun y hy e => by
    rcases ok.free y hy e with k | k
    · exact I.ok.has _ (.inl k)
    · exact I.ok.has _ (.inr k)
  refine wpAny_comprehension_free (use := none) rfl hs (closure_ok hfree) ok.kind (fun y hy e => by rw [ok.uniq y hy, e])
    (thn (hi.run pins s σ H _ I h) fun xv s1 hx => thn hx fun itv s2 h2 => ?_)
  obtain ⟨it, fp, tn, J, H2, e, I2, T, st2, f2, q⟩ := h2
  subst e
  refine wpAny_newObj_type (newEnv_comp ?_)
  generalize hD : s2.heap.objs.size = D
  have hDn : H2 D = none := I2.hok.fresh (Nat.le_of_eq hD)
  obtain ⟨W, ⟨m0, w0⟩, turn⟩ := q D hDn
  generalize hs3 : ({ s2 with heap := s2.heap.push { cls := .type "dict", data := .dict #[] } } : Shared) = s3
  have I3 : L2.Inv X pins σ (upd H2 D (.dT [])) s3 := by
    rw [← hs3]
    refine I2.laid (t' := s2.toks) (fun b o e => Heap.get?_push_of_some _ e) (Nat.le_of_eq hD) ?_
    rw [← hD]
    exact dt_empty s2.heap I2.big
  have h3 : s3.heap = s2.heap.push { cls := .type "dict", data := .dict #[] } := by rw [← hs3]
  have sz : ∀ b ∈ fp, b < s2.heap.objs.size := fun b hb => by
    obtain ⟨o, e, _⟩ := T.obj _ _ st2 b hb
    exact Heap.lt_size e
  have f3 : ∀ b ∈ fp, FpOk X pins (upd H2 D (.dT [])) b ∧ b < s3.heap.objs.size := fun b hb => by
    have hlt := sz b hb
    refine ⟨⟨?_, (f2 b hb).2⟩, by rw [h3, Heap.size_push]; exact Nat.lt_succ_of_lt hlt⟩
    rw [upd_ne (by rw [← hD]; exact Nat.ne_of_lt hlt)]
    exact (f2 b hb).1
  have st3 : tn 0 s3.heap := T.keep _ _ _ st2 fun b _ o e => by rw [h3]; exact Heap.get?_push_of_some _ e
  have I4 := block_start I3 ok hN f3
  have pg := hg s3 (upd H2 D (.dT [])) s3.heap.objs.size (cellsFrom (s3.heap.objs.size + 1) scope.names (cloFrom X.env.cells scope.names [])) fp
  have pt := ht s3 (upd H2 D (.dT [])) s3.heap.objs.size (cellsFrom (s3.heap.objs.size + 1) scope.names (cloFrom X.env.cells scope.names [])) fp
  have pk := hk s3 (upd H2 D (.dT [])) s3.heap.objs.size (cellsFrom (s3.heap.objs.size + 1) scope.names (cloFrom X.env.cells scope.names [])) fp
  have pe := he s3 (upd H2 D (.dT [])) s3.heap.objs.size (cellsFrom (s3.heap.objs.size + 1) scope.names (cloFrom X.env.cells scope.names [])) fp
  have nfp : ∀ b ∈ fp, (upd H2 D (.dT [])) b = none := fun b hb => (f3 b hb).1.1
  -- where the block ends
  have back : ∀ (s' : Shared) (H' : Hp), L2.Inv X pins σ H' s' → Q (.ref D) H' → (∃ m, s'.heap.Ns s3.heap.objs.size m) → FpOk X pins H' s3.heap.objs.size → compPost (model X.prog X.w) X.A X.xe none (EP X pins σ Q) (.ref D) s3.heap.objs.size (.ok .next) s' := fun s' H' I' q ⟨m, hn⟩ f => by
    refine ⟨m, hn, fun h'' sb => ?_⟩
    obtain ⟨f0, f1, f2, f3, f4, f5⟩ := f
    exact ⟨.ref D, H', I'.turned (t' := s'.toks) (fun b o hb e => (sb.2 b hb).trans e) f0 f1 f3 f4 f5, rfl, q⟩
  show codeAny _ _ (.compStart (.DictComp kx vx [⟨tg, iter, ifs, 0⟩] scope pos) 0 (.ref it) (.ref D) (compEnvC scope (cellsFrom (s3.heap.objs.size + 1) scope.names (cloFrom X.env.cells scope.names [])) s3.heap.objs.size X.env)) (compPost (model X.prog X.w) X.A X.xe none (EP X pins σ Q) (.ref D) s3.heap.objs.size) { s3 with heap := pushCells (s3.heap.push { cls := .type "dict", data := .dict #[] }) scope.names }
  generalize hce : compEnvC scope (cellsFrom (s3.heap.objs.size + 1) scope.names (cloFrom X.env.cells scope.names [])) s3.heap.objs.size X.env = ce at I4 pg pt pk pe ⊢
  have cL : ce.locals = s3.heap.objs.size := by subst hce; rfl
  generalize hH3 : upd H2 D (.dT []) = H3 at I3 I4 pg pt pk pe w0 nfp f3
  generalize hs4 : ({ s3 with heap := pushCells (s3.heap.push { cls := .type "dict", data := .dict #[] }) scope.names } : Shared) = s4 at I4 ⊢
  have st4 : tn 0 s4.heap := T.keep _ _ _ st3 fun b _ o e => by rw [← hs4]; exact pushCells_keeps _ _ _ _ (Heap.get?_push_of_some _ e)
  have stat : ∀ {σ' : L2.St} {H' : Hp} {s' : Shared}, L2.Inv (X.blk s3 H3 scope ce fp) [] σ' H' s' → (∀ b ∈ fp, H' b = none) → ∀ b ∈ fp, FpOk (X.blk s3 H3 scope ce fp) [] H' b := fun {σ' H' s'} I' hn b hb =>
    ⟨hn b hb, (I'.ok.exf b hb).1, I'.ok.exfs b hb, .inl hb, fun x c e => (I'.ok.exf b hb).2 x c e, fun p hp => absurd (show p ∈ ([] : List (Addr × Obj)) ++ [] from hp) (by simp)⟩
  have loop : codeAny (model X.prog X.w) X.A (.compLoop (.DictComp kx vx [⟨tg, iter, ifs, 0⟩] scope pos) 0 (.ref it) (.ref D) ce) (compPost (model X.prog X.w) X.A X.xe none (EP X pins σ Q) (.ref D) s3.heap.objs.size) s4 := by
    refine compLoop_anyD (fun n s' => ∃ i H', L2.Inv (X.blk s3 H3 scope ce fp) [] (wipe σ (own.map (·.2))) H' s' ∧ tn i s'.heap ∧ (∀ b ∈ fp, H' b = none) ∧ W i n H') ?_ m0 ⟨0, H3, I4, st4, nfp, w0⟩
    rintro n s5 ⟨i, H5, I5, st5, n5, w5⟩
    rcases turn i n H5 w5 with ⟨stop, qq⟩ | ⟨go, Nx, hNx, step⟩
    · have td := T.done (X.blk s3 H3 scope ce fp) rfl rfl rfl hc i [] s5 _ H5 (fun _ _ => False) I5 (stat I5 n5) st5 stop
      refine thnF td fun r s6 ⟨hr, I6⟩ => ?_
      subst hr
      have I7 : L2.Inv X pins σ H5 s6 := I3.call' (ch := fp) I6.os I6.base I6.hok I6.bare fun b hb => ⟨(f3 b hb).1.2.2.2.1, (f3 b hb).1.2.1, (f3 b hb).1.2.2.2.2.1, (f3 b hb).1.2.2.2.2.2⟩
      have nC : H5 s3.heap.objs.size = none := by
        have z : H5 ce.locals = none := I6.free
        rw [cL] at z
        exact z
      obtain ⟨m, hn, _⟩ := I6.loc
      have hn : s6.heap.Ns ce.locals m := hn
      rw [cL] at hn
      exact back s6 H5 I7 qq ⟨m, hn⟩ (I3.fpOk (Nat.le_refl _) nC)
    · have ti := T.item (X.blk s3 H3 scope ce fp) rfl rfl rfl hc i [] s5 _ H5 (fun _ _ => False) I5 (stat I5 n5) st5 go
      refine thnF ti fun r s6 ⟨u, hr, h6⟩ => ?_
      subst hr
      refine thnF h6 fun _ s7 ⟨x, H7, I7, r7, y7, st7, n7⟩ => ?_
      have I7' := I7.pinned (stat I7 n7) (T.obj _ _ st7)
      refine thnF (pg.run _ s7 _ H7 x u _ I7' r7 (step x H7 y7)) fun _ s8 ⟨σ8, H8, I8, hw8, q8⟩ => ?_
      refine thnF (pt.run _ s8 σ8 H8 _ I8 q8) fun b s9 ⟨H9, I9, q9⟩ => ?_
      have fin : ∀ {s' : Shared} {H' : Hp}, L2.Inv (X.blk s3 H3 scope ce fp) ([] ++ pinsAt fp s7.heap) σ8 H' s' → Nx H' → ∃ m, m < n ∧ ∃ i H', L2.Inv (X.blk s3 H3 scope ce fp) [] (wipe σ (own.map (·.2))) H' s' ∧ tn i s'.heap ∧ (∀ b ∈ fp, H' b = none) ∧ W i m H' := fun {s' H'} I' nx => by
        obtain ⟨m', hm, w'⟩ := hNx H' nx
        have pin' : ∀ b ∈ fp, ∀ o, s7.heap.get? b = some o → s'.heap.get? b = some o ∧ H' b = none := fun b hb o e =>
          let z := I'.pin (b, o) (List.mem_append_right _ (List.mem_append_right _ (mem_pinsAt hb e)))
          ⟨z.1, z.2.1⟩
        have hl : (wipe σ (own.map (·.2))).length = σ8.length := by rw [← hw8, wipe_length]
        refine ⟨m', hm, i + 1, H', (I'.unpinned (pins := [])).weak hl (fun j v e => ?_), T.keep _ _ _ st7 fun b hb o e => (pin' b hb o e).1, fun b hb => ?_, w'⟩
        · rw [← hw8] at e
          exact (wipe_some e).1
        · obtain ⟨o, e, _⟩ := T.obj _ _ st7 b hb
          exact (pin' b hb o e).2
      cases b with
      | false =>
        simp only [Bool.false_eq_true, if_false] at q9 ⊢
        exact fin I9 q9
      | true =>
        simp only [if_true] at q9 ⊢
        refine thnF (pk.run _ s9 σ8 H9 _ I9 q9) fun z s10 ⟨yk, H10, I10, r10, q10⟩ => ?_
        refine thnF (pe.run _ s10 σ8 H10 _ I10 q10) fun z2 s11 ⟨yv, H11, I11, r11, kvs, k, ka, ek, hka, hD11, hz11, nx⟩ => ?_
        subst ek
        obtain rfl : z = Value.ref ka := r10
        exact dt_put (X := X.blk s3 H3 scope ce fp) hu I11 hD11 hz11 hka r11 fun s12 I12 => fin I12 nx
  exact codeAny_compStart_dict loop (T.self X.A 0 _ _ _ st4 loop)
/-- over a tuple that stays -/
theorem dcT_tup {K : PySem.W.Frag} {a : Addr} {xs : List V} {g : TG} {tt : TT} {tk tv : TE} {vs : List Nat} {σ : L2.St} {H1 : Hp} {D : Addr} {Qd : Hp → Prop} (Pv : Nat → Hp → Prop) (h0 : Pv 0 (upd H1 D (.dT []))) (hl : ∀ i H, i ≤ xs.length → Pv i H → SqT K H a xs)
    (hs : ∀ i x H, xs[i]? = some x → Pv i H → g x (wipe σ vs) H fun σ2 H2 => wipe σ2 vs = wipe σ vs ∧ tt σ2 H2 fun b H3 =>
      if b = true then tk σ2 H3 fun y H4 => tv σ2 H4 fun z H5 => ∃ kvs k c, y = .ref c ∧ H5 c = some (.tup (List.map kV k)) ∧ H5 D = some (.dT kvs) ∧ kvs.length < sizeLine ∧ Pv (i + 1) (upd H5 D (.dT (putK kvs k z))) else Pv (i + 1) H3) (hd : ∀ H, Pv xs.length H → Qd H) :
    ∃ W : Nat → Nat → Hp → Prop, (∃ m, W 0 m (upd H1 D (.dT []))) ∧ ∀ i m H, W i m H →
      ((Itt K a).stop i H ∧ Qd H) ∨ ((Itt K a).go i H ∧ ∃ Nx : Hp → Prop, (∀ H', Nx H' → ∃ m', m' < m ∧ W (i + 1) m' H') ∧ ∀ x H', (Itt K a).yld i H x H' → g x (wipe σ vs) H' fun σ2 H2 => wipe σ2 vs = wipe σ vs ∧ tt σ2 H2 fun b H3 =>
        if b = true then tk σ2 H3 fun y H4 => tv σ2 H4 fun z H5 => ∃ kvs k c, y = .ref c ∧ H5 c = some (.tup (List.map kV k)) ∧ H5 D = some (.dT kvs) ∧ kvs.length < sizeLine ∧ Nx (upd H5 D (.dT (putK kvs k z))) else Nx H3) := by
  refine ⟨fun i m H => m = xs.length - i ∧ i ≤ xs.length ∧ Pv i H, ⟨xs.length, by simp, Nat.zero_le _, h0⟩, ?_⟩
  rintro i m H ⟨rfl, hi, p⟩
  have q := hl i H hi p
  rcases Nat.lt_or_ge i xs.length with hlt | hge
  · refine .inr ⟨⟨xs, xs[i], q, List.getElem?_eq_getElem hlt⟩, Pv (i + 1), fun H' p' => ⟨xs.length - (i + 1), by omega, rfl, hlt, p'⟩, fun x H' y => ?_⟩
    obtain ⟨e, y⟩ := y
    subst e
    exact hs i x _ (y xs q) p
  · obtain rfl : i = xs.length := Nat.le_antisymm hi hge
    exact .inl ⟨⟨xs, q, Nat.le_refl _⟩, hd H p⟩
end
end XI
/-! Own: len, bool, str of an instance by its class's own methods. -/
namespace XO
open PySem PySem.Spec PyProof.Rows L2
/-- the class has the method under this name, for itself -/
structure Own (K : PySem.W.Frag) (C : Addr) (m : Str) (f : Addr) : Prop where
  at_ : PySem.W.findIn K (.ref C) m = some (some (.ref f))
  fn : PySem.W.isFn K (.ref f) = true
theorem Room.in2 {k : Nat} {A : Around} (r : Room (k + 1) A) : Room k A.in1.in1 :=
  ⟨r.hd, by have := r.dp; show A.depth + 3 * k + 5 < _; omega, by have := r.un; show A.units + 1 + 1 + 16 * k + 200 < _; omega⟩
section
variable {X : Cx} {k : Nat} {C f a dx : Addr} {fs : List (Str × V)} {fd : FuncData} {sp : Sp} {E : XK}
/-- the def at f called of the object, around A -/
theorem run_own {pins : List (Addr × Obj)} {σ : L2.St} {H : Hp} {s : Shared} {Q : VK} {A : Around} {G : Value → Shared → Prop} (F : FnOk X.prog X.w X.K X.mg X.base CX0 k f fd ["self"] sp) (hr : Room k A) (he : Env0 X.prog X.w X.K X.mg X.base A X.stack s H)
    (hb : Binds X.K fd ["self"] []) (I : L2.Inv X pins σ H s) (h : sp [.ref a] H Q E0) : wpAny (model X.prog X.w) A (call (.ref f) [.ref a]) (EP X pins σ Q) G s := by
  refine wpAny_call (codeAny_mono (F.run A X.stack s H ⟨[.ref a], []⟩ [.ref a] [.ref a] Q E0 hr he (hb s [.ref a] I.kIn rfl) (.cons rfl .nil) h) fun r s' hq => ?_)
  cases r with
  | error er => exact hq.elim
  | ok fl =>
    cases fl with
    | ret u => exact I.after hq
    | _ => exact False.elim hq
theorem inst_look {pins : List (Addr × Obj)} {σ : L2.St} {H : Hp} {s : Shared} (I : L2.Inv X pins σ H s) (ea : H a = some (.ins C dx fs)) : ∃ od, PySem.W.InstAt s.heap a (PySem.W.instObj C dx) C od := by
  obtain ⟨mA, O, _, _, _, _⟩ := ins_get I.hok ea
  obtain ⟨od, J, _⟩ := O.look
  exact ⟨od, J⟩
/-- len(o) -/
def rLenO (C : Addr) (sp : Sp) : List V → Hp → VK → Prop := fun xs H Q => ∃ a dx fs, xs = [.ref a] ∧ H a = some (.ins C dx fs) ∧ sp [.ref a] H (fun v H' => ∃ n : Int, v = .int n ∧ 0 ≤ n ∧ n < 2 ^ 63 ∧ Q (.int n) H') E0
theorem call_lenO (O : Own X.K C "__len__" f) (F : FnOk X.prog X.w X.K X.mg X.base CX0 k f fd ["self"] sp) (hr : Room (k + 1) X.A) (hb : Binds X.K fd ["self"] []) : CallR X (.builtin "len") (rLenO C sp) := by
  intro pins s σ H xs us Q I r h
  obtain ⟨a, dx, fs, rfl, ea, q⟩ := h
  obtain rfl := Vals.ref1 r
  obtain ⟨od, J⟩ := inst_look I ea
  obtain ⟨m, hF⟩ := I.fr
  refine PySem.W.len_K hF I.ok.mod.kin J O.at_ O.fn (thn (run_own F hr.in1 I.env0.in1 hb I q) fun u s1 ⟨v, H1, I1, rv, n, ev, n0, n1, q1⟩ => ?_)
  subst ev
  obtain ⟨t, rfl⟩ := rv
  exact ⟨⟨n0, n1⟩, .int n, H1, I1.tok _, ⟨_, rfl⟩, q1⟩
/-- str(o) -/
def rStrO (C : Addr) (sp : Sp) : List V → Hp → VK → Prop := fun xs H Q => ∃ a dx fs, xs = [.ref a] ∧ H a = some (.ins C dx fs) ∧ sp [.ref a] H (fun v H' => ∃ z : Str, v = .str z ∧ Q (.str z) H') E0
theorem call_strO (O : Own X.K C "__str__" f) (F : FnOk X.prog X.w X.K X.mg X.base CX0 k f fd ["self"] sp) (hr : Room (k + 1) X.A) (hb : Binds X.K fd ["self"] []) : CallR X (.type "str") (rStrO C sp) := by
  intro pins s σ H xs us Q I r h
  obtain ⟨a, dx, fs, rfl, ea, q⟩ := h
  obtain rfl := Vals.ref1 r
  obtain ⟨od, J⟩ := inst_look I ea
  refine PySem.W.kso_call (Room.in2 hr).units0 I.kIn J O.at_ O.fn (thn (run_own F (Room.in2 hr) I.env0.in1.in1 hb I q) fun u s1 ⟨v, H1, I1, rv, z, ev, q1⟩ => ?_)
  subst ev
  obtain ⟨t, rfl⟩ := rv
  exact ⟨.str z, H1, I1, ⟨_, rfl⟩, q1⟩
/-- bool(o) -/
def rBoolO (C : Addr) (sp : Sp) : List V → Hp → VK → Prop := fun xs H Q => ∃ a dx fs, xs = [.ref a] ∧ H a = some (.ins C dx fs) ∧ sp [.ref a] H (fun v H' => ∃ b : Bool, v = .bl b ∧ Q (.bl b) H') E0
theorem call_boolO (O : Own X.K C "__bool__" f) (F : FnOk X.prog X.w X.K X.mg X.base CX0 k f fd ["self"] sp) (hr : Room (k + 1) X.A) (hb : Binds X.K fd ["self"] []) : CallR X (.type "bool") (rBoolO C sp) := by
  intro pins s σ H xs us Q I r h
  obtain ⟨a, dx, fs, rfl, ea, q⟩ := h
  obtain rfl := Vals.ref1 r
  obtain ⟨od, J⟩ := inst_look I ea
  obtain ⟨m, hF⟩ := I.fr
  have tr : ∀ (R : Bool → Shared → Prop) (G : Value → Shared → Prop), (∀ (b : Bool) (s' : Shared), EP X pins σ Q (.bool b) s' → R b s') → wpAny (model X.prog X.w) X.A.in1.in1 (truthy (.ref a)) R G s := fun R G hR => by
    refine PySem.W.truthy_K hF I.ok.mod.kin J O.at_ O.fn (thn (run_own F (Room.in2 hr) I.env0.in1.in1 hb I q) fun u s1 ⟨v, H1, I1, rv, b, ev, q1⟩ => ?_)
    subst ev
    cases rv
    exact hR b s1 ⟨.bl b, H1, I1, rfl, q1⟩
  refine callType_codes (T := "bool") (Bi := Builtin.«object.__init__») (Q₁ := fun r s₁ => ∃ b, r = .bool b ∧ EP X pins σ Q (.bool b) s₁) PySem.F.called_bool (PySem.F.typeCall_bool_1 _) PySem.F.entry_object_init ?_ ?_
  · refine codeAny_of_tree ?_
    show wpAny _ X.A.in1.in1 (do checkBuiltinCall "bool.__new__" ⟨[.type "bool", .ref a], []⟩; again (.builtin "bool.__new__" ⟨[.type "bool", .ref a], []⟩)) _ _ s
    refine wpAny_bind (wpAny_of_eq (PySem.F.newCall_bool_1 _) (wpAny_pure ⟨plainId_quiet (by decide +kernel) _, codeAny_builtin PySem.F.entry_bool_new ?_⟩))
    rw [Around.under_plainId (by decide +kernel) _]
    have f1 := PySem.F.conv_sub_bool
    obtain ⟨hp, g, d, tk, os⟩ := s
    repeat (any_goals (first | assumption | (with_reducible refine tr _ _ ?_) | wp_step))
    intro b s' hb'
    exact wpAny_pure ⟨b, rfl, hb'⟩
  · rintro obj s₁ ⟨b, rfl, hq⟩
    exact ⟨rfl, PySem.F.args_object_init_2 _ _, object_init_meets PySem.F.called_bool.init.lookup PySem.F.called_bool.made (by decide) X.prog X.w X.A.in1 _ s₁ ⟨rfl, rfl, hq⟩⟩
end
end XO
/-! Own: how the defs of a program stand, heaps that change at one place. -/
namespace XB
open PySem PySem.Spec PyProof.Rows L2
/-- the def st stands under its name x, its parameters ps -/
structure At (K : PySem.W.Frag) (mg : Str → Option Value) (x : Str) (st : Stmt) (ps : List Str) : Prop where
  ex : ∃ (f : Addr) (fd : FuncData), Fun K x x st f fd ∧ mg x = some (.ref f) ∧ Binds K fd ps []
theorem at_mk {K : PySem.W.Frag} {h : Heap} {mg : Str → Option Value} {x : Str} {st : Stmt} {ps : List Str} {f : Addr} {oc : Value} {od an : Option Addr} {osl : Array (Option Value)} {kV doc pm cdv ct : Value} (X : K.In h) (G : h.Ns mainGlobals mg)
    (a : PySem.W.nsIn K mainGlobals x = some (some (.ref f))) (l : K.lookup f = some ⟨oc, od, .func (PySem.W.fnOf x x (defArgs st) (defBody st) (defScope st) .none kV doc pm an cdv ct), osl⟩) (c : PySem.W.codeIn K cdv x = true) (k : PySem.W.keepIn K (.ref f) = true)
    (hb : ∀ (kV doc pm : Value) (an : Option Addr) (cdv ct : Value) (us : List Value), us.length = ps.length → bindArgs (PySem.W.fnOf x x (defArgs st) (defBody st) (defScope st) .none kV doc pm an cdv ct) ⟨us, []⟩ = pure (ps.zip us)) : At K mg x st ps := by
  have F := fun_mk (st := st) l c k
  exact ⟨f, _, F, PySem.W.mg_of X G a, F.binds hb⟩
section
variable {P : Program} {w : World} {K : PySem.W.Frag} {mg : Str → Option Value} {base : Heap} {k : Nat}
theorem cal_of {x : Str} {st : Stmt} {N ps : List Str} {sp : Sp} (D : At K mg x st ps) (S : FnScope N ps (defScope st)) (len : ∀ vs H Q E, sp vs H Q E → vs.length = ps.length)
    (hbody : ∀ (f : Addr) (cdv : Value) (A : Around) (outer : List Env) (s : Shared) (H : Hp) (vs : List V) (Q : VK) (E : XK), Room k (A.deeper (envOfC x (defScope st) s.heap.objs.size f cdv)) → sp vs H Q E →
      ∃ t, PSs (cxOf CX0 P w K mg base N x (defScope st) f cdv A outer s H E).nox (defBody st) t ∧ t { nx := fun _ H' => Q .non H', rt := Q } (start N vs) H) : C8.Cal P w K mg base (k + 1) x sp [] := by
  obtain ⟨f, fd, F, hm, b⟩ := D.ex
  exact ⟨f, fd, ps, [], F.ok S len (hbody f), hm, F.kp, b, .nil⟩
/-- .. of a def that wants that no repr runs around -/
structure CalG (P : Program) (w : World) (K : PySem.W.Frag) (mg : Str → Option Value) (base : Heap) (k : Nat) (x : Str) (sp : Sp) : Prop where
  ex : ∃ (f : Addr) (fd : FuncData) (ps : List Str), XG.FnG P w K mg base CX0 k f fd ps sp ∧ mg x = some (.ref f) ∧ PySem.W.keepIn K (.ref f) = true ∧ Binds K fd ps []
theorem calG_of {x : Str} {st : Stmt} {N ps : List Str} {sp : Sp} (D : At K mg x st ps) (S : FnScope N ps (defScope st)) (len : ∀ vs H Q E, sp vs H Q E → vs.length = ps.length)
    (hbody : ∀ (f : Addr) (cdv : Value) (A : Around) (outer : List Env) (s : Shared) (H : Hp) (vs : List V) (Q : VK) (E : XK), XG.Calm (A.deeper (envOfC x (defScope st) s.heap.objs.size f cdv)) → Room k (A.deeper (envOfC x (defScope st) s.heap.objs.size f cdv)) → sp vs H Q E →
      ∃ t, PSs (cxOf CX0 P w K mg base N x (defScope st) f cdv A outer s H E).nox (defBody st) t ∧ t { nx := fun _ H' => Q .non H', rt := Q } (start N vs) H) : CalG P w K mg base (k + 1) x sp := by
  obtain ⟨f, fd, F, hm, b⟩ := D.ex
  exact ⟨f, fd, ps, XG.okG F S len (hbody f), hm, F.kp, b⟩
theorem C8mono {x : Str} {sp : Sp} {dvs : List V} {j : Nat} (c : C8.Cal P w K mg base j x sp dvs) (h : j ≤ k) : C8.Cal P w K mg base k x sp dvs := by
  obtain ⟨f, fd, ps, ds, F, hm, kp, b, d⟩ := c.ex
  exact ⟨f, fd, ps, ds, F.mono h, hm, kp, b, d⟩
end
section
variable {X : Cx} {k j : Nat} {x : Str} {sp : Sp} {p pos : Pos} {e : Expr} {es : List Expr} {t : TA}
theorem pe_cG (c : CalG X.prog X.w X.K X.mg X.base k x sp) (hc : XG.Calm X.A) (hr : Room j X.A) (hk : k ≤ j) (hg : Gl X x) (ha : PA X (e :: es) t)
    (hdb : (x == ("__debug__" : Str)) = false := by decide) (he : starEach (e :: es) X.env = (false, eval e X.env) :: starEach es X.env := by rfl) (hpl : (backTo pos (starEach es X.env)).any (·.1) = false := by rfl) :
    PE X (.Call (.Name x p) (e :: es) [] pos) (tCall sp [] E0 t) := by
  obtain ⟨f, fd, ps, F, hm, kp, b⟩ := c.ex
  exact XG.pe_callG F hc (hr.mono hk) hg hm kp b .nil pass0 ha hdb he hpl
end

/-! ### heaps -/
/-- all that was tracked but at p is as it was -/
def Chg (p : Addr) (H H' : Hp) : Prop := ∀ b o, b ≠ p → H b = some o → H' b = some o
theorem Chg.refl (p : Addr) (H : Hp) : Chg p H H := fun _ _ _ h => h
theorem Chg.trans {p : Addr} {H H1 H2 : Hp} (a : Chg p H H1) (b : Chg p H1 H2) : Chg p H H2 := fun c o n h => b c o n (a c o n h)
theorem Same.chg {p : Addr} {H H' : Hp} (a : Same H H') : Chg p H H' := fun c o _ h => a c o h
theorem Chg.new {p q : Addr} {H H' : Hp} {o : HO} (a : Chg p H H') (h : H' q = none) : Chg p H (upd H' q o) := fun c u n e => by
  have z := a c u n e
  rw [upd_ne (ne_of_none z h)]
  exact z
theorem Chg.at {p : Addr} {H H' : Hp} {o : HO} (a : Chg p H H') : Chg p H (upd H' p o) := fun c u n e => by
  rw [upd_ne n]
  exact a c u n e
theorem Same.new {q : Addr} {H H' : Hp} {o : HO} (a : Same H H') (h : H' q = none) : Same H (upd H' q o) := fun c u e => by
  have z := a c u e
  rw [upd_ne (ne_of_none z h)]
  exact z
/-- a store to what was free at the start -/
theorem Same.own {q : Addr} {H H' : Hp} {o : HO} (a : Same H H') (h : H q = none) : Same H (upd H' q o) := fun c u e => by
  rw [upd_ne (ne_of_none e h)]
  exact a c u e
theorem Chg.own {p q : Addr} {H H' : Hp} {o : HO} (a : Chg p H H') (h : H q = none) : Chg p H (upd H' q o) := fun c u n e => by
  rw [upd_ne (ne_of_none e h)]
  exact a c u n e
theorem Chg.seq {p : Addr} {K : PySem.W.Frag} {H H' : Hp} {a : Addr} {xs : List V} (c : Chg p H H') (n : a ≠ p) (h : SqL K H a xs) : SqL K H' a xs := by
  rcases h with (h | ⟨o, h⟩) | h
  · exact .inl (.inl (c _ _ n h))
  · exact .inl (.inr ⟨o, c _ _ n h⟩)
  · exact .inr h
theorem Same.tup {K : PySem.W.Frag} {H H' : Hp} {a : Addr} {xs : List V} (c : Same H H') (h : SqT K H a xs) : SqT K H' a xs := by
  rcases h with (h | ⟨o, h⟩) | h
  · exact .inl (.inl (c _ _ h))
  · exact .inl (.inr ⟨o, c _ _ h⟩)
  · exact .inr h
theorem Chg.tup {p : Addr} {K : PySem.W.Frag} {H H' : Hp} {a : Addr} {xs : List V} (c : Chg p H H') (n : a ≠ p) (h : SqT K H a xs) : SqT K H' a xs := by
  rcases h with (h | ⟨o, h⟩) | h
  · exact .inl (.inl (c _ _ n h))
  · exact .inl (.inr ⟨o, c _ _ n h⟩)
  · exact .inr h
theorem Chg.free {p q : Addr} {H H' : Hp} (a : Chg p H H') (n : q ≠ p) (h : H' q = none) : H q = none := by
  cases e : H q with
  | none => rfl
  | some o => rw [a q o n e] at h; cases h
/-- what stood before a new object -/
theorem kp {H : Hp} {b q : Addr} {o u : HO} (e : H b = some o) (n : H q = none) : upd H q u b = some o := by
  rw [upd_ne (ne_of_none e n)]
  exact e
/-- what stands elsewhere -/
theorem kpm {H : Hp} {b q : Addr} {o u : HO} (e : H b = some o) (n : b ≠ q) : upd H q u b = some o := by
  rw [upd_ne n]
  exact e
theorem kpL {K : PySem.W.Frag} {H : Hp} {a q : Addr} {xs : List V} {u : HO} (h : SqL K H a xs) (n : H q = none) : SqL K (upd H q u) a xs := (Same.new (Same.refl H) n).seq h
theorem kpT {K : PySem.W.Frag} {H : Hp} {a q : Addr} {xs : List V} {u : HO} (h : SqT K H a xs) (n : H q = none) : SqT K (upd H q u) a xs := Same.tup (Same.new (Same.refl H) n) h
/-- texts as values -/
abbrev sl (xs : List Str) : List V := xs.map V.str
/-- the drawer: three numbers -/
def Purse (H : Hp) (p : Addr) : Prop := ∃ d s c : Int, H p = some (.lst [.int d, .int s, .int c])
theorem Purse.ne {H : Hp} {p q : Addr} (h : Purse H p) (n : H q = none) : p ≠ q := by
  obtain ⟨d, s, c, e⟩ := h
  exact ne_of_none e n
theorem Purse.new {H : Hp} {p q : Addr} {o : HO} (h : Purse H p) (n : H q = none) : Purse (upd H q o) p := by
  have z := h.ne n
  obtain ⟨d, s, c, e⟩ := h
  exact ⟨d, s, c, by rw [upd_ne z]; exact e⟩
/-- which built-ins the program leaves as they are -/
structure Bl (mg : Str → Option Value) : Prop where
  len : mg "len" = none
  int_ : mg "int" = none
  abs_ : mg "abs" = none
  divmod : mg "divmod" = none
  range : mg "range" = none
  list : mg "list" = none
  tuple : mg "tuple" = none
  repr : mg "repr" = none
  min_ : mg "min" = none
  max_ : mg "max" = none
  isin : mg "isinstance" = none
  str : mg "str" = none
  bool : mg "bool" = none
  set_ : mg "set" = none
  enum : mg "enumerate" = none
  all_ : mg "all" = none
end XB
namespace T
open PySem PySem.Spec PyProof.Rows L2 XB
def topS (i : Nat) : Stmt := PySem.Challenge.pw_passedits_k33_errors_of_likeness.main.body.getD i (.Pass ⟨0, 0, 0, 0⟩)
abbrev s_is_word : Stmt := topS 18
abbrev N_is_word : List Str := ["value", "words"]
theorem sc_is_word : FnScope N_is_word ["value", "words"] (defScope s_is_word) := ⟨rfl, rfl, rfl, by decide +kernel, rfl, by decide +kernel, by decide +kernel⟩
abbrev s_are_kinds : Stmt := topS 19
abbrev N_are_kinds : List Str := ["value", "kind"]
theorem sc_are_kinds : FnScope N_are_kinds ["value"] (defScope s_are_kinds) := ⟨rfl, rfl, rfl, by decide +kernel, rfl, by decide +kernel, by decide +kernel⟩
abbrev s_is_cell : Stmt := topS 20
abbrev N_is_cell : List Str := ["value", "kinds", "mine", "its", "relation"]
theorem sc_is_cell : FnScope N_is_cell ["value", "kinds"] (defScope s_is_cell) := ⟨rfl, rfl, rfl, by decide +kernel, rfl, by decide +kernel, by decide +kernel⟩
abbrev s_cell_of : Stmt := topS 21
abbrev N_cell_of : List Str := ["row"]
theorem sc_cell_of : FnScope N_cell_of ["row"] (defScope s_cell_of) := ⟨rfl, rfl, rfl, by decide +kernel, rfl, by decide +kernel, by decide +kernel⟩
abbrev s_options_of : Stmt := topS 22
abbrev N_options_of : List Str := ["row"]
theorem sc_options_of : FnScope N_options_of ["row"] (defScope s_options_of) := ⟨rfl, rfl, rfl, by decide +kernel, rfl, by decide +kernel, by decide +kernel⟩
abbrev s_conditions_for : Stmt := topS 23
abbrev N_conditions_for : List Str := ["mine", "its"]
theorem sc_conditions_for : FnScope N_conditions_for ["mine", "its"] (defScope s_conditions_for) := ⟨rfl, rfl, rfl, by decide +kernel, rfl, by decide +kernel, by decide +kernel⟩
abbrev s_results_for : Stmt := topS 24
abbrev N_results_for : List Str := ["mine", "kinds"]
theorem sc_results_for : FnScope N_results_for ["mine", "kinds"] (defScope s_results_for) := ⟨rfl, rfl, rfl, by decide +kernel, rfl, by decide +kernel, by decide +kernel⟩
abbrev s_is_row : Stmt := topS 25
abbrev N_is_row : List Str := ["value", "kinds", "mine", "its", "_", "options", "results", "tested", "condition", "result", "option"]
theorem sc_is_row : FnScope N_is_row ["value", "kinds"] (defScope s_is_row) := ⟨rfl, rfl, rfl, by decide +kernel, rfl, by decide +kernel, by decide +kernel⟩
abbrev s_first_wrong_row : Stmt := topS 26
abbrev N_first_wrong_row : List Str := ["rows", "kinds", "cells", "index", "row"]
theorem sc_first_wrong_row : FnScope N_first_wrong_row ["rows", "kinds"] (defScope s_first_wrong_row) := ⟨rfl, rfl, rfl, by decide +kernel, rfl, by decide +kernel, by decide +kernel⟩
abbrev s_kinds_and_rows : Stmt := topS 27
abbrev N_kinds_and_rows : List Str := ["text", "lines"]
theorem sc_kinds_and_rows : FnScope N_kinds_and_rows ["text"] (defScope s_kinds_and_rows) := ⟨rfl, rfl, rfl, by decide +kernel, rfl, by decide +kernel, by decide +kernel⟩
abbrev s_is_table_text : Stmt := topS 28
abbrev N_is_table_text : List Str := ["value", "kinds", "rows"]
theorem sc_is_table_text : FnScope N_is_table_text ["value"] (defScope s_is_table_text) := ⟨rfl, rfl, rfl, by decide +kernel, rfl, by decide +kernel, by decide +kernel⟩
abbrev s_Table___init__ : Stmt := inClass (topS 31) 0
abbrev N_Table___init__ : List Str := ["self", "kinds", "rows", "wrong", "row"]
theorem sc_Table___init__ : FnScope N_Table___init__ ["self", "kinds", "rows"] (defScope s_Table___init__) := ⟨rfl, rfl, rfl, by decide +kernel, rfl, by decide +kernel, by decide +kernel⟩
abbrev s_Table_read : Stmt := inClass (topS 31) 1
abbrev N_Table_read : List Str := ["cls", "text", "kinds", "rows"]
theorem sc_Table_read : FnScope N_Table_read ["cls", "text"] (defScope s_Table_read) := ⟨rfl, rfl, rfl, by decide +kernel, rfl, by decide +kernel, by decide +kernel⟩
abbrev s_Table_kinds : Stmt := inClass (topS 31) 2
abbrev N_Table_kinds : List Str := ["self"]
theorem sc_Table_kinds : FnScope N_Table_kinds ["self"] (defScope s_Table_kinds) := ⟨rfl, rfl, rfl, by decide +kernel, rfl, by decide +kernel, by decide +kernel⟩
abbrev s_Table_rows : Stmt := inClass (topS 31) 3
abbrev N_Table_rows : List Str := ["self"]
theorem sc_Table_rows : FnScope N_Table_rows ["self"] (defScope s_Table_rows) := ⟨rfl, rfl, rfl, by decide +kernel, rfl, by decide +kernel, by decide +kernel⟩
abbrev s_Table_passed : Stmt := inClass (topS 31) 4
abbrev N_Table_passed : List Str := ["self", "edit", "past", "first"]
theorem sc_Table_passed : FnScope N_Table_passed ["self", "edit", "past", "first"] (defScope s_Table_passed) := ⟨rfl, rfl, rfl, by decide +kernel, rfl, by decide +kernel, by decide +kernel⟩
abbrev s_Table_changed : Stmt := inClass (topS 31) 5
abbrev N_Table_changed : List Str := ["self", "change"]
theorem sc_Table_changed : FnScope N_Table_changed ["self", "change"] (defScope s_Table_changed) := ⟨rfl, rfl, rfl, by decide +kernel, rfl, by decide +kernel, by decide +kernel⟩
abbrev s_Table___getitem__ : Stmt := inClass (topS 31) 6
abbrev N_Table___getitem__ : List Str := ["self", "at"]
theorem sc_Table___getitem__ : FnScope N_Table___getitem__ ["self", "at"] (defScope s_Table___getitem__) := ⟨rfl, rfl, rfl, by decide +kernel, rfl, by decide +kernel, by decide +kernel⟩
abbrev s_Table___iter__ : Stmt := inClass (topS 31) 7
abbrev N_Table___iter__ : List Str := ["self"]
theorem sc_Table___iter__ : FnScope N_Table___iter__ ["self"] (defScope s_Table___iter__) := ⟨rfl, rfl, rfl, by decide +kernel, rfl, by decide +kernel, by decide +kernel⟩
abbrev s_Table___len__ : Stmt := inClass (topS 31) 8
abbrev N_Table___len__ : List Str := ["self"]
theorem sc_Table___len__ : FnScope N_Table___len__ ["self"] (defScope s_Table___len__) := ⟨rfl, rfl, rfl, by decide +kernel, rfl, by decide +kernel, by decide +kernel⟩
abbrev s_Table___bool__ : Stmt := inClass (topS 31) 9
abbrev N_Table___bool__ : List Str := ["self"]
theorem sc_Table___bool__ : FnScope N_Table___bool__ ["self"] (defScope s_Table___bool__) := ⟨rfl, rfl, rfl, by decide +kernel, rfl, by decide +kernel, by decide +kernel⟩
abbrev s_Table___str__ : Stmt := inClass (topS 31) 10
abbrev N_Table___str__ : List Str := ["self"]
theorem sc_Table___str__ : FnScope N_Table___str__ ["self"] (defScope s_Table___str__) := ⟨rfl, rfl, rfl, by decide +kernel, rfl, by decide +kernel, by decide +kernel⟩
abbrev s_Table___eq__ : Stmt := inClass (topS 31) 11
abbrev N_Table___eq__ : List Str := ["self", "other"]
theorem sc_Table___eq__ : FnScope N_Table___eq__ ["self", "other"] (defScope s_Table___eq__) := ⟨rfl, rfl, rfl, by decide +kernel, rfl, by decide +kernel, by decide +kernel⟩
abbrev s_ask_for_table : Stmt := topS 32
abbrev N_ask_for_table : List Str := ["value"]
theorem sc_ask_for_table : FnScope N_ask_for_table ["value"] (defScope s_ask_for_table) := ⟨rfl, rfl, rfl, by decide +kernel, rfl, by decide +kernel, by decide +kernel⟩
abbrev s_turned : Stmt := topS 33
abbrev N_turned : List Str := ["table", "edit", "past", "first", "options"]
theorem sc_turned : FnScope N_turned ["table", "edit", "past", "first"] (defScope s_turned) := ⟨rfl, rfl, rfl, by decide +kernel, rfl, by decide +kernel, by decide +kernel⟩
abbrev s_compared : Stmt := topS 34
abbrev N_compared : List Str := ["mine", "its", "words"]
theorem sc_compared : FnScope N_compared ["mine", "its", "words"] (defScope s_compared) := ⟨rfl, rfl, rfl, by decide +kernel, rfl, by decide +kernel, by decide +kernel⟩
abbrev s_conditions_met : Stmt := topS 35
abbrev N_conditions_met : List Str := ["edit", "past", "first", "met"]
theorem sc_conditions_met : FnScope N_conditions_met ["edit", "past", "first"] (defScope s_conditions_met) := ⟨rfl, rfl, rfl, by decide +kernel, rfl, by decide +kernel, by decide +kernel⟩
abbrev s_chosen : Stmt := topS 36
abbrev N_chosen : List Str := ["options", "met", "option", "condition", "_", "result"]
theorem sc_chosen : FnScope N_chosen ["options", "met"] (defScope s_chosen) := ⟨rfl, rfl, rfl, by decide +kernel, rfl, by decide +kernel, by decide +kernel⟩
abbrev s_formed : Stmt := topS 37
abbrev N_formed : List Str := ["edit", "result"]
theorem sc_formed : FnScope N_formed ["edit", "result"] (defScope s_formed) := ⟨rfl, rfl, rfl, by decide +kernel, rfl, by decide +kernel, by decide +kernel⟩
abbrev s_alike : Stmt := topS 42
abbrev N_alike : List Str := ["one", "other"]
theorem sc_alike : FnScope N_alike ["one", "other"] (defScope s_alike) := ⟨rfl, rfl, rfl, by decide +kernel, rfl, by decide +kernel, by decide +kernel⟩
abbrev s_unlike : Stmt := topS 43
abbrev N_unlike : List Str := ["one", "other", "edit", "past", "first"]
theorem sc_unlike : FnScope N_unlike ["one", "other"] (defScope s_unlike) := ⟨rfl, rfl, rfl, by decide +kernel, rfl, by decide +kernel, by decide +kernel⟩
abbrev s_pairs : Stmt := topS 44
abbrev N_pairs : List Str := ["kinds", "signs", "mine", "its", "places", "order"]
theorem sc_pairs : FnScope N_pairs ["kinds"] (defScope s_pairs) := ⟨rfl, rfl, rfl, by decide +kernel, rfl, by decide +kernel, by decide +kernel⟩
abbrev s_made : Stmt := topS 45
abbrev N_made : List Str := ["kind", "place", "sign"]
theorem sc_made : FnScope N_made ["kind", "place", "sign"] (defScope s_made) := ⟨rfl, rfl, rfl, by decide +kernel, rfl, by decide +kernel, by decide +kernel⟩
abbrev s__law_purse : Stmt := topS 47
abbrev N__law_purse : List Str := ["script", "k", "cell", "digits", "seed"]
theorem sc__law_purse : FnScope N__law_purse ["script", "k"] (defScope s__law_purse) := ⟨rfl, rfl, rfl, by decide +kernel, rfl, by decide +kernel, by decide +kernel⟩
abbrev s__law_draw : Stmt := topS 48
abbrev N__law_draw : List Str := ["purse", "size", "seed", "by", "digit"]
theorem sc__law_draw : FnScope N__law_draw ["purse", "size"] (defScope s__law_draw) := ⟨rfl, rfl, rfl, by decide +kernel, rfl, by decide +kernel, by decide +kernel⟩
abbrev s__law_pick : Stmt := topS 49
abbrev N__law_pick : List Str := ["purse", "menu"]
theorem sc__law_pick : FnScope N__law_pick ["purse", "menu"] (defScope s__law_pick) := ⟨rfl, rfl, rfl, by decide +kernel, rfl, by decide +kernel, by decide +kernel⟩
abbrev s__law_good : Stmt := topS 50
abbrev N__law_good : List Str := ["cells"]
theorem sc__law_good : FnScope N__law_good [] (defScope s__law_good) := ⟨rfl, rfl, rfl, by decide +kernel, rfl, by decide +kernel, by decide +kernel⟩
abbrev s__law_options : Stmt := topS 51
abbrev N__law_options : List Str := ["purse", "mine", "its", "sorts", "is_asked", "results", "words", "found", "k"]
theorem sc__law_options : FnScope N__law_options ["purse", "mine", "its", "sorts", "is_asked"] (defScope s__law_options) := ⟨rfl, rfl, rfl, by decide +kernel, rfl, by decide +kernel, by decide +kernel⟩
abbrev s__law_cells : Stmt := topS 52
abbrev N__law_cells : List Str := ["purse", "sorts", "bends", "is_asked", "good", "found", "key", "k", "mine", "its"]
theorem sc__law_cells : FnScope N__law_cells ["purse", "sorts", "bends", "is_asked"] (defScope s__law_cells) := ⟨rfl, rfl, rfl, by decide +kernel, rfl, by decide +kernel, by decide +kernel⟩
abbrev s__law_text : Stmt := topS 53
abbrev N__law_text : List Str := ["sorts", "cells", "found", "key"]
theorem sc__law_text : FnScope N__law_text ["sorts", "cells"] (defScope s__law_text) := ⟨rfl, rfl, rfl, by decide +kernel, rfl, by decide +kernel, by decide +kernel⟩
abbrev s__law_turned : Stmt := topS 54
abbrev N__law_turned : List Str := ["cells", "mine", "its", "is_first", "relation", "word", "parts", "holds_here", "sides", "shifts", "head"]
theorem sc__law_turned : FnScope N__law_turned ["cells", "mine", "its", "is_first"] (defScope s__law_turned) := ⟨rfl, rfl, rfl, by decide +kernel, rfl, by decide +kernel, by decide +kernel⟩
abbrev s__law_play : Stmt := topS 55
abbrev N__law_play : List Str := ["row", "edit"]
theorem sc__law_play : FnScope N__law_play ["row", "edit"] (defScope s__law_play) := ⟨rfl, rfl, rfl, by decide +kernel, rfl, by decide +kernel, by decide +kernel⟩
abbrev s__law_end : Stmt := topS 56
abbrev N__law_end : List Str := ["cells", "row", "made_v", "line", "forms", "k", "own", "later"]
theorem sc__law_end : FnScope N__law_end ["cells", "row", "made_v", "line"] (defScope s__law_end) := ⟨rfl, rfl, rfl, by decide +kernel, rfl, by decide +kernel, by decide +kernel⟩
abbrev s__law_lines : Stmt := topS 57
abbrev N__law_lines : List Str := ["count", "found", "k", "longer", "row", "at"]
theorem sc__law_lines : FnScope N__law_lines ["count"] (defScope s__law_lines) := ⟨rfl, rfl, rfl, by decide +kernel, rfl, by decide +kernel, by decide +kernel⟩
abbrev s__law_sorts : Stmt := topS 58
abbrev N__law_sorts : List Str := ["purse", "most_here", "menu", "row"]
theorem sc__law_sorts : FnScope N__law_sorts ["purse", "most_here"] (defScope s__law_sorts) := ⟨rfl, rfl, rfl, by decide +kernel, rfl, by decide +kernel, by decide +kernel⟩
abbrev s__law_caught : Stmt := topS 59
abbrev N__law_caught : List Str := ["act", "e", "some", "word"]
theorem sc__law_caught : FnScope N__law_caught ["act"] (defScope s__law_caught) := ⟨rfl, rfl, rfl, by decide +kernel, rfl, by decide +kernel, by decide +kernel⟩
abbrev s__law_right : Stmt := topS 60
abbrev N__law_right : List Str := ["purse", "turn", "sorts", "both", "head", "tail", "dues", "due", "told", "row", "each"]
theorem sc__law_right : FnScope N__law_right ["purse"] (defScope s__law_right) := ⟨rfl, rfl, rfl, by decide +kernel, rfl, by decide +kernel, by decide +kernel⟩
abbrev s_law : Stmt := topS 61
abbrev N_law : List Str := ["script", "k"]
theorem sc_law : FnScope N_law ["script"] (defScope s_law) := ⟨rfl, rfl, rfl, by decide +kernel, rfl, by decide +kernel, by decide +kernel⟩
end T
namespace T
open PySem PySem.Spec PyProof.Rows L2 XB
section
variable {P : Program} {w : World} {K : PySem.W.Frag} {mg : Str → Option Value} {base : Heap}
/-! ### _law_purse -/
def spPurse (K : PySem.W.Frag) : Sp := fun vs H Q _ => ∃ (a : Addr) (ns : List Int) (k : Int), vs = [.ref a, .int k] ∧ SqL K H a (ns.map V.int) ∧ 0 ≤ k ∧ k < 2 ^ 20 ∧ ns.length ≤ 1000 ∧ ∀ p H', Same H H' → H p = none → Purse H' p → Q (.ref p) H'
theorem c_purse (D : At K mg "_law_purse" s__law_purse ["script", "k"]) (B : Bl mg) : C8.Cal P w K mg base 1 "_law_purse" (spPurse K) [] := by
  refine cal_of D sc__law_purse (fun vs H Q E h => ?_) (fun f cdv A outer s H vs Q E hr h => ?_)
  · obtain ⟨a, ns, k, rfl, _⟩ := h
    rfl
  · obtain ⟨a, ns, k, rfl, hS, k0, k1, hl, q⟩ := h
    refine ⟨_, pss_cons (ps_if (pt_cmpR op_lt (pv 1) (pe_callB call_len_seq (by rfl) B.len PySem.boot_len (pa_cons (pv 0) pa_nil)) (nomark _))
        (pss_cons (ps_set (i := 2) sc__law_purse.nd rfl (.inl rfl) (pe_ix ix_list (pv 0) (pv 1) (fun _ _ => rfl)))
        (pss_cons (ps_set (i := 3) sc__law_purse.nd rfl (.inl rfl) (pe_ifExp (PW.pt (pw_or (pt_cmpR op_lt (pv 2) pe_int (nomark _)) (pw_or1 (pt_cmpR op_ge (pv 2) (pe_op op_pow pe_int pe_int) (nomark _))))) (pe_callB call_abs (by rfl) B.abs_ (by decide +kernel) (pa_cons (pv 2) pa_nil)) pe_int))
        (pss_one (ps_ret (pe_lst (pa_cons (pv 3) (pa_cons (pe_op op_mod (pe_callTy call_int1 (by rfl) B.int_ (by decide +kernel) (pa_cons (pe_op op_add (pe_op op_add (pe_op op_mul (pv 2) pe_int) (pe_op op_mul pe_int (pv 1))) pe_int) pa_nil)) pe_int) (pa_cons pe_int pa_nil)))))))) pss_nil)
      (pss_cons (ps_set (i := 4) sc__law_purse.nd rfl (.inl rfl) (pe_op op_add (pe_op op_mul pe_int (pv 1)) pe_int))
      (pss_cons (ps_for PassesOwn.never rfl (pi_list (pe_slice sl_list (pv 0) po_none (po_some pe_int))) (pg_name (i := 2) sc__law_purse.nd rfl (.inl rfl))
        (pss_one (ps_set (i := 4) sc__law_purse.nd rfl (.inl rfl) (pe_op op_mod (pe_callTy call_int1 (by rfl) B.int_ (by decide +kernel) (pa_cons (pe_op op_add (pe_op op_mul (pv 4) pe_int) (pv 2)) pa_nil)) pe_int))))
      (pss_one (ps_ret (pe_lst (pa_cons pe_int (pa_cons (pv 4) (pa_cons pe_int pa_nil)))))))), ?_⟩
    refine ⟨_, rfl, _, rfl, a, _, rfl, .inl hS, k, _, rfl, rfl, _, rfl, ite2 (fun e => ?_) (fun e => ?_)⟩
    · have hk : k.toNat < ns.length := by
        have z := of_decide_eq_true e
        rw [List.length_map] at z
        omega
      have g : (ns.map V.int)[k.toNat]? = some (.int ns[k.toNat]) := by
        rw [List.getElem?_map, List.getElem?_eq_getElem hk]
        rfl
      refine ⟨_, rfl, _, rfl, a, _, k, _, rfl, rfl, hS, at_of (by omega) g, ?_⟩
      generalize ns[k.toNat] = c
      have last : ∀ dg : Int, (tRet (tLst (tCons (tVar 3) (tCons (tOp (rI (fun _ j => 0 < j) fun i j => .int (i % j)) (tCB (fun xs H Q => (∃ i, xs = [V.int i] ∧ Q (V.int i) H) ∨ ∃ k, xs = [V.bl k] ∧ Q (V.int (if k = true then 1 else 0)) H)
          (tCons (tOp (rI0 fun i j => V.int (i + j)) (tOp (rI0 fun i j => V.int (i + j)) (tOp (rI CMul fun i j => V.int (i * j)) (tVar 2) (tC (V.int 39373))) (tOp (rI CMul fun i j => V.int (i * j)) (tC (V.int 104723)) (tVar 1))) (tC (V.int 17))) tNil)) (tC (V.int 2147483629))) (tCons (tC (V.int 0)) tNil)))))
          { nx := fun _ _ => True, rt := Q } [some (.ref a), some (.int k), some (.int c), some (.int dg), none] H := fun dg => by
        refine ⟨_, rfl, _, rfl, _, _, rfl, rfl, .inr ⟨by decide, by decide⟩, _, rfl, _, _, rfl, rfl, .inl ⟨by decide, by decide⟩, _, _, rfl, rfl, _, _, rfl, rfl, .inl ⟨_, rfl, _, _, rfl, rfl, (by show (0 : Int) < 2147483629; decide), (by show 3 ≤ sizeLine; decide), fun p hp => ?_⟩⟩
        exact q p _ (Same.new (Same.refl H) hp) hp ⟨_, _, _, upd_same⟩
      refine ⟨_, rfl, _, _, rfl, rfl, _, rfl, ite2 (fun e1 => ?_) (fun e1 => ?_)⟩
      · exact ⟨_, rfl, _, rfl, last _⟩
      · refine ⟨_, rfl, _, _, rfl, rfl, ⟨by decide, by decide, by decide⟩, _, _, rfl, rfl, _, rfl, ite2 (fun e2 => ?_) (fun e2 => ?_)⟩
        · exact ⟨_, rfl, _, rfl, last _⟩
        · exact last _
    · refine ⟨_, rfl, _, _, rfl, rfl, .inl ⟨by decide, by decide⟩, _, _, rfl, rfl, ?_⟩
      refine ⟨_, rfl, 4, rfl, a, _, rfl, hS, fun c nc => ?_⟩
      have sm : Same H (upd H c (.lst (cutV (ns.map V.int) none (some 4)))) := Same.new (Same.refl H) nc
      refine ⟨c, rfl, ⟨_, .inl (.inl upd_same)⟩, for_list (K := K) (a := c) (xs := cutV (ns.map V.int) none (some 4))
        (fun i σ H' => ∃ (z : Int) (v : Option V), σ = [some (.ref a), some (.int k), v, none, some (.int z)] ∧ H' = upd H c (.lst (cutV (ns.map V.int) none (some 4)))) ⟨_, none, rfl, rfl⟩ (fun i σ H' _ ⟨_, _, _, e⟩ => by rw [e]; exact .inl (.inl upd_same)) ?_ ?_⟩
      · rintro i y σ H' hi ⟨z, v, rfl, rfl⟩
        obtain ⟨u, rfl⟩ : ∃ u, y = V.int u := by
          have m : y ∈ ns.map V.int := List.mem_of_mem_drop (List.mem_of_mem_take (List.mem_of_getElem? hi))
          obtain ⟨u, _, e⟩ := List.mem_map.mp m
          exact ⟨u, e.symm⟩
        exact ⟨_, rfl, _, _, rfl, rfl, .inr ⟨by decide, by decide⟩, _, rfl, _, _, rfl, rfl, .inl ⟨_, rfl, _, _, rfl, rfl, (by show (0 : Int) < 2147483587; decide), _, _, rfl, rfl⟩⟩
      · rintro σ H' ⟨z, v, rfl, rfl⟩
        exact ⟨_, rfl, (by show 3 ≤ sizeLine; decide), fun p hp => q p _ (Same.new sm hp) (sm.free hp) ⟨_, _, _, upd_same⟩⟩
/-! ### _law_draw -/
theorem short_div {d n : Int} (h0 : 0 < n) (h1 : n < 2 ^ 62) : Builtin.divisionGoesByPylong d n = false := by
  have a : n.natAbs < 2 ^ 62 := by omega
  have b : n.natAbs ≠ 0 := by omega
  have l : n.natAbs.log2 < 62 := (Nat.log2_lt b).mpr a
  show (decide ((if n == 0 then 0 else n.natAbs.log2 / 30 + 1) > 300) && decide ((if d == 0 then 0 else d.natAbs.log2 / 30 + 1) > (if n == 0 then 0 else n.natAbs.log2 / 30 + 1) + 150)) = false
  rw [if_neg (show ¬ (n == 0) = true by simpa using (show n ≠ 0 by omega)), decide_eq_false (show ¬ (n.natAbs.log2 / 30 + 1 > 300) by omega), Bool.false_and]
def spDraw : Sp := fun vs H Q _ => ∃ (p : Addr) (n : Int), vs = [.ref p, .int n] ∧ Purse H p ∧ 0 < n ∧ n < 2 ^ 62 ∧ ∀ i H', 0 ≤ i → i < n → Purse H' p → Chg p H H' → Q (.int i) H'
theorem c_draw (D : At K mg "_law_draw" s__law_draw ["purse", "size"]) (B : Bl mg) : C8.Cal P w K mg base 1 "_law_draw" spDraw [] := by
  refine cal_of D sc__law_draw (fun vs H Q E h => ?_) (fun f cdv A outer s H vs Q E hr h => ?_)
  · obtain ⟨a, k, rfl, _⟩ := h
    rfl
  · obtain ⟨p, n, rfl, ⟨d, z, c, hp⟩, n0, n1, q⟩ := h
    refine ⟨_, pss_cons (ps_par (i := 2) (j := 3) (by rfl) sc__law_draw.nd rfl rfl (by decide) rfl rfl (pa_cons (pe_ix ix_list (pv 0) pe_int (fun _ _ => rfl)) (pa_cons (pe_op op_add (pe_op op_mod (pe_callTy call_int1 (by rfl) B.int_ (by decide +kernel) (pa_cons (pe_ix ix_list (pv 0) pe_int (fun _ _ => rfl)) pa_nil)) pe_int) pe_int) pa_nil)) (by rfl))
      (pss_cons (ps_asg (pe_op op_add (pe_ix ix_list (pv 0) pe_int (fun _ _ => rfl)) pe_int) (pg_sub (pv 0) pe_int set_list))
      (pss_cons (ps_asg (pe_op op_mod (pe_callTy call_int1 (by rfl) B.int_ (by decide +kernel) (pa_cons (pe_op op_add (pe_op op_add (pe_op op_mul (pv 2) (pv 3)) (pe_op op_mul pe_int (pe_ix ix_list (pv 0) pe_int (fun _ _ => rfl)))) pe_int) pa_nil)) pe_int) (pg_sub (pv 0) pe_int set_list))
      (pss_cons (ps_if (pt_cmpR op_gt (pe_ix ix_list (pv 0) pe_int (fun _ _ => rfl)) pe_int (nomark _))
        (pss_cons (ps_asg (pe_callB call_divmodW (by rfl) B.divmod (by decide +kernel) (pa_cons (pe_ix ix_list (pv 0) pe_int (fun _ _ => rfl)) (pa_cons (pv 1) pa_nil))) (pg_tup (by rfl) (pgs_cons (pg_sub (pv 0) pe_int set_list) (pgs_cons (pg_name (i := 4) sc__law_draw.nd rfl (.inl rfl)) pgs_nil))))
          (pss_one (ps_ret (pv 4)))) pss_nil)
      (pss_one (ps_ret (pe_op op_modN (pe_callTy call_int1 (by rfl) B.int_ (by decide +kernel) (pa_cons (pe_op op_fdiv (pe_ix ix_list (pv 0) pe_int (fun _ _ => rfl)) pe_int) pa_nil)) (pv 1))))))), ?_⟩
    refine ⟨_, rfl, p, _, 1, _, rfl, rfl, SqL.of hp, atI_nat (j := 1) rfl, _, rfl, p, _, 1, _, rfl, rfl, SqL.of hp, atI_nat (j := 1) rfl, .inl ⟨_, rfl, _, _, rfl, rfl, (by show (0 : Int) < 40009; decide), _, _, rfl, rfl, _, _, rfl, ?_⟩⟩
    have b0 : 0 ≤ z % 40009 := Int.emod_nonneg _ (by decide)
    have b1 : z % 40009 < 40009 := Int.emod_lt_of_pos _ (by decide)
    refine ⟨_, rfl, p, _, 2, _, rfl, rfl, SqL.of hp, atI_nat (j := 2) rfl, _, _, rfl, rfl, _, rfl, p, _, 2, 2, rfl, rfl, hp, rfl, ?_⟩
    refine ⟨_, rfl, _, rfl, _, _, rfl, rfl, .inr ⟨by omega, by omega⟩, _, rfl, p, _, 2, _, rfl, rfl, SqL.of upd_same, atI_nat (j := 2) rfl, _, _, rfl, rfl, .inl ⟨by decide, by decide⟩, _, _, rfl, rfl, _, _, rfl, rfl, .inl ⟨_, rfl, _, _, rfl, rfl, (by show (0 : Int) < 2147483629; decide), _, rfl, p, _, 1, 1, rfl, rfl, upd_same, rfl, ?_⟩⟩
    have ch : ∀ o u, Chg p H (upd (upd H p o) p u) := fun o u => (Chg.refl p H).at.at
    refine ⟨_, rfl, p, _, 0, _, rfl, rfl, SqL.of upd_same, atI_nat (j := 0) rfl, _, _, rfl, rfl, _, rfl, ite2 (fun _ => ?_) (fun _ => ?_)⟩
    · refine ⟨_, rfl, p, _, 0, _, rfl, rfl, SqL.of upd_same, atI_nat (j := 0) rfl, _, rfl, _, n, rfl, ⟨n0, ?_⟩, fun t ht => ?_⟩
      · exact short_div n0 n1
      · have nt : p ≠ t := ne_of_none upd_same ht
        refine ⟨t, _, rfl, .inl (.inl upd_same), rfl, _, _, rfl, _, rfl, p, _, 0, 0, rfl, rfl, (by rw [upd_ne nt]; exact upd_same), rfl, _, _, rfl, rfl, ?_⟩
        refine ⟨_, rfl, q _ _ (Int.emod_nonneg _ (by omega)) (Int.emod_lt_of_pos _ n0) ⟨_, _, _, upd_same⟩ ?_⟩
        exact (Chg.new (ch _ _) ht).at
    · refine ⟨_, rfl, p, _, 1, _, rfl, rfl, SqL.of upd_same, atI_nat (j := 1) rfl, _, _, rfl, rfl, ⟨by decide, by decide⟩, .inl ⟨_, rfl, _, rfl, _, _, rfl, rfl, (by omega), ?_⟩⟩
      refine q _ _ ?_ ?_ ⟨_, _, _, upd_same⟩ (ch _ _)
      · rw [Int.fmod_eq_emod_of_nonneg _ (by omega)]
        exact Int.emod_nonneg _ (by omega)
      · rw [Int.fmod_eq_emod_of_nonneg _ (by omega)]
        exact Int.emod_lt_of_pos _ n0
/-! ### _law_pick -/
def spPick (K : PySem.W.Frag) : Sp := fun vs H Q _ => ∃ (p : Addr) (m : V), vs = [.ref p, m] ∧ Purse H p ∧
  ((∃ (a : Addr) (xs : List V), m = .ref a ∧ a ≠ p ∧ SqL K H a xs ∧ xs ≠ [] ∧ xs.length ≤ 1000 ∧ ∀ x ∈ xs, ∀ H', Purse H' p → Chg p H H' → Q x H') ∨
   ∃ z : Str, m = .str z ∧ 0 < z.length ∧ z.length ≤ 1000 ∧ ∀ c ∈ z.cps.toList, ∀ H', Purse H' p → Chg p H H' → Q (.str ⟨#[c]⟩) H')
theorem c_pick (D : At K mg "_law_pick" s__law_pick ["purse", "menu"]) (B : Bl mg) (Cd : C8.Cal P w K mg base 1 "_law_draw" spDraw []) : C8.Cal P w K mg base 2 "_law_pick" (spPick K) [] := by
  refine cal_of D sc__law_pick (fun vs H Q E h => ?_) (fun f cdv A outer s H vs Q E hr h => ?_)
  · obtain ⟨a, k, rfl, _⟩ := h
    rfl
  · obtain ⟨p, m, rfl, hp, h⟩ := h
    refine ⟨_, pss_one (ps_ret (pe_ix ix_seq (pv 1) (C8.pe_c Cd hr (by decide) (by rfl) (pa_cons (pv 0) (pa_cons (pe_callB call_len (by rfl) B.len (by decide +kernel) (pa_cons (pv 1) pa_nil)) pa_nil))) (fun _ _ => rfl))), ?_⟩
    rcases h with ⟨a, xs, rfl, ne, hS, hne, hl, q⟩ | ⟨z, rfl, z0, z1, q⟩
    · have l0 : 0 < xs.length := List.length_pos_iff.mpr hne
      refine ⟨_, rfl, _, rfl, _, rfl, _, xs.length, rfl, .inl ⟨_, hS, rfl⟩, p, _, rfl, hp, by omega, by omega, fun i H' i0 i1 hp' ch => ?_⟩
      have hi : i.toNat < xs.length := by omega
      exact .inl ⟨a, xs, i, xs[i.toNat], rfl, rfl, ch.seq ne hS, at_of (j := i.toNat) (by omega) (List.getElem?_eq_getElem hi), q _ (List.getElem_mem hi) H' hp' ch⟩
    · refine ⟨_, rfl, _, rfl, _, rfl, _, z.length, rfl, ⟨Nat.le_trans z1 (by rw [sizeLine_eq]; omega), rfl⟩, p, _, rfl, hp, by omega, by omega, fun i H' i0 i1 hp' ch => ?_⟩
      have hz : z.cps.toList.length = z.length := Array.length_toList
      have hi : i.toNat < z.cps.toList.length := by omega
      exact .inr (.inr ⟨z, i, z.cps.toList[i.toNat], rfl, rfl, Nat.le_trans z1 (by rw [sizeLine_eq]; omega), (by have e := atI_nat (xs := z.cps.toList) (j := i.toNat) (List.getElem?_eq_getElem hi); rwa [show ((i.toNat : Nat) : Int) = i by omega] at e), q _ (List.getElem_mem hi) H' hp' ch⟩)
/-! ### _law_sorts -/
def kinds7 : List (List Str) := [["put"], ["out"], ["set"], ["put", "out"], ["put", "set"], ["out", "set"], ["put", "out", "set"]]
/-- one of the seven lists of kinds stands at l -/
def KL (H : Hp) (p l : Addr) : Prop := ∃ ks, ks ∈ kinds7 ∧ H l = some (.lst (sl ks)) ∧ l ≠ p
theorem KL.new {H : Hp} {p l q : Addr} {o : HO} (h : KL H p l) (n : H q = none) : KL (upd H q o) p l := by
  obtain ⟨ks, a, b, c⟩ := h
  exact ⟨ks, a, by rw [upd_ne (ne_of_none b n)]; exact b, c⟩
theorem KL.chg {H H' : Hp} {p l : Addr} (h : KL H p l) (c : Chg p H H') : KL H' p l := by
  obtain ⟨ks, a, b, n⟩ := h
  exact ⟨ks, a, c _ _ n b, n⟩
theorem KL.mk {H : Hp} {p l : Addr} (ks : List Str) (m : ks ∈ kinds7) (hp : Purse H p) (n : H l = none) : KL (upd H l (.lst (sl ks))) p l := ⟨ks, m, upd_same, (hp.ne n).symm⟩
def spSorts : Sp := fun vs H Q _ => ∃ p, vs = [.ref p] ∧ Purse H p ∧ ∀ l ks H', ks ∈ kinds7 → H' l = some (.lst (sl ks)) → l ≠ p → Purse H' p → Chg p H H' → Q (.ref l) H'
end
end T
/-! Own: more rules for terms whose heap only grows. -/
namespace XB
open PySem PySem.Spec PyProof.Rows L2 Evl
section
variable {K : PySem.W.Frag} {σ : L2.St} {H : Hp} {t : TT} {ta tb : TE} {xs ys : List V}
theorem el_if {b : Bool} (h : EvT t σ H b) (h1 : b = true → EvL ta σ H xs) (h2 : b = false → EvL tb σ H xs) : EvL (tIf t ta tb) σ H xs := fun H1 e Q q => h H1 e _ fun H2 e2 => by
  cases b with
  | true => exact iteT ((h1 rfl) H2 (e.trans e2) Q fun p H3 n3 e3 h3 => q p H3 (fresh_back e2 n3) (e2.trans e3) h3)
  | false => exact iteF ((h2 rfl) H2 (e.trans e2) Q fun p H3 n3 e3 h3 => q p H3 (fresh_back e2 n3) (e2.trans e3) h3)
theorem el_cat (ha : EvL ta σ H xs) (hb : EvL tb σ H ys) (hz : xs.length + ys.length ≤ 100000) : EvL (tOp rCat ta tb) σ H (xs ++ ys) := fun H1 e Q q =>
  ha H1 e _ fun p H2 n2 e2 h2 => hb H2 (e.trans e2) _ fun r H3 n3 e3 h3 =>
    ⟨p, r, xs, ys, rfl, rfl, e3 _ _ h2, h3, sz_of hz, fun l nl => q l _ (fresh_back (e2.trans e3) nl) ((e2.trans e3).trans (Ex.new nl)) upd_same⟩
theorem el_is {zs : List V} (h : EvL ta σ H xs) (e : xs = zs) : EvL ta σ H zs := e ▸ h
theorem el_at {p : Addr} (h : Ev ta σ H (.ref p)) : Ev ta σ H (.ref p) := h
theorem flat_sl (xs : List Str) : (sl xs).all flatV = true := by
  induction xs with
  | nil => rfl
  | cons x r ih => exact ih
theorem eqV_str (x y : Str) : eqV (.str y) (.str x) = decide (y = x) := by
  show (y == x) = decide (y = x)
  by_cases h : y = x
  · rw [decide_eq_true h]; exact beq_iff_eq.mpr h
  · rw [decide_eq_false h]; exact Bool.eq_false_iff.mpr fun z => h (beq_iff_eq.mp z)
theorem inV_sl (x : Str) (xs : List Str) : inV (.str x) (sl xs) = decide (x ∈ xs) := by
  induction xs with
  | nil => rfl
  | cons y r ih =>
    show (eqV (.str y) (.str x) || inV (.str x) (sl r)) = _
    rw [ih, eqV_str]
    by_cases h : y = x
    · rw [decide_eq_true h, Bool.true_or, h]
      exact (decide_eq_true (List.mem_cons_self)).symm
    · rw [decide_eq_false h, Bool.false_or]
      exact decide_eq_decide.mpr ⟨fun m => List.mem_cons_of_mem _ m, fun m => (List.mem_cons.mp m).elim (fun z => absurd z.symm h) id⟩
/-- a text in a list, in a tuple, of texts -/
theorem ev_inL {x : Str} {a : Addr} {ws : List Str} (hx : Ev ta σ H (.str x)) (ha : Ev tb σ H (.ref a)) (h : SqL K H a (sl ws)) : Ev (tOp (rIn K false) ta tb) σ H (.bl (decide (x ∈ ws))) :=
  ev_is (ev_op hx ha (rv_isL h rfl (flat_sl ws))) (by rw [inV_sl])
theorem ev_inT {x : Str} {a : Addr} {ws : List Str} (hx : Ev ta σ H (.str x)) (ha : Ev tb σ H (.ref a)) (h : SqT K H a (sl ws)) : Ev (tOp (rIn K false) ta tb) σ H (.bl (decide (x ∈ ws))) :=
  ev_is (ev_op hx ha (rv_isT h rfl (flat_sl ws))) (by rw [inV_sl])
theorem ev_eqS {x y : Str} (hx : Ev ta σ H (.str x)) (hy : Ev tb σ H (.str y)) : Ev (tOp rEq ta tb) σ H (.bl (decide (x = y))) :=
  ev_is (ev_op hx hy (rv_eq rfl)) (by
    by_cases h : x = y
    · rw [decide_eq_true h, h, decide_eq_true rfl]
    · rw [decide_eq_false h, decide_eq_false fun z => h (by injection z)])
theorem len_sl (xs : List Str) : (sl xs).length = xs.length := List.length_map _
theorem sl_cat (xs ys : List Str) : sl xs ++ sl ys = sl (xs ++ ys) := (List.map_append).symm
theorem at_sl {H : Hp} {a : Addr} {xs ys zs : List Str} (h : H a = some (.lst (sl xs ++ sl ys))) (e : xs ++ ys = zs) : H a = some (.lst (sl zs)) := by rw [h, sl_cat, e]
/-- joins and cuts -/
def rJoin (K : PySem.W.Frag) : V → List V → Hp → VK → Prop := fun x xs H Q => ∃ a p, ∃ ys : List Str, x = .str a ∧ xs = [.ref p] ∧ (SqL K H p (ys.map V.str) ∨ SqT K H p (ys.map V.str)) ∧
  (ys.map (·.length)).sum + ys.length * a.length ≤ 16777216 ∧ Q (.str (Txt.join a ys)) H
def rSplit : V → List V → Hp → VK → Prop := fun x xs H Q => ∃ a b, x = .str a ∧ xs = [.str b] ∧ (b.length == 0) = false ∧ a.length + 2 ≤ sizeLine ∧ rNewStrs (Txt.split a b) H Q
theorem ev_join {sep : Str} {ys : List Str} (ho : Ev ta σ H (.str sep)) (he : EvL tb σ H (sl ys)) (hz : (ys.map (·.length)).sum + ys.length * sep.length ≤ 16777216) : Ev (tM1 (rJoin K) ta tb) σ H (.str (Txt.join sep ys)) := fun H1 e Q q =>
  ho H1 e _ fun H2 e2 => ⟨⟨_, rfl⟩, he H2 (e.trans e2) _ fun p H3 n3 e3 h3 => ⟨sep, p, ys, rfl, rfl, .inl (SqL.of h3), hz, q H3 (e2.trans e3)⟩⟩
theorem ev_joinS {sep : Str} {ys : List Str} {p : Addr} (ho : Ev ta σ H (.str sep)) (he : Ev tb σ H (.ref p)) (h : SqL K H p (sl ys) ∨ SqT K H p (sl ys)) (hz : (ys.map (·.length)).sum + ys.length * sep.length ≤ 16777216) : Ev (tM1 (rJoin K) ta tb) σ H (.str (Txt.join sep ys)) := fun H1 e Q q =>
  ho H1 e _ fun H2 e2 => ⟨⟨_, rfl⟩, he H2 (e.trans e2) _ fun H3 e3 => ⟨sep, p, ys, rfl, rfl, h.elim (fun z => .inl (ex_l ((e.trans e2).trans e3) z)) (fun z => .inr (ex_t ((e.trans e2).trans e3) z)), hz, q H3 (e2.trans e3)⟩⟩
theorem el_split {x sep : Str} (ho : Ev ta σ H (.str x)) (he : Ev tb σ H (.str sep)) (h0 : (sep.length == 0) = false) (hz : x.length + 2 ≤ sizeLine) : EvL (tM1 rSplit ta tb) σ H (sl (Txt.split x sep)) := fun H1 e Q q =>
  ho H1 e _ fun H2 e2 => ⟨⟨_, rfl⟩, he H2 (e.trans e2) _ fun H3 e3 => ⟨x, sep, rfl, rfl, h0, hz, fun p n => q p _ (fresh_back (e2.trans e3) n) ((e2.trans e3).trans (Ex.new n)) upd_same⟩⟩
theorem el_catR {b : Addr} (ha : EvL ta σ H xs) (hb : Ev tb σ H (.ref b)) (h : H b = some (.lst ys)) (hz : xs.length + ys.length ≤ 100000) : EvL (tOp rCat ta tb) σ H (xs ++ ys) := fun H1 e Q q =>
  ha H1 e _ fun p H2 n2 e2 h2 => hb H2 (e.trans e2) _ fun H3 e3 =>
    ⟨p, b, xs, ys, rfl, rfl, e3 _ _ h2, e3 _ _ (e2 _ _ (e _ _ h)), sz_of hz, fun l nl => q l _ (fresh_back (e2.trans e3) nl) ((e2.trans e3).trans (Ex.new nl)) upd_same⟩
theorem el_listS {p : Addr} (ha : Ev ta σ H (.ref p)) (h : SqL K H p xs ∨ SqT K H p xs) : EvL (tCB (rListS K) (tCons ta tNil)) σ H xs := fun H1 e Q q =>
  ha H1 e _ fun H2 e2 => ⟨p, xs, rfl, h.elim (fun z => .inl (ex_l (e.trans e2) z)) (fun z => .inr (ex_t (e.trans e2) z)), fun l nl => q l _ (fresh_back e2 nl) (e2.trans (Ex.new nl)) upd_same⟩
theorem ev_dget {d b : Addr} {kvs : List (List Key × V)} {k : List Key} {v : V} (ha : Ev ta σ H (.ref d)) (hb : Ev tb σ H (.ref b)) (hd : Rd H d (.dT kvs)) (ht : H b = some (.tup (k.map kV))) (hv : valV kvs k = some v) : Ev (tDGet ta tb) σ H v := fun H1 e Q q =>
  ha H1 e _ fun H2 e2 => hb H2 (e.trans e2) _ fun H3 e3 => ⟨d, v, rfl, .inr ⟨kvs, k, b, ex_rd ((e.trans e2).trans e3) hd, rfl, e3 _ _ (e2 _ _ (e _ _ ht)), hv.symm⟩, q H3 (e2.trans e3)⟩
theorem valV_at {kvs : List (List Key × V)} : ∀ {i : Nat} {k : List Key} {v : V}, (kvs.map (·.1)).Nodup → kvs[i]? = some (k, v) → valV kvs k = some v := by
  induction kvs with
  | nil => intro i k v _ h; cases h
  | cons p r ih =>
    intro i k v hn h
    rw [List.map_cons, List.nodup_cons] at hn
    cases i with
    | zero =>
      have e : p = (k, v) := by injection h
      rw [valV_pos (by rw [e]), e]
    | succ i =>
      have z := ih hn.2 (show r[i]? = some (k, v) from h)
      have m : k ∈ r.map (·.1) := List.mem_map.mpr ⟨(k, v), List.mem_of_getElem? (show r[i]? = some (k, v) from h), rfl⟩
      rw [valV_neg (fun q => hn.1 (by rw [q]; exact m))]
      exact z
/-- constants in a row -/
theorem ea_str {tr : TA} {x : Str} {vs : List V} (h : EvA tr σ H vs) : EvA (tCons (tC (.str x)) tr) σ H (.str x :: vs) := ea_cons ev_c h
end
end XB
namespace T
open PySem PySem.Spec PyProof.Rows L2 Evl XB
/-! ### cells by their names -/
abbrev Nm := List Key
def nm3 (m i s : Str) : Nm := [.inr m, .inr i, .inr s]
def rels : List Str := ["<", "=", ">"]
def IsCell (ks : List Str) (n : Nm) : Prop := ∃ m i s, m ∈ ks ∧ i ∈ ks ∧ s ∈ rels ∧ n = nm3 m i s
/-- a cell's names stand at v -/
def KeyAt (H : Hp) (ks : List Str) (v : V) : Prop := ∃ a n, v = .ref a ∧ IsCell ks n ∧ H a = some (.tup (n.map kV))
theorem KeyAt.same {H H' : Hp} {ks : List Str} {v : V} (h : KeyAt H ks v) (s : Same H H') : KeyAt H' ks v := by
  obtain ⟨a, n, e, c, t⟩ := h
  exact ⟨a, n, e, c, s _ _ t⟩
section
variable {P : Program} {w : World} {K : PySem.W.Frag} {mg : Str → Option Value} {base : Heap}
/-! ### _law_keys -/
def spKeys (K : PySem.W.Frag) : Sp := fun vs H Q _ => ∃ (a : Addr) (ks : List Str), vs = [.ref a] ∧ SqL K H a (sl ks) ∧ ks.length ≤ 3 ∧ ∀ l xs H', Same H H' → H l = none → H' l = some (.lst xs) → xs.length = 3 * ks.length * ks.length → (∀ x ∈ xs, KeyAt H' ks x) → Q (.ref l) H'
/-! ### _law_shuffled -/
theorem erase_perm {α : Type} : ∀ (l : List α) (i : Nat) (h : i < l.length), (l[i] :: l.eraseIdx i).Perm l
  | [], _, h => absurd h (Nat.not_lt_zero _)
  | x :: r, 0, _ => List.Perm.refl _
  | x :: r, i + 1, h => by
    have h' : i < r.length := Nat.lt_of_succ_lt_succ h
    have z := erase_perm r i h'
    show (r[i]'h' :: x :: r.eraseIdx i).Perm (x :: r)
    exact (List.Perm.swap x (r[i]'h') _).trans (z.cons x)
def spShuf (K : PySem.W.Frag) : Sp := fun vs H Q _ => ∃ (p a : Addr) (xs : List V), vs = [.ref p, .ref a] ∧ Purse H p ∧ SqL K H a xs ∧ a ≠ p ∧ xs.length ≤ 1000 ∧
  ∀ l ys H', Chg p H H' → Purse H' p → H l = none → l ≠ p → H' l = some (.lst ys) → ys.Perm xs → Q (.ref l) H'
/-! ### _law_options -/
def resultsOf (m : Str) (ks : List Str) : List Str := ([("keep" : Str), "up", "down", "stay"] : List Str) ++ (if m = "set" ∧ ("put" : Str) ∈ ks then [("put" : Str)] else [])
def condsOf (m i : Str) : List Str := if m = "out" ∨ i = "out" then ["first"] else ["first", "less", "same", "more"]
/-- options with a condition, and one without -/
def IsOpts (m i : Str) (ks : List Str) (ws : List Str) : Prop := ∃ pre z, ws = pre ++ [z] ∧ pre.length ≤ 4 ∧ (∀ o ∈ pre, ∃ c ∈ condsOf m i, ∃ r ∈ resultsOf m ks, o = c ++ ":" ++ r) ∧ z ∈ resultsOf m ks
def spOpts (K : PySem.W.Frag) : Sp := fun vs H Q _ => ∃ (p a : Addr) (m i : Str) (ks : List Str), vs = [.ref p, .str m, .str i, .ref a] ∧ Purse H p ∧ SqL K H a (sl ks) ∧ a ≠ p ∧
  ∀ l ws H', Chg p H H' → Purse H' p → H l = none → l ≠ p → H' l = some (.lst (sl ws)) → IsOpts m i ks ws → Q (.ref l) H'
end
end T
namespace T
open PySem PySem.Spec PyProof.Rows L2 Evl XB
/-! ### dicts of cells -/
theorem putK_keys {kvs : List (Nm × V)} {k : Nm} {v : V} (h : (kvs.any fun kv => decide (kv.1 = k)) = true) : (putK kvs k v).map (·.1) = kvs.map (·.1) := by
  unfold putK
  rw [if_pos h, List.map_map]
  refine List.map_congr_left fun p _ => ?_
  show (if p.1 = k then (p.1, v) else p).1 = p.1
  split <;> rfl
theorem putK_nd {kvs : List (Nm × V)} {k : Nm} {v : V} (hn : (kvs.map (·.1)).Nodup) : ((putK kvs k v).map (·.1)).Nodup := by
  by_cases h : (kvs.any fun kv => decide (kv.1 = k)) = true
  · rw [putK_keys h]
    exact hn
  · refine nd_putK v hn ?_
    have z := valV_any k kvs
    cases e : valV kvs k with
    | none => rfl
    | some x => rw [e] at z; exact absurd z h
theorem putK_mem {kvs : List (Nm × V)} {k : Nm} {v : V} {q : Nm × V} (h : q ∈ putK kvs k v) : q = (k, v) ∨ q ∈ kvs := by
  unfold putK at h
  split at h
  · obtain ⟨r, hr, rfl⟩ := List.mem_map.mp h
    show (if r.1 = k then (r.1, v) else r) = (k, v) ∨ _
    by_cases e : r.1 = k
    · rw [if_pos e, e]
      exact .inl rfl
    · rw [if_neg e]
      exact .inr hr
  · rcases List.mem_append.mp h with z | z
    · exact .inr z
    · exact .inl (List.mem_singleton.mp z)
/-- a cell with its options -/
def CellAt (H : Hp) (ks : List Str) (q : Nm × V) : Prop := ∃ m i s l ws, m ∈ ks ∧ i ∈ ks ∧ s ∈ rels ∧ q = (nm3 m i s, .ref l) ∧ IsOpts m i ks ws ∧ H l = some (.lst (sl ws))
def CellsAt (H : Hp) (ks : List Str) (kvs : List (Nm × V)) : Prop := (kvs.map (·.1)).Nodup ∧ ∀ q ∈ kvs, CellAt H ks q
theorem KeyAt.chg {H H' : Hp} {p : Addr} {ks : List Str} {v : V} (h : KeyAt H ks v) (hp : Purse H p) (c : Chg p H H') : KeyAt H' ks v := by
  obtain ⟨a, n, e, i, t⟩ := h
  obtain ⟨d, z, w, u⟩ := hp
  exact ⟨a, n, e, i, c _ _ (ne_of t u fun q => by cases q) t⟩
theorem KeyAt.put {H : Hp} {D : Addr} {ks : List Str} {v : V} {kvs kvs' : List (Nm × V)} (h : KeyAt H ks v) (e : H D = some (.dT kvs)) : KeyAt (upd H D (.dT kvs')) ks v := by
  obtain ⟨a, n, u, i, t⟩ := h
  exact ⟨a, n, u, i, kpm t (ne_of t e fun q => by cases q)⟩
theorem CellAt.chg {H H' : Hp} {p : Addr} {ks : List Str} {v : Nm × V} (h : CellAt H ks v) (hp : Purse H p) (c : Chg p H H') : CellAt H' ks v := by
  obtain ⟨m, i, s, l, ws, h1, h2, h3, h4, ho, t⟩ := h
  obtain ⟨d, z, w, u⟩ := hp
  refine ⟨m, i, s, l, ws, h1, h2, h3, h4, ho, c _ _ (ne_of t u fun q => ?_) t⟩
  injection q with q
  cases ws with
  | nil =>
    obtain ⟨pre, z, e, _⟩ := ho
    exact absurd e (by cases pre <;> intro x <;> cases x)
  | cons x r =>
    injection q with q _
    cases q
theorem CellAt.put {H : Hp} {D : Addr} {ks : List Str} {v : Nm × V} {kvs kvs' : List (Nm × V)} (h : CellAt H ks v) (e : H D = some (.dT kvs)) : CellAt (upd H D (.dT kvs')) ks v := by
  obtain ⟨m, i, s, l, ws, h1, h2, h3, h4, ho, t⟩ := h
  exact ⟨m, i, s, l, ws, h1, h2, h3, h4, ho, kpm t (ne_of t e fun q => by cases q)⟩
section
variable {P : Program} {w : World} {K : PySem.W.Frag} {mg : Str → Option Value} {base : Heap}
def spCells (K : PySem.W.Frag) : Sp := fun vs H Q _ => ∃ (p a : Addr) (ks : List Str), vs = [.ref p, .ref a] ∧ Purse H p ∧ SqL K H a (sl ks) ∧ a ≠ p ∧ ks.length ≤ 3 ∧
  ∀ D kvs H', Chg p H H' → Purse H' p → H D = none → D ≠ p → H' D = some (.dT kvs) → CellsAt H' ks kvs → kvs.length ≤ 27 → Q (.ref D) H'
end
end T
namespace T
open PySem PySem.Spec PyProof.Rows L2 Evl XB TL
/-! ### lines -/
/-- a cell: mine, its, relation, the options -/
abbrev Cell := Str × Str × Str × List Str
def partsOf (c : Cell) : List Str := c.1 :: c.2.1 :: c.2.2.1 :: c.2.2.2
def lineOf (c : Cell) : Str := Txt.join " " (partsOf c)
def nmOf (c : Cell) : Nm := nm3 c.1 c.2.1 c.2.2.1
def GoodC (ks : List Str) (c : Cell) : Prop := c.1 ∈ ks ∧ c.2.1 ∈ ks ∧ c.2.2.1 ∈ rels ∧ IsOpts c.1 c.2.1 ks c.2.2.2
structure Cells (ks : List Str) (cs : List Cell) : Prop where
  nd : (cs.map nmOf).Nodup
  good : ∀ c ∈ cs, GoodC ks c
  few : cs.length ≤ 27
theorem cells_of {H : Hp} {ks : List Str} : ∀ {kvs : List (Nm × V)}, (∀ q ∈ kvs, CellAt H ks q) → ∃ cs : List Cell, kvs.map (·.1) = cs.map nmOf ∧ (∀ c ∈ cs, GoodC ks c) ∧ cs.length = kvs.length ∧
    ∀ (i : Nat) (c : Cell), cs[i]? = some c → ∃ l : Addr, kvs[i]? = some (nmOf c, V.ref l) ∧ H l = some (.lst (sl c.2.2.2))
  | [], _ => ⟨[], rfl, (fun _ z => by cases z), rfl, (fun _ _ z => by cases z)⟩
  | q :: r, h => by
    obtain ⟨cs, e, g, l, at_⟩ := cells_of (kvs := r) fun x hx => h x (List.mem_cons_of_mem _ hx)
    obtain ⟨m, i, s, a, ws, h1, h2, h3, rfl, ho, t⟩ := h q List.mem_cons_self
    refine ⟨(m, i, s, ws) :: cs, ?_, ?_, ?_, ?_⟩
    · show _ :: _ = _ :: _
      rw [e]
      rfl
    · intro c hc
      rcases List.mem_cons.mp hc with rfl | z
      · exact ⟨h1, h2, h3, ho⟩
      · exact g c z
    · rw [List.length_cons, List.length_cons, l]
    · intro j c hj
      cases j with
      | zero =>
        cases hj
        exact ⟨a, rfl, t⟩
      | succ j => exact at_ j c hj
/-- what a part is made of -/
def Small (x : Str) : Prop := (x.length ≤ 16 && (tl x).all fun n => decide (33 ≤ n ∧ n ≤ 122 ∧ n ≠ 39 ∧ n ≠ 34 ∧ n ≠ 92)) = true
instance (x : Str) : Decidable (Small x) := by unfold Small; infer_instance
theorem small_ks {ks : List Str} (h : ks ∈ kinds7) : ∀ k ∈ ks, Small k := by
  have all : ∀ ks ∈ kinds7, ∀ k ∈ ks, Small k := by decide +kernel
  exact all ks h
theorem small_rel {s : Str} (h : s ∈ rels) : Small s := by
  have all : ∀ s ∈ rels, Small s := by decide +kernel
  exact all s h
theorem small_res {m : Str} {ks : List Str} : ∀ r ∈ resultsOf m ks, Small r := by
  unfold resultsOf
  split <;> decide +kernel
theorem small_opt {m i : Str} {ks : List Str} : ∀ c ∈ condsOf m i, ∀ r ∈ resultsOf m ks, Small (c ++ ":" ++ r) := by
  unfold condsOf resultsOf
  split <;> split <;> decide +kernel
theorem len7 {ks : List Str} (h : ks ∈ kinds7) : ks.length ≤ 3 := by
  have all : ∀ ks ∈ kinds7, ks.length ≤ 3 := by decide
  exact all ks h
theorem small_ws {m i : Str} {ks ws : List Str} (h : IsOpts m i ks ws) : (∀ p ∈ ws, Small p) ∧ ws.length ≤ 5 := by
  obtain ⟨pre, z, rfl, hl, hp, hz⟩ := h
  refine ⟨fun p hm => ?_, by rw [List.length_append, List.length_singleton]; omega⟩
  rcases List.mem_append.mp hm with x | x
  · obtain ⟨c, hc, r, hr, rfl⟩ := hp p x
    exact small_opt c hc r hr
  · rw [List.mem_singleton.mp x]
    exact small_res z hz
theorem small_parts {ks : List Str} {c : Cell} (h : ks ∈ kinds7) (g : GoodC ks c) : (∀ p ∈ partsOf c, Small p) ∧ (partsOf c).length ≤ 8 := by
  obtain ⟨g1, g2, g3, g4⟩ := g
  obtain ⟨w1, w2⟩ := small_ws g4
  refine ⟨fun p hp => ?_, by show c.2.2.2.length + 1 + 1 + 1 ≤ 8; omega⟩
  rcases List.mem_cons.mp hp with rfl | hp
  · exact small_ks h _ g1
  rcases List.mem_cons.mp hp with rfl | hp
  · exact small_ks h _ g2
  rcases List.mem_cons.mp hp with rfl | hp
  · exact small_rel g3
  · exact w1 p hp
theorem Small.len {x : Str} (h : Small x) : x.length ≤ 16 := by
  unfold Small at h
  rw [Bool.and_eq_true, decide_eq_true_eq] at h
  exact h.1
theorem sum_le {B : Nat} : ∀ {ws : List Str}, (∀ p ∈ ws, p.length ≤ B) → (ws.map (·.length)).sum ≤ ws.length * B
  | [], _ => Nat.zero_le _
  | x :: r, h => by
    have z := sum_le (B := B) (ws := r) fun p hp => h p (List.mem_cons_of_mem _ hp)
    have := h x List.mem_cons_self
    rw [List.map_cons, List.sum_cons, List.length_cons, Nat.succ_mul]
    omega
theorem join_bound {B n : Nat} {ws : List Str} (h : ∀ p ∈ ws, p.length ≤ B) (hn : ws.length ≤ n) (hb : n * B + n ≤ 16777216) {sep : Str} (hs : sep.length = 1) : (ws.map (·.length)).sum + ws.length * sep.length ≤ 16777216 := by
  have z := sum_le h
  have y : ws.length * B ≤ n * B := Nat.mul_le_mul_right _ hn
  rw [hs]
  omega
section
variable {P : Program} {w : World} {K : PySem.W.Frag} {mg : Str → Option Value} {base : Heap}
def spLines : Sp := fun vs H Q _ => ∃ (d : Addr) (ks : List Str) (kvs : List (Nm × V)), vs = [.ref d] ∧ ks ∈ kinds7 ∧ H d = some (.dT kvs) ∧ CellsAt H ks kvs ∧ kvs.length ≤ 27 ∧
  ∀ l cs H', Same H H' → H l = none → H' l = some (.lst (sl (cs.map lineOf))) → Cells ks cs → kvs.map (·.1) = cs.map nmOf → (∀ (i : Nat) (c : Cell), cs[i]? = some c → ∃ a : Addr, kvs[i]? = some (nmOf c, V.ref a) ∧ H a = some (.lst (sl c.2.2.2))) → Q (.ref l) H'
end
end T
/-! Own: terms that give a tuple, new or known; comprehensions over tuples of texts. -/
namespace XB
open PySem PySem.Spec PyProof.Rows L2 Evl
/-- a tuple of xs comes, new or known -/
def EvS (K : PySem.W.Frag) (te : TE) (σ : L2.St) (H : Hp) (xs : List V) : Prop := ∀ H1, Ex H H1 → ∀ Q : VK, (∀ p H2, Ex H1 H2 → SqT K H2 p xs → Q (.ref p) H2) → te σ H1 Q
section
variable {K : PySem.W.Frag} {σ : L2.St} {H : Hp} {t : TT} {ta tb te : TE} {xs ys : List V}
theorem EvS.mono {H' : Hp} (e : Ex H H') (h : EvS K te σ H xs) : EvS K te σ H' xs := fun H1 a Q q => h H1 (e.trans a) Q q
theorem es_at {a : Addr} (h : Ev te σ H (.ref a)) (hx : SqT K H a xs) : EvS K te σ H xs := fun H1 e Q q => h H1 e _ fun H2 e2 => q a H2 e2 (ex_t (e.trans e2) hx)
theorem es_new (h : EvU te σ H xs) : EvS K te σ H xs := fun H1 e Q q => h H1 e _ fun p H2 n e2 hp => q p H2 e2 (st_of hp)
theorem es_is {zs : List V} (h : EvS K ta σ H xs) (e : xs = zs) : EvS K ta σ H zs := e ▸ h
theorem es_if {b : Bool} (h : EvT t σ H b) (h1 : b = true → EvS K ta σ H xs) (h2 : b = false → EvS K tb σ H xs) : EvS K (tIf t ta tb) σ H xs := fun H1 e Q q => h H1 e _ fun H2 e2 => by
  cases b with
  | true => exact iteT ((h1 rfl) H2 (e.trans e2) Q fun p H3 e3 h3 => q p H3 (e2.trans e3) h3)
  | false => exact iteF ((h2 rfl) H2 (e.trans e2) Q fun p H3 e3 h3 => q p H3 (e2.trans e3) h3)
theorem es_cat (ha : EvS K ta σ H xs) (hb : EvS K tb σ H ys) (hn : xs ≠ []) (hz : xs.length + ys.length ≤ 100000) : EvS K (tOp (rCatT K) ta tb) σ H (xs ++ ys) := fun H1 e Q q =>
  ha H1 e _ fun p H2 e2 h2 => hb H2 (e.trans e2) _ fun r H3 e3 h3 => ⟨p, r, xs, ys, rfl, rfl, ex_t e3 h2, h3, hn, sz_of hz, fun z => by
      subst z
      exact q p H3 (e2.trans e3) (by rw [List.append_nil]; exact ex_t e3 h2),
    fun _ l nl => q l _ ((e2.trans e3).trans (Ex.new nl)) (st_of upd_same)⟩
/-- tuple(a list) -/
def rTup (K : PySem.W.Frag) : List V → Hp → VK → Prop := fun xs H Q => ∃ p ys, xs = [.ref p] ∧ ((SqL K H p ys ∧ ∀ l, H l = none → Q (.ref l) (upd H l (.tup ys))) ∨ (SqT K H p ys ∧ Q (.ref p) H))
theorem eu_tuple (ha : EvL ta σ H xs) : EvU (tCB (rTup K) (tCons ta tNil)) σ H xs := fun H1 e Q q =>
  ha H1 e _ fun p H2 n2 e2 h2 => ⟨p, xs, rfl, .inl ⟨SqL.of h2, fun l nl => q l _ (fresh_back e2 nl) (e2.trans (Ex.new nl)) upd_same⟩⟩
theorem eu_tupleS {a : Addr} (ha : Ev ta σ H (.ref a)) (h : SqL K H a xs) : EvU (tCB (rTup K) (tCons ta tNil)) σ H xs := fun H1 e Q q =>
  ha H1 e _ fun H2 e2 => ⟨a, xs, rfl, .inl ⟨ex_l (e.trans e2) h, fun l nl => q l _ (fresh_back e2 nl) (e2.trans (Ex.new nl)) upd_same⟩⟩
theorem el_slN {tl th : TO} {lo hi : Option Int} (h : EvL te σ H xs) (h1 : EvO tl σ H lo) (h2 : EvO th σ H hi) : EvL (tSl (rSlL K) te tl th) σ H (cutV xs lo hi) := fun H1 e Q q =>
  h H1 e _ fun p H2 n2 e2 hp => h1 H2 (e.trans e2) _ fun H3 e3 => h2 H3 ((e.trans e2).trans e3) _ fun H4 e4 =>
    ⟨p, xs, rfl, SqL.of (e4 _ _ (e3 _ _ hp)), fun l nl => q l _ (fresh_back ((e2.trans e3).trans e4) nl) (((e2.trans e3).trans e4).trans (Ex.new nl)) upd_same⟩
theorem eu_slT {a : Addr} {tl th : TO} {lo hi : Option Int} (h : Ev te σ H (.ref a)) (hx : SqT K H a xs) (h1 : EvO tl σ H lo) (h2 : EvO th σ H hi) (hn : ¬ (HT.sIx xs.length 0 lo = 0 ∧ HT.sIx xs.length xs.length hi = xs.length)) : EvU (tSl (rSlT K) te tl th) σ H (cutV xs lo hi) := fun H1 e Q q =>
  h H1 e _ fun H2 e2 => h1 H2 (e.trans e2) _ fun H3 e3 => h2 H3 ((e.trans e2).trans e3) _ fun H4 e4 =>
    ⟨a, xs, rfl, ex_t (((e.trans e2).trans e3).trans e4) hx, hn, fun l nl => q l _ (fresh_back ((e2.trans e3).trans e4) nl) (((e2.trans e3).trans e4).trans (Ex.new nl)) upd_same⟩
theorem ev_lenS {p : Addr} (ha : Ev ta σ H (.ref p)) (h : SqL K H p xs ∨ SqT K H p xs) : Ev (tCB (rLenS K) (tCons ta tNil)) σ H (.int (xs.length : Int)) := fun H1 e Q q =>
  ha H1 e _ fun H2 e2 => ⟨p, xs, rfl, h.elim (fun z => .inl (ex_l (e.trans e2) z)) (fun z => .inr (ex_t (e.trans e2) z)), q H2 e2⟩
theorem ev_ixT {p : Addr} {i : Int} {v : V} (ha : Ev ta σ H (.ref p)) (hb : Ev tb σ H (.int i)) (h : SqT K H p xs) (hi : atI xs i = some v) : Ev (tOp (rIxT K) ta tb) σ H v := ev_op ha hb (rv_ixT h hi)
/-- isinstance(x, a built-in type) -/
theorem ev_isi {x : V} {T U : String} {b : Bool} (ha : Ev ta σ H x) (hx : ∀ H1, Ex H H1 → TyX K H1 x (.type T)) (hk : kitB T U = some b) : Ev (tCB (rIsi K) (tCons ta (tCons (tC (.ty U)) tNil))) σ H (.bl b) := fun H1 e Q q =>
  ha H1 e _ fun H2 e2 => ⟨x, .ty U, .type T, .type U, b, rfl, .ty U, hx H2 (e.trans e2), kit_ty hk, q H2 e2⟩
theorem tyx_str (x : Str) : TyX K H (.str x) (.type "str") := .base (.str x)
theorem tyx_sqt {a : Addr} (h : SqT K H a xs) : TyX K H (.ref a) (.type "tuple") := by
  rcases h with (h | ⟨o, h⟩) | ⟨o, its, n, h, hc, _⟩
  · exact .base (.tup h)
  · exact .fTuple h
  · exact .kTuple h hc
theorem ev_isStr {x : Str} (ha : Ev ta σ H (.str x)) : Ev (tCB (rIsi K) (tCons ta (tCons (tC (.ty "str")) tNil))) σ H (.bl true) := ev_isi ha (fun _ _ => tyx_str x) (by decide +kernel)
theorem ev_isTup {a : Addr} (ha : Ev ta σ H (.ref a)) (h : SqT K H a xs) : Ev (tCB (rIsi K) (tCons ta (tCons (tC (.ty "tuple")) tNil))) σ H (.bl true) := ev_isi ha (fun _ e => tyx_sqt (ex_t e h)) (by decide +kernel)
theorem ev_all {bs : List Bool} (h : EvL ta σ H (bs.map V.bl)) : Ev (tCB (rAll K) (tCons ta tNil)) σ H (.bl (bs.all id)) := fun H1 e Q q =>
  h H1 e _ fun p H2 n2 e2 h2 => ⟨p, bs, rfl, SqL.of h2, q H2 e2⟩
theorem ev_eqD {x y : V} {d d' : PyData} (ha : Ev ta σ H x) (hb : Ev tb σ H y) (hx : ∀ H1, Ex H H1 → Dp K H1 x d) (hy : ∀ H1, Ex H H1 → Dp K H1 y d') (sx : SeqAt.shaped d = true) (sy : SeqAt.shaped d' = true) : Ev (tOp (rEqD K) ta tb) σ H (.bl (PyData.eqv d d')) := fun H1 e Q q =>
  ha H1 e _ fun H2 e2 => hb H2 (e.trans e2) _ fun H3 e3 => ⟨d, d', hx H3 ((e.trans e2).trans e3), hy H3 ((e.trans e2).trans e3), sx, sy, q H3 (e2.trans e3)⟩
theorem dp_sl : ∀ ws : List Str, DpAll K H (sl ws) (ws.map PyData.str)
  | [] => .nil
  | x :: r => .cons (.str x) (dp_sl r)
theorem dp_tup {a : Addr} {ws : List Str} (h : SqT K H a (sl ws)) : Dp K H (.ref a) (.tuple (ws.map PyData.str)) := .tup h (dp_sl ws)
theorem ev_eqT {a : Addr} {ws us : List Str} (ha : Ev ta σ H (.ref a)) (h : SqT K H a (sl ws)) (hb : EvS K tb σ H (sl us)) (sx : SeqAt.shaped (.tuple (ws.map PyData.str)) = true) (sy : SeqAt.shaped (.tuple (us.map PyData.str)) = true) :
    Ev (tOp (rEqD K) ta tb) σ H (.bl (PyData.eqv (.tuple (ws.map PyData.str)) (.tuple (us.map PyData.str)))) := fun H1 e Q q =>
  ha H1 e _ fun H2 e2 => hb H2 (e.trans e2) _ fun p H3 e3 hp => ⟨_, _, dp_tup (ex_t ((e.trans e2).trans e3) h), dp_tup hp, sx, sy, q H3 (e2.trans e3)⟩
theorem es_call {sp : Sp} {dvs vs : List V} {E : XK} {ta : TA} (h : EvA ta σ H vs) (hs : ∀ H1, Ex H H1 → ∀ Q : VK, (∀ p H2, Ex H1 H2 → SqT K H2 p xs → Q (.ref p) H2) → ∀ E : XK, sp (vs ++ dvs) H1 Q E) : EvS K (tCall sp dvs E ta) σ H xs := fun H1 e Q q =>
  h H1 e _ fun H2 e2 => hs H2 (e.trans e2) _ (fun p H3 e3 hp => q p H3 (e2.trans e3) hp) E
variable {D : Ends} {tz : TS}
theorem s_retS (h : EvS K te σ H xs) (k : ∀ p H1, Ex H H1 → SqT K H1 p xs → D.rt (.ref p) H1) : tRet te D σ H := h H (Ex.refl H) _ k
theorem q_asgS {i : Nat} (h : EvS K te σ H xs) (k : ∀ p H1, Ex H H1 → SqT K H1 p xs → tz D (σ.set i (some (.ref p))) H1) : tSeq (tAsg te (gName i)) tz D σ H := h H (Ex.refl H) _ k
/-! ### comprehensions -/
theorem mem_at {ws : List Str} {i : Nat} {x : V} (h : (sl ws)[i]? = some x) : ∃ c, ws[i]? = some c ∧ x = .str c := by
  rw [List.getElem?_map] at h
  cases e : ws[i]? with
  | none => rw [e] at h; cases h
  | some c => rw [e] at h; cases h; exact ⟨c, rfl, rfl⟩
theorem el_lcS {ws : List Str} {tl : TE} {j : Nat} {vs : List Nat} (f : Str → Bool) (v : Str → V) (h : EvS K tl σ H (sl ws)) (hz : ws.length ≤ 40000) (hw : ∀ x, wipe ((wipe σ vs).set j (some x)) vs = wipe σ vs)
    (ht : ∀ c H1, Ex H H1 → c ∈ ws → EvT t ((wipe σ vs).set j (some (.str c))) H1 (f c)) (he : ∀ c H1, Ex H H1 → c ∈ ws → f c = true → Ev te ((wipe σ vs).set j (some (.str c))) H1 (v c)) :
    EvL (tLc (iTup K tl) (gName j) t te vs) σ H ((ws.filter f).map v) := fun H0 e Q q => h H0 e _ fun a H1 e1 hx => ⟨a, rfl, ⟨_, hx⟩, fun D hD =>
  lc_tup (xs := sl ws) (fun i G => Ex H1 G ∧ G D = some (.lst (((ws.take i).filter f).map v))) ⟨Ex.new hD, upd_same⟩ (fun i G _ p => ex_t p.1 hx) (fun i x G hi p => ⟨hw x, by
    obtain ⟨c, hc, rfl⟩ := mem_at hi
    have m := List.mem_of_getElem? hc
    have hi2 := (List.getElem?_eq_some_iff.mp hc).1
    have e2 := (e.trans e1).trans p.1
    refine ht c G e2 m G (Ex.refl G) _ fun G2 g2 => ?_
    have tk : ws.take (i + 1) = ws.take i ++ [c] := by rw [List.take_succ, hc]; rfl
    cases hf : f c with
    | true =>
      refine iteT (he c G2 (e2.trans g2) m hf G2 (Ex.refl G2) _ fun G3 g3 => ⟨_, g3 _ _ (g2 _ _ p.2), ?_, Ex.mut ((p.1.trans g2).trans g3) hD, ?_⟩)
      · refine sz_lt ?_
        have := List.length_filter_le f (ws.take i)
        rw [List.length_take] at this
        rw [List.length_map]
        omega
      · rw [upd_same, tk, List.filter_append, List.map_append, List.filter_cons, if_pos hf]
        rfl
    | false =>
      refine iteF ⟨p.1.trans g2, ?_⟩
      rw [tk, List.filter_append, List.map_append, List.filter_cons, if_neg (by rw [hf]; decide)]
      show _ = some (HO.lst (_ ++ []))
      rw [List.append_nil]
      exact g2 _ _ p.2⟩)
    (fun G p => q D G (fresh_back e1 hD) (e1.trans p.1) (by rw [p.2, show (sl ws).length = ws.length from XB.len_sl ws, List.take_length]))⟩
theorem tYes_go {P R : Hp → Prop} (h : P H) : tYes σ H fun b H3 => if b = true then P H3 else R H3 := by
  show if true = true then P H else R H
  rw [if_pos rfl]
  exact h
theorem sqt_put {G : Hp} {b D : Addr} {xs zs : List V} {o : HO} (h : SqT K G b xs) (hD : G D = some (.lst zs)) : SqT K (upd G D o) b xs := by
  rcases h with (h | ⟨u, h⟩) | h
  · exact .inl (.inl (kpm h (ne_of h hD fun q => by cases q)))
  · exact .inl (.inr ⟨u, kpm h (ne_of h hD fun q => by cases q)⟩)
  · exact .inr h
/-- two walks: a text for each pair -/
theorem el_lc2S {ws us : List Str} {tl tl1 : TE} {j j1 : Nat} {vs vs1 : List Nat} (v : Str → Str → Str) (h : EvS K tl σ H (sl ws)) (hz : ws.length * us.length ≤ 40000)
    (hw : ∀ x, wipe ((wipe σ vs).set j (some x)) vs = wipe σ vs) (hw1 : ∀ x y, wipe ((wipe ((wipe σ vs).set j (some x)) vs1).set j1 (some y)) vs1 = wipe ((wipe σ vs).set j (some x)) vs1)
    (h1 : ∀ c H1, Ex H H1 → c ∈ ws → EvS K tl1 ((wipe σ vs).set j (some (.str c))) H1 (sl us))
    (he : ∀ c r H1, Ex H H1 → c ∈ ws → r ∈ us → Ev te ((wipe ((wipe σ vs).set j (some (.str c))) vs1).set j1 (some (.str r))) H1 (.str (v c r))) :
    EvL (tLc2 (iTup K tl) (gName j) tYes (iTup K tl1) (gName j1) tYes te vs vs1) σ H (sl (ws.flatMap fun c => us.map (v c))) := fun H0 e Q q => h H0 e _ fun a H1 e1 hx => ⟨a, rfl, ⟨_, hx⟩, fun D hD => by
  refine ⟨fun i m G => m = ws.length - i ∧ i ≤ ws.length ∧ Ex H1 G ∧ G D = some (.lst (sl ((ws.take i).flatMap fun c => us.map (v c)))), ⟨ws.length, by simp, Nat.zero_le _, Ex.new hD, upd_same⟩, ?_⟩
  rintro i m G ⟨rfl, hi, g1, g2⟩
  by_cases hlt : i < ws.length
  · have hc : ws[i]? = some (ws[i]'hlt) := List.getElem?_eq_getElem hlt
    generalize ws[i]'hlt = c at hc
    have m := List.mem_of_getElem? hc
    have hcs : (sl ws)[i]? = some (.str c) := by rw [List.getElem?_map, hc]; rfl
    have tk : ws.take (i + 1) = ws.take i ++ [c] := by rw [List.take_succ, hc]; rfl
    refine .inr ⟨⟨sl ws, .str c, ex_t g1 hx, hcs⟩, fun G' => Ex H1 G' ∧ G' D = some (.lst (sl ((ws.take (i + 1)).flatMap fun c => us.map (v c)))), fun G' p' => ⟨ws.length - (i + 1), by omega, rfl, hlt, p'⟩, ?_⟩
    rintro x G' ⟨rfl, hx2⟩
    have ex : x = .str c := by
      have z := hx2 _ (ex_t g1 hx)
      rw [hcs] at z
      injection z with z
      exact z.symm
    subst ex
    have e2 := (e.trans e1).trans g1
    refine ⟨hw _, tYes_go ?_⟩
    refine h1 c _ e2 m _ (Ex.refl _) _ fun b G1 k1 hb => ⟨b, rfl, ⟨_, hb⟩, ?_⟩
    refine ⟨fun n m G => m = us.length - n ∧ n ≤ us.length ∧ Ex H1 G ∧ SqT K G b (sl us) ∧ G D = some (.lst (sl (((ws.take i).flatMap fun c => us.map (v c)) ++ (us.take n).map (v c)))), ⟨us.length, by simp, Nat.zero_le _, g1.trans k1, hb, ?_⟩, ?_⟩
    · rw [k1 _ _ g2]
      show _ = some (HO.lst (sl (_ ++ [])))
      rw [List.append_nil]
    · rintro n m G2 ⟨rfl, hn, k2, hb2, hD2⟩
      by_cases hlt2 : n < us.length
      · have hr : us[n]? = some (us[n]'hlt2) := List.getElem?_eq_getElem hlt2
        generalize us[n]'hlt2 = r at hr
        have mr := List.mem_of_getElem? hr
        have hrs : (sl us)[n]? = some (.str r) := by rw [List.getElem?_map, hr]; rfl
        have tk2 : us.take (n + 1) = us.take n ++ [r] := by rw [List.take_succ, hr]; rfl
        refine .inr ⟨⟨sl us, .str r, hb2, hrs⟩, fun G' => Ex H1 G' ∧ SqT K G' b (sl us) ∧ G' D = some (.lst (sl (((ws.take i).flatMap fun c => us.map (v c)) ++ (us.take (n + 1)).map (v c)))), fun G' p' => ⟨us.length - (n + 1), by omega, rfl, hlt2, p'⟩, ?_⟩
        rintro x G' ⟨rfl, hx2⟩
        have ex : x = .str r := by
          have z := hx2 _ hb2
          rw [hrs] at z
          injection z with z
          exact z.symm
        subst ex
        refine ⟨hw1 _ _, tYes_go ?_⟩
        refine he c r _ ((e.trans e1).trans k2) m mr _ (Ex.refl _) _ fun G3 k3 => ⟨_, k3 _ _ hD2, ?_, Ex.mut (k2.trans k3) hD, ?_, at_sl (ys := [v c r]) upd_same ?_⟩
        · refine sz_lt ?_
          rw [XB.len_sl, List.length_append, List.length_map, List.length_take]
          have : ((ws.take i).flatMap fun c => us.map (v c)).length = i * us.length := by
            rw [List.length_flatMap]
            have : ((ws.take i).map fun c => (us.map (v c)).length) = (ws.take i).map fun _ => us.length := List.map_congr_left fun c _ => List.length_map _
            rw [this, List.map_const', List.sum_replicate_nat, List.length_take, Nat.min_eq_left hi]
          rw [this]
          have : (i + 1) * us.length ≤ ws.length * us.length := Nat.mul_le_mul_right _ hlt
          rw [Nat.succ_mul] at this
          omega
        · exact sqt_put (ex_t k3 hb2) (k3 _ _ hD2)
        · rw [tk2, List.map_append, List.append_assoc]
          rfl
      · have : n = us.length := by omega
        subst this
        refine .inl ⟨⟨sl us, hb2, by rw [XB.len_sl]; exact Nat.le_refl _⟩, k2, ?_⟩
        rw [hD2, tk, List.flatMap_append, List.take_length]
        show some (HO.lst (sl (_ ++ us.map (v c)))) = some (HO.lst (sl (_ ++ (us.map (v c) ++ []))))
        rw [List.append_nil]
  · have : i = ws.length := by omega
    subst this
    refine .inl ⟨⟨sl ws, ex_t g1 hx, by rw [XB.len_sl]; exact Nat.le_refl _⟩, q D G (fresh_back e1 hD) (e1.trans g1) (by rw [g2, List.take_length])⟩⟩
end
end XB
namespace T
open PySem PySem.Spec PyProof.Rows L2 Evl XB TL
section
variable {P : Program} {w : World} {K : PySem.W.Frag} {mg : Str → Option Value} {base : Heap}
/-- a tuple of texts is the module's constant x -/
structure TupC (K : PySem.W.Frag) (mg : Str → Option Value) (x : Str) (ws : List Str) : Prop where
  ex : ∃ a, mg x = some (.ref a) ∧ ∀ H, SqT K H a (sl ws)
/-! ### _law_text -/
def headOf (ks : List Str) : Str := Txt.join " " ("kinds" :: ks)
def textOf (ks lns : List Str) : Str := Txt.join "\n" (headOf ks :: lns)
theorem joinL_len (S : List Nat) : ∀ ps : List (List Nat), (joinL S ps).length ≤ (ps.map (·.length)).sum + ps.length * S.length
  | [] => Nat.zero_le _
  | [p] => by
    show p.length ≤ (p.length + 0) + 1 * S.length
    omega
  | p :: q :: r => by
    have z := joinL_len S (q :: r)
    show (p ++ (S ++ joinL S (q :: r))).length ≤ (p.length + ((q :: r).map (·.length)).sum) + ((q :: r).length + 1) * S.length
    rw [List.length_append, List.length_append, Nat.succ_mul]
    omega
theorem tl_len (x : Str) : (tl x).length = x.length := Array.length_toList
theorem join_len (sep : Str) (ys : List Str) : (Txt.join sep ys).length ≤ (ys.map (·.length)).sum + ys.length * sep.length := by
  have z := joinL_len (tl sep) (ys.map tl)
  rw [join_eq, ← tl_len, tl_join]
  rw [List.map_map, List.length_map, tl_len] at z
  rw [show (List.length ∘ tl) = (fun x : Str => x.length) from funext fun x => tl_len x] at z
  exact z
theorem join_le {B n : Nat} {ws : List Str} (h : ∀ p ∈ ws, p.length ≤ B) (hn : ws.length ≤ n) {sep : Str} (hs : sep.length = 1) : (Txt.join sep ws).length ≤ n * B + n := by
  have z := sum_le h
  have y : ws.length * B ≤ n * B := Nat.mul_le_mul_right _ hn
  have := join_len sep ws
  rw [hs] at this
  omega
theorem line_len {ks : List Str} {c : Cell} (h : ks ∈ kinds7) (g : GoodC ks c) : (lineOf c).length ≤ 136 := join_le (B := 16) (n := 8) (fun p hp => ((small_parts h g).1 p hp).len) (small_parts h g).2 rfl
theorem head_len {ks : List Str} (h : ks ∈ kinds7) : (headOf ks).length ≤ 100 := by
  have z := len7 h
  refine Nat.le_trans (join_le (B := 16) (n := 4) (fun p hp => ?_) (by show ks.length + 1 ≤ 4; omega) rfl) (by decide)
  rcases List.mem_cons.mp hp with rfl | hp
  · decide
  · exact (small_ks h p hp).len
def spText : Sp := fun vs H Q _ => ∃ (a b : Addr) (ks lns : List Str), vs = [.ref a, .ref b] ∧ ks ∈ kinds7 ∧ H a = some (.lst (sl ks)) ∧ H b = some (.lst (sl lns)) ∧ lns.length ≤ 27 ∧ (∀ x ∈ lns, x.length ≤ 136) ∧ ∀ H', Ex H H' → Q (.str (textOf ks lns)) H'
/-! ### is_word -/
def spWord (K : PySem.W.Frag) : Sp := fun vs H Q _ => ∃ (x : Str) (a : Addr) (ws : List Str), vs = [.str x, .ref a] ∧ SqT K H a (sl ws) ∧ ∀ H', Ex H H' → Q (.bl (decide (x ∈ ws))) H'
theorem c_word (D : At K mg "is_word" s_is_word ["value", "words"]) (B : Bl mg) : C8.Cal P w K mg base 1 "is_word" (spWord K) [] := by
  refine cal_of D sc_is_word (fun vs H Q E h => ?_) (fun f cdv A outer s H vs Q E hr h => ?_)
  · obtain ⟨a, b, ws, rfl, _⟩ := h
    rfl
  · obtain ⟨x, a, ws, rfl, hS, q⟩ := h
    refine ⟨_, pss_one (ps_ret (pe_and (pe_callB call_isi (by rfl) B.isin (by decide +kernel) (pa_cons (pv 0) (pa_cons (pe_bltn (v := .ty "str") (by rfl) B.str (by decide +kernel) rfl) pa_nil))) (pe_one (pe_cmpR op_in_seq (pv 0) (pv 1) (by rfl))))), ?_⟩
    exact s_ret (ev_andV (ev_isStr (ev_var rfl)) (fun _ => ev_inT (ev_var rfl) (ev_var rfl) hS)) fun H1 e1 => by rw [Bool.true_and]; exact q H1 e1
theorem word_at {σ : L2.St} {H : Hp} {ta tb : TE} {x : Str} {a : Addr} {ws : List Str} {E : XK} (ha : Ev ta σ H (.str x)) (hb : Ev tb σ H (.ref a)) (hS : SqT K H a (sl ws)) : Ev (tCall (spWord K) [] E (tCons ta (tCons tb tNil))) σ H (.bl (decide (x ∈ ws))) :=
  ev_call (ea_cons ha (ea_cons hb ea_nil)) fun H1 e Q q E => ⟨x, a, ws, rfl, ex_t e hS, q⟩
/-! ### are_kinds -/
def KINDSc : List Str := ["put", "out", "set"]
def spKinds (K : PySem.W.Frag) : Sp := fun vs H Q _ => ∃ (a : Addr) (ks : List Str), vs = [.ref a] ∧ SqT K H a (sl ks) ∧ ks ∈ kinds7 ∧ ∀ H', Ex H H' → Q (.bl true) H'
theorem kinds_all {ks : List Str} (h : ks ∈ kinds7) : (ks.map fun c => decide (c ∈ KINDSc)).all id = true := by
  have all : ∀ ks ∈ kinds7, (ks.map fun c => decide (c ∈ KINDSc)).all id = true := by decide +kernel
  exact all ks h
theorem kinds_fil {ks : List Str} (h : ks ∈ kinds7) : (KINDSc.filter fun c => decide (c ∈ ks)) = ks := by
  have all : ∀ ks ∈ kinds7, (KINDSc.filter fun c => decide (c ∈ ks)) = ks := by decide +kernel
  exact all ks h
theorem kinds_pos {ks : List Str} (h : ks ∈ kinds7) : 0 < ks.length := by
  have all : ∀ ks ∈ kinds7, 0 < ks.length := by decide +kernel
  exact all ks h
theorem kinds_sh {ks : List Str} (h : ks ∈ kinds7) : SeqAt.shaped (.tuple (ks.map PyData.str)) = true := by
  have all : ∀ ks ∈ kinds7, SeqAt.shaped (.tuple (ks.map PyData.str)) = true := by decide +kernel
  exact all ks h
theorem kinds_eq {ks : List Str} (h : ks ∈ kinds7) : PyData.eqv (.tuple (ks.map PyData.str)) (.tuple (ks.map PyData.str)) = true := by
  have all : ∀ ks ∈ kinds7, PyData.eqv (.tuple (ks.map PyData.str)) (.tuple (ks.map PyData.str)) = true := by decide +kernel
  exact all ks h
theorem c_kinds (D : At K mg "are_kinds" s_are_kinds ["value"]) (B : Bl mg) (T : TupC K mg "KINDS" KINDSc) (Cw : C8.Cal P w K mg base 1 "is_word" (spWord K) []) : C8.Cal P w K mg base 2 "are_kinds" (spKinds K) [] := by
  obtain ⟨ak, mk, hK⟩ := T.ex
  refine cal_of D sc_are_kinds (fun vs H Q E h => ?_) (fun f cdv A outer s H vs Q E hr h => ?_)
  · obtain ⟨a, ks, rfl, _⟩ := h
    rfl
  · obtain ⟨a, ks, rfl, hS, hks, q⟩ := h
    refine ⟨_, pss_cons (ps_if (PW.pt (pw_or (pt_not (pt_val (pe_callB call_isi (by rfl) B.isin (by decide +kernel) (pa_cons (pv 0) (pa_cons (pe_bltn (v := .ty "tuple") (by rfl) B.tuple (by decide +kernel) rfl) pa_nil))))) (pw_or1 (pt_not (pt_val (pe_callB (cr_all rfl) (by rfl) B.all_ (by decide +kernel) (pa_cons
        (pe_lc (own := [("kind", 1)]) (g := gName 1) (tt := tYes) (te := tCall (spWord K) [] C8.E0 (tCons (tVar 1) (tCons (tC (.ref ak)) tNil))) rfl sc_are_kinds.nd (pi_tup (pv 0))
            (blkOk_by (own := [("kind", 1)]) (N := N_are_kinds) (sc := defScope s_are_kinds) (by decide +kernel)) (fun _ _ _ _ _ => pg_name (i := 1) sc_are_kinds.nd rfl (Or.inl rfl)) (fun _ _ _ _ _ => pts_nil)
            (fun _ _ _ _ _ => C8.pe_c Cw hr (by decide) (by rfl) (pa_cons (pv 1) (pa_cons (pe_glob (v := .ref ak) (by rfl) mk rfl) pa_nil)))) pa_nil))))))) (pss_one (ps_ret pe_bl)) pss_nil)
      (pss_one (ps_ret (pe_and (pe_cmpR op_gt (pe_callB call_len_seq (by rfl) B.len (by decide +kernel) (pa_cons (pv 0) pa_nil)) pe_int (nomark _)) (pe_one (pe_cmpR (op_eqD hr.units) (pv 0) (pe_callTy call_tuple_of (by rfl) B.tuple (by decide +kernel) (pa_cons 
        (pe_lc (own := [("kind", 1)]) (g := gName 1) (tt := tTest (tOp (rIn K false) (tVar 1) (tVar 0))) (te := tVar 1) rfl sc_are_kinds.nd (pi_tup (pe_glob (v := .ref ak) (by rfl) mk rfl))
            (blkOk_by (own := [("kind", 1)]) (N := N_are_kinds) (sc := defScope s_are_kinds) (by decide +kernel)) (fun _ _ _ _ _ => pg_name (i := 1) sc_are_kinds.nd rfl (Or.inl rfl)) (fun _ _ _ _ _ => pts_one (pt_cmpR op_in_seq (pv 1) (pv 0) (by rfl)))
            (fun _ _ _ _ _ => pv 1)) pa_nil)) (nomark _)))))), ?_⟩
    refine q_when (b := false) (et_is (et_or (et_not (et_B (ev_isTup (ev_var rfl) hS))) (fun _ => et_not (et_B (ev_all (bs := ks.map fun c => decide (c ∈ KINDSc)) (el_is (el_lcS (ws := ks) (fun _ => true) (fun c => .bl (decide (c ∈ KINDSc))) (es_at (ev_var rfl) hS) ?_ (fun _ => rfl) (fun _ _ _ _ => fun H1 _ _ z => z H1 (Ex.refl H1)) (fun c H1 e1 _ _ => word_at (ev_var rfl) ev_c (hK _))) ?_))))) ?_) (fun z => by cases z) (fun _ H1 e1 => ?_)
    · have := len7 hks
      omega
    · rw [List.map_map, List.filter_eq_self.mpr (fun _ _ => rfl)]
      rfl
    · rw [kinds_all hks]
      rfl
    · refine s_ret (ev_is (ev_andV (ev_op (ev_lenS (ev_var rfl) (.inr (ex_t e1 hS))) ev_c rv_I0) (fun _ => ev_eqT (us := KINDSc.filter fun c => decide (c ∈ ks)) (ev_var rfl) (ex_t e1 hS) (es_new (eu_tuple (el_lcS (ws := KINDSc) (fun c => decide (c ∈ ks)) V.str (es_at ev_c (hK _)) (by decide) (fun _ => rfl) (fun c H2 e2 _ => et_test (ev_inT (ev_var rfl) (ev_var rfl) (ex_t (e1.trans e2) hS))) (fun c H2 e2 _ _ => ev_var rfl)))) (kinds_sh hks) ?_)) ?_) fun H2 e2 => q H2 (e1.trans e2)
      · rw [kinds_fil hks]
        exact kinds_sh hks
      · rw [kinds_fil hks, kinds_eq hks, Bool.and_true]
        have : 0 < (sl ks).length := by rw [XB.len_sl]; exact kinds_pos hks
        show V.bl (decide ((0 : Int) < ((sl ks).length : Int))) = _
        rw [decide_eq_true (by omega)]
end
end T
namespace T
open PySem PySem.Spec PyProof.Rows L2 Evl XB TL
section
variable {P : Program} {w : World} {K : PySem.W.Frag} {mg : Str → Option Value} {base : Heap}
/-! ### is_cell -/
def spIsCell (K : PySem.W.Frag) : Sp := fun vs H Q _ => ∃ (a b : Addr) (m i s : Str) (ks : List Str), vs = [.ref a, .ref b] ∧ SqT K H a (sl [m, i, s]) ∧ SqT K H b (sl ks) ∧ ∀ H', Ex H H' → Q (.bl (decide (m ∈ ks) && (decide (i ∈ ks) && decide (s ∈ rels)))) H'
theorem c_isCell (D : At K mg "is_cell" s_is_cell ["value", "kinds"]) (B : Bl mg) (T : TupC K mg "RELATIONS" rels) (Cw : C8.Cal P w K mg base 1 "is_word" (spWord K) []) : C8.Cal P w K mg base 2 "is_cell" (spIsCell K) [] := by
  obtain ⟨ak, mk, hK⟩ := T.ex
  refine cal_of D sc_is_cell (fun vs H Q E h => ?_) (fun f cdv A outer s H vs Q E hr h => ?_)
  · obtain ⟨a, b, m, i, s, ks, rfl, _⟩ := h
    rfl
  · obtain ⟨a, b, m, i, s, ks, rfl, hS, hk, q⟩ := h
    refine ⟨_, pss_cons (ps_if (PW.pt (pw_or (pt_not (pt_val (pe_callB call_isi (by rfl) B.isin (by decide +kernel) (pa_cons (pv 0) (pa_cons (pe_bltn (v := .ty "tuple") (by rfl) B.tuple (by decide +kernel) rfl) pa_nil))))) (pw_or1 (pt_cmpR op_ne (pe_callB call_len_seq (by rfl) B.len (by decide +kernel) (pa_cons (pv 0) pa_nil)) pe_int (nomark _))))) (pss_one (ps_ret pe_bl)) pss_nil)
      (pss_cons (ps_asg (pv 0) (pg_tup (by rfl) (pgs_cons (pg_name (i := 2) sc_is_cell.nd rfl (.inl rfl)) (pgs_cons (pg_name (i := 3) sc_is_cell.nd rfl (.inl rfl)) (pgs_cons (pg_name (i := 4) sc_is_cell.nd rfl (.inl rfl)) pgs_nil)))))
      (pss_one (ps_ret (pe_and (C8.pe_c Cw hr (by decide) (by rfl) (pa_cons (pv 2) (pa_cons (pv 1) pa_nil))) (pe_and (C8.pe_c Cw hr (by decide) (by rfl) (pa_cons (pv 3) (pa_cons (pv 1) pa_nil))) (pe_one (C8.pe_c Cw hr (by decide) (by rfl) (pa_cons (pv 4) (pa_cons (pe_glob (v := .ref ak) (by rfl) mk rfl) pa_nil))))))))), ?_⟩
    refine q_when (b := false) (et_or (et_not (et_B (ev_isTup (ev_var rfl) hS))) (fun _ => et_test (ev_is (ev_op (ev_lenS (ev_var rfl) (.inr hS)) ev_c (rv_ne rfl)) rfl))) (fun z => by cases z) (fun _ H1 e1 => ?_)
    refine ⟨_, rfl, a, _, rfl, ex_t e1 hS, rfl, _, _, rfl, _, _, rfl, _, _, rfl, rfl, ?_⟩
    refine s_ret (v := .bl (decide (m ∈ ks) && (decide (i ∈ ks) && decide (s ∈ rels)))) (ev_andV (word_at (x := m) (ev_var rfl) (ev_var rfl) (ex_t e1 hk)) (fun _ => ev_andV (word_at (x := i) (ev_var rfl) (ev_var rfl) (ex_t e1 hk)) (fun _ => word_at (x := s) (ev_var rfl) ev_c (hK _)))) ?_
    exact fun H2 e2 => q H2 (e1.trans e2)
/-! ### cell_of, options_of -/
def spCellOf (n : Nat → List Str → List Str) : Sp := fun vs H Q _ => ∃ (x : Str), vs = [.str x] ∧ x.length ≤ 1000 ∧ ∀ l H', Ex H H' → H l = none → H' l = some (.tup (sl (n 3 (Txt.split x " ")))) → Q (.ref l) H'
theorem cut_take (xs : List V) : cutV xs none (some 3) = xs.take 3 := by
  unfold cutV
  rw [HT.sIx_none, show (some (3 : Int)) = some ((3 : Nat) : Int) from rfl, HT.sIx_nat, List.drop_zero, Nat.sub_zero]
  by_cases h : 3 ≤ xs.length
  · rw [Nat.min_eq_left h]
  · rw [Nat.min_eq_right (by omega), List.take_length, List.take_of_length_le (by omega)]
theorem cut_drop (xs : List V) : cutV xs (some 3) none = xs.drop 3 := by
  unfold cutV
  rw [HT.sIx_none, show (some (3 : Int)) = some ((3 : Nat) : Int) from rfl, HT.sIx_nat]
  by_cases h : 3 ≤ xs.length
  · rw [Nat.min_eq_left h, List.take_of_length_le (by rw [List.length_drop] <;> exact Nat.le_refl _)]
  · rw [Nat.min_eq_right (by omega), Nat.sub_self, List.take_zero, List.drop_eq_nil_of_le (by omega)]
theorem c_cellOf (D : At K mg "cell_of" s_cell_of ["row"]) (B : Bl mg) : C8.Cal P w K mg base 1 "cell_of" (spCellOf List.take) [] := by
  refine cal_of D sc_cell_of (fun vs H Q E h => ?_) (fun f cdv A outer s H vs Q E hr h => ?_)
  · obtain ⟨x, rfl, _⟩ := h
    rfl
  · obtain ⟨x, rfl, hx, q⟩ := h
    refine ⟨_, pss_one (ps_ret (pe_callTy call_tuple_of (by rfl) B.tuple (by decide +kernel) (pa_cons (pe_slice sl_list (pe_split (pv 0) pe_str) po_none (po_some pe_int)) pa_nil))), ?_⟩
    exact s_retU (eu_tuple (el_is (el_slN (el_split (ev_var rfl) ev_c rfl (by rw [sizeLine_eq]; omega)) eo_none (eo_some ev_c)) (by rw [cut_take]; exact List.map_take.symm))) fun l H1 n1 e1 h1 => q l H1 e1 n1 h1
theorem c_optsOf (D : At K mg "options_of" s_options_of ["row"]) (B : Bl mg) : C8.Cal P w K mg base 1 "options_of" (spCellOf List.drop) [] := by
  refine cal_of D sc_options_of (fun vs H Q E h => ?_) (fun f cdv A outer s H vs Q E hr h => ?_)
  · obtain ⟨x, rfl, _⟩ := h
    rfl
  · obtain ⟨x, rfl, hx, q⟩ := h
    refine ⟨_, pss_one (ps_ret (pe_callTy call_tuple_of (by rfl) B.tuple (by decide +kernel) (pa_cons (pe_slice sl_list (pe_split (pv 0) pe_str) (po_some pe_int) po_none) pa_nil))), ?_⟩
    exact s_retU (eu_tuple (el_is (el_slN (el_split (ev_var rfl) ev_c rfl (by rw [sizeLine_eq]; omega)) (eo_some ev_c) eo_none) (by rw [cut_drop]; exact List.map_drop.symm))) fun l H1 n1 e1 h1 => q l H1 e1 n1 h1
/-! ### conditions_for, results_for -/
def spConds (K : PySem.W.Frag) : Sp := fun vs H Q _ => ∃ (m i : Str) (ks : List Str), vs = [.str m, .str i] ∧ ks ∈ kinds7 ∧ m ∈ ks ∧ i ∈ ks ∧ ∀ l H', Ex H H' → SqT K H' l (sl (condsOf m i)) → Q (.ref l) H'
theorem conds_eq {m i : Str} {ks : List Str} (h : ks ∈ kinds7) (hm : m ∈ ks) (hi : i ∈ ks) : condsOf m i = if m ∈ [("put" : Str), "set"] ∧ i ∈ [("put" : Str), "set"] then ("first" : Str) :: ["less", "same", "more"] else ["first"] := by
  have all : ∀ ks ∈ kinds7, ∀ m ∈ ks, ∀ i ∈ ks, condsOf m i = if m ∈ [("put" : Str), "set"] ∧ i ∈ [("put" : Str), "set"] then ("first" : Str) :: ["less", "same", "more"] else ["first"] := by decide +kernel
  exact all ks h m hm i hi
theorem c_conds (D : At K mg "conditions_for" s_conditions_for ["mine", "its"]) (T : TupC K mg "KINDS_WITH_SIGN" ["put", "set"]) (T2 : TupC K mg "SIGN_CONDITIONS" ["less", "same", "more"]) : C8.Cal P w K mg base 1 "conditions_for" (spConds K) [] := by
  obtain ⟨ak, mk, hK⟩ := T.ex
  obtain ⟨ac, mc, hc⟩ := T2.ex
  refine cal_of D sc_conditions_for (fun vs H Q E h => ?_) (fun f cdv A outer s H vs Q E hr h => ?_)
  · obtain ⟨m, i, ks, rfl, _⟩ := h
    rfl
  · obtain ⟨m, i, ks, rfl, hks, hm, hi, q⟩ := h
    refine ⟨_, pss_cons (ps_if (PW.pt (pw_and (pt_cmpR op_in_seq (pv 0) (pe_glob (v := .ref ak) (by rfl) mk rfl) (by rfl)) (pw_and1 (pt_cmpR op_in_seq (pv 1) (pe_glob (v := .ref ak) (by rfl) mk rfl) (by rfl))))) (pss_one (ps_ret (pe_op op_catT (pe_tup (pa_cons pe_str pa_nil)) (pe_glob (v := .ref ac) (by rfl) mc rfl)))) pss_nil)
      (pss_one (ps_ret (pe_tup (pa_cons pe_str pa_nil)))), ?_⟩
    rw [conds_eq hks hm hi] at q
    refine q_when (et_and (et_test (ev_inT (ev_var rfl) ev_c (hK _))) (fun _ => et_test (ev_inT (ev_var rfl) ev_c (hK _)))) (fun z H1 e1 => ?_) (fun z H1 e1 => ?_)
    · rw [Bool.and_eq_true, decide_eq_true_eq, decide_eq_true_eq] at z
      rw [if_pos z] at q
      exact s_retS (es_cat (xs := sl ["first"]) (es_new (eu_tup (ea_str ea_nil) (by decide))) (es_at ev_c (hc _)) (by intro z; cases z) (by decide)) fun p H2 e2 h2 => q p H2 (e1.trans e2) h2
    · rw [if_neg (fun y => by rw [decide_eq_true y.1, decide_eq_true y.2] at z; cases z)] at q
      exact s_retS (es_new (eu_tup (ea_str ea_nil) (by decide))) fun p H2 e2 h2 => q p H2 (e1.trans e2) h2
def spRes (K : PySem.W.Frag) : Sp := fun vs H Q _ => ∃ (m : Str) (b : Addr) (ks : List Str), vs = [.str m, .ref b] ∧ SqT K H b (sl ks) ∧ ∀ l H', Ex H H' → SqT K H' l (sl (resultsOf m ks)) → Q (.ref l) H'
theorem c_res (D : At K mg "results_for" s_results_for ["mine", "kinds"]) (T : TupC K mg "RESULTS" ["keep", "up", "down", "stay"]) : C8.Cal P w K mg base 1 "results_for" (spRes K) [] := by
  obtain ⟨ak, mk, hK⟩ := T.ex
  refine cal_of D sc_results_for (fun vs H Q E h => ?_) (fun f cdv A outer s H vs Q E hr h => ?_)
  · obtain ⟨m, b, ks, rfl, _⟩ := h
    rfl
  · obtain ⟨m, b, ks, rfl, hb, q⟩ := h
    refine ⟨_, pss_cons (ps_if (PW.pt (pw_and (pt_cmpR op_eq (pv 0) pe_str (nomark _)) (pw_and1 (pt_cmpR op_in_seq pe_str (pv 1) (by rfl))))) (pss_one (ps_ret (pe_op op_catT (pe_glob (v := .ref ak) (by rfl) mk rfl) (pe_tup (pa_cons pe_str pa_nil))))) pss_nil)
      (pss_one (ps_ret (pe_glob (v := .ref ak) (by rfl) mk rfl))), ?_⟩
    unfold resultsOf at q
    refine q_when (et_and (et_test (ev_eqS (ev_var rfl) ev_c)) (fun _ => et_test (ev_inT ev_c (ev_var rfl) hb))) (fun z H1 e1 => ?_) (fun z H1 e1 => ?_)
    · rw [Bool.and_eq_true, decide_eq_true_eq, decide_eq_true_eq] at z
      rw [if_pos z] at q
      exact s_retS (es_cat (xs := sl ["keep", "up", "down", "stay"]) (es_at ev_c (hK _)) (es_new (eu_tup (ea_str ea_nil) (by decide))) (by intro z; cases z) (by decide)) fun p H2 e2 h2 => q p H2 (e1.trans e2) h2
    · rw [if_neg (fun y => by rw [decide_eq_true y.1, decide_eq_true y.2] at z; cases z), List.append_nil] at q
      exact s_retS (es_at ev_c (hK _)) fun p H2 e2 h2 => q p H2 (e1.trans e2) h2
end
end T
namespace T
open PySem PySem.Spec PyProof.Rows L2 Evl XB TL
theorem parts_split {ks : List Str} {c : Cell} (h : ks ∈ kinds7) (g : GoodC ks c) : Txt.split (lineOf c) " " = partsOf c := by
  refine split_join (s := 32) (S := []) rfl (by decide +kernel) (by intro z; cases z) fun p hp z => ?_
  have sm := (small_parts h g).1 p hp
  unfold Small at sm
  rw [Bool.and_eq_true, List.all_eq_true] at sm
  have := sm.2 32 z
  simp at this
theorem cut_init (xs : List V) (z : V) : cutV (xs ++ [z]) none (some (-1)) = xs := by
  unfold cutV
  rw [HT.sIx_none, List.drop_zero, Nat.sub_zero, List.length_append, List.length_singleton]
  have : HT.sIx (xs.length + 1) (xs.length + 1) (some (-1)) = xs.length := by
    show (if (-1 : Int) < 0 then ((-1 : Int) + ((xs.length + 1 : Nat) : Int)).toNat else min (-1 : Int).toNat (xs.length + 1)) = _
    rw [if_pos (by decide)]
    omega
  rw [this, List.take_left']
  rfl
theorem atI_last (l : List V) (v : V) : atI (l ++ [v]) (-1) = some v := by
  unfold atI ixN
  rw [List.length_append, List.length_singleton, if_neg (by decide), if_pos (by omega), show ((-1 : Int) + ((l.length + 1 : Nat) : Int)).toNat = l.length by omega]
  exact List.getElem?_concat_length
theorem cut_not (n : Nat) : ¬ (HT.sIx (n + 1) 0 none = 0 ∧ HT.sIx (n + 1) (n + 1) (some (-1)) = n + 1) := fun ⟨_, h⟩ => by
  have : (if (-1 : Int) < 0 then ((-1 : Int) + ((n + 1 : Nat) : Int)).toNat else min (-1 : Int).toNat (n + 1)) = n + 1 := h
  rw [if_pos (by decide)] at this
  omega
section
variable {P : Program} {w : World} {K : PySem.W.Frag} {mg : Str → Option Value} {base : Heap}
section
variable {σ : L2.St} {H : Hp} {ta tb te : TE} {tz : TS} {D : Ends}
theorem eu_cell {n : Nat → List Str → List Str} {x : Str} {E : XK} (ha : Ev ta σ H (.str x)) (hx : x.length ≤ 1000) : EvU (tCall (spCellOf n) [] E (tCons ta tNil)) σ H (sl (n 3 (Txt.split x " "))) := fun H1 e Q q =>
  ha H1 e _ fun H2 e2 => ⟨x, rfl, hx, fun l H3 e3 n3 h3 => q l H3 (fresh_back e2 n3) (e2.trans e3) h3⟩
theorem ev_isCell {m i s : Str} {b : Addr} {ks : List Str} {E : XK} (ha : EvS K ta σ H (sl [m, i, s])) (hb : Ev tb σ H (.ref b)) (hS : SqT K H b (sl ks)) : Ev (tCall (spIsCell K) [] E (tCons ta (tCons tb tNil))) σ H (.bl (decide (m ∈ ks) && (decide (i ∈ ks) && decide (s ∈ rels)))) := fun H1 e Q q =>
  ha H1 e _ fun p H2 e2 hp => hb H2 (e.trans e2) _ fun H3 e3 => ⟨p, b, m, i, s, ks, rfl, ex_t e3 hp, ex_t ((e.trans e2).trans e3) hS, fun H' e' => q H' ((e2.trans e3).trans e')⟩
theorem q_asgT3 {i j k : Nat} {x y z : V} (h : EvS K te σ H [x, y, z]) (q : ∀ H1, Ex H H1 → tz D (((σ.set i (some x)).set j (some y)).set k (some z)) H1) : tSeq (tAsg te (gTup K 3 (gCons (gName i) (gCons (gName j) (gCons (gName k) gNil))))) tz D σ H :=
  h H (Ex.refl H) _ fun p H1 e1 hp => ⟨p, _, rfl, hp, rfl, _, _, rfl, _, _, rfl, _, _, rfl, rfl, q H1 e1⟩
theorem ev_addS {x y : Str} (ha : Ev ta σ H (.str x)) (hb : Ev tb σ H (.str y)) (hz : x.length + y.length ≤ 100000) : Ev (tOp (fun x y H Q => ∃ i j, x = .str i ∧ y = .str j ∧ i.length + j.length ≤ sizeLine ∧ Q (.str (i ++ j)) H) ta tb) σ H (.str (x ++ y)) :=
  ev_op ha hb fun H1 e Q q => ⟨x, y, rfl, rfl, sz_of hz, q H1 (Ex.refl H1)⟩
theorem es_conds {m i : Str} {ks : List Str} {E : XK} (ha : Ev ta σ H (.str m)) (hb : Ev tb σ H (.str i)) (hk : ks ∈ kinds7) (hm : m ∈ ks) (hi : i ∈ ks) : EvS K (tCall (spConds K) [] E (tCons ta (tCons tb tNil))) σ H (sl (condsOf m i)) := fun H1 e Q q =>
  ha H1 e _ fun H2 e2 => hb H2 (e.trans e2) _ fun H3 e3 => ⟨m, i, ks, rfl, hk, hm, hi, fun l H4 e4 h4 => q l H4 ((e2.trans e3).trans e4) h4⟩
theorem es_res {m : Str} {b : Addr} {ks : List Str} {E : XK} (ha : Ev ta σ H (.str m)) (hb : Ev tb σ H (.ref b)) (hS : SqT K H b (sl ks)) : EvS K (tCall (spRes K) [] E (tCons ta (tCons tb tNil))) σ H (sl (resultsOf m ks)) := fun H1 e Q q =>
  ha H1 e _ fun H2 e2 => hb H2 (e.trans e2) _ fun H3 e3 => ⟨m, b, ks, rfl, ex_t ((e.trans e2).trans e3) hS, fun l H4 e4 h4 => q l H4 ((e2.trans e3).trans e4) h4⟩
end
theorem res_len (m : Str) (ks : List Str) : (resultsOf m ks).length ≤ 5 := by
  unfold resultsOf
  split <;> decide
theorem cond_len (m i : Str) : (condsOf m i).length ≤ 4 := by
  unfold condsOf
  split <;> decide
theorem res_sm {m : Str} {ks : List Str} : ∀ r ∈ resultsOf m ks, r.length ≤ 16 := fun r h => (small_res r h).len
theorem cond_sm {m i : Str} : ∀ r ∈ condsOf m i, r.length ≤ 16 := by
  unfold condsOf
  split <;> decide
def spIsRow (K : PySem.W.Frag) : Sp := fun vs H Q _ => ∃ (b : Addr) (ks : List Str) (c : Cell), vs = [.str (lineOf c), .ref b] ∧ ks ∈ kinds7 ∧ GoodC ks c ∧ SqT K H b (sl ks) ∧ ∀ H', Ex H H' → Q (.bl true) H'
theorem c_isRow (D : At K mg "is_row" s_is_row ["value", "kinds"]) (B : Bl mg) {t : Tok} (mo : mg "MOST_OPTIONS" = some (.int 5 t)) (C1 : C8.Cal P w K mg base 2 "is_cell" (spIsCell K) []) (C2 : C8.Cal P w K mg base 1 "cell_of" (spCellOf List.take) []) (C3 : C8.Cal P w K mg base 1 "options_of" (spCellOf List.drop) [])
    (C4 : C8.Cal P w K mg base 1 "conditions_for" (spConds K) []) (C5 : C8.Cal P w K mg base 1 "results_for" (spRes K) []) : C8.Cal P w K mg base 3 "is_row" (spIsRow K) [] := by
  refine cal_of D sc_is_row (fun vs H Q E h => ?_) (fun f cdv A outer s H vs Q E hr h => ?_)
  · obtain ⟨b, ks, c, rfl, _⟩ := h
    rfl
  · obtain ⟨b, ks, c, rfl, hks, hg, hb, q⟩ := h
    refine ⟨_, pss_cons (ps_if (PW.pt (pw_or (pt_not (pt_val (pe_callB call_isi (by rfl) B.isin (by decide +kernel) (pa_cons (pv 0) (pa_cons (pe_bltn (v := .ty "str") (by rfl) B.str (by decide +kernel) rfl) pa_nil))))) (pw_or1 (pt_not (pt_val (C8.pe_c C1 hr (by decide) (by rfl) (pa_cons (C8.pe_c C2 hr (by decide) (by rfl) (pa_cons (pv 0) pa_nil)) (pa_cons (pv 1) pa_nil)))))))) (pss_one (ps_ret pe_bl)) pss_nil)
      (pss_cons (ps_asg (C8.pe_c C2 hr (by decide) (by rfl) (pa_cons (pv 0) pa_nil)) (pg_tup (by rfl) (pgs_cons (pg_name (i := 2) sc_is_row.nd rfl (.inl rfl)) (pgs_cons (pg_name (i := 3) sc_is_row.nd rfl (.inl rfl)) (pgs_cons (pg_name (i := 4) sc_is_row.nd rfl (.inl rfl)) pgs_nil)))))
      (pss_cons (ps_set (i := 5) sc_is_row.nd rfl (.inl rfl) (C8.pe_c C3 hr (by decide) (by rfl) (pa_cons (pv 0) pa_nil)))
      (pss_cons (ps_if (PW.pt (pw_or (pt_cmpR op_eq (pe_callB call_len_seq (by rfl) B.len (by decide +kernel) (pa_cons (pv 5) pa_nil)) pe_int (nomark _)) (pw_or1 (pt_cmpR op_gt (pe_callB call_len_seq (by rfl) B.len (by decide +kernel) (pa_cons (pv 5) pa_nil)) (pe_glob (v := .int 5) (by rfl) mo ⟨_, rfl⟩) (nomark _))))) (pss_one (ps_ret pe_bl)) pss_nil)
      (pss_cons (ps_set (i := 6) sc_is_row.nd rfl (.inr rfl) (C8.pe_c C5 hr (by decide) (by rfl) (pa_cons (pv 2) (pa_cons (pv 1) pa_nil))))
      (pss_cons (ps_set (i := 7) sc_is_row.nd rfl (.inr rfl) (pe_lc2 (own := [("condition", 8), ("result", 9)]) (vs1 := [9]) (g := gName 8) (g1 := gName 9) (tt := tYes) (tt1 := tYes) (wi1 := iTup K (tVar 6)) (te := tOp (fun x y H Q => ∃ i j, x = .str i ∧ y = .str j ∧ i.length + j.length ≤ sizeLine ∧ Q (.str (i ++ j)) H) (tOp (fun x y H Q => ∃ i j, x = .str i ∧ y = .str j ∧ i.length + j.length ≤ sizeLine ∧ Q (.str (i ++ j)) H) (tVar 8) (tC (.str ":"))) (tVar 9))
          rfl sc_is_row.nd (pi_tup (C8.pe_c C4 hr (by decide) (by rfl) (pa_cons (pv 2) (pa_cons (pv 3) pa_nil))))
          (blkOk_by (own := [("condition", 8), ("result", 9)]) (N := N_is_row) (sc := defScope s_is_row) (by decide +kernel)) (by decide) (fun _ _ _ _ _ => pg_name (i := 8) sc_is_row.nd rfl (Or.inl rfl)) (fun _ _ _ _ _ => pts_nil)
          (fun _ _ _ _ _ => pi_tup (pv 6)) (fun _ _ _ _ _ => pg_name (i := 9) sc_is_row.nd rfl (Or.inl rfl)) (fun _ _ _ _ _ => pts_nil) (fun _ _ _ _ _ => pe_op op_add_str (pe_op op_add_str (pv 8) pe_str) (pv 9))))
      (pss_one (ps_ret (pe_and (pe_callB (cr_all rfl) (by rfl) B.all_ (by decide +kernel) (pa_cons
        (pe_lc (own := [("option", 10)]) (g := gName 10) (tt := tYes) (te := tOp (rIn K false) (tVar 10) (tVar 7)) rfl sc_is_row.nd (pi_tup (pe_slice sl_tup (pv 5) po_none (po_some (pe_un un_neg pe_int))))
            (blkOk_by (own := [("option", 10)]) (N := N_is_row) (sc := defScope s_is_row) (by decide +kernel)) (fun _ _ _ _ _ => pg_name (i := 10) sc_is_row.nd rfl (Or.inl rfl)) (fun _ _ _ _ _ => pts_nil)
            (fun _ _ _ _ _ => pe_cmpR op_in_seq (pv 10) (pv 7) (by rfl))) pa_nil)) (pe_one (pe_cmpR op_in_seq (pe_ix ix_tup (pv 5) (pe_un un_neg pe_int) (fun _ _ => rfl)) (pv 6) (by rfl))))))))))), ?_⟩
    obtain ⟨g1, g2, g3, g4⟩ := hg
    have sp := parts_split hks (show GoodC ks c from ⟨g1, g2, g3, g4⟩)
    have ll := line_len hks (show GoodC ks c from ⟨g1, g2, g3, g4⟩)
    have cellT : ∀ {H1 : Hp} {σ : L2.St} {E : XK}, σ[0]? = some (some (.str (lineOf c))) → EvU (tCall (spCellOf List.take) [] E (tCons (tVar 0) tNil)) σ H1 (sl [c.1, c.2.1, c.2.2.1]) := fun {H1 σ E} e => by
      have z := eu_cell (n := List.take) (H := H1) (E := E) (ev_var e) (by omega)
      rw [sp] at z
      exact z
    have cellD : ∀ {H1 : Hp} {σ : L2.St} {E : XK}, σ[0]? = some (some (.str (lineOf c))) → EvU (tCall (spCellOf List.drop) [] E (tCons (tVar 0) tNil)) σ H1 (sl c.2.2.2) := fun {H1 σ E} e => by
      have z := eu_cell (n := List.drop) (H := H1) (E := E) (ev_var e) (by omega)
      rw [sp] at z
      exact z
    obtain ⟨pre, z, hws, hpl, hpre, hz⟩ := g4
    have wl : (sl c.2.2.2).length = pre.length + 1 := by rw [XB.len_sl, hws, List.length_append]; rfl
    have rl := res_len c.1 ks
    have cl := cond_len c.1 c.2.1
    refine q_when (b := false) (et_is (et_or (et_not (et_B (ev_isStr (ev_var rfl)))) (fun _ => et_not (et_B (ev_isCell (es_new (cellT rfl)) (ev_var rfl) hb)))) (by rw [decide_eq_true g1, decide_eq_true g2, decide_eq_true g3]; rfl)) (fun z => by cases z) (fun _ H1 e1 => ?_)
    refine q_asgT3 (es_new (cellT rfl)) fun H2 e2 => ?_
    refine q_asgU (cellD rfl) fun po H3 n3 e3 h3 => ?_
    refine q_when (b := false) (et_is (et_or (et_test (ev_op (ev_lenS (ev_var rfl) (.inr (st_of h3))) ev_c (rv_eq rfl))) (fun _ => et_test (ev_op (ev_lenS (ev_var rfl) (.inr (st_of h3))) ev_c rv_I0))) ?_) (fun z => by cases z) (fun _ H4 e4 => ?_)
    · rw [wl]
      show (decide (V.int ((pre.length + 1 : Nat) : Int) = V.int 0) || decide ((5 : Int) < ((pre.length + 1 : Nat) : Int))) = false
      rw [decide_eq_false (fun q => by injection q with q; omega), decide_eq_false (by omega)]
      rfl
    have e14 := ((e1.trans e2).trans e3).trans e4
    refine q_asgS (es_res (ev_var rfl) (ev_var rfl) (ex_t e14 hb)) fun pr H5 e5 h5 => ?_
    refine q_asgL (el_lc2S (ws := condsOf c.1 c.2.1) (us := resultsOf c.1 ks) (fun a b => a ++ ":" ++ b) (es_conds (ev_var rfl) (ev_var rfl) hks g1 g2) ?_ (fun _ => rfl) (fun _ _ => rfl) (fun a G eG _ => es_at (ev_var rfl) (ex_t eG h5)) (fun a r G eG ma mr => ev_addS (ev_addS (ev_var rfl) ev_c ?_) (ev_var rfl) ?_)) fun pt H6 n6 e6 h6 => ?_
    · have : (condsOf c.1 c.2.1).length * (resultsOf c.1 ks).length ≤ 4 * 5 := Nat.mul_le_mul cl rl
      omega
    · have := cond_sm a ma
      show _ + 1 ≤ _
      omega
    · rw [show (a ++ ":" : Str).length = a.length + 1 from by rw [Str.length_append] <;> rfl]
      have := cond_sm a ma
      have := res_sm r mr
      omega
    have h36 := (e4.trans e5).trans e6 _ _ h3
    have hpt : SqT K H6 po (sl pre ++ [.str z]) := by
      have : sl c.2.2.2 = sl pre ++ [.str z] := by rw [hws]; exact (sl_cat pre [z]).symm
      rw [← this]
      exact st_of h36
    refine s_ret (ev_is (ev_andV (b := true) (ev_all (bs := pre.map fun _ => true) (el_is (el_lcS (ws := pre) (fun _ => true) (fun _ => .bl true) (es_is (es_new (eu_slT (ev_var rfl) hpt eo_none (eo_some (ev_un ev_c ru_neg)) ?_)) (cut_init _ _)) (by omega) (fun _ => rfl) (fun _ _ _ _ => fun H1 _ _ z => z H1 (Ex.refl H1)) (fun o G eG mo _ => ev_is (ev_inL (ev_var rfl) (ev_var rfl) (sq_of (eG _ _ h6))) ?_)) ?_)) (fun _ => ev_is (ev_inT (x := z) (ev_ixT (ev_var rfl) (ev_un ev_c ru_neg) hpt ?_) (ev_var rfl) (ex_t e6 h5)) (by rw [decide_eq_true hz]))) ?_) fun H7 e7 => q H7 (((e14.trans e5).trans e6).trans e7)
    · rw [List.length_append]
      exact cut_not _
    · obtain ⟨a, ha, r, hr, rfl⟩ := hpre o mo
      rw [decide_eq_true]
      exact List.mem_flatMap.mpr ⟨a, ha, List.mem_map.mpr ⟨r, hr, rfl⟩⟩
    · rw [List.filter_eq_self.mpr (fun _ _ => rfl), List.map_map]
      rfl
    · exact atI_last _ _
    · rw [Bool.and_true, List.all_map]
      show V.bl (pre.all fun _ => true) = .bl true
      rw [List.all_eq_true.mpr (fun _ _ => rfl)]
end
end T
namespace T
open PySem PySem.Spec PyProof.Rows L2 Evl XB TL XS XI
theorem walk_enumT {K : PySem.W.Frag} {a : Addr} {xs : List V} : Walk (Itet K a) xs.length (fun H => SqT K H a xs) (YPair (fun i => some (.int (i : Nat))) (fun i => xs[i]?)) := by
  refine ⟨fun i _ hi q => ⟨xs, xs[i], q, by simp [hi]⟩, fun _ q => ⟨xs, q, Nat.le_refl _⟩, fun i H v H' _ q y => ?_⟩
  obtain ⟨T, x, h1, h2, h3, h4⟩ := y
  exact ⟨T, .int (i : Nat), x, h1, h2, h3, rfl, h4 xs q⟩
theorem Rows.ex {H H' : Hp} {L : List (Addr × XS.Nm)} (h : XS.Rows H L) (e : Ex H H') : XS.Rows H' L := fun p hp => e _ _ (h p hp)
theorem nd_not {α : Type} {l : List α} (hn : l.Nodup) {i : Nat} {x : α} (h : l[i]? = some x) : x ∉ l.take i := fun m => by
  obtain ⟨j, hj⟩ := List.mem_iff_getElem?.mp m
  have hlt : j < (l.take i).length := (List.getElem?_eq_some_iff.mp hj).1
  rw [List.length_take] at hlt
  rw [List.getElem?_take_of_lt (by omega)] at hj
  have := L2.nd_ix hn hj h
  omega
section
variable {P : Program} {w : World} {K : PySem.W.Frag} {mg : Str → Option Value} {base : Heap}
theorem ev_isRow {σ : L2.St} {H : Hp} {ta tb : TE} {b : Addr} {ks : List Str} {c : Cell} {E : XK} (ha : Ev ta σ H (.str (lineOf c))) (hb : Ev tb σ H (.ref b)) (hS : SqT K H b (sl ks)) (hk : ks ∈ kinds7) (hg : GoodC ks c) : Ev (tCall (spIsRow K) [] E (tCons ta (tCons tb tNil))) σ H (.bl true) :=
  ev_call (ea_cons ha (ea_cons hb ea_nil)) fun H1 e Q q E => ⟨b, ks, c, rfl, hk, hg, ex_t e hS, q⟩
theorem eu_cellT {σ : L2.St} {H : Hp} {ta : TE} {ks : List Str} {c : Cell} {E : XK} (ha : Ev ta σ H (.str (lineOf c))) (hk : ks ∈ kinds7) (hg : GoodC ks c) : EvU (tCall (spCellOf List.take) [] E (tCons ta tNil)) σ H ((nmOf c).map kV) := by
  have z := eu_cell (n := List.take) (E := E) ha (by have := line_len hk hg; omega)
  rw [parts_split hk hg] at z
  exact z
theorem eu_cellD {σ : L2.St} {H : Hp} {ta : TE} {ks : List Str} {c : Cell} {E : XK} (ha : Ev ta σ H (.str (lineOf c))) (hk : ks ∈ kinds7) (hg : GoodC ks c) : EvU (tCall (spCellOf List.drop) [] E (tCons ta tNil)) σ H (sl c.2.2.2) := by
  have z := eu_cell (n := List.drop) (E := E) ha (by have := line_len hk hg; omega)
  rw [parts_split hk hg] at z
  exact z
def spFirst (K : PySem.W.Frag) : Sp := fun vs H Q _ => ∃ (r b : Addr) (ks : List Str) (cs : List Cell), vs = [.ref r, .ref b] ∧ ks ∈ kinds7 ∧ Cells ks cs ∧ SqT K H r (sl (cs.map lineOf)) ∧ SqT K H b (sl ks) ∧ ∀ H', Ex H H' → Q .non H'
theorem c_first (D : At K mg "first_wrong_row" s_first_wrong_row ["rows", "kinds"]) (B : Bl mg) (C1 : C8.Cal P w K mg base 3 "is_row" (spIsRow K) []) (C2 : C8.Cal P w K mg base 1 "cell_of" (spCellOf List.take) []) : C8.Cal P w K mg base 4 "first_wrong_row" (spFirst K) [] := by
  refine cal_of D sc_first_wrong_row (fun vs H Q E h => ?_) (fun f cdv A outer s H vs Q E hr h => ?_)
  · obtain ⟨r, b, ks, cs, rfl, _⟩ := h
    rfl
  · obtain ⟨r, b, ks, cs, rfl, hks, hC, hrr, hb, q⟩ := h
    have hu : (cxOf CX0 P w K mg base N_first_wrong_row "first_wrong_row" (defScope s_first_wrong_row) f cdv A outer s H E).nox.A.units + 1 < cLine := by have := hr.units; exact Nat.lt_of_le_of_lt (Nat.add_le_add_left (by decide) _) this
    refine ⟨_, pss_cons (ps_set (i := 2) sc_first_wrong_row.nd rfl (.inl rfl) (pe_callTy0 cr_setNew (by rfl) B.set_ (by decide +kernel)))
      (pss_cons (ps_for PassesOwn.never rfl (pi_enumT (by rfl) B.enum (pa_cons (pv 0) pa_nil)) (pg_tup (by rfl) (pgs_cons (pg_name (i := 3) sc_first_wrong_row.nd rfl (.inl rfl)) (pgs_cons (pg_name (i := 4) sc_first_wrong_row.nd rfl (.inl rfl)) pgs_nil)))
        (pss_cons (ps_if (PW.pt (pw_or (pt_not (pt_val (C8.pe_c C1 hr (by decide) (by rfl) (pa_cons (pv 4) (pa_cons (pv 1) pa_nil))))) (pw_or1 (pt_cmpR (op_setIn hu) (C8.pe_c C2 hr (by decide) (by rfl) (pa_cons (pv 4) pa_nil)) (pv 2) (by rfl))))) (pss_one (ps_ret (pv 3))) pss_nil)
        (pss_one (ps_expr (pe_setAdd hu (pv 2) (pa_cons (C8.pe_c C2 hr (by decide) (by rfl) (pa_cons (pv 4) pa_nil)) pa_nil))))))
      (pss_one (ps_ret pe_non))), ?_⟩
    refine ⟨rfl, fun D nD => ?_⟩
    have sD : Same H (upd H D (SetN P w D [])) := Same.new (Same.refl H) nD
    refine ⟨_, rfl, r, _, rfl, Same.tup sD hrr, for_it walk_enumT
      (fun i σ G => ∃ y3 y4 L, σ = [some (.ref r), some (.ref b), some (.ref D), y3, y4] ∧ Same H G ∧ G D = some (SetN P w D L) ∧ XS.Rows G L ∧ (∀ n ∈ names L, n ∈ (cs.take i).map nmOf) ∧ L.length ≤ i)
      ⟨none, none, [], rfl, sD, upd_same, (fun _ z => by cases z), (fun _ z => by cases z), Nat.zero_le _⟩ (fun i σ G _ ⟨_, _, _, _, e, _⟩ => Same.tup e hrr) ?_ ?_⟩
    · rintro i x σ G G' hi ⟨y3, y4, L, rfl, sG, hD, hR, hN, hlen⟩ ⟨T, a1, a2, rfl, nT, rfl, e1, e2⟩
      injection e1 with e1
      subst e1
      obtain ⟨ln, hln, rfl⟩ := mem_at e2
      rw [List.getElem?_map] at hln
      obtain ⟨c, hc, rfl⟩ : ∃ c, cs[i]? = some c ∧ ln = lineOf c := by
        cases e : cs[i]? with
        | none => rw [e] at hln; cases hln
        | some c => rw [e] at hln; cases hln; exact ⟨c, rfl, rfl⟩
      have hi2 : i < 27 := by
        have := hC.few
        have := (List.getElem?_eq_some_iff.mp hc).1
        omega
      have hg := hC.good c (List.mem_of_getElem? hc)
      have nin : nmOf c ∉ names L := fun m => by
        have z := hN _ m
        have y : (cs.map nmOf)[i]? = some (nmOf c) := by rw [List.getElem?_map, hc]; rfl
        rw [List.map_take] at z
        exact nd_not hC.nd y z
      have sT : Ex G (upd G T (.tup [.int (i : Nat), .str (lineOf c)])) := Ex.new nT
      refine ⟨T, _, rfl, SqT.of upd_same, rfl, _, _, rfl, _, _, rfl, rfl, ?_⟩
      have hD1 := sT _ _ hD
      have hR1 := Rows.ex hR sT
      have sH1 : Same H _ := sG.trans sT
      refine q_when (b := false) (et_or (et_not (et_B (ev_isRow (ev_var rfl) (ev_var rfl) (Same.tup sH1 hb) hks hg))) (fun _ => et_test fun G1 g1 Q1 q1 => eu_cellT (ev_var rfl) hks hg G1 g1 _ fun p G2 n2 e2 hp => ⟨_, rfl, D, p, nmOf c, L, rfl, rfl, e2 _ _ (g1 _ _ hD1), Rows.ex (Rows.ex hR1 g1) e2, hp, by rw [hasN_neg nin]; exact q1 G2 e2⟩)) (fun z => by cases z) (fun _ G1 g1 => ?_)
      have hD2 := g1 _ _ hD1
      have hR2 := Rows.ex hR1 g1
      refine ⟨_, rfl, ⟨D, L, rfl, hD2, hR2⟩, eu_cellT (ev_var rfl) hks hg G1 (Ex.refl _) _ fun p G2 n2 e2 hp => ⟨D, p, nmOf c, L, rfl, rfl, e2 _ _ hD2, Rows.ex hR2 e2, hp, by omega, fun L' h1 h2 => ?_⟩⟩
      have pm := h2 nin
      have hD3 := e2 _ _ hD2
      refine ⟨_, _, L', rfl, Same.own ((sH1.trans g1).trans e2) nD, upd_same, ?_, ?_, ?_⟩
      · intro y hy
        rcases List.mem_cons.mp (pm.mem_iff.mp hy) with rfl | z
        · exact kpm hp (ne_of hp hD3 fun q => by cases q)
        · exact kpm ((Rows.ex hR2 e2) y z) (ne_of ((Rows.ex hR2 e2) y z) hD3 fun q => by cases q)
      · intro n hn
        have : n ∈ names ((p, nmOf c) :: L) := (pm.map _).mem_iff.mp hn
        rw [List.take_succ, hc, List.map_append]
        rcases List.mem_cons.mp this with rfl | z
        · exact List.mem_append_right _ (List.mem_singleton.mpr rfl)
        · exact List.mem_append_left _ (hN n z)
      · rw [pm.length_eq]
        exact Nat.succ_le_succ hlen
    · rintro σ G ⟨y3, y4, L, rfl, sG, hD, hR, hN, hlen⟩
      exact q G sG
end
end T
namespace L2
open PySem PySem.Spec PyProof.Rows
/-- own: f(.., k = v, ..), positional defaults, no keyword-only parameter -/
theorem FunD.kbinds1 {K : PySem.W.Frag} {x qual : Str} {params : Arguments} {body : List Stmt} {scope : Scope} {dvs : List V} {f : Addr} {fd : FuncData} {ps : List Str} (F : FunD K x qual params body scope dvs [] f fd) (n : Nat) (ks : List Str) (g : List Value → List Value → List Value → List Value) (gV : List V → List V → List V → List V) (hd : dvs ≠ [])
    (hrel : ∀ {vs ds zs : List V} {us its ws : List Value}, Vals vs us → Vals ds its → Vals zs ws → Vals (gV vs ds zs) (g us its ws))
    (h : ∀ (T : Addr) (kV doc pm : Value) (an : Option Addr) (cdv ct : Value) (us its ws : List Value), us.length = n → its.length = dvs.length → ws.length = ks.length →
      ∃ k, bindArgs (PySem.W.fnOf x qual params body scope (.ref T) kV doc pm an cdv ct) ⟨us, ks.zip ws⟩ = seqItems? (.ref T) >>= k ∧ k (some its.toArray) = pure (ps.zip (g us its ws))) :
    ∃ its : List Value, KBn K fd ps n ks (fun us ws => g us its ws) (fun vs zs => gV vs dvs zs) := by
  obtain ⟨oc, od, dV, kV, doc, pm, an, cdv, ct, osl, rfl, lk, hcd, hD, hK⟩ := F.ex
  rcases hD with ⟨e, _⟩ | ⟨_, T, o, its, m, rfl, lT, oT, rT⟩
  · exact absurd e hd
  · refine ⟨its, ⟨fun s us ws X l1 l2 => ?_, fun r1 r2 => hrel r1 rT r2⟩⟩
    obtain ⟨k, e1, e2⟩ := h T kV doc pm an cdv ct us its ws l1 rT.length.symm l2
    refine BindsTo.of_looks fun M => ?_
    rw [e1]
    exact looks_items X lT oT (.of_pure e2)
end L2
namespace T
open PySem PySem.Spec PyProof.Rows L2 Evl XB TL XS XI
section
variable {P : Program} {w : World} {K : PySem.W.Frag} {mg : Str → Option Value} {base : Heap}
/-- the class of tables -/
structure TabC (K : PySem.W.Frag) (mg : Str → Option Value) (C : Addr) : Prop where
  mgT : mg "Table" = some (.ref C)
  cl : Cls K C
  k : NoAttr K C "_kinds"
  r : NoAttr K C "_rows"
  c : NoAttr K C "_cells"
/-- the dict of these cells -/
def DictOf (H : Hp) (kvs : List (Nm × V)) (cs : List Cell) : Prop := kvs.length = cs.length ∧ ∀ (i : Nat) (c : Cell), cs[i]? = some c → ∃ t : Addr, kvs[i]? = some (nmOf c, V.ref t) ∧ H t = some (.tup (sl c.2.2.2))
theorem DictOf.ex {H H' : Hp} {kvs : List (Nm × V)} {cs : List Cell} (h : DictOf H kvs cs) (e : Ex H H') : DictOf H' kvs cs := ⟨h.1, fun i c hc => by
  obtain ⟨t, h1, h2⟩ := h.2 i c hc
  exact ⟨t, h1, e _ _ h2⟩⟩
theorem DictOf.chg {H H' : Hp} {q : Addr} {zs : List V} {kvs : List (Nm × V)} {cs : List Cell} (h : DictOf H kvs cs) (hq : H q = some (.lst zs)) (c : Chg q H H') : DictOf H' kvs cs := ⟨h.1, fun i d hc => by
  obtain ⟨t, h1, h2⟩ := h.2 i d hc
  exact ⟨t, h1, c _ _ (ne_of h2 hq fun z => by cases z) h2⟩⟩
theorem DictOf.keys {H : Hp} {kvs : List (Nm × V)} {cs : List Cell} (h : DictOf H kvs cs) : kvs.map (·.1) = cs.map nmOf := by
  refine List.ext_getElem? fun i => ?_
  rw [List.getElem?_map, List.getElem?_map]
  cases e : cs[i]? with
  | none =>
    have : kvs[i]? = none := List.getElem?_eq_none (by rw [h.1]; exact List.getElem?_eq_none_iff.mp e)
    rw [this]
    rfl
  | some c =>
    obtain ⟨t, h1, _⟩ := h.2 i c e
    rw [h1]
    rfl
theorem valV_no {kvs : List (Nm × V)} {k : Nm} (h : k ∉ kvs.map (·.1)) : valV kvs k = none := by
  cases e : valV kvs k with
  | none => rfl
  | some v => exact absurd (valV_in e) h
theorem DictOf.put {H : Hp} {kvs : List (Nm × V)} {cs : List Cell} {c : Cell} {t : Addr} (h : DictOf H kvs cs) (n : nmOf c ∉ cs.map nmOf) (ht : H t = some (.tup (sl c.2.2.2))) : DictOf H (putK kvs (nmOf c) (.ref t)) (cs ++ [c]) := by
  rw [putK_new _ (valV_no (by rw [h.keys]; exact n))]
  refine ⟨by rw [List.length_append, List.length_append, h.1]; rfl, fun i d hd => ?_⟩
  by_cases hi : i < cs.length
  · rw [List.getElem?_append_left hi] at hd
    obtain ⟨u, h1, h2⟩ := h.2 i d hd
    exact ⟨u, by rw [List.getElem?_append_left (by rw [h.1]; exact hi)]; exact h1, h2⟩
  · rw [List.getElem?_append_right (by omega)] at hd
    have : i - cs.length = 0 := by
      have := (List.getElem?_eq_some_iff.mp hd).1
      rw [List.length_singleton] at this
      omega
    rw [this] at hd
    have e : d = c := by injection hd with z; exact z.symm
    subst e
    exact ⟨t, by rw [List.getElem?_append_right (by rw [h.1]; omega), h.1, this]; rfl, ht⟩
/-- .. written at D, where a dict stood -/
theorem DictOf.own {H : Hp} {D : Addr} {kvs ks' kvs0 : List (Nm × V)} {cs : List Cell} (h : DictOf H kvs cs) (hD : H D = some (.dT kvs0)) : DictOf (upd H D (.dT ks')) kvs cs := ⟨h.1, fun i c hc => by
  obtain ⟨t, h1, h2⟩ := h.2 i c hc
  exact ⟨t, h1, kpm h2 (ne_of h2 hD fun z => by cases z)⟩⟩
/-- .. and at an instance -/
theorem DictOf.ins {H : Hp} {x C dx : Addr} {fs : List (Str × V)} {o : HO} {kvs : List (Nm × V)} {cs : List Cell} (h : DictOf H kvs cs) (hx : H x = some (.ins C dx fs)) : DictOf (upd H x o) kvs cs := ⟨h.1, fun i c hc => by
  obtain ⟨t, h1, h2⟩ := h.2 i c hc
  exact ⟨t, h1, kpm h2 (ne_of h2 hx fun z => by cases z)⟩⟩
/-- a table of these kinds and cells stands at x -/
structure TabF (K : PySem.W.Frag) (C : Addr) (H : Hp) (x dx D a r : Addr) (kvs : List (Nm × V)) (ks : List Str) (cs : List Cell) : Prop where
  hx : H x = some (.ins C dx [("_kinds", .ref a), ("_rows", .ref r), ("_cells", .ref D)])
  ha : SqT K H a (sl ks)
  hr : SqT K H r (sl (cs.map lineOf))
  hD : H D = some (.dT kvs)
  d : DictOf H kvs cs
  c : Cells ks cs
def TabAt (K : PySem.W.Frag) (C : Addr) (H : Hp) (x : Addr) (ks lns : List Str) : Prop := ∃ dx D a r kvs cs, lns = cs.map lineOf ∧ TabF K C H x dx D a r kvs ks cs
theorem TabAt.raw {C : Addr} {H : Hp} {x : Addr} {ks lns : List Str} (h : TabAt K C H x ks lns) : ∃ dx D a r, H x = some (.ins C dx [("_kinds", .ref a), ("_rows", .ref r), ("_cells", .ref D)]) ∧ SqT K H a (sl ks) ∧ SqT K H r (sl lns) := by
  obtain ⟨dx, D, a, r, kvs, cs, rfl, f⟩ := h
  exact ⟨dx, D, a, r, f.hx, f.ha, f.hr⟩
theorem TabAt.ex {C : Addr} {H H' : Hp} {x : Addr} {ks lns : List Str} (h : TabAt K C H x ks lns) (e : Ex H H') : TabAt K C H' x ks lns := by
  obtain ⟨dx, D, a, r, kvs, cs, rfl, f⟩ := h
  exact ⟨dx, D, a, r, kvs, cs, rfl, e _ _ f.hx, ex_t e f.ha, ex_t e f.hr, e _ _ f.hD, f.d.ex e, f.c⟩
theorem ev_kinds {σ : L2.St} {H : Hp} {ta : TE} {a : Addr} {ks : List Str} {E : XK} (h : Ev ta σ H (.ref a)) (ha : SqT K H a (sl ks)) (hk : ks ∈ kinds7) : Ev (tCall (spKinds K) [] E (tCons ta tNil)) σ H (.bl true) :=
  ev_call (ea_cons h ea_nil) fun H1 e Q q E => ⟨a, ks, rfl, ex_t e ha, hk, q⟩
theorem ev_first {σ : L2.St} {H : Hp} {ta tb : TE} {a r : Addr} {ks : List Str} {cs : List Cell} {E : XK} (h : Ev ta σ H (.ref r)) (h2 : Ev tb σ H (.ref a)) (hk : ks ∈ kinds7) (hC : Cells ks cs) (hr : SqT K H r (sl (cs.map lineOf))) (ha : SqT K H a (sl ks)) : Ev (tCall (spFirst K) [] E (tCons ta (tCons tb tNil))) σ H .non :=
  ev_call (ea_cons h (ea_cons h2 ea_nil)) fun H1 e Q q E => ⟨r, a, ks, cs, rfl, hk, hC, ex_t e hr, ex_t e ha, q⟩
theorem sqt_ins {G : Hp} {b x C dx : Addr} {xs : List V} {fs : List (Str × V)} {o : HO} (h : SqT K G b xs) (hD : G x = some (.ins C dx fs)) : SqT K (upd G x o) b xs := by
  rcases h with (h | ⟨u, h⟩) | h
  · exact .inl (.inl (kpm h (ne_of h hD fun q => by cases q)))
  · exact .inl (.inr ⟨u, kpm h (ne_of h hD fun q => by cases q)⟩)
  · exact .inr h
def spInit (K : PySem.W.Frag) (C : Addr) : Sp := fun vs H Q _ => ∃ (x a r dx : Addr) (ks : List Str) (cs : List Cell), vs = [.ref x, .ref a, .ref r] ∧ H x = some (.ins C dx []) ∧ ks ∈ kinds7 ∧ Cells ks cs ∧ SqT K H a (sl ks) ∧ SqT K H r (sl (cs.map lineOf)) ∧
  ∀ D kvs H', H D = none → Chg x H H' → TabF K C H' x dx D a r kvs ks cs → Q .non H'
theorem c_init {C f : Addr} {fd : FuncData} {dvs : List V} (F : FunD K "__init__" "Table.__init__" (defArgs s_Table___init__) (defBody s_Table___init__) (defScope s_Table___init__) dvs [] f fd) (B : Bl mg) (T : TabC K mg C)
    (C1 : C8.Cal P w K mg base 2 "are_kinds" (spKinds K) []) (C2 : C8.Cal P w K mg base 4 "first_wrong_row" (spFirst K) []) (C3 : C8.Cal P w K mg base 1 "cell_of" (spCellOf List.take) []) (C4 : C8.Cal P w K mg base 1 "options_of" (spCellOf List.drop) []) :
    FnOk P w K mg base CX0 5 f fd ["self", "kinds", "rows"] (spInit K C) := by
  refine F.ok sc_Table___init__ (fun vs H Q E h => ?_) (fun cdv A outer s H vs Q E hr h => ?_)
  · obtain ⟨x, a, r, dx, ks, cs, rfl, _⟩ := h
    rfl
  · obtain ⟨x, a, r, dx, ks, cs, rfl, hx, hks, hC, ha, hrr, q⟩ := h
    have hu : (cxOf CX0 P w K mg base N_Table___init__ "Table.__init__" (defScope s_Table___init__) f cdv A outer s H E).nox.A.units + 1 < cLine := by have := hr.units; exact Nat.lt_of_le_of_lt (Nat.add_le_add_left (by decide) _) this
    refine ⟨_, PSs.nox (pss_cons (ps_if (pt_not (pt_val (C8.pe_c C1 hr (by decide) (by rfl) (pa_cons (pv 1) pa_nil)))) pss_never pss_nil)
      (pss_cons (ps_if (pt_not (pt_val (pe_callB call_isi (by rfl) B.isin (by decide +kernel) (pa_cons (pv 2) (pa_cons (pe_bltn (v := .ty "tuple") (by rfl) B.tuple (by decide +kernel) rfl) pa_nil))))) pss_never pss_nil)
      (pss_cons (ps_set (i := 3) sc_Table___init__.nd rfl (.inl rfl) (C8.pe_c C2 hr (by decide) (by rfl) (pa_cons (pv 2) (pa_cons (pv 1) pa_nil))))
      (pss_cons (ps_if (pt_cmpR op_notN (pv 3) pe_non (nomark _)) pss_never pss_nil)
      (pss_cons (ps_fld (pv 0) (pv 1) rfl)
      (pss_cons (ps_fld (pv 0) (pv 2) rfl)
      (pss_one (ps_fld (pv 0) (pe_dcT (own := [("row", 4)]) (g := gName 4) (tt := tYes) (tk := tCall (spCellOf List.take) [] C8.E0 (tCons (tVar 4) tNil)) (tv := tCall (spCellOf List.drop) [] C8.E0 (tCons (tVar 4) tNil)) hu rfl sc_Table___init__.nd (pi_tup (pv 2))
          (blkOk_by (own := [("row", 4)]) (N := N_Table___init__) (sc := defScope s_Table___init__) (by decide +kernel)) (fun _ _ _ _ _ => pg_name (i := 4) sc_Table___init__.nd rfl (Or.inl rfl)) (fun _ _ _ _ _ => pts_nil)
          (fun _ _ _ _ _ => C8.pe_c C3 hr (by decide) (by rfl) (pa_cons (pv 4) pa_nil)) (fun _ _ _ _ _ => C8.pe_c C4 hr (by decide) (by rfl) (pa_cons (pv 4) pa_nil))) rfl)))))))), ?_⟩
    refine q_when (b := false) (et_not (et_B (ev_kinds (ev_var rfl) ha hks))) (fun z => by cases z) (fun _ H1 e1 => ?_)
    refine q_when (b := false) (et_not (et_B (ev_isTup (ev_var rfl) (ex_t e1 hrr)))) (fun z => by cases z) (fun _ H2 e2 => ?_)
    have e12 := e1.trans e2
    refine q_asg (v := .non) (ev_first (ev_var rfl) (ev_var rfl) hks hC (ex_t e12 hrr) (ex_t e12 ha)) fun H3 e3 => ?_
    refine q_when (b := false) (et_test (ev_op (ev_var rfl) ev_c fun H1 e Q q => ⟨rfl, q H1 (Ex.refl H1)⟩)) (fun z => by cases z) (fun _ H4 e4 => ?_)
    have e14 := (e12.trans e3).trans e4
    have hx4 := e14 _ _ hx
    refine ⟨_, rfl, _, rfl, x, C, dx, [], rfl, hx4, T.cl, T.k, by decide, ?_⟩
    refine ⟨_, rfl, _, rfl, x, C, dx, _, rfl, upd_same, T.cl, T.r, by show 1 < 1000; decide, ?_⟩
    have hr5 : SqT K (upd (upd H4 x (.ins C dx (putF "_kinds" (.ref a) []))) x (.ins C dx (putF "_rows" (.ref r) (putF "_kinds" (.ref a) [])))) r (sl (cs.map lineOf)) := sqt_ins (sqt_ins (ex_t e14 hrr) hx4) upd_same
    have ha5 : SqT K (upd (upd H4 x (.ins C dx (putF "_kinds" (.ref a) []))) x (.ins C dx (putF "_rows" (.ref r) (putF "_kinds" (.ref a) [])))) a (sl ks) := sqt_ins (sqt_ins (ex_t e14 ha) hx4) upd_same
    have hx5 : (upd (upd H4 x (.ins C dx (putF "_kinds" (.ref a) []))) x (.ins C dx (putF "_rows" (.ref r) (putF "_kinds" (.ref a) [])))) x = some (.ins C dx [("_kinds", .ref a), ("_rows", .ref r)]) := upd_same
    have ch5 : Chg x H (upd (upd H4 x (.ins C dx (putF "_kinds" (.ref a) []))) x (.ins C dx (putF "_rows" (.ref r) (putF "_kinds" (.ref a) [])))) := ((Same.chg e14).at).at
    refine ⟨_, rfl, r, rfl, ⟨_, hr5⟩, fun D nD => ?_⟩
    have nDH : H D = none := by
      cases z : H D with
      | none => rfl
      | some o =>
        by_cases y : D = x
        · rw [y, hx5] at nD; cases nD
        · rw [ch5 _ _ y z] at nD; cases nD
    refine dcT_tup (xs := sl (cs.map lineOf)) (fun i G => Same (upd (upd H4 x (.ins C dx (putF "_kinds" (.ref a) []))) x (.ins C dx (putF "_rows" (.ref r) (putF "_kinds" (.ref a) [])))) G ∧ ∃ kvs, G D = some (.dT kvs) ∧ DictOf G kvs (cs.take i))
      ⟨Same.new (Same.refl _) nD, [], upd_same, rfl, fun i c z => by rw [List.take_zero] at z; cases z⟩ (fun i G _ p => Same.tup p.1 hr5) ?_ ?_
    · rintro i y G hi ⟨sG, kvs, hD, hl⟩
      obtain ⟨ln, hln, rfl⟩ := mem_at hi
      rw [List.getElem?_map] at hln
      obtain ⟨c, hc, rfl⟩ : ∃ c, cs[i]? = some c ∧ ln = lineOf c := by
        cases e : cs[i]? with
        | none => rw [e] at hln; cases hln
        | some c => rw [e] at hln; cases hln; exact ⟨c, rfl, rfl⟩
      have hi2 : i < 27 := by
        have := hC.few
        have := (List.getElem?_eq_some_iff.mp hc).1
        omega
      have hg := hC.good c (List.mem_of_getElem? hc)
      refine ⟨rfl, ?_⟩
      refine eu_cellT (ev_var rfl) hks hg G (Ex.refl _) _ fun p G1 n1 g1 hp => eu_cellD (ev_var rfl) hks hg G1 (Ex.refl _) _ fun p2 G2 n2 g2 hp2 => ⟨kvs, nmOf c, p, rfl, g2 _ _ hp, g2 _ _ (g1 _ _ hD), by rw [sizeLine_eq, hl.1, List.length_take]; omega, Same.own ((sG.trans g1).trans g2) nD, _, upd_same, ?_⟩
      rw [List.take_succ, hc]
      refine DictOf.own (DictOf.put ((hl.ex g1).ex g2) ?_ hp2) (g2 _ _ (g1 _ _ hD))
      rw [List.map_take]
      exact nd_not hC.nd (by rw [List.getElem?_map, hc]; rfl)
    · rintro G ⟨sG, kvs, hD, hl⟩
      refine ⟨_, rfl, x, C, dx, _, rfl, sG _ _ hx5, T.cl, T.c, by show 2 < 1000; decide, q D kvs _ nDH ?_ ⟨upd_same, sqt_ins (Same.tup sG ha5) (sG _ _ hx5), sqt_ins (Same.tup sG hr5) (sG _ _ hx5), kpm hD (ne_of hD (sG _ _ hx5) fun z => by cases z), DictOf.ins (by rw [show (sl (cs.map lineOf)).length = cs.length from by rw [XB.len_sl, List.length_map], List.take_length] at hl; exact hl) (sG _ _ hx5), hC⟩⟩
      exact (ch5.trans (Same.chg sG)).at
end
end T
namespace T
open PySem PySem.Spec PyProof.Rows L2 Evl XB TL XS XI
section
variable {P : Program} {w : World} {K : PySem.W.Frag} {mg : Str → Option Value} {base : Heap} {k : Nat} {C : Addr} {m : Str} {sp : Sp}
theorem meth_ok {x qual : Str} {st : Stmt} {f : Addr} {fd : FuncData} {N ps : List Str} (F : Fun K x qual st f fd) (S : FnScope N ps (defScope st)) (len : ∀ vs H Q E, sp vs H Q E → vs.length = ps.length)
    (hbody : ∀ (cdv : Value) (A : Around) (outer : List Env) (s : Shared) (H : Hp) (vs : List V) (Q : VK) (E : XK), Room k (A.deeper (envOfC qual (defScope st) s.heap.objs.size f cdv)) → sp vs H Q E →
      ∃ t, PSs (cxOf CX0 P w K mg base N qual (defScope st) f cdv A outer s H E).nox (defBody st) t ∧ t { nx := fun _ H' => Q .non H', rt := Q } (start N vs) H) : FnOk P w K mg base CX0 (k + 1) f fd ps sp := F.ok S len hbody
/-- a method of the class's own, a property of it: the def, as it stands -/
structure MetD (K : PySem.W.Frag) (C : Addr) (m qual : Str) (st : Stmt) : Prop where
  ex : ∃ (f : Addr) (fd : FuncData), Fun K m qual st f fd ∧ XO.Own K C m f ∧ Binds K fd ["self"] []
structure ProD (K : PySem.W.Frag) (C : Addr) (m qual : Str) (st : Stmt) : Prop where
  ex : ∃ (f : Addr) (fd : FuncData) (p : Addr), Fun K m qual st f fd ∧ PropOf K C m p f ∧ Binds K fd ["self"] []
structure OwnM (P : Program) (w : World) (K : PySem.W.Frag) (mg : Str → Option Value) (base : Heap) (k : Nat) (C : Addr) (m : Str) (sp : Sp) : Prop where
  ex : ∃ (f : Addr) (fd : FuncData), FnOk P w K mg base CX0 k f fd ["self"] sp ∧ XO.Own K C m f ∧ Binds K fd ["self"] []
structure ProM (P : Program) (w : World) (K : PySem.W.Frag) (mg : Str → Option Value) (base : Heap) (k : Nat) (C : Addr) (m : Str) (sp : Sp) : Prop where
  ex : ∃ (f : Addr) (fd : FuncData) (p : Addr), FnOk P w K mg base CX0 k f fd ["self"] sp ∧ PropOf K C m p f ∧ Binds K fd ["self"] []
def spKindsP (K : PySem.W.Frag) (C : Addr) : Sp := fun vs H Q _ => ∃ (x : Addr) (ks lns : List Str), vs = [.ref x] ∧ TabAt K C H x ks lns ∧ ∀ a, SqT K H a (sl ks) → Q (.ref a) H
def spRowsP (K : PySem.W.Frag) (C : Addr) : Sp := fun vs H Q _ => ∃ (x : Addr) (ks lns : List Str), vs = [.ref x] ∧ TabAt K C H x ks lns ∧ ∀ a, SqT K H a (sl lns) → Q (.ref a) H
def spLenP (K : PySem.W.Frag) (C : Addr) : Sp := fun vs H Q _ => ∃ (x : Addr) (ks lns : List Str), vs = [.ref x] ∧ TabAt K C H x ks lns ∧ Q (.int (lns.length : Nat)) H
def spBoolP (K : PySem.W.Frag) (C : Addr) : Sp := fun vs H Q _ => ∃ (x : Addr) (ks lns : List Str), vs = [.ref x] ∧ TabAt K C H x ks lns ∧ Q (.bl true) H
def spStrP (K : PySem.W.Frag) (C : Addr) : Sp := fun vs H Q _ => ∃ (x : Addr) (ks lns : List Str), vs = [.ref x] ∧ TabAt K C H x ks lns ∧ ks ∈ kinds7 ∧ lns.length ≤ 27 ∧ (∀ x ∈ lns, x.length ≤ 136) ∧ ∀ H', Ex H H' → Q (.str (textOf ks lns)) H'
theorem p_kinds (D : ProD K C "kinds" "Table.kinds" s_Table_kinds) (T : TabC K mg C) : ProM P w K mg base 1 C "kinds" (spKindsP K C) := by
  obtain ⟨f, fd, p, F, hp, hb⟩ := D.ex
  refine ⟨f, fd, p, meth_ok F sc_Table_kinds (fun vs H Q E h => ?_) (fun cdv A outer s H vs Q E hr h => ?_), hp, hb⟩
  · obtain ⟨x, ks, lns, rfl, _⟩ := h
    rfl
  · obtain ⟨x, ks, lns, rfl, tt, q⟩ := h
    obtain ⟨dx, D', a, r, hx, h1, h2⟩ := tt.raw
    exact ⟨_, pss_one (ps_ret (pe_fld (pv 0) rfl)), _, rfl, x, C, dx, _, _, rfl, hx, T.cl, T.k, rfl, q a h1⟩
theorem p_rows (D : ProD K C "rows" "Table.rows" s_Table_rows) (T : TabC K mg C) : ProM P w K mg base 1 C "rows" (spRowsP K C) := by
  obtain ⟨f, fd, p, F, hp, hb⟩ := D.ex
  refine ⟨f, fd, p, meth_ok F sc_Table_rows (fun vs H Q E h => ?_) (fun cdv A outer s H vs Q E hr h => ?_), hp, hb⟩
  · obtain ⟨x, ks, lns, rfl, _⟩ := h
    rfl
  · obtain ⟨x, ks, lns, rfl, tt, q⟩ := h
    obtain ⟨dx, D', a, r, hx, h1, h2⟩ := tt.raw
    exact ⟨_, pss_one (ps_ret (pe_fld (pv 0) rfl)), _, rfl, x, C, dx, _, _, rfl, hx, T.cl, T.r, rfl, q r h2⟩
theorem p_len (D : MetD K C "__len__" "Table.__len__" s_Table___len__) (T : TabC K mg C) (B : Bl mg) : OwnM P w K mg base 1 C "__len__" (spLenP K C) := by
  obtain ⟨f, fd, F, hp, hb⟩ := D.ex
  refine ⟨f, fd, meth_ok F sc_Table___len__ (fun vs H Q E h => ?_) (fun cdv A outer s H vs Q E hr h => ?_), hp, hb⟩
  · obtain ⟨x, ks, lns, rfl, _⟩ := h
    rfl
  · obtain ⟨x, ks, lns, rfl, tt, q⟩ := h
    obtain ⟨dx, D', a, r, hx, h1, h2⟩ := tt.raw
    refine ⟨_, pss_one (ps_ret (pe_callB call_len_seq (by rfl) B.len (by decide +kernel) (pa_cons (pe_fld (pv 0) rfl) pa_nil))), _, rfl, x, C, dx, _, _, rfl, hx, T.cl, T.r, rfl, r, _, rfl, .inr h2, ?_⟩
    rw [XB.len_sl]
    exact q
theorem p_bool (D : MetD K C "__bool__" "Table.__bool__" s_Table___bool__) : OwnM P w K mg base 1 C "__bool__" (spBoolP K C) := by
  obtain ⟨f, fd, F, hp, hb⟩ := D.ex
  refine ⟨f, fd, meth_ok F sc_Table___bool__ (fun vs H Q E h => ?_) (fun cdv A outer s H vs Q E hr h => ?_), hp, hb⟩
  · obtain ⟨x, ks, lns, rfl, _⟩ := h
    rfl
  · obtain ⟨x, ks, lns, rfl, _, q⟩ := h
    exact ⟨_, pss_one (ps_ret pe_bl), q⟩
theorem ev_fld {σ : L2.St} {H : Hp} {ta : TE} {x dx : Addr} {f : Str} {fs : List (Str × V)} {v : V} (h : Ev ta σ H (.ref x)) (hx : H x = some (.ins C dx fs)) (c : Cls K C) (n : NoAttr K C f) (l : fs.lookup f = some v) : Ev (tFld K ta f) σ H v := fun H1 e Q q =>
  h H1 e _ fun H2 e2 => ⟨x, C, dx, fs, v, rfl, e2 _ _ (e _ _ hx), c, n, l, q H2 e2⟩
theorem ea_star {σ : L2.St} {H : Hp} {te : TE} {t : TA} {p : Addr} {xs ys : List V} (h : Ev te σ H (.ref p)) (hx : SqT K H p xs) (ht : EvA t σ H ys) : EvA (StX.tStar K te t) σ H (xs ++ ys) := fun H1 e Q q =>
  h H1 e _ fun H2 e2 => ⟨p, xs, rfl, .inl (ex_t (e.trans e2) hx), ht H2 (e.trans e2) _ fun H3 e3 => q H3 (e2.trans e3)⟩
theorem ea_is {σ : L2.St} {H : Hp} {t : TA} {xs ys : List V} (h : EvA t σ H xs) (e : xs = ys) : EvA t σ H ys := e ▸ h
theorem head_eq {ks : List Str} (h : ks ∈ kinds7) : ("kinds " : Str) ++ Txt.join " " ks = headOf ks := by
  have all : ∀ ks ∈ kinds7, ("kinds " : Str) ++ Txt.join " " ks = headOf ks := by decide +kernel
  exact all ks h
theorem p_str (D : MetD K C "__str__" "Table.__str__" s_Table___str__) (T : TabC K mg C) : OwnM P w K mg base 1 C "__str__" (spStrP K C) := by
  obtain ⟨f, fd, F, hp, hb⟩ := D.ex
  refine ⟨f, fd, meth_ok F sc_Table___str__ (fun vs H Q E h => ?_) (fun cdv A outer s H vs Q E hr h => ?_), hp, hb⟩
  · obtain ⟨x, ks, lns, rfl, _⟩ := h
    rfl
  · obtain ⟨x, ks, lns, rfl, tt, hks, hl, hx2, q⟩ := h
    obtain ⟨dx, D', a, r, hx, h1, h2⟩ := tt.raw
    refine ⟨_, pss_one (ps_ret (pe_join pe_str (pe_lst (pa_cons (pe_op op_add_str pe_str (pe_join pe_str (pe_fld (pv 0) rfl))) (StX.pa_star (pe_fld (pv 0) rfl) pa_nil))))), ?_⟩
    refine s_ret (ev_join (ys := headOf ks :: lns) ev_c (el_lst (ea_cons (ev_is (ev_addS ev_c (ev_joinS (ys := ks) ev_c (ev_fld (ev_var rfl) hx T.cl T.k rfl) (.inr h1) ?_) ?_) (by rw [head_eq hks])) (ea_is (ea_star (ev_fld (ev_var rfl) hx T.cl T.r rfl) h2 ea_nil) (List.append_nil _))) ?_) ?_) fun H1 e1 => q H1 e1
    · exact join_bound (B := 16) (n := 3) (fun p hp => (small_ks hks p hp).len) (len7 hks) (by decide) rfl
    · have := join_le (B := 16) (n := 3) (ws := ks) (fun p hp => (small_ks hks p hp).len) (len7 hks) (sep := " ") rfl
      show 6 + _ ≤ _
      omega
    · rw [XB.len_sl]
      show lns.length + 1 ≤ _
      omega
    · refine join_bound (B := 136) (n := 28) (fun p hp => ?_) (by show lns.length + 1 ≤ 28; omega) (by decide) rfl
      rcases List.mem_cons.mp hp with rfl | hp
      · exact Nat.le_trans (head_len hks) (by decide)
      · exact hx2 p hp
end
end T
namespace T
open PySem PySem.Spec PyProof.Rows L2 Evl XB TL XS XI
/-! ### what repr shows -/
theorem shw_strs : ∀ ws : List Str, PyData.showableAll (ws.map PyData.str) = true
  | [] => rfl
  | x :: r => by
    show (true && PyData.showableAll (r.map PyData.str)) = true
    rw [shw_strs r]
    rfl
theorem hd_strs : ∀ ws : List Str, PyData.hasDictAll (ws.map PyData.str) = false
  | [] => rfl
  | x :: r => by
    show (false || PyData.hasDictAll (r.map PyData.str)) = false
    rw [hd_strs r]
    rfl
theorem dep_strs : ∀ ws : List Str, PyData.depthAll (ws.map PyData.str) = 0
  | [] => rfl
  | x :: r => by
    show max 0 (PyData.depthAll (r.map PyData.str)) = 0
    rw [dep_strs r]
    rfl
def Lo (x : Str) : Prop := ∀ c ∈ tl x, c < 128
theorem lv_str {x : Str} (h : Lo x) : PyData.leavesShort 13 (.str x) = true := List.all_eq_true.mpr fun c m => decide_eq_true (Nat.lt_trans (h c m) (by decide))
theorem lv_strs : ∀ {ws : List Str}, (∀ x ∈ ws, Lo x) → PyData.leavesShortAll 13 (ws.map PyData.str) = true
  | [], _ => rfl
  | x :: r, h => by
    show (PyData.leavesShort 13 (.str x) && PyData.leavesShortAll 13 (r.map PyData.str)) = true
    rw [lv_str (h x List.mem_cons_self), lv_strs fun y m => h y (List.mem_cons_of_mem _ m)]
    rfl
theorem wt_strs {B : Nat} : ∀ {ws : List Str}, (∀ x ∈ ws, x.length ≤ B) → PyData.weightAll (ws.map PyData.str) ≤ ws.length * (B + 1)
  | [], _ => Nat.zero_le _
  | x :: r, h => by
    have z := wt_strs (B := B) (ws := r) fun y m => h y (List.mem_cons_of_mem _ m)
    have y := h x List.mem_cons_self
    show x.length + 1 + PyData.weightAll (r.map PyData.str) ≤ (r.length + 1) * (B + 1)
    rw [Nat.succ_mul]
    omega
theorem lo_joinL {S : List Nat} (hS : ∀ c ∈ S, c < 128) : ∀ {ps : List (List Nat)}, (∀ p ∈ ps, ∀ c ∈ p, c < 128) → ∀ c ∈ joinL S ps, c < 128
  | [], _, c, m => by cases m
  | [p], h, c, m => h p List.mem_cons_self c m
  | p :: q :: r, h, c, m => by
    rcases List.mem_append.mp (show c ∈ p ++ (S ++ joinL S (q :: r)) from m) with m | m
    · exact h p List.mem_cons_self c m
    · rcases List.mem_append.mp m with m | m
      · exact hS c m
      · exact lo_joinL hS (fun y hy => h y (List.mem_cons_of_mem _ hy)) c m
theorem lo_join {sep : Str} {ys : List Str} (hs : Lo sep) (h : ∀ y ∈ ys, Lo y) : Lo (Txt.join sep ys) := fun c m => by
  rw [join_eq, tl_join] at m
  exact lo_joinL hs (fun p hp => by
    obtain ⟨y, hy, rfl⟩ := List.mem_map.mp hp
    exact h y hy) c m
theorem Small.lo {x : Str} (h : Small x) : Lo x := fun c m => by
  unfold Small at h
  rw [Bool.and_eq_true, List.all_eq_true] at h
  have := of_decide_eq_true (h.2 c m)
  omega
theorem lo_sp : Lo " " := fun c m => by
  have : c ∈ [32] := m
  rw [List.mem_singleton.mp this]
  decide
theorem lo_nl : Lo "\n" := fun c m => by
  have : c ∈ [10] := m
  rw [List.mem_singleton.mp this]
  decide
theorem lo_line {ks : List Str} {c : Cell} (h : ks ∈ kinds7) (g : GoodC ks c) : Lo (lineOf c) := lo_join lo_sp fun y hy => ((small_parts h g).1 y hy).lo
theorem lo_head {ks : List Str} (h : ks ∈ kinds7) : Lo (headOf ks) := lo_join lo_sp fun y hy => by
  rcases List.mem_cons.mp hy with rfl | hy
  · exact Small.lo (by decide +kernel)
  · exact (small_ks h y hy).lo
/-- what a box tells -/
def dueOf (ks lns : List Str) : PyData := .list [.tuple (ks.map PyData.str), .tuple (lns.map PyData.str), .int (lns.length : Nat), .str (textOf ks lns), .bool true, .bool true]
theorem due_ok {ks : List Str} {cs : List Cell} (h : ks ∈ kinds7) (hC : Cells ks cs) :
    (dueOf ks (cs.map lineOf)).showable = true ∧ (dueOf ks (cs.map lineOf)).hasDict = false ∧ (dueOf ks (cs.map lineOf)).depth ≤ 32 ∧ (dueOf ks (cs.map lineOf)).shown.length ≤ sizeLine := by
  have few : (cs.map lineOf).length ≤ 27 := by rw [List.length_map]; exact hC.few
  have lens : ∀ x ∈ cs.map lineOf, x.length ≤ 136 := fun x hx => by
    obtain ⟨c, hc, rfl⟩ := List.mem_map.mp hx
    exact line_len h (hC.good c hc)
  have los : ∀ x ∈ cs.map lineOf, Lo x := fun x hx => by
    obtain ⟨c, hc, rfl⟩ := List.mem_map.mp hx
    exact lo_line h (hC.good c hc)
  have kl := len7 h
  have hl := head_len h
  generalize cs.map lineOf = lns at few lens los
  have lt : Lo (textOf ks lns) := lo_join lo_nl fun y hy => by
    rcases List.mem_cons.mp hy with rfl | hy
    · exact lo_head h
    · exact los y hy
  have tlen : (textOf ks lns).length ≤ 28 * 136 + 28 := join_le (B := 136) (n := 28) (fun p hp => by
    rcases List.mem_cons.mp hp with rfl | hp
    · exact Nat.le_trans hl (by decide)
    · exact lens p hp) (by show lns.length + 1 ≤ 28; omega) rfl
  refine ⟨?_, ?_, ?_, ?_⟩
  · show (PyData.showableAll (ks.map PyData.str) && (PyData.showableAll (lns.map PyData.str) && (decide (((lns.length : Nat) : Int).natAbs.log2 < 1920) && (true && (true && (true && true)))))) = true
    rw [shw_strs, shw_strs, decide_eq_true]
    · rfl
    · have : ((lns.length : Nat) : Int).natAbs = lns.length := Int.natAbs_natCast _
      rw [this]
      refine Nat.lt_of_le_of_lt (Nat.log2_le_self _) (by omega)
  · show (PyData.hasDictAll (ks.map PyData.str) || (PyData.hasDictAll (lns.map PyData.str) || (false || (false || (false || (false || false)))))) = false
    rw [hd_strs, hd_strs]
    rfl
  · show max (PyData.depthAll (ks.map PyData.str) + 1) (max (PyData.depthAll (lns.map PyData.str) + 1) (max 0 (max 0 (max 0 (max 0 0))))) + 1 ≤ 32
    rw [dep_strs, dep_strs]
    decide
  · refine PyData.shown_fits (B := 13) (by decide) (by decide) ?_ ?_
    · show (PyData.leavesShortAll 13 (ks.map PyData.str) && (PyData.leavesShortAll 13 (lns.map PyData.str) && (decide ((PyData.shown (.int (lns.length : Nat))).length ≤ 13) && (PyData.leavesShort 13 (.str (textOf ks lns)) && (true && (true && true)))))) = true
      rw [lv_strs fun x hx => (small_ks h x hx).lo, lv_strs los, lv_str lt, decide_eq_true (PyData.shown_int_le (by omega))]
      rfl
    · have w1 := wt_strs (B := 16) (ws := ks) fun x hx => (small_ks h x hx).len
      have w2 := wt_strs (B := 136) (ws := lns) lens
      have w3 : PyData.weight (.int ((lns.length : Nat) : Int)) ≤ 100 := by
        show (if ((lns.length : Nat) : Int) == 0 then 0 else ((lns.length : Nat) : Int).natAbs.log2 + 1) ≤ 100
        split
        · omega
        · have : ((lns.length : Nat) : Int).natAbs = lns.length := Int.natAbs_natCast _
          rw [this]
          have := Nat.log2_le_self lns.length
          omega
      show PyData.weightAll (ks.map PyData.str) + 1 + (PyData.weightAll (lns.map PyData.str) + 1 + (PyData.weight (.int ((lns.length : Nat) : Int)) + 1 + ((textOf ks lns).length + 1 + (0 + 1 + (0 + 1 + 0))))) ≤ 2 ^ 20
      have y1 : ks.length * (16 + 1) ≤ 3 * 17 := Nat.mul_le_mul_right _ kl
      have y2 : lns.length * (136 + 1) ≤ 27 * 137 := Nat.mul_le_mul_right _ few
      omega
end T
namespace T
open PySem PySem.Spec PyProof.Rows L2 Evl XB TL XS XI
def swp {α : Type} : List α → List α
  | [a, b] => [b, a]
  | _ => []
section
variable {P : Program} {w : World} {K : PySem.W.Frag} {mg : Str → Option Value} {base : Heap} {C : Addr}
def psI : List Str := ["self", "kinds", "rows"]
/-- the class and how its tables are made -/
structure TabM (P : Program) (w : World) (K : PySem.W.Frag) (mg : Str → Option Value) (base : Heap) (C : Addr) : Prop where
  T : TabC K mg C
  I : C8.InsC K C
  ex : ∃ (f : Addr) (fd : FuncData), Mk K C f ∧ FnOk P w K mg base CX0 5 f fd psI (spInit K C) ∧ Binds K fd psI [] ∧ (∃ (ae : Addr) (ds : List Value), Vals [.ref ae] ds ∧ Binds K fd psI ds ∧ ∀ H, SqT K H ae []) ∧
    (∃ its : List Value, KBn K fd psI 1 ["rows", "kinds"] (fun us ws => us ++ swp ws) (fun vs zs => vs ++ swp zs)) ∧ KBn K fd psI 1 ["kinds", "rows"] (fun us ws => us ++ ws) (fun vs zs => vs ++ zs)
/-- a table comes -/
def EvTab (K : PySem.W.Frag) (C : Addr) (te : TE) (σ : L2.St) (H : Hp) (ks lns : List Str) : Prop := ∀ H1, Ex H H1 → ∀ Q : VK, (∀ x H2, Ex H1 H2 → TabAt K C H2 x ks lns → Q (.ref x) H2) → te σ H1 Q
theorem init_go {H3 : Hp} {p r x dx : Addr} {ks : List Str} {cs : List Cell} {Q : VK} {E : XK} (hks : ks ∈ kinds7) (hC : Cells ks cs) (hp : SqT K H3 p (sl ks)) (hr : SqT K H3 r (sl (cs.map lineOf))) (nx : H3 x = none) (ndx : H3 dx = none) (nex : dx ≠ x)
    (q : ∀ H4, Ex H3 H4 → TabAt K C H4 x ks (cs.map lineOf) → Q (.ref x) H4) : spInit K C [.ref x, .ref p, .ref r] (upd (upd H3 dx (.own x)) x (.ins C dx [])) (fun v H2 => v = .non ∧ Q (.ref x) H2) E := by
  have e1 : Ex H3 (upd (upd H3 dx (.own x)) x (.ins C dx [])) := (Ex.new ndx).trans (Ex.new (by rw [upd_ne nex.symm]; exact nx))
  refine ⟨x, p, r, dx, ks, cs, rfl, upd_same, hks, hC, ex_t e1 hp, ex_t e1 hr, fun D kvs H4 _ ch f => ⟨rfl, ?_⟩⟩
  have e2 : Ex H3 H4 := fun b o h => ch b o (ne_of_none h nx) (e1 b o h)
  exact q H4 e2 ⟨dx, D, p, r, kvs, cs, rfl, f⟩
variable {σ : L2.St} {H : Hp} {ta tb te : TE} {ks : List Str} {cs : List Cell} {E : XK}
theorem et_make (hks : ks ∈ kinds7) (hC : Cells ks cs) (ha : EvS K ta σ H (sl ks)) (hb : EvS K tb σ H (sl (cs.map lineOf))) : EvTab K C (tMake C (spInit K C) [] E (tCons ta (tCons tb tNil))) σ H ks (cs.map lineOf) := fun H1 e Q q =>
  ha H1 e _ fun p H2 e2 hp => hb H2 (e.trans e2) _ fun r H3 e3 hr => fun x dx nx ndx nex => init_go hks hC (ex_t e3 hp) hr nx ndx nex fun H4 e4 t => q x H4 ((e2.trans e3).trans e4) t
theorem et_make1 {ae : Addr} (hks : ks ∈ kinds7) (hC : Cells ks []) (ha : EvS K ta σ H (sl ks)) (he : ∀ H, SqT K H ae []) : EvTab K C (tMake C (spInit K C) [.ref ae] E (tCons ta tNil)) σ H ks [] := fun H1 e Q q =>
  ha H1 e _ fun p H2 e2 hp => fun x dx nx ndx nex => init_go (cs := []) hks hC hp (he _) nx ndx nex fun H4 e4 t => q x H4 (e2.trans e4) t
theorem et_makeRK (hks : ks ∈ kinds7) (hC : Cells ks cs) (ha : EvS K ta σ H (sl (cs.map lineOf))) (hb : EvS K tb σ H (sl ks)) : EvTab K C (tMakeK C 0 2 (spInit K C) (fun vs zs => vs ++ swp zs) E tNil (tCons ta (tCons tb tNil))) σ H ks (cs.map lineOf) := fun H1 e Q q =>
  ha H1 e _ fun r H2 e2 hr => hb H2 (e.trans e2) _ fun p H3 e3 hp => ⟨rfl, rfl, fun x dx nx ndx nex => init_go hks hC hp (ex_t e3 hr) nx ndx nex fun H4 e4 t => q x H4 ((e2.trans e3).trans e4) t⟩
theorem et_makeKR (hks : ks ∈ kinds7) (hC : Cells ks cs) (ha : EvS K ta σ H (sl ks)) (hb : EvS K tb σ H (sl (cs.map lineOf))) : EvTab K C (tMakeK C 0 2 (spInit K C) (fun vs zs => vs ++ zs) E tNil (tCons ta (tCons tb tNil))) σ H ks (cs.map lineOf) := fun H1 e Q q =>
  ha H1 e _ fun p H2 e2 hp => hb H2 (e.trans e2) _ fun r H3 e3 hr => ⟨rfl, rfl, fun x dx nx ndx nex => init_go hks hC (ex_t e3 hp) hr nx ndx nex fun H4 e4 t => q x H4 ((e2.trans e3).trans e4) t⟩
/-! ### boxes -/
theorem TabAt.chg {H' : Hp} {p x : Addr} {ks lns : List Str} {zs : List V} (h : TabAt K C H x ks lns) (hp : H p = some (.lst zs)) (c : Chg p H H') : TabAt K C H' x ks lns := by
  obtain ⟨dx, D, a, r, kvs, cs, rfl, f⟩ := h
  have go : ∀ {a : Addr} {xs : List V}, SqT K H a xs → SqT K H' a xs := fun {a xs} h => by
    rcases h with (h | ⟨u, h⟩) | h
    · exact .inl (.inl (c _ _ (ne_of h hp fun q => by cases q) h))
    · exact .inl (.inr ⟨u, c _ _ (ne_of h hp fun q => by cases q) h⟩)
    · exact .inr h
  exact ⟨dx, D, a, r, kvs, cs, rfl, c _ _ (ne_of f.hx hp fun q => by cases q) f.hx, go f.ha, go f.hr, c _ _ (ne_of f.hD hp fun q => by cases q) f.hD, f.d.chg hp c, f.c⟩
structure Box (K : PySem.W.Frag) (C : Addr) (H : Hp) (p D b s l x : Addr) (ks : List Str) (cs : List Cell) : Prop where
  hb : H b = some (.lst [.ref s, .ref l, .ref x])
  bp : b ≠ p
  bD : b ≠ D
  hs : H s = some (.lst (sl ks))
  sp : s ≠ p
  sD : s ≠ D
  hl : H l = some (.lst (sl (cs.map lineOf)))
  lp : l ≠ p
  lD : l ≠ D
  t : TabAt K C H x ks (cs.map lineOf)
  k : ks ∈ kinds7
  c : Cells ks cs
def BoxAt (K : PySem.W.Frag) (C : Addr) (H : Hp) (p D : Addr) (v : V) : Prop := ∃ b s l x ks cs, v = .ref b ∧ Box K C H p D b s l x ks cs
theorem BoxAt.chg {H' : Hp} {p D : Addr} {v : V} (h : BoxAt K C H p D v) (hp : Purse H p) (c : Chg p H H') : BoxAt K C H' p D v := by
  obtain ⟨b, s, l, x, ks, cs, e, B⟩ := h
  obtain ⟨d, z, w, u⟩ := hp
  exact ⟨b, s, l, x, ks, cs, e, ⟨c _ _ B.bp B.hb, B.bp, B.bD, c _ _ B.sp B.hs, B.sp, B.sD, c _ _ B.lp B.hl, B.lp, B.lD, B.t.chg u c, B.k, B.c⟩⟩
theorem BoxAt.chgD {H' : Hp} {p D : Addr} {v : V} {zs : List V} (h : BoxAt K C H p D v) (hD : H D = some (.lst zs)) (c : Chg D H H') : BoxAt K C H' p D v := by
  obtain ⟨b, s, l, x, ks, cs, e, B⟩ := h
  exact ⟨b, s, l, x, ks, cs, e, ⟨c _ _ B.bD B.hb, B.bp, B.bD, c _ _ B.sD B.hs, B.sp, B.sD, c _ _ B.lD B.hl, B.lp, B.lD, B.t.chg hD c, B.k, B.c⟩⟩
/-- held.append([sorts, lines, a table]) -/
theorem app_boxL {D' : Ends} {p D s : Addr} {bs : List V} {t1 t2 : TE} (hD : H D = some (.lst bs)) (hl : bs.length ≤ 1000) (h1 : σ[1]? = some (some (.ref D))) (h3 : σ[3]? = some (some (.ref s))) (hp : Purse H p) (hDp : D ≠ p)
    (hs : H s = some (.lst (sl ks))) (sp : s ≠ p) (sD : s ≠ D) (hk : ks ∈ kinds7) (hC : Cells ks cs)
    (ht1 : ∀ H1, Ex H H1 → ∀ Q : VK, (∀ l H2, Ex H1 H2 → H2 l = some (.lst (sl (cs.map lineOf))) → l ≠ p → l ≠ D → Q (.ref l) H2) → t1 σ H1 Q) (ht2 : EvTab K C t2 σ H ks (cs.map lineOf))
    (q : ∀ b H4, Chg D H H4 → Purse H4 p → H4 D = some (.lst (bs ++ [.ref b])) → BoxAt K C H4 p D (.ref b) → D'.nx σ H4) :
    tDrop (tBM K "list" rAppend (tVar 1) (tCons (tLst (tCons (tVar 3) (tCons t1 (tCons t2 tNil)))) tNil)) D' σ H := by
  refine ⟨_, h1, .inl ⟨rfl, _, SqL.of hD⟩, _, h3, ?_⟩
  refine ht1 H (Ex.refl H) _ fun l H2 e2 hl2 lp lD => ht2 H2 e2 _ fun x H3 e3 tx => ⟨(by show 3 ≤ sizeLine; decide), fun b nb => ?_⟩
  have e13 := e2.trans e3
  have hD3 := e13 _ _ hD
  have hD4 := kp (u := HO.lst [.ref s, .ref l, .ref x]) hD3 nb
  refine ⟨D, bs, .ref b, rfl, rfl, hD4, by rw [sizeLine_eq]; omega, ?_⟩
  have nbH : H b = none := fresh_back e13 nb
  have bD : b ≠ D := (ne_of_none hD3 nb).symm
  have bp : b ≠ p := (hp.ne nbH).symm
  have hc : Chg D H (upd (upd H3 b (.lst [.ref s, .ref l, .ref x])) D (.lst (bs ++ [.ref b]))) := ((Same.chg e13).new nb).at
  have hc3 : Chg D H3 (upd (upd H3 b (.lst [.ref s, .ref l, .ref x])) D (.lst (bs ++ [.ref b]))) := ((Chg.refl D H3).new nb).at
  refine q b _ hc ?_ upd_same ⟨b, s, l, x, ks, cs, rfl, ⟨kpm upd_same bD, bp, bD, hc _ _ sD hs, sp, sD, hc3 _ _ lD (e3 _ _ hl2), lp, lD, tx.chg hD3 hc3, hk, hC⟩⟩
  obtain ⟨d, z, w, u⟩ := hp
  exact ⟨d, z, w, hc _ _ hDp.symm u⟩
/-- .. and more behind it -/
theorem app_box {tz : TS} {D' : Ends} {p D s : Addr} {bs : List V} {t1 t2 : TE} (hD : H D = some (.lst bs)) (hl : bs.length ≤ 1000) (h1 : σ[1]? = some (some (.ref D))) (h3 : σ[3]? = some (some (.ref s))) (hp : Purse H p) (hDp : D ≠ p)
    (hs : H s = some (.lst (sl ks))) (sp : s ≠ p) (sD : s ≠ D) (hk : ks ∈ kinds7) (hC : Cells ks cs)
    (ht1 : ∀ H1, Ex H H1 → ∀ Q : VK, (∀ l H2, Ex H1 H2 → H2 l = some (.lst (sl (cs.map lineOf))) → l ≠ p → l ≠ D → Q (.ref l) H2) → t1 σ H1 Q) (ht2 : EvTab K C t2 σ H ks (cs.map lineOf))
    (q : ∀ b H4, Chg D H H4 → Purse H4 p → H4 D = some (.lst (bs ++ [.ref b])) → BoxAt K C H4 p D (.ref b) → tz D' σ H4) :
    tSeq (tDrop (tBM K "list" rAppend (tVar 1) (tCons (tLst (tCons (tVar 3) (tCons t1 (tCons t2 tNil)))) tNil))) tz D' σ H :=
  app_boxL (D' := { D' with nx := tz D' }) hD hl h1 h3 hp hDp hs sp sD hk hC ht1 ht2 q
/-! ### what a box holds and what is told of it -/
def Due (K : PySem.W.Frag) (H : Hp) (l : Addr) (ks lns : List Str) : Prop := ∃ a r, H l = some (.lst [.ref a, .ref r, .int (lns.length : Nat), .str (textOf ks lns), .bl true, .bl true]) ∧ SqT K H a (sl ks) ∧ SqT K H r (sl lns)
theorem Due.ex {H' : Hp} {l : Addr} {lns : List Str} (h : Due K H l ks lns) (e : Ex H H') : Due K H' l ks lns := by
  obtain ⟨a, r, h1, h2, h3⟩ := h
  exact ⟨a, r, e _ _ h1, ex_t e h2, ex_t e h3⟩
theorem Due.dp {l : Addr} {lns : List Str} (h : Due K H l ks lns) : Dp K H (.ref l) (dueOf ks lns) := by
  obtain ⟨a, r, h1, h2, h3⟩ := h
  exact .lst (SqL.of h1) (.cons (dp_tup h2) (.cons (dp_tup h3) (.cons (.int _) (.cons (.str _) (.cons (.bl true) (.cons (.bl true) .nil))))))
def EvDue (K : PySem.W.Frag) (te : TE) (σ : L2.St) (H : Hp) (ks lns : List Str) : Prop := ∀ H1, Ex H H1 → ∀ Q : VK, (∀ l H2, Ex H1 H2 → Due K H2 l ks lns → Q (.ref l) H2) → te σ H1 Q
theorem ed_list {t1 t2 t3 t4 t5 t6 : TE} {lns : List Str} (h1 : EvS K t1 σ H (sl ks)) (h2 : EvS K t2 σ H (sl lns)) (h3 : Ev t3 σ H (.int (lns.length : Nat))) (h4 : Ev t4 σ H (.str (textOf ks lns))) (h5 : Ev t5 σ H (.bl true)) (h6 : Ev t6 σ H (.bl true)) :
    EvDue K (tLst (tCons t1 (tCons t2 (tCons t3 (tCons t4 (tCons t5 (tCons t6 tNil))))))) σ H ks lns := fun H0 e Q q =>
  h1 H0 e _ fun a H1 e1 ha => h2 H1 (e.trans e1) _ fun r H2 e2 hr => h3 H2 ((e.trans e1).trans e2) _ fun H3 e3 => h4 H3 (((e.trans e1).trans e2).trans e3) _ fun H4 e4 =>
    h5 H4 ((((e.trans e1).trans e2).trans e3).trans e4) _ fun H5 e5 => h6 H5 (((((e.trans e1).trans e2).trans e3).trans e4).trans e5) _ fun H6 e6 => ⟨(by show 6 ≤ sizeLine; decide), fun l nl => by
      have e26 := ((e3.trans e4).trans e5).trans e6
      have en : Ex H6 (upd H6 l (.lst [.ref a, .ref r, .int (lns.length : Nat), .str (textOf ks lns), .bl true, .bl true])) := Ex.new nl
      exact q l _ (((e1.trans e2).trans e26).trans en) ⟨a, r, upd_same, ex_t ((e2.trans e26).trans en) ha, ex_t (e26.trans en) hr⟩⟩
theorem q_asgDue {tz : TS} {D : Ends} {i : Nat} {lns : List Str} (h : EvDue K te σ H ks lns) (k : ∀ l H1, Ex H H1 → Due K H1 l ks lns → tz D (σ.set i (some (.ref l))) H1) : tSeq (tAsg te (gName i)) tz D σ H := h H (Ex.refl H) _ k
variable {x : Addr} {lns : List Str}
theorem es_propK {F : XK} (h : Ev ta σ H (.ref x)) (t : TabAt K C H x ks lns) : EvS K (tProp C (spKindsP K C) [] F ta) σ H (sl ks) := fun H1 e Q q => h H1 e _ fun H2 e2 => by
  have t2 := t.ex (e.trans e2)
  obtain ⟨dx, D, a, r, hx, _⟩ := t2.raw
  exact ⟨x, dx, _, rfl, hx, x, ks, lns, rfl, t2, fun a ha => q a H2 e2 ha⟩
theorem es_propR {F : XK} (h : Ev ta σ H (.ref x)) (t : TabAt K C H x ks lns) : EvS K (tProp C (spRowsP K C) [] F ta) σ H (sl lns) := fun H1 e Q q => h H1 e _ fun H2 e2 => by
  have t2 := t.ex (e.trans e2)
  obtain ⟨dx, D, a, r, hx, _⟩ := t2.raw
  exact ⟨x, dx, _, rfl, hx, x, ks, lns, rfl, t2, fun a ha => q a H2 e2 ha⟩
theorem ev_lenT (h : Ev ta σ H (.ref x)) (t : TabAt K C H x ks lns) (hl : lns.length ≤ 27) : Ev (tCB (XO.rLenO C (spLenP K C)) (tCons ta tNil)) σ H (.int (lns.length : Nat)) := fun H1 e Q q => h H1 e _ fun H2 e2 => by
  have t2 := t.ex (e.trans e2)
  obtain ⟨dx, D, a, r, hx, _⟩ := t2.raw
  exact ⟨x, dx, _, rfl, hx, x, ks, lns, rfl, t2, _, rfl, by omega, by omega, q H2 e2⟩
theorem ev_strT (h : Ev ta σ H (.ref x)) (t : TabAt K C H x ks lns) (hk : ks ∈ kinds7) (hl : lns.length ≤ 27) (hx2 : ∀ x ∈ lns, x.length ≤ 136) : Ev (tCB (XO.rStrO C (spStrP K C)) (tCons ta tNil)) σ H (.str (textOf ks lns)) := fun H1 e Q q => h H1 e _ fun H2 e2 => by
  have t2 := t.ex (e.trans e2)
  obtain ⟨dx, D, a, r, hx, _⟩ := t2.raw
  exact ⟨x, dx, _, rfl, hx, x, ks, lns, rfl, t2, hk, hl, hx2, fun H3 e3 => ⟨_, rfl, q H3 (e2.trans e3)⟩⟩
theorem ev_boolT (h : Ev ta σ H (.ref x)) (t : TabAt K C H x ks lns) : Ev (tCB (XO.rBoolO C (spBoolP K C)) (tCons ta tNil)) σ H (.bl true) := fun H1 e Q q => h H1 e _ fun H2 e2 => by
  have t2 := t.ex (e.trans e2)
  obtain ⟨dx, D, a, r, hx, _⟩ := t2.raw
  exact ⟨x, dx, _, rfl, hx, x, ks, lns, rfl, t2, _, rfl, q H2 e2⟩
theorem ev_isT (h : Ev ta σ H (.ref x)) (t : TabAt K C H x ks lns) : Ev (tCB (fun xs H Q => ∃ a dx fs, xs = [.ref a, .ref C] ∧ H a = some (.ins C dx fs) ∧ Q (.bl true) H) (tCons ta (tCons (tC (.ref C)) tNil))) σ H (.bl true) := fun H1 e Q q => h H1 e _ fun H2 e2 => by
  have t2 := t.ex (e.trans e2)
  obtain ⟨dx, D, a, r, hx, _⟩ := t2.raw
  exact ⟨x, dx, _, rfl, hx, q H2 e2⟩
theorem ev_textT {E : XK} {s l : Addr} {lns : List Str} (h1 : Ev ta σ H (.ref s)) (h2 : Ev tb σ H (.ref l)) (hk : ks ∈ kinds7) (hs : H s = some (.lst (sl ks))) (hl : H l = some (.lst (sl lns))) (few : lns.length ≤ 27) (hx : ∀ x ∈ lns, x.length ≤ 136) : Ev (tCall spText [] E (tCons ta (tCons tb tNil))) σ H (.str (textOf ks lns)) :=
  ev_call (ea_cons h1 (ea_cons h2 ea_nil)) fun H1 e Q q E => ⟨s, l, ks, lns, rfl, hk, e _ _ hs, e _ _ hl, few, hx, q⟩
theorem ev_repr {l : Addr} (h : Ev ta σ H (.ref l)) (d : Due K H l ks (cs.map lineOf)) (hk : ks ∈ kinds7) (hC : Cells ks cs) : Ev (tCB (XG.rRepr K) (tCons ta tNil)) σ H (.str (dueOf ks (cs.map lineOf)).shown) := fun H1 e Q q => h H1 e _ fun H2 e2 => by
  obtain ⟨o1, o2, o3, o4⟩ := due_ok hk hC
  exact ⟨.ref l, _, rfl, (d.ex (e.trans e2)).dp, o1, o2, o3, o4, q H2 e2⟩
theorem ev_ixL {p : Addr} {xs : List V} {i : Int} {v : V} (h : Ev ta σ H (.ref p)) (hb : Ev tb σ H (.int i)) (hx : SqL K H p xs) (ha : atI xs i = some v) : Ev (tOp (rIxL K) ta tb) σ H v := ev_op h hb (rv_ixL hx ha)
end
end T
namespace T
open PySem PySem.Spec PyProof.Rows L2 Evl XB TL XS XI
/-! ### a table's text, cut -/
theorem small_no {x : Str} (h : Small x) {n : Nat} (hn : n ≤ 32) : n ∉ tl x := fun z => by
  unfold Small at h
  rw [Bool.and_eq_true, List.all_eq_true] at h
  have := of_decide_eq_true (h.2 n z)
  omega
theorem no_joinL {S : List Nat} {n : Nat} (hS : n ∉ S) : ∀ {ps : List (List Nat)}, (∀ p ∈ ps, n ∉ p) → n ∉ joinL S ps
  | [], _, m => by cases m
  | [p], h, m => h p List.mem_cons_self m
  | p :: q :: r, h, m => by
    rcases List.mem_append.mp (show n ∈ p ++ (S ++ joinL S (q :: r)) from m) with m | m
    · exact h p List.mem_cons_self m
    · rcases List.mem_append.mp m with m | m
      · exact hS m
      · exact no_joinL hS (fun y hy => h y (List.mem_cons_of_mem _ hy)) m
theorem no_join {sep : Str} {n : Nat} {ys : List Str} (hs : n ∉ tl sep) (h : ∀ y ∈ ys, n ∉ tl y) : n ∉ tl (Txt.join sep ys) := by
  rw [join_eq, tl_join]
  exact no_joinL hs fun p hp => by
    obtain ⟨y, hy, rfl⟩ := List.mem_map.mp hp
    exact h y hy
theorem head_parts {ks : List Str} (h : ks ∈ kinds7) : ∀ y ∈ ("kinds" :: ks : List Str), Small y := fun y hy => by
  rcases List.mem_cons.mp hy with rfl | hy
  · decide +kernel
  · exact small_ks h y hy
theorem head_split {ks : List Str} (h : ks ∈ kinds7) : Txt.split (headOf ks) " " = ("kinds" : Str) :: ks :=
  split_join (s := 32) (S := []) rfl (by decide +kernel) (by intro z; cases z) fun p hp => small_no (head_parts h p hp) (by decide)
theorem no_nl_head {ks : List Str} (h : ks ∈ kinds7) : 10 ∉ tl (headOf ks) := no_join (by decide) fun y hy => small_no (head_parts h y hy) (by decide)
theorem no_nl_line {ks : List Str} {c : Cell} (h : ks ∈ kinds7) (g : GoodC ks c) : 10 ∉ tl (lineOf c) := no_join (by decide) fun y hy => small_no ((small_parts h g).1 y hy) (by decide)
theorem text_split {ks : List Str} {cs : List Cell} (h : ks ∈ kinds7) (hC : Cells ks cs) : Txt.split (textOf ks (cs.map lineOf)) "\n" = headOf ks :: cs.map lineOf :=
  split_join (s := 10) (S := []) rfl (by decide +kernel) (by intro z; cases z) fun p hp => by
    rcases List.mem_cons.mp hp with rfl | hp
    · exact no_nl_head h
    · obtain ⟨c, hc, rfl⟩ := List.mem_map.mp hp
      exact no_nl_line h (hC.good c hc)
theorem text_head (ks lns : List Str) : ∃ y : Str, textOf ks lns = headOf ks ++ y := by
  cases lns with
  | nil => exact ⟨Str.empty, by rw [textOf, join_eq]; refine ext_tl ?_; rw [tl_append]; show tl (headOf ks) = tl (headOf ks) ++ []; rw [List.append_nil]⟩
  | cons l r => exact ⟨"\n" ++ Str.join "\n" (l :: r), by
      rw [textOf, join_eq]
      refine ext_tl ?_
      show tl (headOf ks ++ "\n" ++ Str.join "\n" (l :: r)) = _
      rw [tl_append, tl_append, tl_append, tl_append, List.append_assoc]⟩
theorem head_starts {ks : List Str} (h : ks ∈ kinds7) : Txt.startswith (headOf ks) "kinds " = true ∧ ("kinds " : Str).length ≤ (headOf ks).length := by
  have all : ∀ ks ∈ kinds7, Txt.startswith (headOf ks) "kinds " = true ∧ ("kinds " : Str).length ≤ (headOf ks).length := by decide +kernel
  exact all ks h
theorem text_starts {ks lns : List Str} (h : ks ∈ kinds7) : Txt.startswith (textOf ks lns) "kinds " = true := by
  obtain ⟨y, e⟩ := text_head ks lns
  rw [e, PySem.W.KAf.starts_left (head_starts h).2]
  exact (head_starts h).1
theorem text_len {ks : List Str} {cs : List Cell} (h : ks ∈ kinds7) (hC : Cells ks cs) : (textOf ks (cs.map lineOf)).length ≤ 4000 := by
  have few : (cs.map lineOf).length ≤ 27 := by rw [List.length_map]; exact hC.few
  refine Nat.le_trans (join_le (B := 136) (n := 28) (fun p hp => ?_) (by show (cs.map lineOf).length + 1 ≤ 28; omega) rfl) (by decide)
  rcases List.mem_cons.mp hp with rfl | hp
  · exact Nat.le_trans (head_len h) (by decide)
  · obtain ⟨c, hc, rfl⟩ := List.mem_map.mp hp
    exact line_len h (hC.good c hc)
end T
/-! Own: == and != by an own __eq__, with either answer; a class in a local name, called; a classmethod called by keywords. -/
namespace XC
open PySem PySem.Spec PyProof.Rows L2 ClX
open PySem.W (Frag findIn isFn mroIn InstAt notFirst Looks looks_findIn looks_subIn check_slot callWith_of keeps_M MethP methodObj)
section
variable {prog : Program} {w : World} {A : Around} {E : Value → Shared → Prop} {s : Shared} {K : Frag} {x C L f : Addr} {h₀ : Heap} {m : Str → Option Value} {ox : Obj} {od : Option Obj} {b tb : Value}
/-- x != b where the class has __eq__ alone -/
theorem ne_own {Q : Value → Shared → Prop} (hu : A.units + 1 < cLine) (F : Fr h₀ L s.heap m) (X₀ : K.In h₀) (I : InstAt s.heap x ox C od) (hb : Looks (model prog w) s.heap (typeOf b) tb) (hn : notFirst K C tb = true)
    (hs : findIn K (.ref C) "__ne__" = some (some (.builtin "object.__ne__"))) (hm : mroIn K C (.type "object") = some true) (he : findIn K (.ref C) "__eq__" = some (some (.ref f))) (hf : isFn K (.ref f) = true)
    (h : wpAny (model prog w) A.in1 (call (.ref f) [.ref x, b]) (fun v s' => ∃ r, v = .bool r ∧ Q (.bool (!r)) s') E s) : wpAny (model prog w) A (richCompare .NotEq (.ref x) b) Q E s := by
  have X := X₀.keeps F.keep
  have entry : wpAny (model prog w) A.in1 (Builtin.«object.__ne__» ⟨[.ref x, b], []⟩) (fun fin s' => ∃ r, fin = .done (.ret (.bool (!r))) ∧ Q (.bool (!r)) s') E s := by
    unfold Builtin.«object.__ne__»
    repeat (first
      | with_reducible refine wpAny_cRoomFor (show A.in1.units < cLine from hu) ?_
      | (refine wpAny_bind (m := callSpecialIfBound? (.ref x) (Str.ofString "__eq__") [b]) (PySem.W.ifBound_K X I he hf (wpAny_mono h (fun v s' hv => by
          obtain ⟨r, rfl, hq⟩ := hv
          repeat (first | exact wpAny_pure ⟨r, rfl, hq⟩ | exact ⟨r, rfl, hq⟩ | (refine wpAny_bind (m := truthy (.bool _)) (wpAny_truthy_bool ?_)) | wp_step)) fun _ _ e => e)))
      | wp_step)
  have code : wpAny (model prog w) A (call (.builtin "object.__ne__") [.ref x, b]) (fun v s' => ∃ r, v = .bool (!r) ∧ Q (.bool (!r)) s') E s := by
    refine wpAny_call (codeAny_call_builtin PySem.F.cmp_object.ne.plain PySem.F.cmpEntry_ne
      (check_slot PySem.F.cmpKind_ne PySem.F.cmpSplit_ne (I.type.andThen (looks_subIn X (by exact hm))) (PySem.F.cmpArgs_ne _ _) (wpAny_mono entry (fun v s' hv => ?_) fun _ _ e => e)))
    obtain ⟨r, rfl, hq⟩ := hv
    first | exact ⟨r, rfl, hq⟩ | exact wpAny_pure ⟨r, rfl, hq⟩
  have bound : wpAny (model prog w) A (callSpecialIfBound? (.ref x) (Str.ofString "__ne__") [b]) (fun o s' => ∃ r, o = some (.bool (!r)) ∧ Q (.bool (!r)) s') E s := by
    simp only [callSpecialIfBound?, bindSpecialIfBound?]
    refine wpAny_holding (wpAny_bind (wpAny_bind (wpAny_bind (I.type.here ((looks_findIn X hs).here ?_)))))
    simp only [PySem.F.cmp_object.ne.bind]
    refine wpAny_bind (wpAny_askSetting (wpAny_ite ?_))
    have fin : wpAny (model prog w) A (call (.builtin "object.__ne__") ([.ref x] ++ [b]) >>= fun v => pure (some v)) (fun o s' => ∃ r, o = some (.bool (!r)) ∧ Q (.bool (!r)) s') E s :=
      wpAny_bind (wpAny_mono code (fun v s' h' => by
        obtain ⟨r, rfl, hq⟩ := h'
        exact wpAny_pure ⟨r, rfl, hq⟩) fun _ _ h' => h')
    split
    · exact wpAny_bind (wpAny_pure (wpAny_pure fin))
    · exact wpAny_tryCatch (wpAny_bind (wpAny_pure (wpAny_pure fin)))
  have one : wpAny (model prog w) A (tryCompare (.ref x) "__ne__" b) (fun r s' => ∃ v, r = some v ∧ Q v s') E s := by
    unfold tryCompare
    refine wpAny_bind (wpAny_mono bound (fun v s' hv => ?_) fun _ _ e => e)
    obtain ⟨r, rfl, hq⟩ := hv
    exact wpAny_pure ⟨_, rfl, hq⟩
  unfold richCompare
  simp only [oneThing_ref]
  refine wpAny_holding (wpAny_bind (wpAny_cRoomFor (Nat.lt_of_succ_lt hu) ?_))
  refine wpAny_bind (I.type.here (wpAny_bind (hb.here ?_)))
  split
  · rename_i q
    have e : PySem.W.subIn K tb (.ref C) = some false := by
      rcases Bool.or_eq_true_iff.mp hn with e | e
      · rw [beq_iff_eq.mp e] at q; simp at q
      · exact beq_iff_eq.mp e
    refine wpAny_bind ((looks_subIn X e).here ?_)
    simp only [Bool.false_eq_true, if_false]
    refine wpAny_bind (wpAny_mono one (fun r s' z => ?_) fun _ _ e => e)
    obtain ⟨v, rfl, hq⟩ := z
    exact wpAny_pure hq
  · refine wpAny_bind (wpAny_pure ?_)
    simp only [Bool.false_eq_true, if_false]
    refine wpAny_bind (wpAny_mono one (fun r s' z => ?_) fun _ _ e => e)
    obtain ⟨v, rfl, hq⟩ := z
    exact wpAny_pure hq
end
section
variable {X : Cx} {k : Nat} {C f : Addr} {fd : FuncData} {sp : Sp}
/-- own ==, !=: the promise of __eq__, its answer a truth value -/
def rEqO (C : Addr) (sp : Sp) (neg : Bool) : R2 := fun x y H Q => ∃ a dx fs b dy gs, x = .ref a ∧ y = .ref b ∧ H a = some (.ins C dx fs) ∧ H b = some (.ins C dy gs) ∧ sp [.ref a, .ref b] H (fun v H' => ∃ r : Bool, v = .bl r ∧ Q (.bl (if neg then !r else r)) H') E0
/-- what == and != ask of the class -/
structure EqC (K : Frag) (C f : Addr) : Prop where
  eq : findIn K (.ref C) "__eq__" = some (some (.ref f))
  fn : isFn K (.ref f) = true
  ne : findIn K (.ref C) "__ne__" = some (some (.builtin "object.__ne__"))
  ob : mroIn K C (.type "object") = some true
theorem run_eqO {pins : List (Addr × Obj)} {σ : L2.St} {H : Hp} {s : Shared} {a b : Addr} {Q : VK} {A : Around} {G : Value → Shared → Prop} (F : FnOk X.prog X.w X.K X.mg X.base CX0 k f fd ["self", "other"] sp) (hr : Room k A) (he : Env0 X.prog X.w X.K X.mg X.base A X.stack s H)
    (hb : Binds X.K fd ["self", "other"] []) (I : L2.Inv X pins σ H s) (h : sp [.ref a, .ref b] H Q E0) : wpAny (model X.prog X.w) A (call (.ref f) [.ref a, .ref b]) (EP X pins σ Q) G s := by
  refine wpAny_call (codeAny_mono (F.run A X.stack s H ⟨[.ref a, .ref b], []⟩ [.ref a, .ref b] [.ref a, .ref b] Q E0 hr he (hb s [.ref a, .ref b] I.kIn rfl) (.cons rfl (.cons rfl .nil)) h) fun r s' hq => ?_)
  cases r with
  | error er => exact hq.elim
  | ok fl =>
    cases fl with
    | ret u => exact I.after hq
    | _ => exact False.elim hq
theorem op_eqO (c : EqC X.K C f) (F : FnOk X.prog X.w X.K X.mg X.base CX0 k f fd ["self", "other"] sp) (hr : Room (k + 1) X.A) (hb : Binds X.K fd ["self", "other"] []) : OpR X (compareOp .Eq) (rEqO C sp false) := by
  intro pins s σ H x y v u Q I rx ry h
  obtain ⟨a, dx, fs, b, dy, gs, rfl, rfl, ha, hb', q⟩ := h
  cases rx
  cases ry
  obtain ⟨od, J⟩ := XO.inst_look I ha
  obtain ⟨od', J'⟩ := XO.inst_look I hb'
  obtain ⟨m, hF⟩ := I.fr
  show wpAny (model X.prog X.w) X.A (richCompare .Eq (.ref a) (.ref b)) (EP X pins σ Q) X.xe s
  refine PySem.W.cmp_K (op := .Eq) (tb := .ref C) hr.units0 hF I.ok.mod.kin J J'.type (by simp [PySem.W.notFirst]) c.eq c.fn (thn (run_eqO F (hr.mono (Nat.le_succ _)) I.env0 hb I q) fun w s' ⟨z, H1, I1, rz, r, ez, q1⟩ => ?_)
  subst ez
  cases rz
  exact ⟨.bl r, H1, I1, rfl, q1⟩
theorem op_neO (c : EqC X.K C f) (F : FnOk X.prog X.w X.K X.mg X.base CX0 k f fd ["self", "other"] sp) (hr : Room (k + 1) X.A) (hb : Binds X.K fd ["self", "other"] []) : OpR X (compareOp .NotEq) (rEqO C sp true) := by
  intro pins s σ H x y v u Q I rx ry h
  obtain ⟨a, dx, fs, b, dy, gs, rfl, rfl, ha, hb', q⟩ := h
  cases rx
  cases ry
  obtain ⟨od, J⟩ := XO.inst_look I ha
  obtain ⟨od', J'⟩ := XO.inst_look I hb'
  obtain ⟨m, hF⟩ := I.fr
  show wpAny (model X.prog X.w) X.A (richCompare .NotEq (.ref a) (.ref b)) (EP X pins σ Q) X.xe s
  refine ne_own (tb := .ref C) (by have := hr.units; omega) hF I.ok.mod.kin J J'.type (by simp [PySem.W.notFirst]) c.ne c.ob c.eq c.fn (thn (run_eqO F hr.in1 I.env0.in1 hb I q) fun w s' ⟨z, H1, I1, rz, r, ez, q1⟩ => ?_)
  subst ez
  cases rz
  exact ⟨r, rfl, .bl (!r), H1, I1, rfl, q1⟩
end
section
variable {X : Cx} {CX : CXT} {k n : Nat} {C f g p : Addr} {mc : Value} {fd : FuncData} {ps ks : List Str} {sp : Sp} {E : XK} {x m : Str} {pos apos p' : Pos} {o e : Expr} {es : List Expr} {kws : List Keyword} {t tk ta : TA} {to : TE} {ds : List Value} {dvs : List V} {pl : Sem Bool}
/-- C(..), the class in a local name -/
def tMakeL (i : Nat) (C : Addr) (sp : Sp) (dvs : List V) (E : XK) (t : TA) : TE := fun σ H Q => σ[i]? = some (some (.ref C)) ∧ tMake C sp dvs E t σ H Q
theorem pe_makeL {i : Nat} (M : Mk X.K C f) (F : FnOk X.prog X.w X.K X.mg X.base CX k f fd ps sp) (hr : Room (k + 1) X.A) (hN : X.N[i]? = some x) (hv : Vis X.env.scope x) (hb : Binds X.K fd ps ds) (hd : Vals dvs ds) (hx : Passes CX X E) (ha : PA X (e :: es) t)
    (hdb : (x == ("__debug__" : Str)) = false := by decide) (hcd : (x == ("__classdict__" : Str)) = false := by decide)
    (he : starEach (e :: es) X.env = (false, eval e X.env) :: starEach es X.env := by rfl) (hpl : (backTo pos (starEach es X.env)).any (·.1) = false := by rfl) :
    PE X (.Call (.Name x p') (e :: es) [] pos) (tMakeL i C sp dvs E t) := by
  refine ⟨fun pins s σ H Q I h => ?_⟩
  obtain ⟨hs, h⟩ := h
  refine wpAny_Call_Name_kw (thn ((pe_var (pos := p') hN hv hdb hcd).run pins s σ H (fun v H1 => v = .ref C ∧ H1 = H) I ⟨.ref C, hs, rfl, rfl⟩) fun u s1 ⟨v, H1, I1, r1, q1⟩ => ?_)
  obtain ⟨rfl, rfl⟩ := q1
  cases r1
  refine PySem.W.callWith_K (h₀ := X.base) I.ok.mod.kin M.kp (thn (ha.run pos pins s1 σ _ _ I1 h) fun us s2 ⟨vs, H2, I2, r, q⟩ => ⟨I2.kIn, ?_⟩) he hpl
  exact run_make M F hr hb hd hx I2 r q
/-- C.m(k = v, ..), m a classmethod; its def by name at g -/
def tCMethK (C : Addr) (m : Nat) (sp : Sp) (gV : List V → List V → List V) (E : XK) (to : TE) (tk : TA) : TE := fun σ H Q => to σ H fun x H1 => x = .ref C ∧ tk σ H1 fun zs H2 => zs.length = m ∧ sp (gV [.ref C] zs) H2 Q E
theorem pe_cmethK {gg : List Value → List Value → List Value} {gV : List V → List V → List V} (he : PE X o to) (r : CRead X.K C mc) (c : CMet X.K C mc m p g) (F : FnOk X.prog X.w X.K X.mg X.base CX k g fd ps sp) (hr : Room k X.A) (hb : KBn X.K fd ps 1 ks gg gV) (hx : Passes CX X E) (hkw : PK X kws tk)
    (hall : (backToKw pos (keywordEach kws X.env)).all (·.1.isSome) = true := by rfl) (hks : (backToKw pos (keywordEach kws X.env)).filterMap (·.1) = ks := by rfl)
    (hpl : ((backTo pos (starEach [] X.env)).any (·.1) || (backToKw pos (keywordEach kws X.env)).any (·.1.isNone)) = false := by rfl)
    (ht : eval (.Call (.Attribute o m apos) [] kws pos) X.env = (do
      let ov ← eval o X.env
      standAt apos.atName
      let (f, first) ← holding [ov] (getMethod ov m pl)
      callWith pos f first (backTo pos (starEach [] X.env)) (backToKw pos (keywordEach kws X.env))) := by rfl) :
    PE X (.Call (.Attribute o m apos) [] kws pos) (tCMethK C ks.length sp gV E to tk) := by
  refine ⟨fun pins s σ H Q I h => ?_⟩
  refine PySem.W.methodCall_KW (pl := pl) (thn (he.run pins s σ H _ I h) fun u s1 ⟨x, H1, I1, rx, ex, q⟩ => ?_) ht
  subst ex
  obtain rfl : u = Value.ref C := rx
  refine getmethcm_ok I1 r c fun s2 I2 => ?_
  refine callWith_of hpl (keeps_M c.fi) (evalArgs_kw2_nil hall (thn (hkw.run pos _ s2 σ H1 _ I2 q) fun ws s3 ⟨zs, H2, I3, rz, l2, q2⟩ => ⟨⟨pin_at I3, I3.kIn⟩, ?_⟩))
  rw [hks]
  have z : wpAny (model X.prog X.w) X.A (call (.ref _) [] (ks.zip ws)) (EP X _ σ Q) X.xe s3 :=
    wpAny_call (PySem.W.method_call (pin_at I3) (codeAny_mono (F.run X.A X.stack s3 H2 ⟨[.ref C], ks.zip ws⟩ (gg [.ref C] ws) (gV [.ref C] zs) Q E hr I3.env0 (hb.to s3 [.ref C] ws I3.kIn rfl (rz.length.symm.trans l2)) (hb.rel (.cons rfl .nil) rz) q2) fun r s' hq => by
      cases r with
      | error e => exact hx _ σ H2 s3 e s' I3 hq
      | ok fl =>
        cases fl with
        | ret u => exact I3.after hq
        | _ => exact False.elim hq))
  exact thn z fun _ _ y => unpinE y
end
end XC
namespace T
open PySem PySem.Spec PyProof.Rows L2 Evl XB TL XS XI XC ClX
theorem lo_ok {x : Str} (h : Lo x) : PyData.strOk x = true := by
  unfold PyData.strOk
  rw [← Array.all_toList, List.all_eq_true]
  exact fun c m => decide_eq_true (Nat.lt_trans (h c m) (by decide))
theorem shp_strs {ws : List Str} (h : ∀ x ∈ ws, Lo x) : SeqAt.shaped (.tuple (ws.map PyData.str)) = true := by
  have e : ∀ {ws : List Str}, (∀ x ∈ ws, Lo x) → PyData.canLayAll0 (ws.map PyData.str) = true := fun {ws} => by
    induction ws with
    | nil => exact fun _ => rfl
    | cons x r ih =>
      intro h
      show (PyData.strOk x && PyData.canLayAll0 (r.map PyData.str)) = true
      rw [lo_ok (h x List.mem_cons_self), ih fun y m => h y (List.mem_cons_of_mem _ m)]
      rfl
  show (PyData.canLayAll0 (ws.map PyData.str) && decide (PyData.depthAll (ws.map PyData.str) + 1 ≤ 64)) = true
  rw [e h, dep_strs]
  rfl
theorem eqv_strs : ∀ ws us : List Str, PyData.eqvAll (ws.map PyData.str) (us.map PyData.str) = decide (ws = us)
  | [], [] => rfl
  | [], _ :: _ => rfl
  | _ :: _, [] => rfl
  | x :: r, y :: t => by
    show ((x == y) && PyData.eqvAll (r.map PyData.str) (t.map PyData.str)) = _
    rw [eqv_strs r t]
    by_cases e : x = y
    · by_cases e2 : r = t
      · rw [e, e2]
        simp
      · simp [e2]
    · simp [e]
section
variable {P : Program} {w : World} {K : PySem.W.Frag} {mg : Str → Option Value} {base : Heap} {C : Addr}
variable {σ : L2.St} {H : Hp} {ta tb te : TE} {tz : TS} {D : Ends} {ks : List Str} {cs : List Cell}
theorem cut_drop1 (xs : List V) : cutV xs (some 1) none = xs.drop 1 := by
  unfold cutV
  rw [HT.sIx_none, show (some (1 : Int)) = some ((1 : Nat) : Int) from rfl, HT.sIx_nat]
  by_cases h : 1 ≤ xs.length
  · rw [Nat.min_eq_left h, List.take_of_length_le (by rw [List.length_drop] <;> exact Nat.le_refl _)]
  · rw [Nat.min_eq_right (by omega), Nat.sub_self, List.take_zero, List.drop_eq_nil_of_le (by omega)]
theorem s_retT2 {xs ys : List V} (h1 : EvU ta σ H xs) (h2 : ∀ H1, Ex H H1 → EvU tb σ H1 ys) (k : ∀ t a r H', Ex H H' → H' t = some (.tup [.ref a, .ref r]) → H' a = some (.tup xs) → H' r = some (.tup ys) → D.rt (.ref t) H') : tRet (tTup (tCons ta (tCons tb tNil))) D σ H :=
  h1 H (Ex.refl H) _ fun a H2 na e2 ha => h2 H2 e2 H2 (Ex.refl _) _ fun r H3 nr e3 hr3 => ⟨(by show 2 ≤ sizeLine; decide), fun t nt =>
    k t a r _ ((e2.trans e3).trans (Ex.new nt)) upd_same (kp (e3 _ _ ha) nt) (kp hr3 nt)⟩
/-! ### kinds_and_rows -/
def spKR : Sp := fun vs H Q _ => ∃ (ks : List Str) (cs : List Cell), vs = [.str (textOf ks (cs.map lineOf))] ∧ ks ∈ kinds7 ∧ Cells ks cs ∧ ∀ t a r H', Ex H H' → H' t = some (.tup [.ref a, .ref r]) → H' a = some (.tup (sl ks)) → H' r = some (.tup (sl (cs.map lineOf))) → Q (.ref t) H'
theorem c_kr (D : At K mg "kinds_and_rows" s_kinds_and_rows ["text"]) (B : Bl mg) : C8.Cal P w K mg base 1 "kinds_and_rows" spKR [] := by
  refine cal_of D sc_kinds_and_rows (fun vs H Q E h => ?_) (fun f cdv A outer s H vs Q E hr h => ?_)
  · obtain ⟨ks, cs, rfl, _⟩ := h
    rfl
  · obtain ⟨ks, cs, rfl, hk, hC, q⟩ := h
    refine ⟨_, pss_cons (ps_set (i := 1) sc_kinds_and_rows.nd rfl (.inl rfl) (pe_split (pv 0) pe_str))
      (pss_one (ps_ret (pe_tup (pa_cons (pe_callTy call_tuple_of (by rfl) B.tuple (by decide +kernel) (pa_cons (pe_slice sl_list (pe_split (pe_ix ix_list (pv 1) pe_int (fun _ _ => rfl)) pe_str) (po_some pe_int) po_none) pa_nil))
        (pa_cons (pe_callTy call_tuple_of (by rfl) B.tuple (by decide +kernel) (pa_cons (pe_slice sl_list (pv 1) (po_some pe_int) po_none) pa_nil)) pa_nil))))), ?_⟩
    have tlen := text_len hk hC
    refine q_asgL (el_is (el_split (ev_var rfl) ev_c rfl (by rw [sizeLine_eq]; omega)) (by rw [text_split hk hC])) fun l H1 n1 e1 h1 => ?_
    have hh := head_len hk
    have t1 : EvU (tCB (rTup K) (tCons (tSl (rSlL K) (tM1 rSplit (tOp (rIxL K) (tVar 1) (tC (.int 0))) (tC (.str " "))) (tPart (tC (.int 1))) tNoPart) tNil)) [some (.str (textOf ks (cs.map lineOf))), some (.ref l)] H1 (sl ks) :=
      eu_tuple (el_is (el_slN (el_split (x := headOf ks) (ev_ixL (ev_var rfl) ev_c (SqL.of h1) (atI_nat (j := 0) rfl)) ev_c rfl (by rw [sizeLine_eq]; omega)) (eo_some ev_c) eo_none) (by rw [head_split hk, cut_drop1]; rfl))
    have t2 : ∀ {H2 : Hp}, Ex H1 H2 → EvU (tCB (rTup K) (tCons (tSl (rSlL K) (tVar 1) (tPart (tC (.int 1))) tNoPart) tNil)) [some (.str (textOf ks (cs.map lineOf))), some (.ref l)] H2 (sl (cs.map lineOf)) := fun e =>
      eu_tuple (el_is (el_sl (ev_var rfl) (eo_some ev_c) eo_none (SqL.of (e _ _ h1))) (by rw [cut_drop1]; rfl))
    exact s_retT2 t1 (fun H2 e => t2 e) fun t a r H3 e ht ha hr3 => q t a r H3 (e1.trans e) ht ha hr3
theorem q_kr {i j : Nat} {E : XK} (h : Ev ta σ H (.str (textOf ks (cs.map lineOf)))) (hk : ks ∈ kinds7) (hC : Cells ks cs) (q : ∀ a r H1, Ex H H1 → H1 a = some (.tup (sl ks)) → H1 r = some (.tup (sl (cs.map lineOf))) → tz D ((σ.set i (some (.ref a))).set j (some (.ref r))) H1) :
    tSeq (tAsg (tCall spKR [] E (tCons ta tNil)) (gTup K 2 (gCons (gName i) (gCons (gName j) gNil)))) tz D σ H :=
  h H (Ex.refl H) _ fun H1 e1 => ⟨ks, cs, rfl, hk, hC, fun t a r H2 e2 ht ha hr => ⟨t, _, rfl, SqT.of ht, rfl, _, _, rfl, _, _, rfl, rfl, q a r H2 (e1.trans e2) ha hr⟩⟩
/-! ### is_table_text -/
def spIsText : Sp := fun vs H Q _ => ∃ (ks : List Str) (cs : List Cell), vs = [.str (textOf ks (cs.map lineOf))] ∧ ks ∈ kinds7 ∧ Cells ks cs ∧ ∀ H', Ex H H' → Q (.bl true) H'
theorem ev_startsW {x y : Str} {b : Bool} (ho : Ev ta σ H (.str x)) (he : Ev tb σ H (.str y)) (e : Txt.startswith x y = b) : Ev (tM1 (fun x xs H Q => ∃ a b, x = .str a ∧ xs = [.str b] ∧ Q (.bl (Txt.startswith a b)) H) ta tb) σ H (.bl b) := fun H1 e1 Q q =>
  ho H1 e1 _ fun H2 e2 => ⟨⟨_, rfl⟩, he H2 (e1.trans e2) _ fun H3 e3 => ⟨x, y, rfl, rfl, by rw [e]; exact q H3 (e2.trans e3)⟩⟩
theorem c_isText (D : At K mg "is_table_text" s_is_table_text ["value"]) (B : Bl mg) (C1 : C8.Cal P w K mg base 1 "kinds_and_rows" spKR []) (C2 : C8.Cal P w K mg base 2 "are_kinds" (spKinds K) []) (C3 : C8.Cal P w K mg base 4 "first_wrong_row" (spFirst K) []) : C8.Cal P w K mg base 5 "is_table_text" spIsText [] := by
  refine cal_of D sc_is_table_text (fun vs H Q E h => ?_) (fun f cdv A outer s H vs Q E hr h => ?_)
  · obtain ⟨ks, cs, rfl, _⟩ := h
    rfl
  · obtain ⟨ks, cs, rfl, hk, hC, q⟩ := h
    refine ⟨_, pss_cons (ps_if (PW.pt (pw_or (pt_not (pt_val (pe_callB call_isi (by rfl) B.isin (by decide +kernel) (pa_cons (pv 0) (pa_cons (pe_bltn (v := .ty "str") (by rfl) B.str (by decide +kernel) rfl) pa_nil))))) (pw_or1 (pt_not (pt_val (pe_m1 PySem.F.slot_str_startswith PySem.F.type_str_startswith mt_startswith (pv 0) pe_str)))))) (pss_one (ps_ret pe_bl)) pss_nil)
      (pss_cons (ps_asg (C8.pe_c C1 hr (by decide) (by rfl) (pa_cons (pv 0) pa_nil)) (pg_tup (by rfl) (pgs_cons (pg_name (i := 1) sc_is_table_text.nd rfl (.inl rfl)) (pgs_cons (pg_name (i := 2) sc_is_table_text.nd rfl (.inl rfl)) pgs_nil))))
      (pss_one (ps_ret (pe_and (C8.pe_c C2 hr (by decide) (by rfl) (pa_cons (pv 1) pa_nil)) (pe_one (pe_cmpR op_isN (C8.pe_c C3 hr (by decide) (by rfl) (pa_cons (pv 2) (pa_cons (pv 1) pa_nil))) pe_non (nomark _))))))), ?_⟩
    refine q_when (b := false) (et_or (et_not (et_B (ev_isStr (ev_var rfl)))) (fun _ => et_not (et_B (ev_startsW (ev_var rfl) ev_c (text_starts hk))))) (fun z => by cases z) (fun _ H1 e1 => ?_)
    refine q_kr (ev_var rfl) hk hC fun a r H2 e2 ha hr2 => ?_
    exact s_ret (ev_andV (ev_kinds (ev_var rfl) (SqT.of ha) hk) (fun _ => ev_op (ev_first (ev_var rfl) (ev_var rfl) hk hC (SqT.of hr2) (SqT.of ha)) ev_c fun H3 e Q q => ⟨rfl, q H3 (Ex.refl H3)⟩)) fun H3 e3 => q H3 ((e1.trans e2).trans e3)
end
end T
namespace T
open PySem PySem.Spec PyProof.Rows L2 Evl XB TL XS XI XC ClX
section
variable {P : Program} {w : World} {K : PySem.W.Frag} {mg : Str → Option Value} {base : Heap} {C : Addr}
variable {σ : L2.St} {H : Hp} {ta tb te : TE} {tz : TS} {D : Ends} {ks : List Str} {cs : List Cell} {x y : Addr} {E : XK}
/-! ### Table.read -/
def spRead (K : PySem.W.Frag) (C : Addr) : Sp := fun vs H Q _ => ∃ (ks : List Str) (cs : List Cell), vs = [.ref C, .str (textOf ks (cs.map lineOf))] ∧ ks ∈ kinds7 ∧ Cells ks cs ∧ ∀ x H', Ex H H' → TabAt K C H' x ks (cs.map lineOf) → Q (.ref x) H'
theorem ev_isText (h : Ev ta σ H (.str (textOf ks (cs.map lineOf)))) (hk : ks ∈ kinds7) (hC : Cells ks cs) : Ev (tCall spIsText [] E (tCons ta tNil)) σ H (.bl true) :=
  ev_call (ea_cons h ea_nil) fun H1 e Q q E => ⟨ks, cs, rfl, hk, hC, q⟩
theorem s_retTab (h : EvTab K C te σ H ks (cs.map lineOf)) (k : ∀ x H', Ex H H' → TabAt K C H' x ks (cs.map lineOf) → D.rt (.ref x) H') : tRet te D σ H := h H (Ex.refl H) _ k
theorem et_makeL {i : Nat} (hi : σ[i]? = some (some (.ref C))) (h : EvTab K C (tMake C (spInit K C) [] E (tCons ta (tCons tb tNil))) σ H ks (cs.map lineOf)) : EvTab K C (tMakeL i C (spInit K C) [] E (tCons ta (tCons tb tNil))) σ H ks (cs.map lineOf) := fun H1 e Q q => ⟨hi, h H1 e Q q⟩
theorem c_read {f : Addr} {fd : FuncData} (F : Fun K "read" "Table.read" s_Table_read f fd) (M : TabM P w K mg base C) (C1 : C8.Cal P w K mg base 1 "kinds_and_rows" spKR []) (C2 : C8.Cal P w K mg base 5 "is_table_text" spIsText []) : FnOk P w K mg base CX0 7 f fd ["cls", "text"] (spRead K C) := by
  obtain ⟨f0, fd0, Mk0, F0, b3, _⟩ := M.ex
  refine meth_ok F sc_Table_read (fun vs H Q E h => ?_) (fun cdv A outer s H vs Q E hr h => ?_)
  · obtain ⟨ks, cs, rfl, _⟩ := h
    rfl
  · obtain ⟨ks, cs, rfl, hk, hC, q⟩ := h
    refine ⟨_, pss_cons (ps_if (pt_not (pt_val (C8.pe_c C2 hr (by decide) (by rfl) (pa_cons (pv 1) pa_nil)))) pss_never pss_nil)
      (pss_cons (ps_asg (C8.pe_c C1 hr (by decide) (by rfl) (pa_cons (pv 1) pa_nil)) (pg_tup (by rfl) (pgs_cons (pg_name (i := 2) sc_Table_read.nd rfl (.inl rfl)) (pgs_cons (pg_name (i := 3) sc_Table_read.nd rfl (.inl rfl)) pgs_nil))))
      (pss_one (ps_ret (pe_makeL (i := 0) Mk0 F0 hr rfl (.inl rfl) b3 .nil pass0 (pa_cons (pv 2) (pa_cons (pv 3) pa_nil)))))), ?_⟩
    refine q_when (b := false) (et_not (et_B (ev_isText (ev_var rfl) hk hC))) (fun z => by cases z) (fun _ H1 e1 => ?_)
    refine q_kr (ev_var rfl) hk hC fun a r H2 e2 ha hr2 => ?_
    exact s_retTab (et_makeL rfl (et_make hk hC (es_at (ev_var rfl) (SqT.of ha)) (es_at (ev_var rfl) (SqT.of hr2)))) fun x H3 e3 t => q x H3 ((e1.trans e2).trans e3) t
theorem et_read (h : Ev ta σ H (.ref C)) (h2 : Ev tb σ H (.str (textOf ks (cs.map lineOf)))) (hk : ks ∈ kinds7) (hC : Cells ks cs) : EvTab K C (tCMeth C (spRead K C) E ta (tCons tb tNil)) σ H ks (cs.map lineOf) := fun H1 e Q q =>
  h H1 e _ fun H2 e2 => ⟨rfl, h2 H2 (e.trans e2) _ fun H3 e3 => ⟨ks, cs, rfl, hk, hC, fun x H4 e4 t => q x H4 ((e2.trans e3).trans e4) t⟩⟩
theorem et_readK (h : Ev ta σ H (.ref C)) (h2 : Ev tb σ H (.str (textOf ks (cs.map lineOf)))) (hk : ks ∈ kinds7) (hC : Cells ks cs) : EvTab K C (tCMethK C 1 (spRead K C) (fun vs zs => vs ++ zs) E ta (tCons tb tNil)) σ H ks (cs.map lineOf) := fun H1 e Q q =>
  h H1 e _ fun H2 e2 => ⟨rfl, h2 H2 (e.trans e2) _ fun H3 e3 => ⟨rfl, ks, cs, rfl, hk, hC, fun x H4 e4 t => q x H4 ((e2.trans e3).trans e4) t⟩⟩
/-! ### Table.__eq__ -/
def LoT (ks lns : List Str) : Prop := (∀ x ∈ ks, Lo x) ∧ ∀ x ∈ lns, Lo x
theorem lo_tab (hk : ks ∈ kinds7) (hC : Cells ks cs) : LoT ks (cs.map lineOf) := ⟨fun x hx => (small_ks hk x hx).lo, fun x hx => by
  obtain ⟨c, hc, rfl⟩ := List.mem_map.mp hx
  exact lo_line hk (hC.good c hc)⟩
def spEqT (K : PySem.W.Frag) (C : Addr) : Sp := fun vs H Q _ => ∃ (x y : Addr) (ks lns ks' lns' : List Str), vs = [.ref x, .ref y] ∧ TabAt K C H x ks lns ∧ TabAt K C H y ks' lns' ∧ LoT ks lns ∧ LoT ks' lns' ∧ ∀ H', Ex H H' → Q (.bl (decide (ks = ks') && decide (lns = lns'))) H'
theorem c_eq {f : Addr} {fd : FuncData} (F : Fun K "__eq__" "Table.__eq__" s_Table___eq__ f fd) (B : Bl mg) (T : TabC K mg C) (I : C8.InsC K C) : FnOk P w K mg base CX0 1 f fd ["self", "other"] (spEqT K C) := by
  refine meth_ok F sc_Table___eq__ (fun vs H Q E h => ?_) (fun cdv A outer s H vs Q E hr h => ?_)
  · obtain ⟨x, y, _, _, _, _, rfl, _⟩ := h
    rfl
  · obtain ⟨x, y, ks, lns, ks', lns', rfl, t1, t2, l1, l2, q⟩ := h
    refine ⟨_, pss_one (ps_ret (pe_and (pe_callB (C8.call_isC I) (by rfl) B.isin (by decide +kernel) (pa_cons (pv 1) (pa_cons (pe_glob (v := .ref C) (by rfl) T.mgT rfl) pa_nil)))
      (pe_and (pe_cmpR (op_eqD hr.units) (pe_fld (pv 0) rfl) (pe_fld (pv 1) rfl) (nomark _)) (pe_one (pe_cmpR (op_eqD hr.units) (pe_fld (pv 0) rfl) (pe_fld (pv 1) rfl) (nomark _)))))), ?_⟩
    obtain ⟨dx, D1, a1, r1, hx, hk1, hl1⟩ := t1.raw
    obtain ⟨dy, D2, a2, r2, hy, hk2, hl2⟩ := t2.raw
    refine s_ret (ev_is (ev_andV (ev_isT (ev_var rfl) t2) (fun _ => ev_andV (ev_eqD (ev_fld (ev_var rfl) hx T.cl T.k rfl) (ev_fld (ev_var rfl) hy T.cl T.k rfl) (fun H1 e => dp_tup (ex_t e hk1)) (fun H1 e => dp_tup (ex_t e hk2)) (shp_strs l1.1) (shp_strs l2.1))
      (fun _ => ev_eqD (ev_fld (ev_var rfl) hx T.cl T.r rfl) (ev_fld (ev_var rfl) hy T.cl T.r rfl) (fun H1 e => dp_tup (ex_t e hl1)) (fun H1 e => dp_tup (ex_t e hl2)) (shp_strs l1.2) (shp_strs l2.2)))) ?_) fun H1 e1 => q H1 e1
    show V.bl (true && (PyData.eqvAll _ _ && PyData.eqvAll _ _)) = _
    rw [eqv_strs, eqv_strs, Bool.true_and]
/-- the answer of == and != of two tables -/
theorem ev_eqO {neg : Bool} {ks' lns lns' : List Str} (h : Ev ta σ H (.ref x)) (h2 : Ev tb σ H (.ref y)) (t1 : TabAt K C H x ks lns) (t2 : TabAt K C H y ks' lns') (l1 : LoT ks lns) (l2 : LoT ks' lns') :
    Ev (tOp (rEqO C (spEqT K C) neg) ta tb) σ H (.bl (if neg then !(decide (ks = ks') && decide (lns = lns')) else (decide (ks = ks') && decide (lns = lns')))) := fun H1 e Q q =>
  h H1 e _ fun H2 e2 => h2 H2 (e.trans e2) _ fun H3 e3 => by
    have u1 := t1.ex ((e.trans e2).trans e3)
    have u2 := t2.ex ((e.trans e2).trans e3)
    obtain ⟨dx, D1, a1, r1, hx, _⟩ := u1.raw
    obtain ⟨dy, D2, a2, r2, hy, _⟩ := u2.raw
    exact ⟨x, dx, _, y, dy, _, rfl, rfl, hx, hy, x, y, ks, lns, ks', lns', rfl, u1, u2, l1, l2, fun H4 e4 => ⟨_, rfl, q H4 ((e2.trans e3).trans e4)⟩⟩
theorem ev_eqTab {lns : List Str} (h : Ev ta σ H (.ref x)) (h2 : Ev tb σ H (.ref y)) (t1 : TabAt K C H x ks lns) (t2 : TabAt K C H y ks lns) (l1 : LoT ks lns) : Ev (tOp (rEqO C (spEqT K C) false) ta tb) σ H (.bl true) := ev_is (ev_eqO (neg := false) h h2 t1 t2 l1 l1) (by rw [decide_eq_true rfl, decide_eq_true rfl]; rfl)
theorem ev_neTab {lns : List Str} (h : Ev ta σ H (.ref x)) (h2 : Ev tb σ H (.ref y)) (t1 : TabAt K C H x ks lns) (t2 : TabAt K C H y ks lns) (l1 : LoT ks lns) : Ev (tOp (rEqO C (spEqT K C) true) ta tb) σ H (.bl false) := ev_is (ev_eqO (neg := true) h h2 t1 t2 l1 l1) (by rw [decide_eq_true rfl, decide_eq_true rfl]; rfl)
end
end T
namespace T
open PySem PySem.Spec PyProof.Rows L2 Evl XB TL XS XI XC ClX
/-! ### edits -/
/-- one letter -/
def let1 (c : Nat) : Str := ⟨#[c]⟩
inductive Deed where
  | stay
  | out (n : Int)
  | sig (k : Str) (n : Int) (c : Nat)
def Deed.vs : Deed → List V
  | .stay => [.str "stay"]
  | .out n => [.str "out", .int n]
  | .sig k n c => [.str k, .int n, .str (let1 c)]
def Deed.ok (ks : List Str) : Deed → Prop
  | .stay => True
  | .out n => ("out" : Str) ∈ ks ∧ -9 ≤ n ∧ n ≤ 10 ^ 12
  | .sig k n c => k ∈ [("put" : Str), "set"] ∧ k ∈ ks ∧ -9 ≤ n ∧ n ≤ 10 ^ 12 ∧ 97 ≤ c ∧ c ≤ 122
section
variable {P : Program} {w : World} {K : PySem.W.Frag} {mg : Str → Option Value} {base : Heap} {C : Addr}
variable {σ : L2.St} {H : Hp} {ta tb tc te : TE} {tz : TS} {D' : Ends} {ks : List Str} {cs : List Cell} {x y a : Addr} {E : XK} {d : Deed}
theorem ev_isIntT {n : Int} (h : Ev ta σ H (.int n)) : Ev (tCB (rIsi K) (tCons ta (tCons (tC (.ty "int")) tNil))) σ H (.bl true) := ev_isi h (fun _ _ => .base (.int n)) (by decide +kernel)
theorem ev_isBoolI {n : Int} (h : Ev ta σ H (.int n)) : Ev (tCB (rIsi K) (tCons ta (tCons (tC (.ty "bool")) tNil))) σ H (.bl false) := ev_isi h (fun _ _ => .base (.int n)) (by decide +kernel)
theorem ev_chain {r r' : R2} {x y z : V} {a b : Bool} (h : Ev ta σ H x) (h2 : Ev tb σ H y) (h3 : Ev tc σ H z) (hr : RV r x y H (.bl a)) (hr' : a = true → RV r' y z H (.bl b)) : Ev (tChain r r' ta tb tc) σ H (.bl (a && b)) := fun H1 e Q q =>
  h H1 e _ fun H2 e2 => h2 H2 (e.trans e2) _ fun H3 e3 => hr H3 ((e.trans e2).trans e3) _ fun H4 e4 => ⟨a, rfl, by
    cases a with
    | true => exact iteT (h3 H4 (((e.trans e2).trans e3).trans e4) _ fun H5 e5 => hr' rfl H5 ((((e.trans e2).trans e3).trans e4).trans e5) _ fun H6 e6 => q H6 ((((e2.trans e3).trans e4).trans e5).trans e6))
    | false => exact iteF (q H4 ((e2.trans e3).trans e4))⟩
theorem one_lt {c d : Nat} : ([c] < [d]) ↔ c < d := by
  rw [List.cons_lt_cons_iff]
  constructor
  · rintro (h | ⟨_, h⟩)
    · exact h
    · cases h
  · exact .inl
theorem rv_leS {x y : Str} : RV (fun x y H Q => ∃ i j, x = .str i ∧ y = .str j ∧ Q (.bl (!decide (j.cps.toList < i.cps.toList))) H) (.str x) (.str y) H (.bl (!decide (y.cps.toList < x.cps.toList))) := fun H1 _ _ q => ⟨x, y, rfl, rfl, q H1 (Ex.refl H1)⟩
theorem rv_ltS {x y : Str} : RV (fun x y H Q => ∃ i j, x = .str i ∧ y = .str j ∧ Q (.bl (decide (i.cps.toList < j.cps.toList))) H) (.str x) (.str y) H (.bl (decide (x.cps.toList < y.cps.toList))) := fun H1 _ _ q => ⟨x, y, rfl, rfl, q H1 (Ex.refl H1)⟩
theorem ev_lenStr {x : Str} (h : Ev ta σ H (.str x)) (hz : x.length ≤ sizeLine) : Ev (tCB (fun xs H Q => ∃ z, xs = [.str z] ∧ z.length ≤ sizeLine ∧ Q (.int z.length) H) (tCons ta tNil)) σ H (.int (x.length : Nat)) := fun H1 e Q q => h H1 e _ fun H2 e2 => ⟨x, rfl, hz, q H2 e2⟩
/-! ### is_integer -/
def spInt : Sp := fun vs H Q _ => ∃ n : Int, vs = [.int n] ∧ ∀ H', Ex H H' → Q (.bl true) H'
theorem ev_int {n : Int} (h : Ev ta σ H (.int n)) : Ev (tCall spInt [] E (tCons ta tNil)) σ H (.bl true) := ev_call (ea_cons h ea_nil) fun H1 e Q q E => ⟨n, rfl, q⟩
/-! ### is_place -/
def spPlace : Sp := fun vs H Q _ => ∃ n : Int, vs = [.int n] ∧ -9 ≤ n ∧ n ≤ 10 ^ 12 ∧ ∀ H', Ex H H' → Q (.bl true) H'
/-! ### is_sign -/
def spSign : Sp := fun vs H Q _ => ∃ c : Nat, vs = [.str (let1 c)] ∧ 97 ≤ c ∧ c ≤ 122 ∧ ∀ H', Ex H H' → Q (.bl true) H'
theorem ev_sign {c : Nat} (h : Ev ta σ H (.str (let1 c))) (h1 : 97 ≤ c) (h2 : c ≤ 122) : Ev (tCall spSign [] E (tCons ta tNil)) σ H (.bl true) := ev_call (ea_cons h ea_nil) fun H1 e Q q E => ⟨c, rfl, h1, h2, q⟩
theorem ev_place {n : Int} (h : Ev ta σ H (.int n)) (h1 : -9 ≤ n) (h2 : n ≤ 10 ^ 12) : Ev (tCall spPlace [] E (tCons ta tNil)) σ H (.bl true) := ev_call (ea_cons h ea_nil) fun H1 e Q q E => ⟨n, rfl, h1, h2, q⟩
/-! ### is_edit -/
theorem word_S {x : Str} {ws : List Str} (ha : Ev ta σ H (.str x)) (hb : EvS K tb σ H (sl ws)) : Ev (tCall (spWord K) [] E (tCons ta (tCons tb tNil))) σ H (.bl (decide (x ∈ ws))) := fun H1 e Q q =>
  ha H1 e _ fun H2 e2 => hb H2 (e.trans e2) _ fun p H3 e3 hp => ⟨x, p, ws, rfl, hp, fun H4 e4 => q H4 ((e2.trans e3).trans e4)⟩
def spEdit (K : PySem.W.Frag) : Sp := fun vs H Q _ => ∃ (a : Addr) (ks : List Str) (d : Deed), vs = [.ref a] ∧ SqT K H a d.vs ∧ d.ok ks ∧ ∀ H', Ex H H' → Q (.bl true) H'
end
end T
/-! Own: o[i] by an own __getitem__. -/
namespace XGt
open PySem PySem.Spec PyProof.Rows L2
structure GetC (K : PySem.W.Frag) (C f : Addr) : Prop where
  get : PySem.W.findIn K (.ref C) "__getitem__" = some (some (.ref f))
  fi : PySem.W.fnIn K f = true
  fn : PySem.W.isFn K (.ref f) = true
section
variable {X : Cx} {k : Nat} {C f : Addr} {fd : FuncData} {sp : Sp} {a b : Expr} {pos : Pos} {ta tb : TE}
def rGetO (C : Addr) (sp : Sp) : R2 := fun x y H Q => ∃ o dx fs, x = .ref o ∧ H o = some (.ins C dx fs) ∧ sp [.ref o, y] H Q E0
theorem pe_getO (c : GetC X.K C f) (F : FnOk X.prog X.w X.K X.mg X.base CX0 k f fd ["self", "at"] sp) (hr : Room (k + 1) X.A) (hb : Binds X.K fd ["self", "at"] []) (ha : PE X a ta) (hi : PE X b tb)
    (hsl : ∀ (x : Addr) (i : Value), subscripted b true (.ref x) i = runValue (.builtin "lifetime.subscript" ⟨[.ref x, i], []⟩) := by intro _ _; with_unfolding_all rfl) : PE X (.Subscript a b pos) (tOp (rGetO C sp) ta tb) := by
  refine ⟨fun pins s σ H Q I h => ?_⟩
  refine Subscript_ (binT ha hi I h fun v u s2 x y H2 I2 rx ry q => ?_)
  obtain ⟨o, dx, fs, rfl, ea, q⟩ := q
  obtain rfl : v = Value.ref o := rx
  obtain ⟨od, J⟩ := XO.inst_look I2 ea
  obtain ⟨m, hF⟩ := I2.fr
  refine PySem.W.sub_K hF I2.ok.mod.kin J c.get c.fi c.fn ?_ (hsl o u)
  refine wpAny_call (codeAny_mono (F.run X.A.in1 X.stack s2 H2 ⟨[.ref o, u], []⟩ [.ref o, u] [.ref o, y] Q E0 hr.in1 I2.env0.in1 (hb s2 [.ref o, u] I2.kIn rfl) (.cons rfl (.cons ry .nil)) q) fun r s' hq => ?_)
  cases r with
  | error er => exact hq.elim
  | ok fl =>
    cases fl with
    | ret w => exact I2.after hq
    | _ => exact False.elim hq
end
section
variable {X : Cx} {CX : CXT} {k : Nat} {C f : Addr} {fd : FuncData} {ps ks : List Str} {sp : Sp} {E : XK} {o : Expr} {kws : List Keyword} {m : Str} {pos apos : Pos} {ta : TE} {tk : TA} {pl : Sem Bool}
/-- o.m(k = v, ..) -/
def tMethKw (C : Addr) (m : Str) (n : Nat) (sp : Sp) (gV : List V → List V → List V) (E : XK) (ta : TE) (tk : TA) : TE := fun σ H Q => ta σ H fun x H1 => ∃ a dx fs, x = .ref a ∧ H1 a = some (.ins C dx fs) ∧ fs.lookup m = none ∧ tk σ H1 fun zs H2 => zs.length = n ∧ sp (gV [x] zs) H2 Q E
theorem pe_methKw {gg : List Value → List Value → List Value} {gV : List V → List V → List V} (he : PE X o ta) (c : Cls X.K C) (hm : Meth X.K C m f) (F : FnOk X.prog X.w X.K X.mg X.base CX k f fd ps sp) (hr : Room k X.A) (hb : KBn X.K fd ps 1 ks gg gV) (hx : Passes CX X E) (hkw : PK X kws tk)
    (hall : (backToKw pos (keywordEach kws X.env)).all (·.1.isSome) = true := by rfl) (hks : (backToKw pos (keywordEach kws X.env)).filterMap (·.1) = ks := by rfl)
    (hpl : ((backTo pos (starEach [] X.env)).any (·.1) || (backToKw pos (keywordEach kws X.env)).any (·.1.isNone)) = false := by rfl)
    (ht : eval (.Call (.Attribute o m apos) [] kws pos) X.env = (do
      let ov ← eval o X.env
      standAt apos.atName
      let (f, first) ← holding [ov] (getMethod ov m pl)
      callWith pos f first (backTo pos (starEach [] X.env)) (backToKw pos (keywordEach kws X.env))) := by rfl) :
    PE X (.Call (.Attribute o m apos) [] kws pos) (tMethKw C m ks.length sp gV E ta tk) := by
  refine ⟨fun pins s σ H Q I h => ?_⟩
  refine PySem.W.methodCall_KW (pl := pl) (thn (he.run pins s σ H _ I h) fun u s1 ⟨x, H1, I1, rx, a, dx, fs, ex, ea, l, q⟩ => ?_) ht
  subst ex
  obtain rfl : u = Value.ref a := rx
  refine getmeth_ok I1 ea c hm l ?_
  refine PySem.W.callWith_KW0 (first := [.ref a]) (h₀ := X.base) I1.ok.mod.kin hm.kp hall (thn (hkw.run pos pins s1 σ H1 _ I1 q) fun ws s2 ⟨zs, H2, I2, rz, l2, q2⟩ => ⟨I2.kIn, ?_⟩) hpl
  rw [hks]
  exact run_fnN (us := [.ref a]) (vs := [.ref a]) F hr hb hx I2 (.cons rfl .nil) rz rfl l2 q2
end
end XGt
namespace T
open PySem PySem.Spec PyProof.Rows L2 Evl XB TL XS XI XC ClX
def Deed.hd : Deed → Str
  | .stay => "stay"
  | .out _ => "out"
  | .sig k _ _ => k
theorem Deed.hd_at (d : Deed) : d.vs[0]? = some (.str d.hd) := by cases d <;> rfl
theorem Deed.hd_ok {ks : List Str} {d : Deed} (h : d.ok ks) : (decide (d.hd = "stay") || decide (d.hd ∈ ks)) = true := by
  cases d with
  | stay => rfl
  | out n => rw [decide_eq_true (show Deed.hd (.out n) ∈ ks from h.1), Bool.or_true]
  | sig k n c => rw [decide_eq_true (show Deed.hd (.sig k n c) ∈ ks from h.2.1), Bool.or_true]
def Deed.len3 : Deed → Bool
  | .sig _ _ _ => true
  | _ => false
theorem Deed.len3_eq (d : Deed) : decide (V.int (d.vs.length : Int) = V.int 3) = d.len3 := by cases d <;> rfl
/-- by the order of two -/
def pick3 {α : Type} (lt eq : Bool) (a b c : α) : α := if lt = true then a else if eq = true then b else c
section
variable {P : Program} {w : World} {K : PySem.W.Frag} {mg : Str → Option Value} {base : Heap} {C : Addr}
variable {σ : L2.St} {H : Hp} {ta tb tc te : TE} {tz : TS} {D' : Ends} {ks : List Str} {cs : List Cell} {x y a b : Addr} {E : XK} {d : Deed}
/-! ### is_edit_of -/
def spEditOf (K : PySem.W.Frag) : Sp := fun vs H Q _ => ∃ (a b : Addr) (ks : List Str) (d : Deed), vs = [.ref a, .ref b] ∧ SqT K H a d.vs ∧ SqT K H b (sl ks) ∧ d.ok ks ∧ ∀ H', Ex H H' → Q (.bl true) H'
theorem ev_edit (h : Ev ta σ H (.ref a)) (ha : SqT K H a d.vs) (ok : d.ok ks) : Ev (tCall (spEdit K) [] E (tCons ta tNil)) σ H (.bl true) := ev_call (ea_cons h ea_nil) fun H1 e Q q E => ⟨a, ks, d, rfl, ex_t e ha, ok, q⟩
/-! ### compared -/
/-- two numbers, or two letters -/
inductive Two : V → V → Bool → Bool → Prop
  | int (n m : Int) : Two (.int n) (.int m) (decide (n < m)) (decide (n = m))
  | let1 (c e : Nat) : Two (.str (let1 c)) (.str (let1 e)) (decide (c < e)) (decide (c = e))
def spCmp (K : PySem.W.Frag) : Sp := fun vs H Q _ => ∃ (u v : V) (b : Addr) (lt eq : Bool) (s0 s1 s2 : Str), vs = [u, v, .ref b] ∧ Two u v lt eq ∧ SqT K H b (sl [s0, s1, s2]) ∧ ∀ H', Ex H H' → Q (.str (pick3 lt eq s0 s1 s2)) H'
theorem Two.eq {u v : V} {lt eq : Bool} (t : Two u v lt eq) (ha : Ev ta σ H u) (hb : Ev tb σ H v) : Ev (tOp rEq ta tb) σ H (.bl eq) := by
  cases t with
  | int n m => exact ev_is (ev_op ha hb (rv_eq rfl)) (by
      by_cases h : n = m
      · rw [h, decide_eq_true rfl, decide_eq_true rfl]
      · rw [decide_eq_false h, decide_eq_false fun z => h (by injection z)])
  | let1 c e => exact ev_is (ev_op ha hb (rv_eq rfl)) (by
      by_cases h : c = e
      · rw [h, decide_eq_true rfl, decide_eq_true rfl]
      · rw [decide_eq_false h, decide_eq_false fun z => h (by injection z with z; injection z with z; injection z with z; injection z with z)])
def rLtA : R2 := fun x y H Q => (∃ i j, x = .int i ∧ y = .int j ∧ Q (.bl (decide (i < j))) H) ∨ ∃ i j, x = .str i ∧ y = .str j ∧ Q (.bl (decide (i.cps.toList < j.cps.toList))) H
theorem op_ltA {X : Cx} : OpR X (compareOp .Lt) rLtA := op_lt.or op_lt_str
theorem Two.lt {u v : V} {lt eq : Bool} (t : Two u v lt eq) (ha : Ev ta σ H u) (hb : Ev tb σ H v) : Ev (tOp rLtA ta tb) σ H (.bl lt) := by
  cases t with
  | int n m => exact ev_op ha hb fun H1 e Q q => .inl ⟨n, m, rfl, rfl, q H1 (Ex.refl H1)⟩
  | let1 c e => exact ev_is (ev_op ha hb fun H1 e Q q => .inr ⟨_, _, rfl, rfl, q H1 (Ex.refl H1)⟩) (by
      show V.bl (decide ([c] < [e])) = _
      rw [decide_eq_decide.mpr one_lt])
theorem c_cmp (D : At K mg "compared" s_compared ["mine", "its", "words"]) : C8.Cal P w K mg base 1 "compared" (spCmp K) [] := by
  refine cal_of D sc_compared (fun vs H Q E h => ?_) (fun f cdv A outer s H vs Q E hr h => ?_)
  · obtain ⟨u, v, b, lt, eq, s0, s1, s2, rfl, _⟩ := h
    rfl
  · obtain ⟨u, v, b, lt, eq, s0, s1, s2, rfl, t, hb, q⟩ := h
    refine ⟨_, pss_cons (ps_if (pt_cmpR op_ltA (pv 0) (pv 1) (nomark _)) (pss_one (ps_ret (pe_ix ix_tup (pv 2) pe_int (fun _ _ => rfl)))) pss_nil)
      (pss_cons (ps_if (pt_cmpR op_eq (pv 0) (pv 1) (nomark _)) (pss_one (ps_ret (pe_ix ix_tup (pv 2) pe_int (fun _ _ => rfl)))) pss_nil)
      (pss_one (ps_ret (pe_ix ix_tup (pv 2) pe_int (fun _ _ => rfl))))), ?_⟩
    refine q_when (et_test (t.lt (ev_var rfl) (ev_var rfl))) (fun z H1 e1 => ?_) (fun z H1 e1 => ?_)
    · subst z
      exact s_ret (ev_ixT (ev_var rfl) ev_c (ex_t e1 hb) (atI_nat (j := 0) rfl)) fun H2 e2 => q H2 (e1.trans e2)
    · subst z
      refine q_when (et_test (t.eq (ev_var rfl) (ev_var rfl))) (fun z H2 e2 => ?_) (fun z H2 e2 => ?_)
      · subst z
        exact s_ret (ev_ixT (ev_var rfl) ev_c (ex_t (e1.trans e2) hb) (atI_nat (j := 1) rfl)) fun H3 e3 => q H3 ((e1.trans e2).trans e3)
      · subst z
        exact s_ret (ev_ixT (ev_var rfl) ev_c (ex_t (e1.trans e2) hb) (atI_nat (j := 2) rfl)) fun H3 e3 => q H3 ((e1.trans e2).trans e3)
theorem ev_cmp {u v : V} {lt eq : Bool} {s0 s1 s2 : Str} (h1 : Ev ta σ H u) (h2 : Ev tb σ H v) (h3 : Ev tc σ H (.ref b)) (t : Two u v lt eq) (hb : SqT K H b (sl [s0, s1, s2])) : Ev (tCall (spCmp K) [] E (tCons ta (tCons tb (tCons tc tNil)))) σ H (.str (pick3 lt eq s0 s1 s2)) :=
  ev_call (ea_cons h1 (ea_cons h2 (ea_cons h3 ea_nil))) fun H1 e Q q E => ⟨u, v, b, lt, eq, s0, s1, s2, rfl, t, ex_t e hb, q⟩
theorem es_catA {xs ys : List V} (ha : EvS K ta σ H xs) (hb : EvS K tb σ H ys) (hz : xs.length + ys.length ≤ 100000) : EvS K (tOp (rCatA K) ta tb) σ H (xs ++ ys) := fun H1 e Q q =>
  ha H1 e _ fun p H2 e2 h2 => hb H2 (e.trans e2) _ fun r H3 e3 h3 => ⟨p, r, xs, ys, rfl, rfl, ex_t e3 h2, h3, sz_of hz, (fun z => by
      subst z
      exact q r H3 (e2.trans e3) h3), (fun _ z => by
      subst z
      exact q p H3 (e2.trans e3) (by rw [List.append_nil]; exact ex_t e3 h2)),
    fun _ _ l nl => q l _ ((e2.trans e3).trans (Ex.new nl)) (st_of upd_same)⟩
/-! ### conditions_met -/
def metOf (d e : Deed) (first : Bool) : List Str := (if first = true then [("first" : Str)] else []) ++ (match d, e with
  | .sig _ _ c, .sig _ _ c' => [pick3 (decide (c < c')) (decide (c = c')) ("less" : Str) "same" "more"]
  | _, _ => [])
def spMet (K : PySem.W.Frag) : Sp := fun vs H Q _ => ∃ (a b : Addr) (d e : Deed) (first : Bool), vs = [.ref a, .ref b, .bl first] ∧ SqT K H a d.vs ∧ SqT K H b e.vs ∧ ∀ l H', Ex H H' → SqT K H' l (sl (metOf d e first)) → Q (.ref l) H'
theorem c_met (D : At K mg "conditions_met" s_conditions_met ["edit", "past", "first"]) (B : Bl mg) (T : TupC K mg "SIGN_CONDITIONS" ["less", "same", "more"]) (C1 : C8.Cal P w K mg base 1 "compared" (spCmp K) []) : C8.Cal P w K mg base 2 "conditions_met" (spMet K) [] := by
  obtain ⟨ak, mk, hK⟩ := T.ex
  refine cal_of D sc_conditions_met (fun vs H Q E h => ?_) (fun f cdv A outer s H vs Q E hr h => ?_)
  · obtain ⟨a, b, d, e, first, rfl, _⟩ := h
    rfl
  · obtain ⟨a, b, d, e, first, rfl, ha, hb, q⟩ := h
    refine ⟨_, pss_cons (ps_set (i := 3) sc_conditions_met.nd rfl (.inl rfl) (pe_ifExp (pt_val (pv 2)) (pe_tup (pa_cons pe_str pa_nil)) (pe_tup pa_nil)))
      (pss_cons (ps_if (PW.pt (pw_and (pt_cmpR op_eq (pe_callB call_len_seq (by rfl) B.len (by decide +kernel) (pa_cons (pv 0) pa_nil)) pe_int (nomark _)) (pw_and1 (pt_cmpR op_eq (pe_callB call_len_seq (by rfl) B.len (by decide +kernel) (pa_cons (pv 1) pa_nil)) pe_int (nomark _))))) (pss_one (ps_ret (pe_op op_catA (pv 3) (pe_tup (pa_cons (C8.pe_c C1 hr (by decide) (by rfl) (pa_cons (pe_ix ix_tup (pv 0) pe_int (fun _ _ => rfl)) (pa_cons (pe_ix ix_tup (pv 1) pe_int (fun _ _ => rfl)) (pa_cons (pe_glob (v := .ref ak) (by rfl) mk rfl) pa_nil)))) pa_nil))))) pss_nil)
      (pss_one (ps_ret (pv 3)))), ?_⟩
    have gl : ∀ {H1 : Hp} {σ : L2.St}, Ex H H1 → σ[0]? = some (some (.ref a)) → Ev (tCB (rLenS K) (tCons (tVar 0) tNil)) σ H1 (.int (d.vs.length : Int)) := fun z h0 => ev_lenS (ev_var h0) (.inr (ex_t z ha))
    have gl' : ∀ {H1 : Hp} {σ : L2.St}, Ex H H1 → σ[1]? = some (some (.ref b)) → Ev (tCB (rLenS K) (tCons (tVar 1) tNil)) σ H1 (.int (e.vs.length : Int)) := fun z h0 => ev_lenS (ev_var h0) (.inr (ex_t z hb))
    refine q_asgS (K := K) (xs := sl (if first = true then [("first" : Str)] else [])) (es_if (et_B (ev_var rfl)) (fun z => by rw [if_pos z]; exact es_new (eu_tup (ea_str ea_nil) (by decide))) (fun z => by rw [if_neg (by rw [z]; decide)]; exact es_new (eu_tup ea_nil (by decide)))) fun m H1 e1 h1 => ?_
    have out : ∀ {H2 : Hp}, Ex H1 H2 → metOf d e first = (if first = true then [("first" : Str)] else []) → tRet (tVar 3) { nx := fun x H' => Q V.non H', rt := Q } [some (.ref a), some (.ref b), some (.bl first), some (.ref m)] H2 := fun {H2} z w => s_retS (es_at (ev_var rfl) (ex_t z h1)) fun p H3 e3 h3 => q p H3 ((e1.trans z).trans e3) (by rw [w]; exact h3)
    refine q_when (b := d.len3 && e.len3) (et_and (et_test (ev_is (ev_op (gl e1 rfl) ev_c (rv_eq rfl)) (by rw [Deed.len3_eq]))) (fun _ => et_test (ev_is (ev_op (gl' e1 rfl) ev_c (rv_eq rfl)) (by rw [Deed.len3_eq])))) (fun z H2 e2 => ?_) (fun z H2 e2 => ?_)
    · cases d with
      | stay => cases z
      | out n => cases z
      | sig k n c => cases e with
        | stay => cases z
        | out n => cases z
        | sig k' n' c' =>
          have e12 := e1.trans e2
          refine s_retS (es_is (es_catA (xs := sl (if first = true then [("first" : Str)] else [])) (ys := sl [pick3 (decide (c < c')) (decide (c = c')) ("less" : Str) "same" "more"]) (es_at (ev_var rfl) (ex_t e2 h1)) (es_new (eu_tup (ea_cons (ev_cmp (ev_ixT (ev_var rfl) ev_c (ex_t e12 ha) (atI_nat (j := 2) rfl)) (ev_ixT (ev_var rfl) ev_c (ex_t e12 hb) (atI_nat (j := 2) rfl)) ev_c (.let1 c c') (hK _)) ea_nil) (by show 1 ≤ 100000; decide))) ?_) (sl_cat _ _)) fun p H3 e3 h3 => q p H3 (e12.trans e3) h3
          split
          · show 1 + 1 ≤ 100000
            decide
          · show 0 + 1 ≤ 100000
            decide
    · refine out e2 ?_
      cases d <;> cases e <;> first | exact List.append_nil _ | (cases z)
end
end T
namespace T
open PySem PySem.Spec PyProof.Rows L2 Evl XB TL XS XI XC ClX
def jn (p : Str × Str) : Str := p.1 ++ ":" ++ p.2
def chosenOf (ps : List (Str × Str)) (z : Str) (ms : List Str) : Str := ((ps.find? fun p => decide (p.1 ∈ ms)).map (·.2)).getD z
theorem chosen_at {ps : List (Str × Str)} {z : Str} {ms : List Str} : ∀ {i : Nat} {p : Str × Str}, (∀ q ∈ ps.take i, q.1 ∉ ms) → ps[i]? = some p → p.1 ∈ ms → chosenOf ps z ms = p.2 := by
  induction ps with
  | nil => intro i p _ h; cases h
  | cons q r ih =>
    intro i p hn h hp
    unfold chosenOf
    cases i with
    | zero =>
      have e : q = p := by injection h
      rw [List.find?_cons, e, decide_eq_true hp]
      rfl
    | succ i =>
      have nq := hn q (by rw [List.take_succ_cons]; exact List.mem_cons_self)
      rw [List.find?_cons, decide_eq_false nq]
      exact ih (fun y hy => hn y (by rw [List.take_succ_cons]; exact List.mem_cons_of_mem _ hy)) (show r[i]? = some p from h) hp
theorem chosen_none {ps : List (Str × Str)} {z : Str} {ms : List Str} (h : ∀ q ∈ ps, q.1 ∉ ms) : chosenOf ps z ms = z := by
  unfold chosenOf
  rw [List.find?_eq_none.mpr fun q hq => by rw [decide_eq_true_eq]; exact h q hq]
  rfl
section
variable {P : Program} {w : World} {K : PySem.W.Frag} {mg : Str → Option Value} {base : Heap} {C : Addr}
variable {σ : L2.St} {H : Hp} {ta tb tc te : TE} {tz ts : TS} {D' : Ends} {ks : List Str} {cs : List Cell} {x y a b : Addr} {E : XK} {d : Deed} {xs : List V} {g : TG}
theorem s_forS (h : EvS K te σ H xs) (Pv : Hp → Nat → L2.St → Hp → Prop) (h0 : ∀ H1, Ex H H1 → Pv H1 0 σ H1) (hx : ∀ H1 i σ' G, Pv H1 i σ' G → Ex H1 G)
    (hs : ∀ H1 i x σ' G, Ex H H1 → xs[i]? = some x → Pv H1 i σ' G → g x σ' G fun σ2 H2 => ts { D' with nx := Pv H1 (i + 1), ct := Pv H1 (i + 1), bk := D'.nx } σ2 H2) (hd : ∀ H1 σ' G, Ex H H1 → Pv H1 xs.length σ' G → D'.nx σ' G) : tFor (iTup K te) g ts D' σ H :=
  h H (Ex.refl H) _ fun p H1 e1 hp => ⟨p, rfl, ⟨_, hp⟩, for_tup (Pv H1) (h0 H1 e1) (fun i σ' G _ q => ex_t (hx H1 i σ' G q) hp) (fun i x σ' G hi q => hs H1 i x σ' G e1 hi q) (fun σ' G q => hd H1 σ' G e1 q)⟩
theorem eu_part {x y b : Str} (ha : Ev ta σ H (.str (x ++ y ++ b))) (hb : Ev tb σ H (.str y)) (hz : (x ++ y ++ b).length ≤ sizeLine) (hy : (y.length == 0) = false) (e : Txt.partition (x ++ y ++ b) y = (x, y, b)) :
    EvU (tM1 (fun x xs H Q => ∃ a b, x = .str a ∧ xs = [.str b] ∧ (b.length == 0) = false ∧ a.length ≤ sizeLine ∧ ∀ p, H p = none → Q (.ref p) (upd H p (.tup [.str (Txt.partition a b).1, .str (Txt.partition a b).2.1, .str (Txt.partition a b).2.2]))) ta tb) σ H [.str x, .str y, .str b] := fun H1 e1 Q q =>
  ha H1 e1 _ fun H2 e2 => ⟨⟨_, rfl⟩, hb H2 (e1.trans e2) _ fun H3 e3 => ⟨_, _, rfl, rfl, hy, hz, fun p np => by
    have en := q p _ (fresh_back (e2.trans e3) np) ((e2.trans e3).trans (Ex.new np)) upd_same
    rw [e]
    exact en⟩⟩
/-! ### chosen -/
structure Parts (ps : List (Str × Str)) : Prop where
  no : ∀ p ∈ ps, 58 ∉ tl p.1
  sm : ∀ p ∈ ps, (jn p).length ≤ 100
  few : ps.length ≤ 100
def spChosen (K : PySem.W.Frag) : Sp := fun vs H Q _ => ∃ (a b : Addr) (ps : List (Str × Str)) (z : Str) (ms : List Str), vs = [.ref a, .ref b] ∧ SqT K H a (sl (ps.map jn ++ [z])) ∧ SqT K H b (sl ms) ∧ Parts ps ∧ ∀ H', Ex H H' → Q (.str (chosenOf ps z ms)) H'
theorem c_chosen (D : At K mg "chosen" s_chosen ["options", "met"]) : C8.Cal P w K mg base 1 "chosen" (spChosen K) [] := by
  refine cal_of D sc_chosen (fun vs H Q E h => ?_) (fun f cdv A outer s H vs Q E hr h => ?_)
  · obtain ⟨a, b, ps, z, ms, rfl, _⟩ := h
    rfl
  · obtain ⟨a, b, ps, z, ms, rfl, ha, hb, PP, q⟩ := h
    refine ⟨_, pss_cons (ps_for PassesOwn.never rfl (pi_tup (pe_slice sl_tup (pv 0) po_none (po_some (pe_un un_neg pe_int)))) (pg_name (i := 2) sc_chosen.nd rfl (.inl rfl)) (pss_cons (ps_asg (pe_partition (pv 2) pe_str) (pg_tup (by rfl) (pgs_cons (pg_name (i := 3) sc_chosen.nd rfl (.inl rfl)) (pgs_cons (pg_name (i := 4) sc_chosen.nd rfl (.inl rfl)) (pgs_cons (pg_name (i := 5) sc_chosen.nd rfl (.inl rfl)) pgs_nil))))) (pss_one (ps_if (pt_cmpR op_in_seq (pv 3) (pv 1) (by rfl)) (pss_one (ps_ret (pv 5))) pss_nil))))
      (pss_one (ps_ret (pe_ix ix_tup (pv 0) (pe_un un_neg pe_int) (fun _ _ => rfl)))), ?_⟩
    have hs : sl (ps.map jn ++ [z]) = sl (ps.map jn) ++ [.str z] := (sl_cat _ [z]).symm
    rw [hs] at ha
    refine s_forS (K := K) (xs := sl (ps.map jn)) (es_is (es_new (eu_slT (ev_var rfl) ha eo_none (eo_some (ev_un ev_c ru_neg)) (by rw [List.length_append]; exact cut_not _))) (cut_init _ _))
      (fun H1 i σ G => ∃ y2 y3 y4 y5, σ = [some (.ref a), some (.ref b), y2, y3, y4, y5] ∧ Ex H1 G ∧ ∀ p ∈ ps.take i, p.1 ∉ ms) (fun H1 e1 => ⟨_, _, _, _, rfl, Ex.refl H1, fun p hp => by rw [List.take_zero] at hp; cases hp⟩) (fun H1 i σ' G ⟨_, _, _, _, _, e, _⟩ => e) ?_ ?_
    · rintro H1 i v σ' G e1 hi ⟨y2, y3, y4, y5, rfl, eG, hn⟩
      obtain ⟨o, ho, rfl⟩ := mem_at hi
      rw [List.getElem?_map] at ho
      obtain ⟨p, hp, rfl⟩ : ∃ p, ps[i]? = some p ∧ o = jn p := by
        cases e : ps[i]? with
        | none => rw [e] at ho; cases ho
        | some p => rw [e] at ho; cases ho; exact ⟨p, rfl, rfl⟩
      have mp := List.mem_of_getElem? hp
      have pl := PP.sm p mp
      refine q_asgT3 (es_new (eu_part (x := p.1) (y := ":") (b := p.2) (ev_var rfl) ev_c (by rw [sizeLine_eq]; show (jn p).length ≤ _; omega) rfl (partition_app (s := 58) (S := []) rfl (PP.no p mp)))) fun H2 e2 => ?_
      have e02 := (e1.trans eG).trans e2
      refine s_when (et_test (ev_inT (x := p.1) (ev_var rfl) (ev_var rfl) (ex_t e02 hb))) (fun z H3 e3 => ?_) (fun z H3 e3 => ?_)
      · exact s_ret (ev_var rfl) fun H4 e4 => by
          have := q H4 ((e02.trans e3).trans e4)
          rw [chosen_at hn hp (of_decide_eq_true z)] at this
          exact this
      · refine ⟨_, _, _, _, rfl, (eG.trans e2).trans e3, fun p' hp' => ?_⟩
        rw [List.take_succ, hp] at hp'
        rcases List.mem_append.mp hp' with w | w
        · exact hn p' w
        · rw [List.mem_singleton.mp w]
          exact of_decide_eq_false z
    · rintro H1 σ' G e1 ⟨y2, y3, y4, y5, rfl, eG, hn⟩
      have e0 := e1.trans eG
      rw [XB.len_sl, List.length_map, List.take_length] at hn
      exact s_ret (ev_ixT (ev_var rfl) (ev_un ev_c ru_neg) (ex_t e0 ha) (L2.atI_last _ _)) fun H2 e2 => by
        have := q H2 (e0.trans e2)
        rw [chosen_none hn] at this
        exact this
end
end T
namespace T
open PySem PySem.Spec PyProof.Rows L2 Evl XB TL XS XI XC ClX
def step (r : Str) : Int := if r = "up" then 1 else if r = "down" then -1 else 0
def formedOf (d : Deed) (r : Str) : List V := if r = "stay" then [.str "stay"] else if r = "put" then (match d with
    | .sig _ n c => [.str "put", .int n, .str (let1 c)]
    | _ => []) else match d with
    | .stay => []
    | .out n => [.str "out", .int (n + step r)]
    | .sig k n c => [.str k, .int (n + step r), .str (let1 c)]
def FormOk (d : Deed) (r : Str) : Prop := d ≠ .stay ∧ (r ∈ [("keep" : Str), "up", "down", "stay"] ∨ (r = "put" ∧ ∃ k n c, d = .sig k n c))
section
variable {P : Program} {w : World} {K : PySem.W.Frag} {mg : Str → Option Value} {base : Heap} {C : Addr}
variable {σ : L2.St} {H : Hp} {ta tb tc te : TE} {tz ts : TS} {D' : Ends} {ks : List Str} {cs : List Cell} {x y a b : Addr} {E : XK} {d : Deed} {xs : List V} {g : TG}
/-- the module's steps -/
structure StepC (K : PySem.W.Frag) (w : World) (mg : Str → Option Value) : Prop where
  ex : ∃ a, mg "STEPS" = some (.ref a) ∧ KDct K w a "keep" (.int 0) ∧ KDct K w a "up" (.int 1) ∧ KDct K w a "down" (.int (-1))
/-! ### formed -/
def spFormed (K : PySem.W.Frag) : Sp := fun vs H Q _ => ∃ (a : Addr) (d : Deed) (r : Str), vs = [.ref a, .str r] ∧ SqT K H a d.vs ∧ FormOk d r ∧ ∀ l H', Ex H H' → SqT K H' l (formedOf d r) → Q (.ref l) H'
theorem cut_drop2 (xs : List V) : cutV xs (some 2) none = xs.drop 2 := by
  unfold cutV
  rw [HT.sIx_none, show (some (2 : Int)) = some ((2 : Nat) : Int) from rfl, HT.sIx_nat]
  by_cases h : 2 ≤ xs.length
  · rw [Nat.min_eq_left h, List.take_of_length_le (by rw [List.length_drop] <;> exact Nat.le_refl _)]
  · rw [Nat.min_eq_right (by omega), Nat.sub_self, List.take_zero, List.drop_eq_nil_of_le (by omega)]
theorem c_formed (D : At K mg "formed" s_formed ["edit", "result"]) (T : StepC K w mg) : C8.Cal P w K mg base 1 "formed" (spFormed K) [] := by
  obtain ⟨aS, mS, k0, k1, k2⟩ := T.ex
  refine cal_of D sc_formed (fun vs H Q E h => ?_) (fun f cdv A outer s H vs Q E hr h => ?_)
  · obtain ⟨a, d, r, rfl, _⟩ := h
    rfl
  · obtain ⟨a, d, r, rfl, ha, ok, q⟩ := h
    refine ⟨_, pss_cons (ps_if (pt_cmpR op_eq (pv 1) pe_str (nomark _)) (pss_one (ps_ret (pe_tup (pa_cons pe_str pa_nil)))) pss_nil)
      (pss_cons (ps_if (pt_cmpR op_eq (pv 1) pe_str (nomark _)) (pss_one (ps_ret (pe_tup (pa_cons pe_str (pa_cons (pe_ix ix_tup (pv 0) pe_int (fun _ _ => rfl)) (pa_cons (pe_ix ix_tup (pv 0) pe_int (fun _ _ => rfl)) pa_nil)))))) pss_nil)
      (pss_one (ps_ret (pe_op op_catT (pe_tup (pa_cons (pe_ix ix_tup (pv 0) pe_int (fun _ _ => rfl)) (pa_cons (pe_op op_add (pe_ix ix_tup (pv 0) pe_int (fun _ _ => rfl)) (pe_ix ix_kdict (pe_glob (v := .ref aS) (by rfl) mS rfl) (pv 1) (fun _ _ => rfl))) pa_nil))) (pe_slice sl_tup (pv 0) (po_some pe_int) po_none))))), ?_⟩
    obtain ⟨nst, ok⟩ := ok
    have gi : ∀ {H1 : Hp} {σ : L2.St} (j : Nat) (v : V), Ex H H1 → σ[0]? = some (some (.ref a)) → d.vs[j]? = some v → Ev (tOp (rIxT K) (tVar 0) (tC (.int (j : Nat)))) σ H1 v := fun j v e h0 hj => ev_ixT (ev_var h0) ev_c (ex_t e ha) (atI_nat hj)
    refine q_when (et_test (ev_eqS (ev_var rfl) ev_c)) (fun z H1 e1 => ?_) (fun z H1 e1 => ?_)
    · have e := of_decide_eq_true z
      subst e
      exact s_retS (es_new (K := K) (eu_tup (ea_str ea_nil) (by decide))) fun p H2 e2 h2 => q p H2 (e1.trans e2) h2
    · have nz := of_decide_eq_false z
      refine q_when (et_test (ev_eqS (ev_var rfl) ev_c)) (fun z H2 e2 => ?_) (fun z H2 e2 => ?_)
      · have e := of_decide_eq_true z
        subst e
        obtain ⟨k, n, c, rfl⟩ : ∃ k n c, d = .sig k n c := by
          rcases ok with h | ⟨_, h⟩
          · exact absurd h (by decide)
          · exact h
        have e12 := e1.trans e2
        exact s_retS (es_new (K := K) (eu_tup (vs := [.str "put", .int n, .str (let1 c)]) (ea_str (ea_cons (gi 1 _ e12 rfl rfl) (ea_cons (gi 2 _ e12 rfl rfl) ea_nil))) (by show 3 ≤ 100000; decide))) fun p H3 e3 h3 => q p H3 (e12.trans e3) h3
      · have np := of_decide_eq_false z
        have e12 := e1.trans e2
        have hk : KDct K w aS r (.int (step r)) := by
          rcases ok with h | ⟨h, _⟩
          · simp only [List.mem_cons, List.not_mem_nil, or_false] at h
            rcases h with rfl | rfl | rfl | rfl
            · exact k0
            · exact k1
            · exact k2
            · exact absurd rfl nz
          · exact absurd h np
        have st : ∀ {H1 : Hp} {σ : L2.St}, σ[1]? = some (some (.str r)) → Ev (tOp (rIxD K w) (tC (.ref aS)) (tVar 1)) σ H1 (.int (step r)) := fun h1 => ev_op ev_c (ev_var h1) fun H1 e Q q => ⟨aS, r, _, rfl, rfl, hk, q H1 (Ex.refl H1)⟩
        have f1 : ∀ n, formedOf (.out n) r = [.str "out", .int (n + step r)] := fun n => by unfold formedOf; rw [if_neg nz, if_neg np]
        have f2 : ∀ k n c, formedOf (.sig k n c) r = [.str k, .int (n + step r), .str (let1 c)] := fun k n c => by unfold formedOf; rw [if_neg nz, if_neg np]
        cases d with
        | stay => exact absurd rfl nst
        | out n =>
          rw [f1] at q
          exact s_retS (es_cat (xs := [.str "out", .int (n + step r)]) (ys := []) (es_new (eu_tup (ea_cons (gi 0 (.str "out") e12 rfl rfl) (ea_cons (ev_op (gi 1 (.int n) e12 rfl rfl) (st rfl) rv_I0) ea_nil)) (by show 2 ≤ 100000; decide))) (es_is (es_new (eu_slT (ev_var rfl) (ex_t e12 ha) (eo_some ev_c) eo_none (by show ¬ (HT.sIx 2 0 (some 2) = 0 ∧ HT.sIx 2 2 none = 2); decide))) (by rw [cut_drop2]; rfl)) (by intro z; cases z) (by show 2 + 0 ≤ 100000; decide)) fun p H3 e3 h3 => q p H3 (e12.trans e3) h3
        | sig k n c =>
          rw [f2] at q
          exact s_retS (es_cat (xs := [.str k, .int (n + step r)]) (ys := [.str (let1 c)]) (es_new (eu_tup (ea_cons (gi 0 (.str k) e12 rfl rfl) (ea_cons (ev_op (gi 1 (.int n) e12 rfl rfl) (st rfl) rv_I0) ea_nil)) (by show 2 ≤ 100000; decide))) (es_is (es_new (eu_slT (ev_var rfl) (ex_t e12 ha) (eo_some ev_c) eo_none (by show ¬ (HT.sIx 3 0 (some 2) = 0 ∧ HT.sIx 3 3 none = 3); decide))) (by rw [cut_drop2]; rfl)) (by intro z; cases z) (by show 2 + 1 ≤ 100000; decide)) fun p H3 e3 h3 => q p H3 (e12.trans e3) h3
/-! ### Table.__getitem__ -/
def optsFor (cs : List Cell) (n : Nm) : List Str := ((cs.find? fun c => decide (nmOf c = n)).map (fun c => c.2.2.2)).getD [("keep" : Str)]
theorem DictOf.val {kvs : List (Nm × V)} (h : DictOf H kvs cs) (nd : (cs.map nmOf).Nodup) (n : Nm) : (∃ t, valV kvs n = some (.ref t) ∧ H t = some (.tup (sl (optsFor cs n)))) ∨ (valV kvs n = none ∧ optsFor cs n = [("keep" : Str)]) := by
  cases e : cs.find? (fun c => decide (nmOf c = n)) with
  | none =>
    refine .inr ⟨valV_no ?_, by unfold optsFor; rw [e]; rfl⟩
    rw [h.keys]
    intro m
    obtain ⟨c, hc, rfl⟩ := List.mem_map.mp m
    have := List.find?_eq_none.mp e c hc
    exact this (decide_eq_true rfl)
  | some c =>
    have hn : nmOf c = n := of_decide_eq_true (List.find?_some (p := fun c => decide (nmOf c = n)) e)
    obtain ⟨i, hci⟩ := List.mem_iff_getElem?.mp (List.mem_of_find?_eq_some e)
    obtain ⟨t, h1, h2⟩ := h.2 i c hci
    refine .inl ⟨t, ?_, by unfold optsFor; rw [e]; exact h2⟩
    have := valV_at (by rw [h.keys]; exact nd) h1
    rw [hn] at this
    exact this
theorem ev_din {d b : Addr} {kvs : List (List Key × V)} {k : List Key} {o : Option V} (hb : Ev tb σ H (.ref b)) (ha : Ev ta σ H (.ref d)) (hd : H d = some (.dT kvs)) (ht : H b = some (.tup (k.map kV))) (hv : valV kvs k = o) : Ev (tDIn tb ta) σ H (.bl o.isSome) := fun H1 e Q q =>
  hb H1 e _ fun H2 e2 => ha H2 (e.trans e2) _ fun H3 e3 => ⟨d, o, rfl, hv ▸ DGet.t (e3 _ _ (e2 _ _ (e _ _ hd))) (e3 _ _ (e2 _ _ (e _ _ ht))), q H3 (e2.trans e3)⟩
def spGet (K : PySem.W.Frag) (C : Addr) : Sp := fun vs H Q _ => ∃ (x t : Addr) (m i s : Str) (ks : List Str) (cs : List Cell), vs = [.ref x, .ref t] ∧ H t = some (.tup ((nm3 m i s).map kV)) ∧ m ∈ ks ∧ i ∈ ks ∧ s ∈ rels ∧ (∃ dx D a r kvs, TabF K C H x dx D a r kvs ks cs) ∧ ∀ l H', Ex H H' → SqT K H' l (sl (optsFor cs (nm3 m i s))) → Q (.ref l) H'
theorem c_get {f : Addr} {fd : FuncData} (F : Fun K "__getitem__" "Table.__getitem__" s_Table___getitem__ f fd) (T : TabC K mg C) (C1 : C8.Cal P w K mg base 2 "is_cell" (spIsCell K) []) : FnOk P w K mg base CX0 3 f fd ["self", "at"] (spGet K C) := by
  refine meth_ok F sc_Table___getitem__ (fun vs H Q E h => ?_) (fun cdv A outer s H vs Q E hr h => ?_)
  · obtain ⟨x, t, m, i, s, ks, cs, rfl, _⟩ := h
    rfl
  · obtain ⟨x, t, m, i, s, ks, cs, rfl, ht, hm, hi, hs, ⟨dx, D, a, r, kvs, f⟩, q⟩ := h
    refine ⟨_, pss_cons (ps_if (pt_not (pt_val (C8.pe_c C1 hr (by decide) (by rfl) (pa_cons (pv 1) (pa_cons (pe_fld (pv 0) rfl) pa_nil))))) pss_never pss_nil)
      (pss_cons (ps_if (pt_cmp (pc_din (by have := hr.units; exact Nat.lt_of_le_of_lt (Nat.add_le_add_left (by decide) _) this) (pv 1) (pe_fld (pv 0) rfl))) (pss_one (ps_ret (pe_dget (by have := hr.units; exact Nat.lt_of_le_of_lt (Nat.add_le_add_left (by decide) _) this) (pe_fld (pv 0) rfl) (pv 1) (fun _ _ => rfl)))) pss_nil)
      (pss_one (ps_ret (pe_tup (pa_cons pe_str pa_nil))))), ?_⟩
    refine q_when (b := false) (et_is (et_not (et_B (ev_isCell (m := m) (i := i) (s := s) (es_at (ev_var rfl) (SqT.of ht)) (ev_fld (ev_var rfl) f.hx T.cl T.k rfl) f.ha))) (by rw [decide_eq_true hm, decide_eq_true hi, decide_eq_true hs]; rfl)) (fun z => by cases z) (fun _ H1 e1 => ?_)
    have hx1 := e1 _ _ f.hx
    have hD1 := e1 _ _ f.hD
    have ht1 := e1 _ _ ht
    rcases (f.d.ex e1).val f.c.nd (nm3 m i s) with ⟨u, hv, hu⟩ | ⟨hv, ho⟩
    · refine q_when (b := true) (et_B (ev_din (o := some (.ref u)) (ev_var rfl) (ev_fld (ev_var rfl) hx1 T.cl T.c rfl) hD1 ht1 hv)) (fun _ H2 e2 => ?_) (fun z => by cases z)
      exact s_ret (ev_dget (ev_fld (ev_var rfl) (e2 _ _ hx1) T.cl T.c rfl) (ev_var rfl) (.inl (e2 _ _ hD1)) (e2 _ _ ht1) hv) fun H3 e3 => q u H3 ((e1.trans e2).trans e3) (SqT.of (e3 _ _ (e2 _ _ hu)))
    · refine q_when (b := false) (et_B (ev_din (o := none) (ev_var rfl) (ev_fld (ev_var rfl) hx1 T.cl T.c rfl) hD1 ht1 hv)) (fun z => by cases z) (fun _ H2 e2 => ?_)
      rw [ho] at q
      exact s_retS (es_new (K := K) (eu_tup (ea_str ea_nil) (by decide))) fun p H3 e3 h3 => q p H3 ((e1.trans e2).trans e3) h3
end
end T
namespace T
open PySem PySem.Spec PyProof.Rows L2 Evl XB TL XS XI XC ClX
def Deed.pl : Deed → Int
  | .stay => 0
  | .out n => n
  | .sig _ n _ => n
def relOf (d e : Deed) : Str := pick3 (decide (d.pl < e.pl)) (decide (d.pl = e.pl)) ("<" : Str) "=" ">"
theorem relOf_in (d e : Deed) : relOf d e ∈ rels := by
  unfold relOf
  cases decide (d.pl < e.pl) <;> cases decide (d.pl = e.pl) <;> decide +kernel
def parseO (o : Str) : Str × Str := ((Txt.partition o ":").1, (Txt.partition o ":").2.2)
def chosenW (ws ms : List Str) : Str := chosenOf (ws.dropLast.map parseO) (ws.getLastD ("keep" : Str)) ms
theorem chosenW_eq {ps : List (Str × Str)} (h : Parts ps) (z : Str) (ms : List Str) : chosenW (ps.map jn ++ [z]) ms = chosenOf ps z ms := by
  unfold chosenW
  rw [List.dropLast_concat, List.getLastD_concat, List.map_map]
  have : ps.map (parseO ∘ jn) = ps.map id := List.map_congr_left fun p hp => by
    show ((Txt.partition (p.1 ++ ":" ++ p.2) ":").1, (Txt.partition (p.1 ++ ":" ++ p.2) ":").2.2) = p
    rw [partition_app (s := 58) (S := []) rfl (h.no p hp)]
  rw [this, List.map_id]
def turnedOf (cs : List Cell) (d e : Deed) (first : Bool) : List V := if d.hd = "stay" ∨ e.hd = "stay" then d.vs else formedOf d (chosenW (optsFor cs (nm3 d.hd e.hd (relOf d e))) (metOf d e first))
/-- options, parted -/
structure OptP (ks : List Str) (m i : Str) (ps : List (Str × Str)) (z : Str) : Prop where
  pa : Parts ps
  cd : ∀ p ∈ ps, p.1 ∈ condsOf m i
  rs : ∀ p ∈ ps, p.2 ∈ resultsOf m ks
  zz : z ∈ resultsOf m ks
theorem cond_no {m i : Str} : ∀ c ∈ condsOf m i, 58 ∉ tl c := by
  unfold condsOf
  split <;> decide +kernel
theorem opts_parts {m i : Str} {ks ws : List Str} (h : IsOpts m i ks ws) : ∃ ps z, ws = ps.map jn ++ [z] ∧ OptP ks m i ps z := by
  obtain ⟨pre, z, rfl, hl, hp, hz⟩ := h
  have go : ∀ pre : List Str, (∀ o ∈ pre, ∃ c ∈ condsOf m i, ∃ r ∈ resultsOf m ks, o = c ++ ":" ++ r) → ∃ ps : List (Str × Str), pre = ps.map jn ∧ ∀ p ∈ ps, p.1 ∈ condsOf m i ∧ p.2 ∈ resultsOf m ks := by
    intro pre
    induction pre with
    | nil => exact fun _ => ⟨[], rfl, fun _ z => by cases z⟩
    | cons o r ih =>
      intro h
      obtain ⟨ps, e, g⟩ := ih fun x hx => h x (List.mem_cons_of_mem _ hx)
      obtain ⟨c, hc, q, hq, rfl⟩ := h o List.mem_cons_self
      refine ⟨(c, q) :: ps, by rw [List.map_cons, ← e]; rfl, fun p hp => ?_⟩
      rcases List.mem_cons.mp hp with rfl | w
      · exact ⟨hc, hq⟩
      · exact g p w
  obtain ⟨ps, rfl, g⟩ := go pre hp
  rw [List.length_map] at hl
  refine ⟨ps, z, rfl, ⟨⟨fun p hp => cond_no _ (g p hp).1, fun p hp => ?_, by omega⟩, fun p hp => (g p hp).1, fun p hp => (g p hp).2, hz⟩⟩
  exact Nat.le_trans (small_opt _ (g p hp).1 _ (g p hp).2).len (by decide)
theorem nm3_inj {m i s m' i' s' : Str} (h : nm3 m i s = nm3 m' i' s') : m = m' ∧ i = i' ∧ s = s' := by
  unfold nm3 at h
  injection h with h1 h
  injection h with h2 h
  injection h with h3 _
  injection h1 with h1
  injection h2 with h2
  injection h3 with h3
  exact ⟨h1, h2, h3⟩
theorem optsFor_parts {ks : List Str} {cs : List Cell} (hC : Cells ks cs) (m i s : Str) : ∃ ps z, optsFor cs (nm3 m i s) = ps.map jn ++ [z] ∧ OptP ks m i ps z := by
  unfold optsFor
  cases e : cs.find? (fun c => decide (nmOf c = nm3 m i s)) with
  | none => exact ⟨[], "keep", rfl, ⟨⟨(fun _ z => by cases z), (fun _ z => by cases z), Nat.zero_le _⟩, (fun _ z => by cases z), (fun _ z => by cases z), (by unfold resultsOf; exact List.mem_append_left _ (by decide))⟩⟩
  | some c =>
    have hn : nmOf c = nm3 m i s := of_decide_eq_true (List.find?_some (p := fun c => decide (nmOf c = nm3 m i s)) e)
    obtain ⟨e1, e2, e3⟩ := nm3_inj hn
    have g := hC.good c (List.mem_of_find?_eq_some e)
    obtain ⟨ps, z, h1, h2⟩ := opts_parts g.2.2.2
    subst e1
    subst e2
    exact ⟨ps, z, h1, h2⟩
theorem chosen_in {ks : List Str} {m i : Str} {ps : List (Str × Str)} {z : Str} (h : OptP ks m i ps z) (ms : List Str) : chosenOf ps z ms ∈ resultsOf m ks := by
  unfold chosenOf
  cases e : ps.find? (fun p => decide (p.1 ∈ ms)) with
  | none => exact h.zz
  | some p => exact h.rs p (List.mem_of_find?_eq_some e)
theorem form_ok {ks : List Str} {d : Deed} (nst : d ≠ .stay) (ok : d.ok ks) {r : Str} (h : r ∈ resultsOf d.hd ks) : FormOk d r := by
  refine ⟨nst, ?_⟩
  unfold resultsOf at h
  rcases List.mem_append.mp h with z | z
  · exact .inl z
  · split at z
    · rename_i cc
      refine .inr ⟨List.mem_singleton.mp z, ?_⟩
      cases d with
      | stay => exact absurd rfl nst
      | out n => exact absurd (show ("out" : Str) = "set" from cc.1) (by decide)
      | sig k n c => exact ⟨k, n, c, rfl⟩
    · cases z
theorem Deed.hd_stay {ks : List Str} {d : Deed} (ok : d.ok ks) (hk : ks ∈ kinds7) (h : d.hd ≠ "stay") : d ≠ .stay ∧ d.hd ∈ ks ∧ d.vs[1]? = some (.int d.pl) := by
  cases d with
  | stay => exact absurd rfl h
  | out n => exact ⟨(fun z => by cases z), ok.1, rfl⟩
  | sig k n c => exact ⟨(fun z => by cases z), ok.2.1, rfl⟩
section
variable {P : Program} {w : World} {K : PySem.W.Frag} {mg : Str → Option Value} {base : Heap} {C : Addr}
variable {σ : L2.St} {H : Hp} {ta tb tc te : TE} {tz ts : TS} {D' : Ends} {ks : List Str} {cs : List Cell} {x y a b : Addr} {E : XK} {d e : Deed} {xs : List V} {g : TG} {first : Bool}
/-- a table that is told whole -/
def TabW (K : PySem.W.Frag) (C : Addr) (H : Hp) (x : Addr) (ks : List Str) (cs : List Cell) : Prop := ∃ dx D a r kvs, TabF K C H x dx D a r kvs ks cs
theorem TabW.ex {H' : Hp} (h : TabW K C H x ks cs) (z : Ex H H') : TabW K C H' x ks cs := by
  obtain ⟨dx, D, a, r, kvs, f⟩ := h
  exact ⟨dx, D, a, r, kvs, z _ _ f.hx, ex_t z f.ha, ex_t z f.hr, z _ _ f.hD, f.d.ex z, f.c⟩
theorem es_met (h1 : Ev ta σ H (.ref a)) (h2 : Ev tb σ H (.ref b)) (h3 : Ev tc σ H (.bl first)) (ha : SqT K H a d.vs) (hb : SqT K H b e.vs) : EvS K (tCall (spMet K) [] E (tCons ta (tCons tb (tCons tc tNil)))) σ H (sl (metOf d e first)) :=
  es_call (ea_cons h1 (ea_cons h2 (ea_cons h3 ea_nil))) fun H1 z Q q E => ⟨a, b, d, e, first, rfl, ex_t z ha, ex_t z hb, q⟩
theorem ev_chosen {ps : List (Str × Str)} {z : Str} {ms : List Str} (h1 : Ev ta σ H (.ref a)) (h2 : EvS K tb σ H (sl ms)) (ha : SqT K H a (sl (ps.map jn ++ [z]))) (PP : Parts ps) : Ev (tCall (spChosen K) [] E (tCons ta (tCons tb tNil))) σ H (.str (chosenOf ps z ms)) := fun H1 e Q q =>
  h1 H1 e _ fun H2 e2 => h2 H2 (e.trans e2) _ fun p H3 e3 hp => ⟨a, p, ps, z, ms, rfl, ex_t ((e.trans e2).trans e3) ha, hp, PP, fun H4 e4 => q H4 ((e2.trans e3).trans e4)⟩
theorem es_formed {r : Str} (h1 : Ev ta σ H (.ref a)) (h2 : Ev tb σ H (.str r)) (ha : SqT K H a d.vs) (ok : FormOk d r) : EvS K (tCall (spFormed K) [] E (tCons ta (tCons tb tNil))) σ H (formedOf d r) :=
  es_call (ea_cons h1 (ea_cons h2 ea_nil)) fun H1 z Q q E => ⟨a, d, r, rfl, ex_t z ha, ok, q⟩
theorem es_get {m i s : Str} (h1 : Ev ta σ H (.ref x)) (h2 : EvU tb σ H ((nm3 m i s).map kV)) (t : TabW K C H x ks cs) (hm : m ∈ ks) (hi : i ∈ ks) (hs : s ∈ rels) : EvS K (tOp (XGt.rGetO C (spGet K C)) ta tb) σ H (sl (optsFor cs (nm3 m i s))) := fun H1 e Q q =>
  h1 H1 e _ fun H2 e2 => h2 H2 (e.trans e2) _ fun p H3 n3 e3 hp => by
    have t3 := t.ex ((e.trans e2).trans e3)
    obtain ⟨dx, D, a, r, kvs, f⟩ := id t3
    exact ⟨x, dx, _, rfl, f.hx, x, p, m, i, s, ks, cs, rfl, hp, hm, hi, hs, t3, fun l H4 e4 h4 => q l H4 ((e2.trans e3).trans e4) h4⟩
/-! ### turned -/
def spTurned (K : PySem.W.Frag) (C : Addr) : Sp := fun vs H Q _ => ∃ (x a b : Addr) (d e : Deed) (first : Bool) (ks : List Str) (cs : List Cell), vs = [.ref x, .ref a, .ref b, .bl first] ∧ TabW K C H x ks cs ∧ ks ∈ kinds7 ∧ SqT K H a d.vs ∧ SqT K H b e.vs ∧ d.ok ks ∧ e.ok ks ∧ ∀ l H', Ex H H' → SqT K H' l (turnedOf cs d e first) → Q (.ref l) H'
theorem c_turned (D : At K mg "turned" s_turned ["table", "edit", "past", "first"]) (T : TupC K mg "RELATIONS" rels) {fg : Addr} {fdg : FuncData} (GC : XGt.GetC K C fg) (Fg : FnOk P w K mg base CX0 3 fg fdg ["self", "at"] (spGet K C)) (bg : Binds K fdg ["self", "at"] [])
    (C1 : C8.Cal P w K mg base 1 "compared" (spCmp K) []) (C2 : C8.Cal P w K mg base 2 "conditions_met" (spMet K) []) (C3 : C8.Cal P w K mg base 1 "chosen" (spChosen K) []) (C4 : C8.Cal P w K mg base 1 "formed" (spFormed K) []) : C8.Cal P w K mg base 5 "turned" (spTurned K C) [] := by
  obtain ⟨ak, mk, hK⟩ := T.ex
  refine cal_of D sc_turned (fun vs H Q E h => ?_) (fun f cdv A outer s H vs Q E hr h => ?_)
  · obtain ⟨x, a, b, d, e, first, ks, cs, rfl, _⟩ := h
    rfl
  · obtain ⟨x, a, b, d, e, first, ks, cs, rfl, t, hk, ha, hb, okd, oke, q⟩ := h
    refine ⟨_, pss_cons (ps_if (PW.pt (pw_or (pt_cmpR op_eq (pe_ix ix_tup (pv 1) pe_int (fun _ _ => rfl)) pe_str (nomark _)) (pw_or1 (pt_cmpR op_eq (pe_ix ix_tup (pv 2) pe_int (fun _ _ => rfl)) pe_str (nomark _))))) (pss_one (ps_ret (pv 1))) pss_nil)
      (pss_cons (ps_set (i := 4) sc_turned.nd rfl (.inl rfl) (XGt.pe_getO GC Fg hr bg (pv 0) (pe_tup (pa_cons (pe_ix ix_tup (pv 1) pe_int (fun _ _ => rfl)) (pa_cons (pe_ix ix_tup (pv 2) pe_int (fun _ _ => rfl)) (pa_cons (C8.pe_c C1 hr (by decide) (by rfl) (pa_cons (pe_ix ix_tup (pv 1) pe_int (fun _ _ => rfl)) (pa_cons (pe_ix ix_tup (pv 2) pe_int (fun _ _ => rfl)) (pa_cons (pe_glob (v := .ref ak) (by rfl) mk rfl) pa_nil)))) pa_nil))))))
      (pss_one (ps_ret (C8.pe_c C4 hr (by decide) (by rfl) (pa_cons (pv 1) (pa_cons (C8.pe_c C3 hr (by decide) (by rfl) (pa_cons (pv 4) (pa_cons (C8.pe_c C2 hr (by decide) (by rfl) (pa_cons (pv 1) (pa_cons (pv 2) (pa_cons (pv 3) pa_nil)))) pa_nil))) pa_nil)))))), ?_⟩
    have gi : ∀ {H1 : Hp} {σ : L2.St} (j : Nat) (v : V), Ex H H1 → σ[1]? = some (some (.ref a)) → d.vs[j]? = some v → Ev (tOp (rIxT K) (tVar 1) (tC (.int (j : Nat)))) σ H1 v := fun j v z h0 hj => ev_ixT (ev_var h0) ev_c (ex_t z ha) (atI_nat hj)
    have gj : ∀ {H1 : Hp} {σ : L2.St} (j : Nat) (v : V), Ex H H1 → σ[2]? = some (some (.ref b)) → e.vs[j]? = some v → Ev (tOp (rIxT K) (tVar 2) (tC (.int (j : Nat)))) σ H1 v := fun j v z h0 hj => ev_ixT (ev_var h0) ev_c (ex_t z hb) (atI_nat hj)
    refine q_when (et_or (et_test (ev_eqS (gi 0 _ (Ex.refl H) rfl d.hd_at) ev_c)) (fun _ => et_test (ev_eqS (gj 0 _ (Ex.refl H) rfl e.hd_at) ev_c))) (fun z H1 e1 => ?_) (fun z H1 e1 => ?_)
    · rw [Bool.or_eq_true, decide_eq_true_eq, decide_eq_true_eq] at z
      have : turnedOf cs d e first = d.vs := by unfold turnedOf; rw [if_pos z]
      rw [this] at q
      exact s_ret (ev_var rfl) fun H2 e2 => q a H2 (e1.trans e2) (ex_t (e1.trans e2) ha)
    · rw [Bool.or_eq_false_iff, decide_eq_false_iff_not, decide_eq_false_iff_not] at z
      obtain ⟨nd, md, pd⟩ := Deed.hd_stay okd hk z.1
      obtain ⟨ne, me, pe⟩ := Deed.hd_stay oke hk z.2
      have ht : turnedOf cs d e first = formedOf d (chosenW (optsFor cs (nm3 d.hd e.hd (relOf d e))) (metOf d e first)) := by unfold turnedOf; rw [if_neg (fun y => y.elim z.1 z.2)]
      rw [ht] at q
      obtain ⟨ps, zz, ho, OP⟩ := optsFor_parts t.choose_spec.choose_spec.choose_spec.choose_spec.choose_spec.c d.hd e.hd (relOf d e)
      rw [ho, chosenW_eq OP.pa] at q
      refine q_asgS (K := K) (es_get (ev_var rfl) (eu_tup (vs := (nm3 d.hd e.hd (relOf d e)).map kV) (ea_cons (gi 0 _ e1 rfl d.hd_at) (ea_cons (gj 0 _ e1 rfl e.hd_at) (ea_cons (ev_cmp (gi 1 _ e1 rfl pd) (gj 1 _ e1 rfl pe) ev_c (.int d.pl e.pl) (hK _)) ea_nil))) (by show 3 ≤ 100000; decide)) (t.ex e1) md me (relOf_in d e)) fun po H2 e2 h2 => ?_
      rw [ho] at h2
      have e12 := e1.trans e2
      exact s_retS (es_formed (ev_var rfl) (ev_chosen (ev_var rfl) (es_met (ev_var rfl) (ev_var rfl) (ev_var rfl) (ex_t e12 ha) (ex_t e12 hb)) h2 OP.pa) (ex_t e12 ha) (form_ok nd okd (chosen_in OP _))) fun p H3 e3 h3 => q p H3 (e12.trans e3) h3
end
end T
namespace T
open PySem PySem.Spec PyProof.Rows L2 Evl XB TL XS XI XC ClX
section
variable {P : Program} {w : World} {K : PySem.W.Frag} {mg : Str → Option Value} {base : Heap} {C : Addr}
variable {σ : L2.St} {H : Hp} {ta tb tc te : TE} {tz ts : TS} {D' : Ends} {ks : List Str} {cs : List Cell} {x y a b : Addr} {E : XK} {d e : Deed} {xs : List V} {g : TG} {first : Bool}
theorem ev_editOf (h1 : Ev ta σ H (.ref a)) (h2 : Ev tb σ H (.ref b)) (ha : SqT K H a d.vs) (hb : SqT K H b (sl ks)) (ok : d.ok ks) : Ev (tCall (spEditOf K) [] E (tCons ta (tCons tb tNil))) σ H (.bl true) :=
  ev_call (ea_cons h1 (ea_cons h2 ea_nil)) fun H1 z Q q E => ⟨a, b, ks, d, rfl, ex_t z ha, ex_t z hb, ok, q⟩
end
end T
namespace T
open PySem PySem.Spec PyProof.Rows L2 Evl XB TL XS XI XC ClX
def Deed.last : Deed → V
  | .stay => .str "stay"
  | .out n => .int n
  | .sig _ _ c => .str (let1 c)
theorem Deed.last_at (d : Deed) : atI d.vs (-1) = some d.last := by cases d <;> rfl
section
variable {P : Program} {w : World} {K : PySem.W.Frag} {mg : Str → Option Value} {base : Heap} {C : Addr}
variable {σ : L2.St} {H : Hp} {ta tb tc te : TE} {tz ts : TS} {D' : Ends} {ks : List Str} {cs : List Cell} {x y a b : Addr} {E : XK} {d e : Deed} {xs : List V} {g : TG} {first : Bool}
theorem s_forLs (h : EvL te σ H xs) (Pv : Hp → Nat → L2.St → Hp → Prop) (h0 : ∀ H1, Ex H H1 → Pv H1 0 σ H1) (hx : ∀ H1 i σ' G, Pv H1 i σ' G → Ex H1 G)
    (hs : ∀ H1 i x σ' G, Ex H H1 → xs[i]? = some x → Pv H1 i σ' G → g x σ' G fun σ2 H2 => ts { D' with nx := Pv H1 (i + 1), ct := Pv H1 (i + 1), bk := D'.nx } σ2 H2) (hd : ∀ H1 σ' G, Ex H H1 → Pv H1 xs.length σ' G → D'.nx σ' G) : tFor (iList K te) g ts D' σ H :=
  h H (Ex.refl H) _ fun p H1 n1 e1 hp => ⟨p, rfl, ⟨_, SqL.of hp⟩, for_list (Pv H1) (h0 H1 e1) (fun i σ' G _ q => SqL.of (hx H1 i σ' G q _ _ hp)) (fun i x σ' G hi q => hs H1 i x σ' G e1 hi q) (fun σ' G q => hd H1 σ' G e1 q)⟩
theorem q_asgL2 {i j : Nat} {x y : V} (h : EvL te σ H [x, y]) (q : ∀ H1, Ex H H1 → tz D' ((σ.set i (some x)).set j (some y)) H1) : tSeq (tAsg te (gLst K 2 (gCons (gName i) (gCons (gName j) gNil)))) tz D' σ H :=
  h H (Ex.refl H) _ fun p H1 n1 e1 hp => ⟨p, _, rfl, SqL.of hp, rfl, _, _, rfl, _, _, rfl, rfl, q H1 e1⟩
theorem rv_gtS {x y : Str} : RV (fun x y H Q => ∃ i j, x = .str i ∧ y = .str j ∧ Q (.bl (decide (j.cps.toList < i.cps.toList))) H) (.str x) (.str y) H (.bl (decide (y.cps.toList < x.cps.toList))) := fun H1 _ _ q => ⟨x, y, rfl, rfl, q H1 (Ex.refl H1)⟩
/-! ### _law_chosen -/
def spLCh (K : PySem.W.Frag) : Sp := fun vs H Q _ => ∃ (l a b : Addr) (ps : List (Str × Str)) (z : Str) (d e : Deed) (first : Bool) (ks : List Str), vs = [.ref l, .ref a, .ref b, .bl first] ∧ H l = some (.lst (sl (ps.map jn ++ [z]))) ∧ SqT K H a d.vs ∧ SqT K H b e.vs ∧ d.hd ≠ "stay" ∧ e.hd ≠ "stay" ∧ OptP ks d.hd e.hd ps z ∧ ∀ H', Ex H H' → Q (.str (chosenOf ps z (metOf d e first))) H'
theorem part_split {c r : Str} (hc : 58 ∉ tl c) (hr : 58 ∉ tl r) : Txt.split (c ++ ":" ++ r) ":" = [c, r] := by
  have : c ++ ":" ++ r = Txt.join ":" [c, r] := by rw [join_eq]; rfl
  rw [this]
  exact split_join (s := 58) (S := []) rfl (by decide +kernel) (by intro z; cases z) fun p hp => by
    rcases List.mem_cons.mp hp with rfl | hp
    · exact hc
    · rw [List.mem_singleton.mp hp]
      exact hr
theorem res_no {m : Str} {ks : List Str} : ∀ r ∈ resultsOf m ks, 58 ∉ tl r := by
  unfold resultsOf
  split <;> decide +kernel
/-- the heads, and what meets them -/
theorem head_cases {c : Str} (h : c ∈ condsOf d.hd e.hd) (hd : d.hd ≠ "stay") (he : e.hd ≠ "stay") : c = "first" ∨ ∃ k n u k' n' u', d = .sig k n u ∧ e = .sig k' n' u' ∧ (c = "less" ∨ c = "same" ∨ c = "more") := by
  unfold condsOf at h
  split at h
  · exact .inl (List.mem_singleton.mp h)
  · rename_i ho
    rcases List.mem_cons.mp h with h | h
    · exact .inl h
    · refine .inr ?_
      cases d with
      | stay => exact absurd rfl hd
      | out n => exact absurd (.inl rfl) ho
      | sig k n u => cases e with
        | stay => exact absurd rfl he
        | out n => exact absurd (.inr rfl) ho
        | sig k' n' u' =>
          simp only [List.mem_cons, List.not_mem_nil, or_false] at h
          exact ⟨k, n, u, k', n', u', rfl, rfl, h⟩
theorem met_first (d e : Deed) (first : Bool) : (("first" : Str) ∈ metOf d e first) ↔ first = true := by
  unfold metOf
  cases first with
  | true => simp
  | false =>
    cases d <;> cases e <;> simp [pick3]
    split
    · decide
    · split <;> decide
def ltB : Deed → Deed → Bool
  | .sig _ _ c, .sig _ _ c' => decide (c < c')
  | _, _ => false
def eqB : Deed → Deed → Bool
  | .sig _ _ c, .sig _ _ c' => decide (c = c')
  | _, _ => false
def gtB : Deed → Deed → Bool
  | .sig _ _ c, .sig _ _ c' => decide (c' < c)
  | _, _ => false
/-- what the law asks of a head -/
def hit (c : Str) (d e : Deed) (first : Bool) : Bool := (decide (c = "first") && first) || (decide (c = "less") && ltB d e) || ((decide (c = "same") && eqB d e) || (decide (c = "more") && gtB d e))
theorem met_iff {c : Str} (h : c ∈ condsOf d.hd e.hd) (hd : d.hd ≠ "stay") (he : e.hd ≠ "stay") : decide (c ∈ metOf d e first) = hit c d e first := by
  rcases head_cases h hd he with rfl | ⟨k, n, u, k', n', u', rfl, rfl, hc⟩
  · unfold hit
    have e0 : decide (("first" : Str) ∈ metOf d e first) = first := by
      cases hf : first with
      | true => exact decide_eq_true ((met_first d e true).mpr rfl)
      | false => exact decide_eq_false fun z => by cases (met_first d e false).mp z
    rw [e0]
    have e1 : decide (("first" : Str) = "less") = false := by decide
    have e2 : decide (("first" : Str) = "same") = false := by decide
    have e3 : decide (("first" : Str) = "more") = false := by decide
    rw [e1, e2, e3, decide_eq_true rfl]
    cases first <;> rfl
  · unfold hit metOf ltB eqB gtB
    rcases Nat.lt_trichotomy u u' with o | o | o
    · have a1 : decide (u < u') = true := decide_eq_true o
      have a2 : decide (u = u') = false := decide_eq_false (by omega)
      have a3 : decide (u' < u) = false := decide_eq_false (by omega)
      simp only [a1, a2, a3]
      rcases hc with rfl | rfl | rfl <;> cases first <;> decide +kernel
    · have a1 : decide (u < u') = false := decide_eq_false (by omega)
      have a2 : decide (u = u') = true := decide_eq_true o
      have a3 : decide (u' < u) = false := decide_eq_false (by omega)
      simp only [a1, a2, a3]
      rcases hc with rfl | rfl | rfl <;> cases first <;> decide +kernel
    · have a1 : decide (u < u') = false := decide_eq_false (by omega)
      have a2 : decide (u = u') = false := decide_eq_false (by omega)
      have a3 : decide (u' < u) = true := decide_eq_true o
      simp only [a1, a2, a3]
      rcases hc with rfl | rfl | rfl <;> cases first <;> decide +kernel
def rGtA : R2 := fun x y H Q => (∃ i j, x = .int i ∧ y = .int j ∧ Q (.bl (decide (j < i))) H) ∨ ∃ i j, x = .str i ∧ y = .str j ∧ Q (.bl (decide (j.cps.toList < i.cps.toList))) H
theorem op_gtA {X : Cx} : OpR X (compareOp .Gt) rGtA := op_gt.or op_gt_str
theorem ev_last {i : Nat} (h0 : σ[i]? = some (some (.ref a))) (ha : SqT K H a d.vs) : Ev (tOp (rIxT K) (tVar i) (tUn (rU fun i => .int (-i)) (tC (.int 1)))) σ H d.last := ev_ixT (ev_var h0) (ev_un ev_c ru_neg) ha d.last_at
theorem sig_of {c : Str} (h : c ∈ condsOf d.hd e.hd) (hd : d.hd ≠ "stay") (he : e.hd ≠ "stay") (hn : c ≠ "first") : ∃ k n u k' n' u', d = .sig k n u ∧ e = .sig k' n' u' := by
  rcases head_cases h hd he with z | ⟨k, n, u, k', n', u', z1, z2, _⟩
  · exact absurd z hn
  · exact ⟨k, n, u, k', n', u', z1, z2⟩
end
end T
namespace T
open PySem PySem.Spec PyProof.Rows L2 Evl XB TL XS XI XC ClX
section
variable {P : Program} {w : World} {K : PySem.W.Frag} {mg : Str → Option Value} {base : Heap} {C : Addr}
variable {σ : L2.St} {H : Hp} {ta tb tc te : TE} {tz ts : TS} {D' : Ends} {ks : List Str} {cs : List Cell} {x y a b : Addr} {E : XK} {d e : Deed} {xs : List V} {g : TG} {first : Bool}
/-- the law's dict of these cells -/
structure LDict (H : Hp) (kvs : List (Nm × V)) (cs : List Cell) : Prop where
  keys : kvs.map (·.1) = cs.map nmOf
  at_ : ∀ (i : Nat) (c : Cell), cs[i]? = some c → ∃ l : Addr, kvs[i]? = some (nmOf c, V.ref l) ∧ H l = some (.lst (sl c.2.2.2))
theorem LDict.ex {H' : Hp} {kvs : List (Nm × V)} (h : LDict H kvs cs) (z : Ex H H') : LDict H' kvs cs := ⟨h.keys, fun i c hc => by
  obtain ⟨t, h1, h2⟩ := h.at_ i c hc
  exact ⟨t, h1, z _ _ h2⟩⟩
theorem LDict.val {kvs : List (Nm × V)} (h : LDict H kvs cs) (nd : (cs.map nmOf).Nodup) (n : Nm) : (∃ t, valV kvs n = some (.ref t) ∧ H t = some (.lst (sl (optsFor cs n)))) ∨ (valV kvs n = none ∧ optsFor cs n = [("keep" : Str)]) := by
  cases e : cs.find? (fun c => decide (nmOf c = n)) with
  | none =>
    refine .inr ⟨valV_no ?_, by unfold optsFor; rw [e]; rfl⟩
    rw [h.keys]
    intro m
    obtain ⟨c, hc, rfl⟩ := List.mem_map.mp m
    have := List.find?_eq_none.mp e c hc
    exact this (decide_eq_true rfl)
  | some c =>
    have hn : nmOf c = n := of_decide_eq_true (List.find?_some (p := fun c => decide (nmOf c = n)) e)
    obtain ⟨i, hci⟩ := List.mem_iff_getElem?.mp (List.mem_of_find?_eq_some e)
    obtain ⟨t, h1, h2⟩ := h.at_ i c hci
    refine .inl ⟨t, ?_, by unfold optsFor; rw [e]; exact h2⟩
    have := valV_at (by rw [h.keys]; exact nd) h1
    rw [hn] at this
    exact this
/-- a list comes, new or known -/
def EvM (te : TE) (σ : L2.St) (H : Hp) (xs : List V) : Prop := ∀ H1, Ex H H1 → ∀ Q : VK, (∀ p H2, Ex H1 H2 → H2 p = some (.lst xs) → Q (.ref p) H2) → te σ H1 Q
theorem em_get {D : Addr} {kvs : List (Nm × V)} {n : Nm} (h1 : Ev ta σ H (.ref D)) (h2 : EvU tb σ H (n.map kV)) (h3 : EvL tc σ H (sl [("keep" : Str)])) (hD : H D = some (.dT kvs)) (hL : LDict H kvs cs) (nd : (cs.map nmOf).Nodup) : EvM (tDGet2 ta tb tc) σ H (sl (optsFor cs n)) := fun H1 e Q q =>
  h1 H1 e _ fun H2 e2 => ⟨D, rfl, .inr ⟨kvs, .inl (e2 _ _ (e _ _ hD))⟩, h2 H2 (e.trans e2) _ fun p H3 n3 e3 hp => h3 H3 ((e.trans e2).trans e3) _ fun l H4 n4 e4 hl => by
    have e14 := ((e.trans e2).trans e3).trans e4
    rcases (hL.ex e14).val nd n with ⟨t, hv, ht⟩ | ⟨hv, ho⟩
    · exact ⟨some (.ref t), hv ▸ DGet.t (e14 _ _ hD) (e4 _ _ hp), q t H4 ((e2.trans e3).trans e4) ht⟩
    · exact ⟨none, hv ▸ DGet.t (e14 _ _ hD) (e4 _ _ hp), q l H4 ((e2.trans e3).trans e4) (by rw [ho]; exact hl)⟩⟩
theorem ev_lch {td : TE} {ps : List (Str × Str)} {z : Str} (h0 : EvM td σ H (sl (ps.map jn ++ [z]))) (h1 : Ev ta σ H (.ref a)) (h2 : Ev tb σ H (.ref b)) (h3 : Ev tc σ H (.bl first)) (ha : SqT K H a d.vs) (hb : SqT K H b e.vs) (hd : d.hd ≠ "stay") (he : e.hd ≠ "stay") (OP : OptP ks d.hd e.hd ps z) :
    Ev (tCall (spLCh K) [] E (tCons td (tCons ta (tCons tb (tCons tc tNil))))) σ H (.str (chosenOf ps z (metOf d e first))) := fun H1 g Q q =>
  h0 H1 g _ fun l H2 g2 hl => h1 H2 (g.trans g2) _ fun H3 g3 => h2 H3 ((g.trans g2).trans g3) _ fun H4 g4 => h3 H4 (((g.trans g2).trans g3).trans g4) _ fun H5 g5 => by
    have g15 := (((g.trans g2).trans g3).trans g4).trans g5
    exact ⟨l, a, b, ps, z, d, e, first, ks, rfl, (g3.trans (g4.trans g5)) _ _ hl, ex_t g15 ha, ex_t g15 hb, hd, he, OP, fun H6 g6 => q H6 ((((g2.trans g3).trans g4).trans g5).trans g6)⟩
theorem ev_steps {i : Nat} {r : Str} (h5 : σ[i]? = some (some (.str r))) (hr : r ∈ [("keep" : Str), "up", "down", "put"]) : Ev (tDGet (tDisp [(tC (.str "keep"), tC (.int 0)), (tC (.str "up"), tC (.int 1)), (tC (.str "down"), tUn (rU fun i => .int (-i)) (tC (.int 1))), (tC (.str "put"), tC (.int 0))]) (tVar i)) σ H (.int (step r)) := fun H1 e Q q p np => by
  refine ⟨1, rfl, upd_same, [(.inr "keep", .int 0), (.inr "up", .int 1), (.inr "down", .int (-1)), (.inr "put", .int 0)], rfl, by decide, _, h5, p, _, rfl, .inl ⟨_, .inr r, .inl upd_same, rfl, ?_⟩, q _ (by
    intro b o hb
    have := ne_of_none hb np
    rw [upd_ne this, upd_ne this]
    exact hb)⟩
  simp only [List.mem_cons, List.not_mem_nil, or_false] at hr
  rcases hr with rfl | rfl | rfl | rfl <;> decide +kernel
def spLT (K : PySem.W.Frag) : Sp := fun vs H Q _ => ∃ (D a b : Addr) (d e : Deed) (first : Bool) (ks : List Str) (cs : List Cell) (kvs : List (Nm × V)), vs = [.ref D, .ref a, .ref b, .bl first] ∧ H D = some (.dT kvs) ∧ LDict H kvs cs ∧ Cells ks cs ∧ ks ∈ kinds7 ∧ SqT K H a d.vs ∧ SqT K H b e.vs ∧ d.ok ks ∧ e.ok ks ∧ ∀ l H', Ex H H' → SqT K H' l (turnedOf cs d e first) → Q (.ref l) H'
end
end T
namespace T
open PySem PySem.Spec PyProof.Rows L2 Evl XB TL XS XI XC ClX
theorem letters_ok : ∀ z ∈ [("abcdefghijklmnopqrstuvwxyz" : Str), "az", "m"], (0 < z.length ∧ z.length ≤ 1000) ∧ ∀ c ∈ z.cps.toList, 97 ≤ c ∧ c ≤ 122 := by decide +kernel
section
variable {P : Program} {w : World} {K : PySem.W.Frag} {mg : Str → Option Value} {base : Heap} {C : Addr}
/-! ### _law_sign -/
def spLSign : Sp := fun vs H Q _ => ∃ p, vs = [.ref p] ∧ Purse H p ∧ ∀ c H', 97 ≤ c → c ≤ 122 → Purse H' p → Chg p H H' → Q (.str (let1 c)) H'
/-! ### _law_deed -/
theorem kind_cases {ks : List Str} (h : ks ∈ kinds7) : ∀ s ∈ ks, s = "out" ∨ s ∈ [("put" : Str), "set"] := by
  have all : ∀ ks ∈ kinds7, ∀ s ∈ ks, s = "out" ∨ s ∈ [("put" : Str), "set"] := by decide +kernel
  exact all ks h
def spLDeed (K : PySem.W.Frag) : Sp := fun vs H Q _ => ∃ (p a : Addr) (lo hi : Int) (ss ks : List Str), vs = [.ref p, .ref a, .int lo, .int hi] ∧ Purse H p ∧ SqL K H a (sl ss) ∧ a ≠ p ∧ ss ≠ [] ∧ ss.length ≤ 1000 ∧ (∀ s ∈ ss, s = "stay" ∨ s ∈ ks) ∧ ks ∈ kinds7 ∧ -9 ≤ lo ∧ lo ≤ hi ∧ hi ≤ 10 ^ 12 ∧
  ∀ (d : Deed) l H', d.ok ks → Purse H' p → Chg p H H' → H' l = some (.tup d.vs) → l ≠ p → Q (.ref l) H'
end
end T
namespace T
open PySem PySem.Spec PyProof.Rows L2 Evl XB TL XS XI XC ClX
theorem cell_inj {ks : List Str} {c c' : Cell} (hk : ks ∈ kinds7) (g : GoodC ks c) (g' : GoodC ks c') (h : lineOf c = lineOf c') : c = c' := by
  have z : partsOf c = partsOf c' := by rw [← parts_split hk g, h, parts_split hk g']
  obtain ⟨m, i, s, ws⟩ := c
  obtain ⟨m', i', s', ws'⟩ := c'
  unfold partsOf at z
  injection z with z1 z
  injection z with z2 z
  injection z with z3 z4
  simp only at z1 z2 z3 z4
  rw [z1, z2, z3, z4]
theorem cells_inj {ks : List Str} (hk : ks ∈ kinds7) : ∀ {cs cs' : List Cell}, (∀ c ∈ cs, GoodC ks c) → (∀ c ∈ cs', GoodC ks c) → cs.map lineOf = cs'.map lineOf → cs = cs'
  | [], [], _, _, _ => rfl
  | [], _ :: _, _, _, h => by cases h
  | _ :: _, [], _, _, h => by cases h
  | c :: r, c' :: r', g, g', h => by
    rw [List.map_cons, List.map_cons] at h
    injection h with h1 h2
    rw [cell_inj hk (g c List.mem_cons_self) (g' c' List.mem_cons_self) h1, cells_inj hk (fun x hx => g x (List.mem_cons_of_mem _ hx)) (fun x hx => g' x (List.mem_cons_of_mem _ hx)) h2]
theorem sl_inj : ∀ {xs ys : List Str}, sl xs = sl ys → xs = ys
  | [], [], _ => rfl
  | [], _ :: _, h => by cases h
  | _ :: _, [], h => by cases h
  | x :: r, y :: t, h => by
    have h : V.str x :: sl r = V.str y :: sl t := h
    injection h with h1 h2
    injection h1 with h1
    rw [h1, sl_inj h2]
section
variable {P : Program} {w : World} {K : PySem.W.Frag} {mg : Str → Option Value} {base : Heap} {C : Addr}
variable {σ : L2.St} {H H' : Hp} {ta tb tc te : TE} {tz ts : TS} {D' : Ends} {ks : List Str} {cs cs' : List Cell} {x y a b D p u : Addr} {E : XK} {d e : Deed} {xs zs : List V} {g : TG} {first : Bool} {kvs : List (Nm × V)}
theorem ldict_inj (h : LDict H kvs cs) (h' : LDict H kvs cs') : cs = cs' := by
  have len : cs.length = cs'.length := by
    have z := congrArg List.length (h.keys.symm.trans h'.keys)
    rw [List.length_map, List.length_map] at z
    exact z
  refine List.ext_getElem? fun i => ?_
  cases q : cs[i]? with
  | none => exact (List.getElem?_eq_none (by rw [← len]; exact List.getElem?_eq_none_iff.mp q)).symm
  | some c =>
    have hi : i < cs'.length := by rw [← len]; exact (List.getElem?_eq_some_iff.mp q).1
    have q' : cs'[i]? = some cs'[i] := List.getElem?_eq_getElem hi
    rw [q']
    generalize cs'[i] = c' at q'
    obtain ⟨l, h1, h2⟩ := h.at_ i c q
    obtain ⟨l', h1', h2'⟩ := h'.at_ i c' q'
    rw [h1] at h1'
    injection h1' with h1'
    injection h1' with n1 n2
    injection n2 with n2
    subst n2
    rw [h2] at h2'
    injection h2' with h2'
    injection h2' with h2'
    have hw := sl_inj h2'
    obtain ⟨m, i, s, ws⟩ := c
    obtain ⟨m', i', s', ws'⟩ := c'
    obtain ⟨e1, e2, e3⟩ := nm3_inj n1
    simp only at e1 e2 e3 hw
    rw [e1, e2, e3, hw]
theorem TabAt.whole (h : TabAt K C H x ks (cs.map lineOf)) (hk : ks ∈ kinds7) (hC : Cells ks cs) : TabW K C H x ks cs := by
  obtain ⟨dx, D, a, r, kvs, cs', e, f⟩ := h
  have := cells_inj hk hC.good f.c.good e
  subst this
  exact ⟨dx, D, a, r, kvs, f⟩
theorem TabW.at (h : TabW K C H x ks cs) : TabAt K C H x ks (cs.map lineOf) := by
  obtain ⟨dx, D, a, r, kvs, f⟩ := h
  exact ⟨dx, D, a, r, kvs, cs, rfl, f⟩
theorem opts_ne {m i : Str} {ws : List Str} (h : IsOpts m i ks ws) : ws ≠ [] := by
  obtain ⟨pre, z, rfl, _⟩ := h
  simp
/-- no list of texts, but an empty one -/
def NoTx (zs : List V) : Prop := ∀ ws : List Str, ws ≠ [] → zs ≠ sl ws
theorem CellsAt.chgU (h : CellsAt H ks kvs) (hu : H u = some (.lst zs)) (nz : NoTx zs) (c : Chg u H H') : CellsAt H' ks kvs := ⟨h.1, fun q hq => by
  obtain ⟨m, i, s, l, ws, h1, h2, h3, h4, ho, t⟩ := h.2 q hq
  exact ⟨m, i, s, l, ws, h1, h2, h3, h4, ho, c _ _ (ne_of t hu fun z => nz ws (opts_ne ho) (by injection z with z; exact z.symm)) t⟩⟩
theorem CellsAt.ex (h : CellsAt H ks kvs) (c : Ex H H') : CellsAt H' ks kvs := ⟨h.1, fun q hq => by
  obtain ⟨m, i, s, l, ws, h1, h2, h3, h4, ho, t⟩ := h.2 q hq
  exact ⟨m, i, s, l, ws, h1, h2, h3, h4, ho, c _ _ t⟩⟩
theorem LDict.chgU (h : LDict H kvs cs) (hC : Cells ks cs) (hu : H u = some (.lst zs)) (nz : NoTx zs) (c : Chg u H H') : LDict H' kvs cs := ⟨h.keys, fun i d hd => by
  obtain ⟨l, h1, h2⟩ := h.at_ i d hd
  exact ⟨l, h1, c _ _ (ne_of h2 hu fun z => nz d.2.2.2 (opts_ne (hC.good d (List.mem_of_getElem? hd)).2.2.2) (by injection z with z; exact z.symm)) h2⟩⟩
theorem TabW.chgU (h : TabW K C H x ks cs) (hk : ks ∈ kinds7) (hu : H u = some (.lst zs)) (c : Chg u H H') : TabW K C H' x ks cs := by
  have hC := h.choose_spec.choose_spec.choose_spec.choose_spec.choose_spec.c
  exact (h.at.chg hu c).whole hk hC
structure Box9 (K : PySem.W.Frag) (C : Addr) (H : Hp) (p u b D x : Addr) (ks : List Str) (kvs : List (Nm × V)) (cs : List Cell) : Prop where
  hb : H b = some (.lst [.ref D, .ref x])
  bp : b ≠ p
  bu : b ≠ u
  hD : H D = some (.dT kvs)
  ca : CellsAt H ks kvs
  ld : LDict H kvs cs
  few : kvs.length ≤ 27
  t : TabW K C H x ks cs
  c : Cells ks cs
def Box9At (K : PySem.W.Frag) (C : Addr) (H : Hp) (p u : Addr) (ks : List Str) (v : V) : Prop := ∃ b D x kvs cs, v = .ref b ∧ Box9 K C H p u b D x ks kvs cs
theorem Box9At.chgU {v : V} {o : Addr} (h : Box9At K C H p u ks v) (hk : ks ∈ kinds7) (ho : H o = some (.lst zs)) (nz : NoTx zs) (e : o = p ∨ o = u) (c : Chg o H H') : Box9At K C H' p u ks v := by
  obtain ⟨b, D, x, kvs, cs, e2, B⟩ := h
  have bo : b ≠ o := fun z => by
    rcases e with e | e
    · exact B.bp (z.trans e)
    · exact B.bu (z.trans e)
  exact ⟨b, D, x, kvs, cs, e2, ⟨c _ _ bo B.hb, B.bp, B.bu, c _ _ (ne_of B.hD ho fun z => by cases z) B.hD, B.ca.chgU ho nz c, B.ld.chgU B.c ho nz c, B.few, B.t.chgU hk ho c, B.c⟩⟩
theorem notx_int {d z w : Int} : NoTx [.int d, .int z, .int w] := fun ws _ h => by
  cases ws with
  | nil => cases h
  | cons x r =>
    have h : V.int d :: _ = V.str x :: _ := h
    injection h with h _
    cases h
theorem Box9At.chgP {v : V} (h : Box9At K C H p u ks v) (hk : ks ∈ kinds7) (hp : Purse H p) (c : Chg p H H') : Box9At K C H' p u ks v := by
  obtain ⟨d, z, w, e⟩ := hp
  exact h.chgU hk e notx_int (.inl rfl) c
theorem Box9At.ex {v : V} (h : Box9At K C H p u ks v) (z : Ex H H') : Box9At K C H' p u ks v := by
  obtain ⟨b, D, x, kvs, cs, e2, B⟩ := h
  exact ⟨b, D, x, kvs, cs, e2, ⟨z _ _ B.hb, B.bp, B.bu, z _ _ B.hD, B.ca.ex z, B.ld.ex z, B.few, B.t.ex z, B.c⟩⟩
/-! ### lines and texts -/
theorem em_lines (h : Ev ta σ H (.ref D)) (hk : ks ∈ kinds7) (hD : H D = some (.dT kvs)) (hC : CellsAt H ks kvs) (hl : kvs.length ≤ 27) (hL : LDict H kvs cs) : EvM (tCall spLines [] E (tCons ta tNil)) σ H (sl (cs.map lineOf)) := fun H1 e Q q =>
  h H1 e _ fun H2 e2 => ⟨D, ks, kvs, rfl, hk, e2 _ _ (e _ _ hD), (hC.ex e).ex e2, hl, fun l cs' H3 s3 nl hl3 hC' k' at' => by
    have := ldict_inj ⟨k', at'⟩ ((hL.ex e).ex e2)
    subst this
    exact q l H3 (e2.trans s3) hl3⟩
theorem ev_textM {s : Addr} (h1 : Ev ta σ H (.ref s)) (h2 : EvM tb σ H (sl (cs.map lineOf))) (hk : ks ∈ kinds7) (hs : H s = some (.lst (sl ks))) (hC : Cells ks cs) : Ev (tCall spText [] E (tCons ta (tCons tb tNil))) σ H (.str (textOf ks (cs.map lineOf))) := fun H1 e Q q =>
  h1 H1 e _ fun H2 e2 => h2 H2 (e.trans e2) _ fun l H3 e3 hl => ⟨s, l, ks, cs.map lineOf, rfl, hk, e3 _ _ (e2 _ _ (e _ _ hs)), hl, by rw [List.length_map]; exact hC.few, (fun x hx => by
    obtain ⟨c, hc, rfl⟩ := List.mem_map.mp hx
    exact line_len hk (hC.good c hc)), fun H4 e4 => q H4 ((e2.trans e3).trans e4)⟩
/-! ### repr of an edit -/
def dpv : V → PyData
  | .str x => .str x
  | .int n => .int n
  | _ => .none
/-- a short text, or a number that is not great -/
def Fl (v : V) : Prop := (∃ x : Str, v = .str x ∧ Lo x ∧ x.length ≤ 16) ∨ ∃ n : Int, v = .int n ∧ n.natAbs < 10 ^ 13
theorem dp_fl : ∀ {xs : List V}, (∀ v ∈ xs, Fl v) → DpAll K H xs (xs.map dpv)
  | [], _ => .nil
  | v :: r, h => by
    refine .cons ?_ (dp_fl fun y hy => h y (List.mem_cons_of_mem _ hy))
    rcases h v List.mem_cons_self with ⟨x, rfl, _⟩ | ⟨n, rfl, _⟩
    · exact .str x
    · exact .int n
theorem fl_all {xs : List V} : (∀ v ∈ xs, Fl v) → PyData.showableAll (xs.map dpv) = true ∧ PyData.hasDictAll (xs.map dpv) = false ∧ PyData.depthAll (xs.map dpv) = 0 ∧ PyData.leavesShortAll 20 (xs.map dpv) = true ∧ PyData.weightAll (xs.map dpv) ≤ xs.length * 101 := by
  induction xs with
  | nil => exact fun _ => ⟨rfl, rfl, rfl, rfl, Nat.zero_le _⟩
  | cons v r ih =>
    intro h
    obtain ⟨i1, i2, i3, i4, i5⟩ := ih fun y hy => h y (List.mem_cons_of_mem _ hy)
    rcases h v List.mem_cons_self with ⟨x, rfl, lx, xl⟩ | ⟨n, rfl, hn⟩
    · refine ⟨?_, ?_, ?_, ?_, ?_⟩
      · show (true && PyData.showableAll (r.map dpv)) = true
        rw [i1]; rfl
      · show (false || PyData.hasDictAll (r.map dpv)) = false
        rw [i2]; rfl
      · show max 0 (PyData.depthAll (r.map dpv)) = 0
        rw [i3]; rfl
      · show (PyData.leavesShort 20 (.str x) && PyData.leavesShortAll 20 (r.map dpv)) = true
        rw [i4, show PyData.leavesShort 20 (.str x) = true from lv_str lx]; rfl
      · show x.length + 1 + PyData.weightAll (r.map dpv) ≤ (r.length + 1) * 101
        rw [Nat.succ_mul]
        omega
    · have lg : n.natAbs.log2 < 64 := by
        by_cases z : n.natAbs = 0
        · rw [z]; decide
        · exact (Nat.log2_lt z).mpr (Nat.lt_trans hn (by decide))
      refine ⟨?_, ?_, ?_, ?_, ?_⟩
      · show (decide (n.natAbs.log2 < 1920) && PyData.showableAll (r.map dpv)) = true
        rw [i1, decide_eq_true (by omega)]; rfl
      · show (false || PyData.hasDictAll (r.map dpv)) = false
        rw [i2]; rfl
      · show max 0 (PyData.depthAll (r.map dpv)) = 0
        rw [i3]; rfl
      · show (decide ((PyData.shown (.int n)).length ≤ 20) && PyData.leavesShortAll 20 (r.map dpv)) = true
        rw [i4, decide_eq_true ?_]
        · rfl
        · have e := int_text_length_le10 (k := 13) (by decide) hn
          show (Str.ofString (toString n)).length ≤ 20
          rw [PySem.ofString_length]
          omega
      · show (if n == 0 then 0 else n.natAbs.log2 + 1) + 1 + PyData.weightAll (r.map dpv) ≤ (r.length + 1) * 101
        rw [Nat.succ_mul]
        split <;> omega
def shownT (xs : List V) : Str := (PyData.tuple (xs.map dpv)).shown
theorem ev_reprT (h : EvS K te σ H xs) (fl : ∀ v ∈ xs, Fl v) (hl : xs.length ≤ 3) : Ev (tCB (XG.rRepr K) (tCons te tNil)) σ H (.str (shownT xs)) := fun H1 e Q q => h H1 e _ fun l H2 e2 hp => by
  obtain ⟨i1, i2, i3, i4, i5⟩ := fl_all fl
  refine ⟨.ref l, PyData.tuple (xs.map dpv), rfl, .tup hp (dp_fl fl), i1, i2, ?_, ?_, q H2 e2⟩
  · show PyData.depthAll (xs.map dpv) + 1 ≤ 32
    rw [i3]
    decide
  · have z := PyData.shown_le 20 (by decide) (PyData.tuple (xs.map dpv)) i4
    have y : PyData.weight (PyData.tuple (xs.map dpv)) ≤ xs.length * 101 := i5
    refine Nat.le_trans z ?_
    rw [sizeLine_eq]
    omega
theorem fl_str {x : Str} (h : Small x) : Fl (.str x) := .inl ⟨x, rfl, h.lo, h.len⟩
theorem fl_let {c : Nat} (h : c ≤ 122) : Fl (.str (let1 c)) := .inl ⟨let1 c, rfl, fun n m => by
  have : n ∈ [c] := m
  rw [List.mem_singleton.mp this]
  omega, by show 1 ≤ 16; decide⟩
theorem fl_num {n : Int} (h1 : -9 ≤ n) (h2 : n ≤ 10 ^ 12) {s : Int} (h3 : -1 ≤ s) (h4 : s ≤ 1) : Fl (.int (n + s)) := .inr ⟨_, rfl, by omega⟩
theorem step_b (r : Str) : -1 ≤ step r ∧ step r ≤ 1 := by
  unfold step
  split
  · decide
  · split <;> decide
theorem fl_deed (ok : d.ok ks) (hk : ks ∈ kinds7) : (∀ v ∈ d.vs, Fl v) ∧ d.vs.length ≤ 3 := by
  cases d with
  | stay => exact ⟨fun v hv => by rw [List.mem_singleton.mp hv]; exact fl_str (by decide +kernel), by show 1 ≤ 3; decide⟩
  | out n =>
    obtain ⟨o1, o2, o3⟩ := ok
    refine ⟨fun v hv => ?_, by show 2 ≤ 3; decide⟩
    simp only [Deed.vs, List.mem_cons, List.not_mem_nil, or_false] at hv
    rcases hv with rfl | rfl
    · exact fl_str (by decide +kernel)
    · have := fl_num o2 o3 (s := 0) (by decide) (by decide)
      rwa [Int.add_zero] at this
  | sig k n c =>
    obtain ⟨o1, o2, o3, o4, o5, o6⟩ := ok
    refine ⟨fun v hv => ?_, by show 3 ≤ 3; decide⟩
    simp only [Deed.vs, List.mem_cons, List.not_mem_nil, or_false] at hv
    rcases hv with rfl | rfl | rfl
    · exact fl_str (small_ks hk k o2)
    · have := fl_num o3 o4 (s := 0) (by decide) (by decide)
      rwa [Int.add_zero] at this
    · exact fl_let o6
theorem fl_formed (ok : d.ok ks) (hk : ks ∈ kinds7) {r : Str} (fo : FormOk d r) : (∀ v ∈ formedOf d r, Fl v) ∧ (formedOf d r).length ≤ 3 := by
  obtain ⟨s1, s2⟩ := step_b r
  unfold formedOf
  split
  · exact ⟨fun v hv => by rw [List.mem_singleton.mp hv]; exact fl_str (by decide +kernel), by show 1 ≤ 3; decide⟩
  · split
    · cases d with
      | stay => exact absurd rfl fo.1
      | out n => exact ⟨(fun v hv => by cases hv), Nat.zero_le _⟩
      | sig k n c =>
        obtain ⟨o1, o2, o3, o4, o5, o6⟩ := ok
        refine ⟨fun v hv => ?_, by show 3 ≤ 3; decide⟩
        simp only [List.mem_cons, List.not_mem_nil, or_false] at hv
        rcases hv with rfl | rfl | rfl
        · exact fl_str (by decide +kernel)
        · have := fl_num o3 o4 (s := 0) (by decide) (by decide)
          rwa [Int.add_zero] at this
        · exact fl_let o6
    · cases d with
      | stay => exact absurd rfl fo.1
      | out n =>
        obtain ⟨o1, o2, o3⟩ := ok
        refine ⟨fun v hv => ?_, by show 2 ≤ 3; decide⟩
        simp only [List.mem_cons, List.not_mem_nil, or_false] at hv
        rcases hv with rfl | rfl
        · exact fl_str (by decide +kernel)
        · exact fl_num o2 o3 s1 s2
      | sig k n c =>
        obtain ⟨o1, o2, o3, o4, o5, o6⟩ := ok
        refine ⟨fun v hv => ?_, by show 3 ≤ 3; decide⟩
        simp only [List.mem_cons, List.not_mem_nil, or_false] at hv
        rcases hv with rfl | rfl | rfl
        · exact fl_str (small_ks hk k o2)
        · exact fl_num o3 o4 s1 s2
        · exact fl_let o6
theorem fl_turned (okd : d.ok ks) (oke : e.ok ks) (hk : ks ∈ kinds7) (hC : Cells ks cs) (first : Bool) : (∀ v ∈ turnedOf cs d e first, Fl v) ∧ (turnedOf cs d e first).length ≤ 3 := by
  unfold turnedOf
  split
  · exact fl_deed okd hk
  · rename_i z
    have z1 : d.hd ≠ "stay" := fun y => z (.inl y)
    obtain ⟨nd, _⟩ := Deed.hd_stay okd hk z1
    obtain ⟨ps, zz, ho, OP⟩ := optsFor_parts hC d.hd e.hd (relOf d e)
    rw [ho, chosenW_eq OP.pa]
    exact fl_formed okd hk (form_ok nd okd (chosen_in OP _))
end
end T
namespace T
open PySem PySem.Spec PyProof.Rows L2 Evl XB TL XS XI XC ClX
section
variable {P : Program} {w : World} {K : PySem.W.Frag} {mg : Str → Option Value} {base : Heap} {C : Addr}
variable {σ : L2.St} {H H' : Hp} {ta tb tc td te : TE} {tz ts : TS} {D' : Ends} {ks : List Str} {cs cs' : List Cell} {x y a b D p u s : Addr} {E : XK} {d e : Deed} {xs zs bs : List V} {g : TG} {first : Bool} {kvs : List (Nm × V)}
theorem chg_mix {H G G' : Hp} {p D : Addr} (nD : H D = none) (c : Chg p H G) (d : Chg D G G') : Chg p H G' := fun b o n e => d b o (ne_of_none e nD) (c b o n e)
theorem notx_refs (h : ∀ v ∈ bs, ∃ b, v = V.ref b) : NoTx bs := fun ws hw z => by
  subst z
  cases ws with
  | nil => exact hw rfl
  | cons x r =>
    obtain ⟨b, hb⟩ := h (.str x) List.mem_cons_self
    cases hb
theorem Box9At.isref {v : V} (h : Box9At K C H p u ks v) : ∃ b, v = V.ref b := by
  obtain ⟨b, _, _, _, _, e, _⟩ := h
  exact ⟨b, e⟩
theorem app_box9 {t1 t2 : TE} (hu : H u = some (.lst bs)) (hl : bs.length ≤ 1000) (h2 : σ[2]? = some (some (.ref u))) (hp : Purse H p) (hup : u ≠ p) (hk : ks ∈ kinds7) (hC : Cells ks cs) (hB : ∀ v ∈ bs, Box9At K C H p u ks v)
    (e1 : Ev t1 σ H (.ref D)) (hD : H D = some (.dT kvs)) (ca : CellsAt H ks kvs) (ld : LDict H kvs cs) (few : kvs.length ≤ 27) (e2 : EvTab K C t2 σ H ks (cs.map lineOf))
    (q : ∀ b H4, Chg u H H4 → Purse H4 p → H4 u = some (.lst (bs ++ [.ref b])) → (∀ v ∈ bs ++ [.ref b], Box9At K C H4 p u ks v) → D'.nx σ H4) :
    tDrop (tBM K "list" rAppend (tVar 2) (tCons (tLst (tCons t1 (tCons t2 tNil))) tNil)) D' σ H := by
  refine ⟨_, h2, .inl ⟨rfl, _, SqL.of hu⟩, ?_⟩
  refine e1 H (Ex.refl H) _ fun H1 g1 => e2 H1 g1 _ fun x H2 g2 tx => ⟨(by show 2 ≤ sizeLine; decide), fun b nb => ?_⟩
  have g12 := g1.trans g2
  have hu2 := g12 _ _ hu
  refine ⟨u, bs, .ref b, rfl, rfl, kp (u := HO.lst [.ref D, .ref x]) hu2 nb, by rw [sizeLine_eq]; omega, ?_⟩
  have nbH : H b = none := fresh_back g12 nb
  have bu : b ≠ u := (ne_of_none hu2 nb).symm
  have bp : b ≠ p := (hp.ne nbH).symm
  have hc : Chg u H (upd (upd H2 b (.lst [.ref D, .ref x])) u (.lst (bs ++ [.ref b]))) := ((Same.chg g12).new nb).at
  have hc2 : Chg u H2 (upd (upd H2 b (.lst [.ref D, .ref x])) u (.lst (bs ++ [.ref b]))) := ((Chg.refl u H2).new nb).at
  have nz : NoTx bs := notx_refs fun v hv => (hB v hv).isref
  have hp4 : Purse (upd (upd H2 b (.lst [.ref D, .ref x])) u (.lst (bs ++ [.ref b]))) p := by
    obtain ⟨d, z, w, w2⟩ := hp
    exact ⟨d, z, w, hc _ _ hup.symm w2⟩
  refine q b _ hc hp4 upd_same fun v hv => ?_
  rcases List.mem_append.mp hv with z | z
  · exact (hB v z).chgU hk hu nz (.inr rfl) hc
  · rw [List.mem_singleton.mp z]
    exact ⟨b, D, x, kvs, cs, rfl, kpm upd_same bu, bp, bu, hc _ _ (ne_of hD hu fun q => by cases q) hD, ca.chgU hu nz hc, ld.chgU hC hu nz hc, few, (tx.whole hk hC).chgU hk hu2 hc2, hC⟩
/-! ### a deed, drawn -/
theorem q_deed {i : Nat} {lo : Int} (h0 : σ[0]? = some (some (.ref p))) (h1 : σ[1]? = some (some (.ref s))) (h5 : σ[5]? = some (some (.int lo))) (hp : Purse H p) (hs : H s = some (.lst (sl ks))) (sp : s ≠ p) (hk : ks ∈ kinds7) (l1 : -9 ≤ lo) (l2 : lo ≤ 10 ^ 12 - 2)
    (q : ∀ (d : Deed) (l : Addr) (G : Hp), d.ok ks → Purse G p → Chg p H G → G l = some (.tup d.vs) → l ≠ p → tz D' (σ.set i (some (.ref l))) G) :
    tSeq (tAsg (tCall (spLDeed K) [] E (tCons (tVar 0) (tCons (tOp rCat (tOp rCat (tVar 1) (tVar 1)) (tLst (tCons (tC (.str "stay")) tNil))) (tCons (tVar 5) (tCons (tOp (rI0 fun i j => .int (i + j)) (tVar 5) (tC (.int 2))) tNil))))) (gName i)) tz D' σ H := by
  have l7 := len7 hk
  have ev : EvL (tOp rCat (tOp rCat (tVar 1) (tVar 1)) (tLst (tCons (tC (.str "stay")) tNil))) σ H (sl (ks ++ ks ++ [("stay" : Str)])) := fun H1 e Q q => by
    refine ⟨_, h1, _, h1, s, s, sl ks, sl ks, rfl, rfl, e _ _ hs, e _ _ hs, by rw [XB.len_sl, sizeLine_eq]; omega, fun a na => ⟨(by show 1 ≤ sizeLine; decide), fun c nc => ⟨a, c, _, _, rfl, rfl, kp upd_same nc, upd_same, by rw [List.length_append, XB.len_sl, sizeLine_eq]; show _ + 1 ≤ _; omega, fun r nr => ?_⟩⟩⟩
    have en : Ex H1 (upd (upd (upd H1 a (.lst (sl ks ++ sl ks))) c (.lst [.str "stay"])) r (.lst ((sl ks ++ sl ks) ++ [.str "stay"]))) := ((Ex.new na).trans (Ex.new nc)).trans (Ex.new nr)
    refine q r _ (fresh_back ((Ex.new na).trans (Ex.new nc)) nr) en ?_
    rw [upd_same, sl_cat]
    exact congrArg (fun z => some (HO.lst z)) (sl_cat (ks ++ ks) [("stay" : Str)])
  refine ⟨_, h0, ev H (Ex.refl H) _ fun r G nr er hr => ⟨_, h5, _, h5, _, _, rfl, rfl, ?_⟩⟩
  have hpG : Purse G p := by
    obtain ⟨d, z, w, w2⟩ := hp
    exact ⟨d, z, w, er _ _ w2⟩
  have rp : r ≠ p := (hp.ne nr).symm
  exact ⟨p, r, lo, lo + 2, _, ks, rfl, hpG, SqL.of hr, rp, (by simp), (by simp only [List.length_append, List.length_singleton]; omega), (fun z hz => by
    rcases List.mem_append.mp hz with hz | hz
    · exact .inr ((List.mem_append.mp hz).elim id id)
    · exact .inl (List.mem_singleton.mp hz)), hk, l1, by omega, by omega, fun d l G2 ok hp2 c2 hl ne => q d l G2 ok hp2 ((Same.chg er).trans c2) hl ne⟩
/-! ### the two turns -/
theorem es_lt (h0 : Ev td σ H (.ref D)) (h1 : Ev ta σ H (.ref a)) (h2 : Ev tb σ H (.ref b)) (h3 : Ev tc σ H (.bl first)) (hD : H D = some (.dT kvs)) (hL : LDict H kvs cs) (hC : Cells ks cs) (hk : ks ∈ kinds7) (ha : SqT K H a d.vs) (hb : SqT K H b e.vs) (okd : d.ok ks) (oke : e.ok ks) :
    EvS K (tCall (spLT K) [] E (tCons td (tCons ta (tCons tb (tCons tc tNil))))) σ H (turnedOf cs d e first) :=
  es_call (ea_cons h0 (ea_cons h1 (ea_cons h2 (ea_cons h3 ea_nil)))) fun H1 z Q q E => ⟨D, a, b, d, e, first, ks, cs, kvs, rfl, z _ _ hD, hL.ex z, hC, hk, ex_t z ha, ex_t z hb, okd, oke, q⟩
theorem es_passed (h0 : Ev td σ H (.ref x)) (h1 : Ev ta σ H (.ref a)) (h2 : Ev tb σ H (.ref b)) (h3 : Ev tc σ H (.bl first)) (t : TabW K C H x ks cs) (hk : ks ∈ kinds7) (ha : SqT K H a d.vs) (hb : SqT K H b e.vs) (okd : d.ok ks) (oke : e.ok ks) :
    EvS K (tMeth C "passed" (spTurned K C) [] E td (tCons ta (tCons tb (tCons tc tNil)))) σ H (turnedOf cs d e first) := fun H1 g Q q =>
  h0 H1 g _ fun H2 g2 => by
    obtain ⟨dx, D, a1, r1, kvs, f⟩ := id (t.ex (g.trans g2))
    refine ⟨x, dx, _, rfl, f.hx, rfl, ?_⟩
    exact (ea_cons h1 (ea_cons h2 (ea_cons h3 ea_nil))) H2 (g.trans g2) _ fun H3 g3 => ⟨x, a, b, d, e, first, ks, cs, rfl, (t.ex (g.trans g2)).ex g3, hk, ex_t ((g.trans g2).trans g3) ha, ex_t ((g.trans g2).trans g3) hb, okd, oke, fun l H4 g4 h4 => q l H4 ((g2.trans g3).trans g4) h4⟩
theorem es_passedK (h0 : Ev td σ H (.ref x)) (h1 : Ev ta σ H (.ref a)) (h2 : Ev tb σ H (.ref b)) (h3 : Ev tc σ H (.bl first)) (t : TabW K C H x ks cs) (hk : ks ∈ kinds7) (ha : SqT K H a d.vs) (hb : SqT K H b e.vs) (okd : d.ok ks) (oke : e.ok ks) :
    EvS K (XGt.tMethKw C "passed" 3 (spTurned K C) (fun vs zs => vs ++ zs.reverse) E td (tCons tc (tCons tb (tCons ta tNil)))) σ H (turnedOf cs d e first) := fun H1 g Q q =>
  h0 H1 g _ fun H2 g2 => by
    obtain ⟨dx, D, a1, r1, kvs, f⟩ := id (t.ex (g.trans g2))
    refine ⟨x, dx, _, rfl, f.hx, rfl, ?_⟩
    exact (ea_cons h3 (ea_cons h2 (ea_cons h1 ea_nil))) H2 (g.trans g2) _ fun H3 g3 => ⟨rfl, x, a, b, d, e, first, ks, cs, rfl, (t.ex (g.trans g2)).ex g3, hk, ex_t ((g.trans g2).trans g3) ha, ex_t ((g.trans g2).trans g3) hb, okd, oke, fun l H4 g4 h4 => q l H4 ((g2.trans g3).trans g4) h4⟩
/-! ### two lists of texts -/
theorem lo_text (hk : ks ∈ kinds7) (hC : Cells ks cs) : Lo (textOf ks (cs.map lineOf)) := lo_join lo_nl fun y hy => by
  rcases List.mem_cons.mp hy with rfl | hy
  · exact lo_head hk
  · exact (lo_tab hk hC).2 y hy
theorem ev_eqL {ws : List Str} (ha : EvL ta σ H (sl ws)) (hb : EvL tb σ H (sl ws)) (lo : ∀ x ∈ ws, Lo x) : Ev (tOp (rEqD K) ta tb) σ H (.bl true) := fun H1 g Q q =>
  ha H1 g _ fun p H2 n2 g2 hp => hb H2 (g.trans g2) _ fun r H3 n3 g3 hr => by
    have sh : SeqAt.shaped (.list (ws.map PyData.str)) = true := shp_strs lo
    refine ⟨_, _, .lst (SqL.of (g3 _ _ hp)) (dp_sl ws), .lst (SqL.of hr) (dp_sl ws), sh, sh, ?_⟩
    have : PyData.eqv (.list (ws.map PyData.str)) (.list (ws.map PyData.str)) = true := by
      show PyData.eqvAll _ _ = true
      rw [eqv_strs, decide_eq_true rfl]
    rw [this]
    exact q H3 (g2.trans g3)
/-- a text of each item of a known list -/
theorem el_texts {bs : List V} {ws : List Str} {j : Nat} {vs : List Nat} {q : Addr} (hlen : ws.length = bs.length) (h : Ev ta σ H (.ref q)) (hx : H q = some (.lst bs)) (hz : bs.length ≤ 1000) (hw : ∀ x, wipe ((wipe σ vs).set j (some x)) vs = wipe σ vs)
    (he : ∀ (i : Nat) (x : V) (t : Str) (H1 : Hp), Ex H H1 → bs[i]? = some x → ws[i]? = some t → Ev te ((wipe σ vs).set j (some x)) H1 (.str t)) : EvL (tLc (iList K ta) (gName j) tYes te vs) σ H (sl ws) :=
  el_is (el_lcL (fun _ => true) (fun i => .str (ws.getD i ("" : Str))) h (SqL.of hx) (by omega) hw (fun _ _ _ _ _ => fun H1 _ _ z => z H1 (Ex.refl H1)) (fun i x H1 e hi _ => by
    have hlt : i < ws.length := by rw [hlen]; exact (List.getElem?_eq_some_iff.mp hi).1
    have ht : ws[i]? = some ws[i] := List.getElem?_eq_getElem hlt
    rw [List.getD_eq_getElem?_getD, ht]
    exact he i x _ H1 e hi ht)) (by
    unfold given
    rw [List.filter_eq_self.mpr (fun _ _ => rfl), ← hlen]
    refine List.ext_getElem? fun i => ?_
    rw [List.getElem?_map, List.getElem?_map]
    by_cases hi : i < ws.length
    · rw [List.getElem?_range hi, List.getElem?_eq_getElem hi]
      show some (V.str (ws.getD i _)) = some (V.str ws[i])
      rw [List.getD_eq_getElem?_getD, List.getElem?_eq_getElem hi]
      rfl
    · rw [List.getElem?_eq_none (by rw [List.length_range]; omega), List.getElem?_eq_none (by omega)]
      rfl)
end
end T
namespace T
open PySem PySem.Spec PyProof.Rows L2 Evl XB TL XS XI XC ClX
theorem chg_mix2 {H G G' : Hp} {p D : Addr} (nD : H D = none) (c : Chg p H G) (d : Chg D G G') : Chg p H G' := fun b o n e => d b o (ne_of_none e nD) (c b o n e)
theorem fresh_chg {H G : Hp} {p F : Addr} (c : Chg p H G) (hp : Purse G p) (n : G F = none) : H F = none := by
  cases z : H F with
  | none => rfl
  | some o =>
    by_cases y : F = p
    · obtain ⟨d, a, b, w1⟩ := hp
      rw [y, w1] at n
      cases n
    · rw [c _ _ y z] at n
      cases n
end T
namespace T
open PySem PySem.Spec PyProof.Rows L2 Evl XB TL XS XI XC ClX
section
variable {P : Program} {w : World} {K : PySem.W.Frag} {mg : Str → Option Value} {base : Heap} {C : Addr}
variable {σ : L2.St} {H H' : Hp} {ta tb tc td te : TE} {tz ts : TS} {D' : Ends} {ks : List Str} {cs cs' : List Cell} {x y a b D p u s : Addr} {E : XK} {d e : Deed} {xs ys zs : List V} {g : TG} {first : Bool} {kvs : List (Nm × V)}
/-- three tuples in a list -/
def At3 (K : PySem.W.Frag) (H : Hp) (T : Addr) (xs ys zs : List V) : Prop := ∃ r1 r2 r3, H T = some (.lst [.ref r1, .ref r2, .ref r3]) ∧ SqT K H r1 xs ∧ SqT K H r2 ys ∧ SqT K H r3 zs
theorem At3.ex {T : Addr} (h : At3 K H T xs ys zs) (z : Ex H H') : At3 K H' T xs ys zs := by
  obtain ⟨r1, r2, r3, h0, h1, h2, h3⟩ := h
  exact ⟨r1, r2, r3, z _ _ h0, ex_t z h1, ex_t z h2, ex_t z h3⟩
def EvR3 (K : PySem.W.Frag) (te : TE) (σ : L2.St) (H : Hp) (xs ys zs : List V) : Prop := ∀ H1, Ex H H1 → ∀ Q : VK, (∀ T H2, Ex H1 H2 → At3 K H2 T xs ys zs → Q (.ref T) H2) → te σ H1 Q
theorem er_at {T : Addr} (h : Ev te σ H (.ref T)) (t : At3 K H T xs ys zs) : EvR3 K te σ H xs ys zs := fun H1 e Q q => h H1 e _ fun H2 e2 => q T H2 e2 ((t.ex e).ex e2)
theorem er_new (h1 : EvS K ta σ H xs) (h2 : EvS K tb σ H ys) (h3 : EvS K tc σ H zs) : EvR3 K (tLst (tCons ta (tCons tb (tCons tc tNil)))) σ H xs ys zs := fun H1 e Q q =>
  h1 H1 e _ fun r1 H2 e2 t1 => h2 H2 (e.trans e2) _ fun r2 H3 e3 t2 => h3 H3 ((e.trans e2).trans e3) _ fun r3 H4 e4 t3 => ⟨(by show 3 ≤ sizeLine; decide), fun T nT => by
    have z : Ex H4 (upd H4 T (.lst [.ref r1, .ref r2, .ref r3])) := Ex.new nT
    exact q T _ (((e2.trans e3).trans e4).trans z) ⟨r1, r2, r3, upd_same, ex_t ((e3.trans e4).trans z) t1, ex_t (e4.trans z) t2, ex_t z t3⟩⟩
def tupD (xs : List V) : PyData := .tuple (xs.map dpv)
theorem ev_reprR3 (h : EvR3 K te σ H xs ys zs) (f1 : (∀ v ∈ xs, Fl v) ∧ xs.length ≤ 3) (f2 : (∀ v ∈ ys, Fl v) ∧ ys.length ≤ 3) (f3 : (∀ v ∈ zs, Fl v) ∧ zs.length ≤ 3) : Ev (tCB (XG.rRepr K) (tCons te tNil)) σ H (.str (PyData.list [tupD xs, tupD ys, tupD zs]).shown) := fun H1 e Q q => h H1 e _ fun T H2 e2 t => by
  obtain ⟨r1, r2, r3, h0, h1, h2, h3⟩ := t
  obtain ⟨i1, i2, i3, i4, i5⟩ := fl_all f1.1
  obtain ⟨j1, j2, j3, j4, j5⟩ := fl_all f2.1
  obtain ⟨k1, k2, k3, k4, k5⟩ := fl_all f3.1
  refine ⟨.ref T, PyData.list [tupD xs, tupD ys, tupD zs], rfl, .lst (SqL.of h0) (.cons (.tup h1 (dp_fl f1.1)) (.cons (.tup h2 (dp_fl f2.1)) (.cons (.tup h3 (dp_fl f3.1)) .nil))), ?_, ?_, ?_, ?_, q H2 e2⟩
  · show (PyData.showableAll (xs.map dpv) && (PyData.showableAll (ys.map dpv) && (PyData.showableAll (zs.map dpv) && true))) = true
    rw [i1, j1, k1]; rfl
  · show (PyData.hasDictAll (xs.map dpv) || (PyData.hasDictAll (ys.map dpv) || (PyData.hasDictAll (zs.map dpv) || false))) = false
    rw [i2, j2, k2]; rfl
  · show max (PyData.depthAll (xs.map dpv) + 1) (max (PyData.depthAll (ys.map dpv) + 1) (max (PyData.depthAll (zs.map dpv) + 1) 0)) + 1 ≤ 32
    rw [i3, j3, k3]
    decide
  · have l4 : PyData.leavesShort 20 (PyData.list [tupD xs, tupD ys, tupD zs]) = true := by
      show (PyData.leavesShortAll 20 (xs.map dpv) && (PyData.leavesShortAll 20 (ys.map dpv) && (PyData.leavesShortAll 20 (zs.map dpv) && true))) = true
      rw [i4, j4, k4]; rfl
    have z := PyData.shown_le 20 (by decide) (PyData.list [tupD xs, tupD ys, tupD zs]) l4
    have y : PyData.weight (PyData.list [tupD xs, tupD ys, tupD zs]) = PyData.weightAll (xs.map dpv) + 1 + (PyData.weightAll (ys.map dpv) + 1 + (PyData.weightAll (zs.map dpv) + 1 + 0)) := rfl
    refine Nat.le_trans z ?_
    rw [sizeLine_eq]
    omega
/-- passed, of any three -/
theorem es_pas (h0 : Ev td σ H (.ref x)) (h1 : EvS K ta σ H d.vs) (h2 : EvS K tb σ H e.vs) (h3 : Ev tc σ H (.bl first)) (t : TabW K C H x ks cs) (hk : ks ∈ kinds7) (okd : d.ok ks) (oke : e.ok ks) :
    EvS K (tMeth C "passed" (spTurned K C) [] E td (tCons ta (tCons tb (tCons tc tNil)))) σ H (turnedOf cs d e first) := fun H1 g Q q =>
  h0 H1 g _ fun H2 g2 => by
    obtain ⟨dx, D, a1, r1, kvs, f⟩ := id (t.ex (g.trans g2))
    refine ⟨x, dx, _, rfl, f.hx, rfl, ?_⟩
    refine h1 H2 (g.trans g2) _ fun a H3 g3 ha => h2 H3 ((g.trans g2).trans g3) _ fun b H4 g4 hb => h3 H4 (((g.trans g2).trans g3).trans g4) _ fun H5 g5 => ?_
    exact ⟨x, a, b, d, e, first, ks, cs, rfl, (t.ex (g.trans g2)).ex ((g3.trans g4).trans g5), hk, ex_t (g4.trans g5) ha, ex_t g5 hb, okd, oke, fun l H6 g6 h6 => q l H6 ((((g2.trans g3).trans g4).trans g5).trans g6) h6⟩
theorem es_lt2 (h0 : Ev td σ H (.ref D)) (h1 : EvS K ta σ H d.vs) (h2 : EvS K tb σ H e.vs) (h3 : Ev tc σ H (.bl first)) (hD : H D = some (.dT kvs)) (hL : LDict H kvs cs) (hC : Cells ks cs) (hk : ks ∈ kinds7) (okd : d.ok ks) (oke : e.ok ks) :
    EvS K (tCall (spLT K) [] E (tCons td (tCons ta (tCons tb (tCons tc tNil))))) σ H (turnedOf cs d e first) := fun H1 g Q q =>
  h0 H1 g _ fun H2 g2 => h1 H2 (g.trans g2) _ fun a H3 g3 ha => h2 H3 ((g.trans g2).trans g3) _ fun b H4 g4 hb => h3 H4 (((g.trans g2).trans g3).trans g4) _ fun H5 g5 => by
    have z := (((g.trans g2).trans g3).trans g4).trans g5
    exact ⟨D, a, b, d, e, first, ks, cs, kvs, rfl, z _ _ hD, hL.ex z, hC, hk, ex_t (g4.trans g5) ha, ex_t g5 hb, okd, oke, fun l H6 g6 h6 => q l H6 ((((g2.trans g3).trans g4).trans g5).trans g6) h6⟩
theorem turned_stay1 {e : Deed} : turnedOf cs .stay e first = [.str "stay"] := by
  unfold turnedOf
  rw [if_pos (.inl rfl)]
  rfl
theorem turned_stay2 {d : Deed} : turnedOf cs d .stay first = d.vs := by
  unfold turnedOf
  rw [if_pos (.inr rfl)]
theorem ex_put {G : Hp} {T : Addr} {o : HO} (z : Ex H G) (n : H T = none) : Ex H (upd G T o) := fun b q h => by
  rw [upd_ne (ne_of_none h n)]
  exact z b q h
end
end T
namespace T
open PySem PySem.Spec PyProof.Rows L2 Evl XB TL XS XI XC ClX
/-! ### data of any depth, told and shown -/
section
variable {K : PySem.W.Frag} {H H' : Hp}
mutual
theorem dp_ex (e : Ex H H') : ∀ (d : PyData) (v : V), Dp K H v d → Dp K H' v d
  | .none, _, h => by cases h; exact .non
  | .bool b, _, h => by cases h; exact .bl b
  | .int i, _, h => by cases h; exact .int i
  | .str x, _, h => by cases h; exact .str x
  | .list ds, _, h => by
    cases h with
    | lst h1 h2 => exact .lst (ex_l e h1) (dp_exs e ds _ h2)
  | .tuple ds, _, h => by
    cases h with
    | tup h1 h2 => exact .tup (ex_t e h1) (dp_exs e ds _ h2)
  | .dict kvs, _, h => by cases h
theorem dp_exs (e : Ex H H') : ∀ (ds : List PyData) (vs : List V), DpAll K H vs ds → DpAll K H' vs ds
  | [], _, h => by cases h; exact .nil
  | d :: ds, _, h => by
    cases h with
    | cons h1 h2 => exact .cons (dp_ex e d _ h1) (dp_exs e ds _ h2)
end
end
/-- d comes -/
def EvD (K : PySem.W.Frag) (te : TE) (σ : L2.St) (H : Hp) (d : PyData) : Prop := ∀ H1, Ex H H1 → ∀ Q : VK, (∀ v H2, Ex H1 H2 → Dp K H2 v d → Q v H2) → te σ H1 Q
def EvDs (K : PySem.W.Frag) (ta : TA) (σ : L2.St) (H : Hp) (ds : List PyData) : Prop := ∀ H1, Ex H H1 → ∀ Q : List V → Hp → Prop, (∀ vs H2, Ex H1 H2 → DpAll K H2 vs ds → Q vs H2) → ta σ H1 Q
section
variable {K : PySem.W.Frag} {σ : L2.St} {H : Hp} {t : TT} {ta tb te : TE} {tl tr : TA} {d d' : PyData} {ds : List PyData} {ws : List Str}
theorem ed_is (h : EvD K te σ H d) (e : d = d') : EvD K te σ H d' := e ▸ h
theorem ed_at {v : V} (h : Ev te σ H v) (g : Dp K H v d) : EvD K te σ H d := fun H1 e Q q => h H1 e _ fun H2 e2 => q v H2 e2 (dp_ex (e.trans e2) d v g)
theorem ed_str {x : Str} (h : Ev te σ H (.str x)) : EvD K te σ H (.str x) := ed_at h (.str x)
theorem ed_int {x : Int} (h : Ev te σ H (.int x)) : EvD K te σ H (.int x) := ed_at h (.int x)
theorem ed_bl {x : Bool} (h : Ev te σ H (.bl x)) : EvD K te σ H (.bool x) := ed_at h (.bl x)
theorem ed_non (h : Ev te σ H .non) : EvD K te σ H .none := ed_at h .non
theorem ed_tup {xs : List V} (h : EvS K te σ H xs) (g : ∀ H1, DpAll K H1 xs ds) : EvD K te σ H (.tuple ds) := fun H1 e Q q => h H1 e _ fun p H2 e2 hp => q _ H2 e2 (.tup hp (g H2))
theorem ed_sl (h : EvS K te σ H (sl ws)) : EvD K te σ H (.tuple (ws.map PyData.str)) := ed_tup h fun _ => dp_sl ws
theorem eds_nil : EvDs K tNil σ H [] := fun H1 e Q q => q [] H1 (Ex.refl H1) .nil
theorem eds_cons (h : EvD K te σ H d) (hs : EvDs K tr σ H ds) : EvDs K (tCons te tr) σ H (d :: ds) := fun H1 e Q q => h H1 e _ fun v H2 e2 g => hs H2 (e.trans e2) _ fun vs H3 e3 gs => q (v :: vs) H3 (e2.trans e3) (.cons (dp_ex e3 d v g) gs)
theorem DpAll.len : ∀ {vs : List V} {ds : List PyData}, DpAll K H vs ds → vs.length = ds.length := fun {vs ds} h => by
  induction ds generalizing vs with
  | nil => cases h; rfl
  | cons d ds ih =>
    cases h with
    | cons h1 h2 => rw [List.length_cons, List.length_cons, ih h2]
theorem ed_lst (h : EvDs K tl σ H ds) (hz : ds.length ≤ 100000) : EvD K (tLst tl) σ H (.list ds) := fun H1 e Q q => h H1 e _ fun vs H2 e2 g => ⟨by rw [DpAll.len g]; exact sz_of hz, fun p hp => q (.ref p) _ (e2.trans (Ex.new hp)) (.lst (SqL.of upd_same) (dp_exs (Ex.new hp) ds vs g))⟩
theorem ed_tupD (h : EvDs K tl σ H ds) (hz : ds.length ≤ 100000) : EvD K (tTup tl) σ H (.tuple ds) := fun H1 e Q q => h H1 e _ fun vs H2 e2 g => ⟨by rw [DpAll.len g]; exact sz_of hz, fun p hp => q (.ref p) _ (e2.trans (Ex.new hp)) (.tup (st_of upd_same) (dp_exs (Ex.new hp) ds vs g))⟩
theorem q_asgD {tz : TS} {D : Ends} {i : Nat} (h : EvD K te σ H d) (k : ∀ v H1, Ex H H1 → Dp K H1 v d → tz D (σ.set i (some v)) H1) : tSeq (tAsg te (gName i)) tz D σ H := h H (Ex.refl H) _ k
theorem eu_tupleM {xs : List V} (ha : EvM ta σ H xs) : EvU (tCB (rTup K) (tCons ta tNil)) σ H xs := fun H1 e Q q =>
  ha H1 e _ fun p H2 e2 h2 => ⟨p, xs, rfl, .inl ⟨SqL.of h2, fun l nl => q l _ (fresh_back e2 nl) (e2.trans (Ex.new nl)) upd_same⟩⟩
/-- what repr can show of d -/
structure Sh (d : PyData) (dp wt : Nat) : Prop where
  s : d.showable = true
  h : d.hasDict = false
  l : PyData.leavesShort 20 d = true
  dd : d.depth ≤ dp
  w : d.weight ≤ wt
structure ShA (ds : List PyData) (dp wt : Nat) : Prop where
  s : PyData.showableAll ds = true
  h : PyData.hasDictAll ds = false
  l : PyData.leavesShortAll 20 ds = true
  dd : PyData.depthAll ds ≤ dp
  w : PyData.weightAll ds ≤ wt
theorem sh_str {x : Str} (h : Lo x) {n : Nat} (hn : x.length ≤ n) : Sh (.str x) 0 n := ⟨rfl, rfl, lv_str h, Nat.zero_le _, hn⟩
theorem sh_int {i : Int} (h : i.natAbs < 10 ^ 13) : Sh (.int i) 0 100 := by
  have lg : i.natAbs.log2 < 64 := by
    by_cases z : i.natAbs = 0
    · rw [z]; decide
    · exact (Nat.log2_lt z).mpr (Nat.lt_trans h (by decide))
  refine ⟨decide_eq_true (by omega), rfl, decide_eq_true ?_, Nat.zero_le _, ?_⟩
  · have e := int_text_length_le10 (k := 13) (by decide) h
    show (Str.ofString (toString i)).length ≤ 20
    rw [PySem.ofString_length]
    omega
  · show (if i == 0 then 0 else i.natAbs.log2 + 1) ≤ 100
    split <;> omega
theorem sh_bl (b : Bool) : Sh (.bool b) 0 0 := ⟨rfl, rfl, rfl, Nat.zero_le _, Nat.zero_le _⟩
theorem sh_non : Sh .none 0 0 := ⟨rfl, rfl, rfl, Nat.zero_le _, Nat.zero_le _⟩
theorem sh_tuple {a b : Nat} (h : ShA ds a b) : Sh (.tuple ds) (a + 1) b := ⟨h.s, h.h, h.l, Nat.succ_le_succ h.dd, h.w⟩
theorem sh_list {a b : Nat} (h : ShA ds a b) : Sh (.list ds) (a + 1) b := ⟨h.s, h.h, h.l, Nat.succ_le_succ h.dd, h.w⟩
theorem sha_nil : ShA [] 0 0 := ⟨rfl, rfl, rfl, Nat.zero_le _, Nat.zero_le _⟩
theorem sha_cons {a b a' b' : Nat} (h : Sh d a b) (r : ShA ds a' b') : ShA (d :: ds) (max a a') (b + 1 + b') := by
  refine ⟨?_, ?_, ?_, ?_, ?_⟩
  · show (d.showable && PyData.showableAll ds) = true
    rw [h.s, r.s]; rfl
  · show (d.hasDict || PyData.hasDictAll ds) = false
    rw [h.h, r.h]; rfl
  · show (PyData.leavesShort 20 d && PyData.leavesShortAll 20 ds) = true
    rw [h.l, r.l]; rfl
  · show max d.depth (PyData.depthAll ds) ≤ _
    have := h.dd
    have := r.dd
    omega
  · show d.weight + 1 + PyData.weightAll ds ≤ _
    have := h.w
    have := r.w
    omega
theorem sha_strs {B n : Nat} (h : ∀ x ∈ ws, Lo x) (hb : ∀ x ∈ ws, x.length ≤ B) (hn : ws.length ≤ n) : ShA (ws.map PyData.str) 0 (n * (B + 1)) := by
  refine ⟨shw_strs ws, hd_strs ws, ?_, Nat.le_of_eq (dep_strs ws), Nat.le_trans (wt_strs hb) (Nat.mul_le_mul_right _ hn)⟩
  clear hn hb
  induction ws with
  | nil => rfl
  | cons x r ih =>
    show (PyData.leavesShort 20 (.str x) && PyData.leavesShortAll 20 (r.map PyData.str)) = true
    rw [ih fun y m => h y (List.mem_cons_of_mem _ m), show PyData.leavesShort 20 (.str x) = true from lv_str (h x List.mem_cons_self)]
    rfl
theorem ev_reprD {a b : Nat} (h : EvD K te σ H d) (s : Sh d a b) (ha : a ≤ 32) (hb : b ≤ 100000) : Ev (tCB (XG.rRepr K) (tCons te tNil)) σ H (.str d.shown) := fun H1 e Q q => h H1 e _ fun v H2 e2 g => by
  refine ⟨v, d, rfl, g, s.s, s.h, Nat.le_trans s.dd ha, ?_, q H2 e2⟩
  have z := PyData.shown_le 20 (by decide) d s.l
  have y := s.w
  refine Nat.le_trans z ?_
  rw [sizeLine_eq]
  omega
end
end T
/-! Own: an own exception, some own classes below a built-in one, whose __init__ says super().__init__(TEXT) and keeps one value. -/
namespace XSp
open PySem PySem.Calls PyProof.Rows PySem.W
abbrev supScope (P : Str) : Scope := { kind := .function, names := [("self", .local), (P, .local), ("__class__", .free), ("super", .globalImplicit)], isGenerator := false, isCoroutine := false, more := [] }
abbrev supArgs (P : Str) (a1 a2 : Pos) : Arguments := { posonlyargs := [], args := [{ arg := "self", annotation := none, pos := a1 }, { arg := P, annotation := none, pos := a2 }], vararg := none, kwonlyargs := [], kw_defaults := [], kwarg := none, defaults := [] }
abbrev supBody (F P txt : Str) (p0 p1 p2 p3 p4 p5 p6 p7 p8 p9 : Pos) : List Stmt :=
  [.Expr (.Call (.Attribute (.Call (.Name "super" p0) [] [] p1) "__init__" p2) [.Constant (.str txt) 0 p3] [] p4) p5, .Assign [.Attribute (.Name "self" p6) F p7] (.Name P p8) p9]
/-- the form of a call of a method off super() -/
def SupForm (txt : Str) (p0 p1 p2 p3 p4 : Pos) : Prop := ∀ env : Env, ∃ pl : Sem Bool, eval (.Call (.Attribute (.Call (.Name "super" p0) [] [] p1) "__init__" p2) [.Constant (.str txt) 0 p3] [] p4) env = (do
      let ov ← attributeBase (.Call (.Name "super" p0) [] [] p1) "__init__" env (eval (.Call (.Name "super" p0) [] [] p1) env)
      standAt p2.atName
      let (f, first) ← holding [ov] (getMethod ov "__init__" pl)
      callWith p4 f first (backTo p4 (starEach [.Constant (.str txt) 0 p3] env)) [])
theorem supForm_ex : SupForm "a" ⟨7, 8, 7, 13⟩ ⟨7, 8, 7, 15⟩ ⟨7, 8, 7, 24⟩ ⟨7, 25, 7, 64⟩ ⟨7, 8, 7, 65⟩ := fun env => ⟨_, rfl⟩
/-- the parameter's name -/
structure PName (P : Str) : Prop where
  cls : (supScope P).names.lookup ("__class__" : Str) = some .free
  sup : (supScope P).names.lookup ("super" : Str) = some .globalImplicit
  own : (supScope P).names.lookup P = some .local
  cell : ∀ x ∈ (supScope P).names, x.2 ≠ .cell
  self_ : (("self" : Str) == P) = false
  dbg : (P == ("__debug__" : Str)) = false
theorem pn_given : PName "given" := ⟨by decide +kernel, by decide +kernel, by decide +kernel, by decide +kernel, by decide +kernel, by decide +kernel⟩
theorem pn_index : PName "index" := ⟨by decide +kernel, by decide +kernel, by decide +kernel, by decide +kernel, by decide +kernel, by decide +kernel⟩
section
variable {prog : Program} {w : World} {A : Around} {R : Result → Shared → Prop} {h : Heap} {g : Array GenState} {d : Drawn} {t : Nat} {os : OsState}
theorem sup_run {K : Frag} {mg : Str → Option Value} {base : Heap} (Mo : L2.Mod K mg base) (kb : ∀ b o, base.get? b = some o → h.get? b = some o)
    {C e t0 fI cc cda : Addr} {F P txt qual : Str} {a1 a2 p0 p1 p2 p3 p4 p5 p6 p7 p8 p9 : Pos} {dV kV doc pm ct oc ccl cl u : Value} {an od cdd cld : Option Addr} {osl ccs csl : Array (Option Value)} {cdC : ClassData} {vs : Array Value} {file : Str} {tf : Tok} {i B : String}
    (hroom : A.depth < recursionLimit)
    (hf : K.lookup fI = some ⟨oc, od, .func (ksFn "__init__" qual (supArgs P a1 a2) (supBody F P txt p0 p1 p2 p3 p4 p5 p6 p7 p8 p9) (supScope P) dV kV doc pm an (.ref cda) ct cc), osl⟩) (hcd : codeIn K (.ref cda) qual = true)
    (hcode : K.lookup cda = some ⟨ccl, cdd, .fields vs, ccs⟩) (hvs : vs[2]? = some (.str file tf)) (hfile : ((prog.main.file : Str) == file) = true)
    (hcell : K.lookup cc = some ⟨cl, cld, .cell (some (.ref C)), csl⟩) (hC : clsIn K C = some cdC) (hsub : mroIn K C (.ref C) = some true) (hsuper : mg "super" = none)
    (htop : (prog.main.scope.names.lookup ("super" : Str)).isSome = false) (hany : nsIn K cStatics "thirdparty.any" = some none)
    (KF : KxsFacts B i) (hm : ks_superIn K C C "__init__" = some (some (.builtin i))) (hB : subIn K (.ref C) (.type B) = some true)
    (he : h.get? e = some (PySem.HandSPX.excO C t0)) (pn : PName P)
    (hbind : BindsTo ⟨h, g, d, t, os⟩ (ksFn "__init__" qual (supArgs P a1 a2) (supBody F P txt p0 p1 p2 p3 p4 p5 p6 p7 p8 p9) (supScope P) dV kV doc pm an (.ref cda) ct cc) ⟨[.ref e, u], []⟩ [("self", .ref e), (P, u)])
    (hev : SupForm txt p0 p1 p2 p3 p4) {newId : String} {bmB : List Value} (FB : ExcBaseFacts B newId i bmB) (SF : StoreFacts B bmB "object.__setattr__" "object") (hI : excInitIn K C bmB newId = true) (hO : excOver K C bmB = true) (hhd : cdC.hasDict = true)
    (hsa : findIn K (.ref C) "__setattr__" = some (some (.builtin "object.__setattr__"))) (hta : takerIn K C F = some none) (hsw : ∀ env : Env, swapsWith (.Name P p8) (some (.Attribute (.Name "self" p6) F p7)) p9.line env = pure false)
    (hne : base.get? e = none) (hq : ∀ h' tk' dx t1, (∀ b o, b ≠ e → h.get? b = some o → h'.get? b = some o) → h.objs.size ≤ dx → h'.get? e = some ({ cls := .ref C, dict := some dx, data := .fields #[.ref t1, .none, .none, .none, .bool false, .none] } : Obj) → h'.Ns1 dx (fun y => if y = F then some u else none) → R (.ok (.ret .none)) ⟨h', g, d, tk', os⟩) :
    codeAny (model prog w) A (.call (.ref fI) ⟨[.ref e, u], []⟩) R ⟨h, g, d, t, os⟩ := by
  have X : K.In h := Mo.kin.keeps kb
  obtain ⟨mb, hb1, hb2⟩ := Mo.blt
  obtain ⟨oD, hD1, hD2⟩ : ∃ oD, h.get? C = some oD ∧ oD.data = .cls cdC := by
    unfold clsIn at hC
    split at hC
    · rename_i c d cd' sl ho
      cases hC
      exact ⟨_, X _ _ ho, rfl⟩
    · cases hC
  refine ks_codeAny_call_defAt (fd := ksFn "__init__" qual (supArgs P a1 a2) (supBody F P txt p0 p1 p2 p3 p4 p5 p6 p7 p8 p9) (supScope P) dV kV doc pm an (.ref cda) ct cc) (body := supBody F P txt p0 p1 p2 p3 p4 p5 p6 p7 p8 p9) (binds := [("self", .ref e), (P, u)]) hroom (X _ _ hf) rfl (Mo.nolimit.keeps kb) (codeRec_of X hcd) rfl hbind pn.cell ?_ (fun h₁ hns hk₁ => ?_)
  · intro x hx
    simp only [List.mem_cons, List.not_mem_nil, or_false] at hx
    rcases hx with rfl | rfl
    · rfl
    · exact pn.own
  · have X1 : K.In h₁ := X.keeps hk₁
    obtain ⟨pl, hev⟩ := hev (callEnv (ksFn "__init__" qual (supArgs P a1 a2) (supBody F P txt p0 p1 p2 p3 p4 p5 p6 p7 p8 p9) (supScope P) dV kV doc pm an (.ref cda) ct cc) h.objs.size fI)
    refine ks_wpAt_execs_cons (ks_wpAt_Expr_any (ks_wpAt_MethodCall ?_ hev))
    refine ks_wpAt_super_base pn.sup pn.cls (by decide) rfl (X1 _ _ hf) rfl rfl rfl (X1 _ _ hcode) rfl hvs hfile htop ?_
    refine ks_loadName_global rfl pn.sup (loadGlobal_builtin (Mo.glob.keeps fun b o z => hk₁ b o (kb b o z)) hsuper (hb1.keeps fun b o z => hk₁ b o (kb b o z)) ((hb2 _ (by decide)).trans (by kernel_rfl)) ⟨rfl, ?_⟩)
    refine wpAny_loadName_free rfl pn.cls rfl ⟨_, X1 _ _ hcell, rfl⟩ ?_
    refine wpAny_loadName_local (v := .ref e) rfl rfl hns ?_ ?_
    · show List.lookup ("self" : Str) [(P, u), ("self", Value.ref e)] = _
      simp [List.lookup, pn.self_]
    refine ks_wpAny_isType_cls (hk₁ _ _ hD1) hD2 ⟨rfl, ?_⟩
    refine ks_wpAny_call_super (hk₁ _ _ hD1) hD2 (hk₁ _ _ he) rfl (fun c z => by cases z) (looks_mroIn X1 hsub) (fun h₂ e2 k2 => ?_)
    have X2 : K.In h₂ := X1.keeps k2
    have he2 := k2 _ _ (hk₁ _ _ he)
    have I2 : InstAt h₂ e (PySem.HandSPX.excO C t0) C none := ⟨he2, rfl, rfl, trivial⟩
    have hI2 : Looks (model prog w) h₂ (isInstance (.ref e) (.type B)) true := I2.type.andThen (looks_subIn X2 hB)
    unfold ks_superIn at hm
    rw [hC] at hm
    refine kxs_getMethod KF e2 (looks_opaque X2 hany) (l₀ := cdC.mro) (fun A Q E s k q => wpAny_bind ((looks_clsIn X2 hC) A _ E s k (wpAny_pure q))) rfl X2 hm hI2 (ks_ne X2 I2 hC) rfl ?_
    refine kxs_callWith (i := i) (x := e) rfl ?_
    refine evalArgs_plain (spliced_more (wpAny_Constant_str (spliced_none ?_)) rfl)
    have hmw : (h₂.push (kxs_mw i e)).get? h₂.objs.size = some (kxs_mw i e) := Heap.get?_push_at rfl rfl
    refine ⟨hmw, ?_⟩
    have k3 : ∀ b o, h₂.get? b = some o → (h₂.push (kxs_mw i e)).get? b = some o := fun b o z => Heap.get?_push_of_some _ z
    have X3 := X2.keeps k3
    have he3 := k3 _ _ he2
    have kk : ∀ b o, h.get? b = some o → (h₂.push (kxs_mw i e)).get? b = some o := fun b o z => k3 _ _ (k2 _ _ (hk₁ _ _ z))
    have kns : ∀ b o, h₁.get? b = some o → (h₂.push (kxs_mw i e)).get? b = some o := fun b o z => k3 _ _ (k2 _ _ z)
    obtain ⟨nm, N', qn, bs, bm, hdct, sn, sub, ab, col, dd, k0, k1, k2', k3', k5, hCo, hT⟩ := excInit_of X3 hI
    generalize h₂.push (kxs_mw i e) = h₃ at hmw X3 he3 kk kns hCo ⊢
    refine wpAny_call (codeAny_of_tree ?_)
    show wpAny _ _ (callAny (.ref h₂.objs.size) ⟨_, []⟩) _ _ _
    simp only [callAny]
    refine wpAny_bind (wpAny_load hmw ?_)
    simp only [kxs_mw, show (Value.type "method-wrapper" == Value.type "method" || Value.type "method-wrapper" == Value.type "builtin_function_or_method" || Value.type "method-wrapper" == Value.type "method-wrapper") = true by decide, if_true]
    refine KFB.if_so (by decide) ?_
    refine wpAny_bind (check_bound_init FB.toExcCallFacts hCo he3 rfl ?_)
    refine wpAny_bind (wpAny_pure (wpAny_pure ?_))
    refine ⟨plainId_quiet FB.init.plain _, codeAny_builtin FB.initEntry ?_⟩
    refine exc_init_tree (cls := .ref C) (t0 := t0) (dv := none) (c2 := .none) (c3 := .none) (b4 := .bool false) he3 (by show 0 + 1 ≤ sizeLine; decide) (fun h₄ k4 e4 t4 => ?_)
    have eK : ∀ {b : Addr} {o : Obj}, K.lookup b = some o → b ≠ e := fun {b o} z y => by
      have := Mo.kin _ _ z
      rw [y, hne] at this
      cases this
    have X4 : K.In h₄ := fun b o z => k4 b o (eK z) (X3 b o z)
    have eL : h.objs.size ≠ e := Nat.ne_of_gt (Heap.lt_size he)
    have hns4 : h₄.Ns h.objs.size (fun x => [(("self" : Str), Value.ref e), (P, u)].reverse.lookup x) := by
      obtain ⟨oL, es, ep, hL, r⟩ := hns
      exact ⟨oL, es, ep, k4 _ _ eL (kns _ _ hL), r⟩
    have I4 : InstAt h₄ e (excRec (.ref C) h₃.objs.size none .none .none (.bool false)) C none := ⟨e4, rfl, rfl, trivial⟩
    refine ks_wpAt_execs_cons (ks_wpAt_Assign_Attr (wpAt_of_wpAny (wpAny_Name (wpAny_loadName_local (v := u) rfl pn.own hns4 ?_ (wpAny_Name (wpAny_loadName_local (v := .ref e) rfl rfl hns4 ?_ ?_) (by decide))) pn.dbg)) (hsw _))
    · show List.lookup P [(P, u), ("self", Value.ref e)] = _
      simp [List.lookup]
    · show List.lookup ("self" : Str) [(P, u), ("self", Value.ref e)] = _
      simp [List.lookup, pn.self_]
    refine set_plain X4 I4 hsa ?_
    refine osa_openX SF X4 I4 hO hta (fun b => ?_)
    show wpAny _ _ (Builtin.ObjectAttr.storeInOwnDict (.ref e) (.ref C) (.str F _) F u b) _ _ _
    have hcls : Looks (model prog w) h₄ (classData C) cdC := looks_clsIn X4 hC
    have hes : e ≠ h₄.objs.size := Nat.ne_of_lt (Heap.lt_size e4)
    have sz : h.objs.size ≤ h₄.objs.size := by
      obtain ⟨oL, es, ep, hL, r⟩ := id hns4
      exact Nat.le_of_lt (Heap.lt_size hL)
    have fin : ∀ h' tk' dx, (∀ b o, b ≠ e → h₄.get? b = some o → h'.get? b = some o) → h₄.objs.size ≤ dx → dx ≠ e → h'.get? e = some ({ cls := .ref C, dict := some dx, data := .fields #[.ref h₃.objs.size, .none, .none, .none, .bool false, .none] } : Obj) →
      h'.Ns1 dx (fun y => if y = F then some u else none) → R (.ok (.ret .none)) ⟨h', g, d, tk', os⟩ := fun h' tk' dx k5 z1 z2 e5 n5 => hq h' tk' dx _ (fun b o hb ho => k5 b o hb (k4 b o hb (kk b o ho))) (Nat.le_trans sz z1) e5 n5
    obtain ⟨nm', bs', mro', ns', qn', hd', sn', sb', ab', col', del'⟩ := cdC
    dsimp only at hhd
    subst hhd
    unfold Builtin.ObjectAttr.storeInOwnDict Builtin.ObjectAttr.ownDictForStores
    repeat (first | with_reducible refine PySem.HandSPX.store_in_new ?_ ?_ | with_reducible refine wpAny_loadPart_at e4 ?_ | with_reducible refine hcls.at ?_ | wp_step)
    · exact ⟨_, #[], _, (Heap.get?_update_ne _ _ _ _ hes.symm).trans (Heap.get?_push_at rfl rfl), rfl, fun e he => absurd he (by simp), fun _ => rfl⟩
    · intro h' tk' hn' hs
      have hx₁ : (h₄.push { cls := .type "dict", data := .dict #[] }).get? e = some (excRec (.ref C) h₃.objs.size none .none .none (.bool false)) := Heap.get?_push_of_some _ e4
      have fin' := fin h' tk' h₄.objs.size (fun b o hb ho => (hs.2 b (Nat.ne_of_lt (Heap.lt_size ho))).trans ((Heap.get?_update_ne _ _ _ _ hb).trans (Heap.get?_push_of_some _ ho))) (Nat.le_refl _) hes.symm ((hs.2 e hes).trans (Heap.get?_update_self _ hx₁ rfl)) hn'
      show PySem.wpAt (model prog w) _ _ (execs [] _) _ _ _
      exact wpAt_of_wpAny (wpAny_execs_nil fin')
end
end XSp
namespace XSp
open PySem PySem.Spec PyProof.Rows L2
/-- what __init__ of such a class does: the object's only field is kept -/
def InitS (prog : Program) (K : PySem.W.Frag) (mg : Str → Option Value) (C fI : Addr) (F : Str) : Prop :=
  ∀ (w : World) (A : Around) (R : Result → Shared → Prop) (h : Heap) (g : Array GenState) (d : Drawn) (t : Nat) (os : OsState) (base : Heap) (e t0 : Addr) (u : Value), L2.Mod K mg base → (∀ b o, base.get? b = some o → h.get? b = some o) → base.get? e = none → A.depth < recursionLimit →
    h.get? e = some (PySem.HandSPX.excO C t0) →
    (∀ h' tk' dx t1, (∀ b o, b ≠ e → h.get? b = some o → h'.get? b = some o) → h.objs.size ≤ dx → h'.get? e = some ({ cls := .ref C, dict := some dx, data := .fields #[.ref t1, .none, .none, .none, .bool false, .none] } : Obj) → h'.Ns1 dx (fun y => if y = F then some u else none) → R (.ok (.ret .none)) ⟨h', g, d, tk', os⟩) →
    codeAny (model prog w) A (.call (.ref fI) ⟨[.ref e, u], []⟩) R ⟨h, g, d, t, os⟩
/-- what is known of such a class -/
structure SupC (prog : Program) (K : PySem.W.Frag) (mg : Str → Option Value) (C : Addr) (F : Str) : Prop where
  init : ∃ fI, PySem.W.findIn K (.ref C) "__init__" = some (some (.ref fI)) ∧ PySem.W.typeIn K (.ref fI) = some (.type "function") ∧ InitS prog K mg C fI F
  base : ∃ (B newId initId : String) (bmB : List Value), ExcBaseFacts B newId initId bmB ∧ PySem.W.excInitIn K C bmB newId = true
  exC : PySem.W.subIn K (.ref C) (.type "BaseException") = some true
  tyC : PySem.W.typeIn K (.ref C) = some (.type "type")
  kC : PySem.W.keepIn K (.ref C) = true
/-- C(e) -/
def tMkS (C : Addr) (F : Str) (ta : TA) : L2.St → Hp → XK → Prop := fun σ H Q => ta σ H fun vs H1 => ∃ v, vs = [v] ∧ ∀ d, H1 d = none → Q (.ref C) (some d) (upd H1 d (.xd [(F, v)]))
section
variable {X : Cx} {e : Expr} {ta : TA} {F x : Str} {C : Addr} {p pos : Pos} {k : Nat}
theorem pmk_sup (T : SupC X.prog X.K X.mg C F) (hr : Room 1 X.A) (hg : Gl X x) (hm : X.mg x = some (.ref C)) (ha : PA X [e] ta)
    (hdb : (x == ("__debug__" : Str)) = false := by decide) (he : starEach [e] X.env = (false, eval e X.env) :: starEach [] X.env := by rfl) (hpl : (backTo pos (starEach [] X.env)).any (·.1) = false := by rfl) :
    PMk X (.Call (.Name x p) [e] [] pos) (tMkS C F ta) := by
  intro pins s σ H Q I h
  obtain ⟨fI, iC, tI, run⟩ := T.init
  obtain ⟨B, newId, initId, bmB, FB, hI⟩ := T.base
  refine wpAny_Call_Name_kw (ld_glob I hg hm ?_ hdb)
  refine PySem.W.callWith_K (h₀ := X.base) I.ok.mod.kin T.kC (thn (ha.run pos pins s σ H _ I h) fun us s1 ⟨vs, H1, I1, r1, v, ev, q1⟩ => ⟨I1.kIn, ?_⟩) he hpl
  show wpAny _ _ (call (.ref C) us) _ _ _
  subst ev
  obtain ⟨u, rfl, ru⟩ : ∃ u, us = [u] ∧ RelV v u := by
    cases r1 with
    | cons a r => cases r with
      | nil => exact ⟨_, rfl, a⟩
  obtain ⟨hp, g, dr, tk, os⟩ := s1
  obtain ⟨nm, N', qn, bs, bm, hdct, sn, sub, ab, col, dd, k0, k1, k2, k3, k5, hC, hT⟩ := PySem.W.excInit_of I1.kIn hI
  have kk : ∀ b o, hp.get? b = some o → ((hp.push (PySem.W.kdv_tup [u])).push (PySem.HandSPX.excO C hp.objs.size)).get? b = some o := fun b o e => Heap.get?_push_of_some _ (Heap.get?_push_of_some _ e)
  have hget : ((hp.push (PySem.W.kdv_tup [u])).push (PySem.HandSPX.excO C hp.objs.size)).get? (hp.objs.size + 1) = some (PySem.HandSPX.excO C hp.objs.size) := by heap_get
  have nB : X.base.get? (hp.objs.size + 1) = none := by
    cases z : X.base.get? (hp.objs.size + 1) with
    | none => rfl
    | some o =>
      exact absurd (Nat.lt_trans (Nat.lt_succ_self _) (Heap.lt_size (show hp.get? (hp.objs.size + 1) = some o from I1.bk _ _ z))) (Nat.lt_irrefl _)
  refine wpAny_call (PySem.HandSPX.call_own FB hT hC (PySem.W.looks_findIn I1.kIn iC) (fun self => PySem.W.bind_fn I1.kIn self tI) (by show 1 ≤ sizeLine; decide) ?_)
  refine run _ _ _ _ _ _ _ _ X.base (hp.objs.size + 1) hp.objs.size u I1.ok.mod (fun b o z => kk b o (I1.bk b o z)) nB (hr.make C [u] []).depth hget (fun h' tk' dx t1 k1 z1 e1 n1 => ⟨rfl, ?_⟩)
  obtain ⟨G, g1, g2⟩ := restrict h' fun b => decide (b ≠ hp.objs.size + 1)
  have gk : ∀ b, b ≠ hp.objs.size + 1 → G.get? b = h'.get? b := fun b hb => g1 b (decide_eq_true hb)
  have ge : G.get? (hp.objs.size + 1) = none := g2 _ (by simp)
  have nha : ∀ {b : Addr} {o : Obj}, hp.get? b = some o → b ≠ hp.objs.size + 1 := fun {b o} z => Nat.ne_of_lt (Nat.lt_succ_of_lt (Heap.lt_size z))
  have dne : dx ≠ hp.objs.size + 1 := fun z => by
    obtain ⟨o, es, ep, q1, q2, q3⟩ := n1
    rw [z, e1] at q1
    cases q1
    cases q2
  have hsz : hp.objs.size ≤ dx := by
    rw [Heap.size_push, Heap.size_push] at z1
    omega
  have n1' : G.Ns1 dx (fun y => if y = F then some u else none) := n1.at fun o y => (gk dx dne).trans y
  have J : Inv X pins σ (upd H1 dx (.xd [(F, v)])) ⟨G, g, dr, tk', os⟩ := I1.laid (t' := tk') (a := dx) (o := .xd [(F, v)]) (h' := G) (fun b o z => (gk b (nha z)).trans (k1 b o (nha z) (kk b o z))) hsz ⟨_, n1', fun f => relO_put (fs := []) (mA := fun _ => none) ru (fun _ => trivial) f⟩
  have hn : H1 dx = none := I1.hok.fresh hsz
  refine ⟨hp.objs.size + 1, _, _, ⟨G, g, dr, tk', os⟩, _, .ref C, some dx, rfl, J, fun b o z => ?_, ge, e1, ⟨rfl, rfl⟩, rfl, rfl, ?_, rfl, I1.bare, raises_own T.exC T.tyC, q1 dx hn⟩
  · by_cases hb : b = hp.objs.size + 1
    · rw [hb, ge] at z
      cases z
    · exact (gk b hb).symm.trans z
  · rw [upd_ne dne.symm]
    exact I1.hok.fresh (Nat.le_succ _)
end
end XSp
namespace XSp
open PySem PySem.Calls PyProof.Rows PySem.W
theorem exc_facts {K : Frag} {C : Addr} {nm q : Str} {N : Addr} {bs bm : List Value} {sn : List Str} {sub : List Value} {ab : Bool} {col : Option Bool} {dd : Option Addr} {m0 m1 m2 m3 m5 : Option Value} {newId : String} {bmB : List Value}
    (xL : K.lookup C = some (excClassObj nm q C N bs bm true sn sub ab col dd m0 m1 m2 m3 m5 newId)) (ht : excTail bmB bm = true) :
    excInitIn K C bmB newId = true ∧ excOver K C bmB = true ∧ ∃ cd, clsIn K C = some cd ∧ cd.hasDict = true := by
  have hcl : clsIn K C = some { name := nm, bases := bs, mro := .ref C :: bm, ns := N, qualname := q, hasDict := true, slotNames := sn, subclasses := sub, abstract := ab, collection := col, hasDel := false } := by unfold clsIn; rw [xL] <;> rfl
  refine ⟨?_, ?_, _, hcl, rfl⟩
  · unfold excInitIn
    rw [xL]
    show (C == C && newId == newId && !false && excTail bmB bm) = true
    rw [ht, beq_self_eq_true, beq_self_eq_true]
    rfl
  · unfold excOver
    rw [hcl]
    show (C == C && excTail bmB bm) = true
    rw [ht, beq_self_eq_true]
    rfl
theorem taker_none {K : Frag} {C : Addr} {name : Str} (h : findIn K (.ref C) name = some none) : takerIn K C name = some none := by
  unfold takerIn
  rw [h]
  rfl
theorem supC_mk {prog : Program} {K : Frag} {mg : Str → Option Value} {h : Heap} (X : K.In h) (G : h.Ns mainGlobals mg)
    {C fI cc cda : Addr} {F txt qual : Str} {a1 a2 p0 p1 p2 p3 p4 p5 p6 p7 p8 p9 : Pos} {dV kV doc pm ct oc ccl cl : Value} {an od cdd cld : Option Addr} {osl ccs csl : Array (Option Value)} {vs : Array Value} {file : Str} {tf : Tok} {i B newId : String} {bmB : List Value} {sA : Arguments} {sB : List Stmt} {sS : Scope}
    {nm q : Str} {N : Addr} {bs bm : List Value} {sn : List Str} {sub : List Value} {ab : Bool} {col : Option Bool} {dd : Option Addr} {m0 m1 m2 m3 m5 : Option Value}
    (eA : sA = supArgs F a1 a2) (eB : sB = supBody F F txt p0 p1 p2 p3 p4 p5 p6 p7 p8 p9) (eS : sS = supScope F) (pn : PName F)
    (iC : findIn K (.ref C) "__init__" = some (some (.ref fI))) (tI : typeIn K (.ref fI) = some (.type "function"))
    (hf : K.lookup fI = some ⟨oc, od, .func (ksFn "__init__" qual sA sB sS dV kV doc pm an (.ref cda) ct cc), osl⟩) (hcd : codeIn K (.ref cda) qual = true)
    (hcode : K.lookup cda = some ⟨ccl, cdd, .fields vs, ccs⟩) (hvs : vs[2]? = some (.str file tf)) (hfile : ((prog.main.file : Str) == file) = true)
    (hcell : K.lookup cc = some ⟨cl, cld, .cell (some (.ref C)), csl⟩) (xL : K.lookup C = some (excClassObj nm q C N bs bm true sn sub ab col dd m0 m1 m2 m3 m5 newId)) (ht : excTail bmB bm = true)
    (hsub : mroIn K C (.ref C) = some true) (zs : nsIn K mainGlobals "super" = some none) (htop : (prog.main.scope.names.lookup ("super" : Str)).isSome = false) (hany : nsIn K cStatics "thirdparty.any" = some none)
    (KF : KxsFacts B i) (hm : ks_superIn K C C "__init__" = some (some (.builtin i))) (hB : subIn K (.ref C) (.type B) = some true)
    (hev : SupForm txt p0 p1 p2 p3 p4) (FB : ExcBaseFacts B newId i bmB) (SF : StoreFacts B bmB "object.__setattr__" "object")
    (hsa : findIn K (.ref C) "__setattr__" = some (some (.builtin "object.__setattr__"))) (hno : findIn K (.ref C) F = some none) (hsw : ∀ env : Env, swapsWith (.Name F p8) (some (.Attribute (.Name "self" p6) F p7)) p9.line env = pure false)
    (hbd : ∀ (s : Shared) (e : Addr) (u : Value), BindsTo s (ksFn "__init__" qual sA sB sS dV kV doc pm an (.ref cda) ct cc) ⟨[.ref e, u], []⟩ [("self", .ref e), (F, u)])
    (exC : subIn K (.ref C) (.type "BaseException") = some true) (tyC : typeIn K (.ref C) = some (.type "type")) (kC : keepIn K (.ref C) = true) : SupC prog K mg C F := by
  subst eA eB eS
  obtain ⟨hI, hO, cd, hC, hhd⟩ := exc_facts xL ht
  refine ⟨⟨fI, iC, tI, ?_⟩, ⟨B, newId, i, bmB, FB, hI⟩, exC, tyC, kC⟩
  intro w A R h g d t os base e t0 u Mo kb hne hroom he hq
  exact sup_run Mo kb hroom hf hcd hcode hvs hfile hcell hC hsub (mg_none_of X G zs) htop hany KF hm hB he pn (hbd _ _ _) hev FB SF hI hO hhd hsa (taker_none hno) hsw hne hq
end XSp
/-! Own: a caught error that carries fields: its fields read, isinstance of it. -/
namespace XSp
open PySem PySem.Spec PyProof.Rows L2
/-- what the class at D says where an instance of it is asked -/
structure AskC (K : PySem.W.Frag) (D : Addr) : Prop where
  ga : PySem.W.findIn K (.ref D) "__getattribute__" = some (some (.builtin "BaseException.__getattribute__"))
  gg : PySem.W.findIn K (.ref D) "__getattr__" = some none
  ex : PySem.W.subIn K (.ref D) (.type "BaseException") = some true
  hd : PySem.W.hasDictIn K D = true
  ha : PySem.W.findIn K (.ref D) "__class__" = some (some (.builtin "object.__class__"))
  hn : PySem.W.specialIn K (.builtin "object.__class__") "__get__" = some (some (.builtin "getset_descriptor.__get__"))
  ht : PySem.W.takesIn K (.builtin "object.__class__") = some true
  hm : PySem.W.mroIn K D (.type "object") = some true
/-- the caught one is of D and has the fields fs -/
def Held (K : PySem.W.Frag) (cls : Value) (d : Option Addr) (D : Addr) (fs : List (Str × V)) (H : Hp) : Prop := cls = .ref D ∧ AskC K D ∧ ∃ dd, d = some dd ∧ H dd = some (.xd fs)
section
variable {X : Cx} {a D : Addr} {oe : Obj} {pn pins : List (Addr × Obj)} {cls : Value} {d : Option Addr} {σ : L2.St} {H : Hp} {s : Shared} {fs : List (Str × V)}
theorem held_at (hz : Zc cls d oe) (hf : ∃ vs, oe.data = .fields vs) (h : Held X.K cls d D fs H) (I : Inv (X.suite a ((a, oe) :: pn)) pins σ H s) : ∃ (od : Obj) (mA : Str → Option Value), PySem.W.InstAt s.heap a oe D (some od) ∧ (∀ f, PySem.W.lookIn f od = some (mA f)) ∧ ∀ f, RelO (fs.lookup f) (mA f) := by
  obtain ⟨rfl, _, dd, rfl, ea⟩ := h
  obtain ⟨ha, _⟩ := I.pin (a, oe) (List.mem_append_left _ List.mem_cons_self)
  obtain ⟨vs, hd⟩ := hf
  have hx : ObjOk X.prog X.w H s.heap dd (.xd fs) := I.hok dd _ ea
  obtain ⟨mA, hns, hr⟩ := hx
  obtain ⟨od, ho, hl⟩ := lookIn_ns hns
  exact ⟨od, mA, ⟨ha, hz.1, by unfold PySem.W.notCls; rw [hd] <;> rfl, by rw [hz.2]; exact ho⟩, hl, hr⟩
/-- e.f -/
def tOf (K : PySem.W.Frag) (a : Addr) (cls : Value) (d : Option Addr) (f : Str) (te : TE) : TE := fun σ H Q => te σ H fun x H1 => x = .ref a ∧ ∃ D fs v, Held K cls d D fs H1 ∧ PySem.W.findIn K (.ref D) f = some none ∧ fs.lookup f = some v ∧ Q v H1
theorem pe_of {e : Expr} {te : TE} {f : Str} {pos : Pos} (hz : Zc cls d oe) (hf : ∃ vs, oe.data = .fields vs) (he : PE (X.suite a ((a, oe) :: pn)) e te) (hb : attributeBase e f X.env (eval e X.env) = eval e X.env) :
    PE (X.suite a ((a, oe) :: pn)) (.Attribute e f pos) (tOf X.K a cls d f te) := by
  refine ⟨fun pins s σ H Q I h => ?_⟩
  refine attr_of hb (thn (he.run pins s σ H _ I h) fun u s1 ⟨x, H1, I1, rx, ex, D, fs, v, hh, no, hv, q⟩ => ?_)
  subst ex
  obtain rfl : u = Value.ref a := rx
  obtain ⟨od, mA, J, hl, hr⟩ := held_at hz hf hh I1
  obtain ⟨u, hu, ru⟩ := RelO.some_of (v := v) (o := mA f) (by rw [← hv]; exact hr f)
  have C := hh.2.1
  exact HandSPX.exc_get I1.kIn J C.ga C.gg C.ex (PySem.W.findObj_own C.hd no rfl (by rw [hl, hu])) (handed_of ru) ⟨v, H1, I1.tok _, ru, q⟩
/-- isinstance(e, c) -/
def rAsk (K : PySem.W.Frag) (a : Addr) (cls : Value) (d : Option Addr) : List V → Hp → VK → Prop := fun xs H Q => ∃ (c : V) (cv : Value) (b : Bool) (D : Addr) (fs : List (Str × V)), xs = [.ref a, c] ∧ (∀ u, RelV c u → u = cv) ∧ Held K cls d D fs H ∧ PySem.W.kitOne K (.ref D) cv = some b ∧ Q (.bl b) H
theorem call_ask (hz : Zc cls d oe) (hf : ∃ vs, oe.data = .fields vs) : CallR (X.suite a ((a, oe) :: pn)) (.builtin "isinstance") (rAsk X.K a cls d) := by
  intro pins s σ H xs us Q I r h
  obtain ⟨c, cv, b, D, fs, rfl, hcv, hh, e, q⟩ := h
  obtain ⟨od, mA, J, _⟩ := held_at hz hf hh I
  have C := hh.2.1
  have hcl : (PySem.W.clsIn X.K D).isSome = true := by
    obtain ⟨cd, hc, _⟩ := PySem.W.any_some C.hd
    rw [hc]
    rfl
  cases r with
  | cons rx rr =>
    cases rr with
    | cons rt rr =>
      cases rr
      cases rx
      have ec := hcv _ rt
      subst ec
      exact PySem.W.kia_one (PySem.W.kitx_exc hcl C.ga C.gg C.ex C.ha C.hn C.ht C.hm) I.kIn J e (fun z => nomatch z) fun tk => ⟨.bl b, H, I.kept (t' := tk) fun _ _ z => z, rfl, q⟩
end
end XSp
/-! Own: except (A, B, C) as e. -/
namespace XSp
open PySem PySem.Spec PyProof.Rows L2
theorem keeps_push {h : Heap} {o : Obj} : ∀ b u, h.get? b = some u → (h.push o).get? b = some u := fun _ _ z => Heap.get?_push_of_some _ z
theorem flying_push {B h : Heap} {l : List Env} {e : Addr} {Z : Obj → Prop} {o : Obj} (f : HandSPX.FlyingZ B l e Z h) : HandSPX.FlyingZ B l e Z (h.push o) := by
  obtain ⟨f1, f2, f3, oe, vs, T, oT, ts, g1, g2, g3, g4, g5, g6, g7, g8⟩ := f
  exact ⟨fun b u z => keeps_push b u (f1 b u z), f2, Heap.FunFrames.of_keeps (fun b u z _ => ⟨u, keeps_push b u z, rfl⟩) f3, oe, vs, T, oT, ts, keeps_push _ _ g1, g2, g3, g4, g5, g6, keeps_push _ _ g7, g8⟩
/-- what the clause wishes of an exception of the body -/
def wTup (K : PySem.W.Frag) (cs : List Value) (i len : Nat) (ts : Addr → Value → Option Addr → TS) (Wout : WX) (D : Ends) : WX := fun cls d σ H =>
  ∃ b, PySem.W.exmAny K cls cs = some b ∧ (b = true → ∀ a, H a = none → σ.length = len → ts a cls d { nx := fun σ' H' => D.nx (σ'.set i none) H', rt := D.rt, bk := fun σ' H' => D.bk (σ'.set i none) H', ct := fun σ' H' => D.ct (σ'.set i none) H' } (σ.set i (some (.ref a))) H) ∧
    (b = false → Wout cls d σ H)
section
variable {X : Cx} {n : Str} {c1 c2 c3 : Value} {i : Nat} {body suite : List Stmt} {b₀ : Stmt} {pos pos' : Pos} {tb : WX → TS} {ts : Addr → Value → Option Addr → TS} {Wout : WX} {x1 x2 x3 : Str} {p1 p2 p3 tp : Pos} {kk : Nat}
/-- a name of a class, read in a suite -/
theorem name_at {x : Str} {c : Value} {p : Pos} {Y : Cx} {E : Value → Shared → Prop} {Q : Value → Shared → Prop} {pins : List (Addr × Obj)} {σ : L2.St} {H : Hp} {s : Shared} (I : Inv Y pins σ H s) (hc : Names Y x c) (q : Q c s) : wpAny (model Y.prog Y.w) Y.A (eval (.Name x p) Y.env) Q E s := by
  obtain ⟨hg, hd, hm | ⟨hm, hv, hn⟩⟩ := hc
  · exact ld_glob I hg hm q hd
  · exact ld_blt I hg hm hv q hn hd
theorem ps_try_tup3 (hs : X.stack = X.env :: X.outer) (hf : X.env.frame = some X.env.locals) (hN : X.N.Nodup) (hi : X.N[i]? = some n) (hln : X.env.kindOf n = some .local) (n1 : Names X x1 c1) (n2 : Names X x2 c2) (n3 : Names X x3 c3) (tk : Takes X Wout)
    (hb : ∀ (W : WX) (pn : List (Addr × Obj)) (xe : Value → Shared → Prop), Takes (X.tr pn xe) W → PassesOwn (model X.prog X.w) X.A X.env xe → PSs (X.tr pn xe) body (tb W))
    (hsu : ∀ (a : Addr) (oe : Obj) (cls : Value) (d : Option Addr) (pn : List (Addr × Obj)), Zc cls d oe → (∃ vs, oe.data = .fields vs) → PSs (X.suite a ((a, oe) :: pn)) (b₀ :: suite) (ts a cls d)) :
    PS X (.Try body [.ExceptHandler (some (.Tuple [.Name x1 p1, .Name x2 p2, .Name x3 p3] kk tp)) (some n) (b₀ :: suite) pos'] [] [] pos) (fun D σ H => tb (wTup X.K [c1, c2, c3] i X.N.length ts Wout D) D σ H) := by
  refine ⟨fun pins s σ H D I h => wpAny_Try_except ?_⟩
  have ok := I.ok
  have frs_ : X.A.frames = some (X.env :: X.outer) := by rw [ok.frames, hs]
  refine wpAny_mono ((hb _ (X.pn ++ pins) _ ?takes PassesOwn.looking).run [] s σ H D (I.toTry _) h) (fun f s1 hsp => ?after) (fun e s1 he => he)
  case after =>
    cases f with
    | next =>
      obtain ⟨_, _, J, q⟩ := hsp
      exact wpAny_execs_nil ⟨_, _, J.ofTry ok, q⟩
    | brk =>
      obtain ⟨_, _, J, q⟩ := hsp
      exact ⟨_, _, J.ofTry ok, q⟩
    | cont =>
      obtain ⟨_, _, J, q⟩ := hsp
      exact ⟨_, _, J.ofTry ok, q⟩
    | ret u =>
      obtain ⟨_, _, _, J, r, q⟩ := hsp
      exact ⟨_, _, _, J.ofTry ok, r, q⟩
  case takes =>
    intro u s' xx
    obtain ⟨a, B, sI, pins', σ', H', cls, d, rfl, J', nb, up, sky, na, os, ag, b, hb1, hyes, hno⟩ := xx
    have J : Inv X pins σ' H' sI := J'.ofTry ok
    rw [hs] at sky
    refine Sky.land Zc.steady frs_ hf sky fun h3 fl3 up3 => ?_
    have up13 := up.trans up3
    have J3 : Inv X pins σ' H' { s' with heap := h3 } := J.landed nb fl3.1 up13 os ag
    obtain ⟨oe3, vs3, he3, hz3, hd3⟩ := fl3.there
    have out : a ∉ frs (X.env :: X.outer) := fun m => by
      obtain ⟨_, o', e', nf⟩ := fl3.2.2.1.mem m
      rw [he3] at e'
      cases e'
      exact nf _ hd3
    have nL : a ≠ X.env.locals := fun z => out (List.mem_filterMap.mpr ⟨X.env, List.mem_cons_self, by rw [hf, z]⟩)
    have nF : a ∉ X.fs := fun m => by
      obtain ⟨e, he, q⟩ := List.mem_filterMap.mp m
      exact out (List.mem_filterMap.mpr ⟨e, List.mem_cons_of_mem _ he, q⟩)
    have S3 := J3.suite he3 hd3 na nL nF
    refine wpAny_handleBy_cons (codeAny_handlers_test (wpAny_Tuple ?_)) (by intro q; cases q)
    have N : ∀ {x c}, Names X x c → Names (X.suite a ((a, oe3) :: (X.pn ++ pins))) x c := fun h => h
    refine wpAny_items_cons (name_at (Y := X.suite a ((a, oe3) :: (X.pn ++ pins))) S3 (N n1) (wpAny_items_cons (name_at (Y := X.suite a ((a, oe3) :: (X.pn ++ pins))) S3 (N n2) (wpAny_items_cons (name_at (Y := X.suite a ((a, oe3) :: (X.pn ++ pins))) S3 (N n3) (wpAny_items_nil ⟨by show 3 ≤ sizeLine; decide, ?_⟩))))))
    have LT : PySem.W.Looks (model X.prog X.w) (h3.push { cls := .type "tuple", data := .seq [c1, c2, c3].toArray }) (typeOf (.ref a)) cls := fun A Q E s k q => wpAny_typeOf_ref (k _ _ (keeps_push _ _ he3)) (by rw [hz3.1]; exact q)
    refine (PySem.W.exm_tup3 (M := model X.prog X.w) (J3.kIn.keeps keeps_push) LT (Heap.get?_push_size h3 rfl) hb1).here ?_
    have fl5 := flying_push (o := { cls := .type "tuple", data := .seq [c1, c2, c3].toArray }) fl3
    have up5 := up13.trans (Heap.UpToSlots.of_keeps (keeps_push (h := h3) (o := { cls := .type "tuple", data := .seq [c1, c2, c3].toArray })))
    cases b with
    | true =>
      refine codeAny_handlers_suite_as (HandSPX.lands_againZ fl5 fun h4 fl4 up4 => ?_)
      have J4 : Inv X pins σ' H' { s' with heap := h4 } := J.landed nb fl4.1 (up5.trans up4) os ag
      obtain ⟨oe4, vs4, he4, hz4, hd4⟩ := fl4.there
      refine store_ok (X := X.suite a ((a, oe4) :: (X.pn ++ pins))) (v := .ref a) (J4.suite he4 hd4 na nL nF) hN hi (.inl hln) rfl (fun s5 S5 => ?_) (.inr hln)
      refine wpAny_mono ((hsu a oe4 cls d (X.pn ++ pins) hz4 ⟨_, hd4⟩).run [] s5 _ H' _ S5 (hyes rfl a na J.len)) (fun f s6 hsp => ?_) (fun _ _ z => False.elim z)
      cases f with
      | next =>
        obtain ⟨_, _, S6, q6⟩ := hsp
        exact gone_ok (S6.unsuite ok) hN hi hln fun s7 J7 => ⟨_, _, J7, q6⟩
      | brk =>
        obtain ⟨_, _, S6, q6⟩ := hsp
        exact gone_ok (S6.unsuite ok) hN hi hln fun s7 J7 => ⟨_, _, J7, q6⟩
      | cont =>
        obtain ⟨_, _, S6, q6⟩ := hsp
        exact gone_ok (S6.unsuite ok) hN hi hln fun s7 J7 => ⟨_, _, J7, q6⟩
      | ret u =>
        obtain ⟨_, _, _, S6, r6, q6⟩ := hsp
        exact gone_ok (S6.unsuite ok) hN hi hln fun s7 J7 => ⟨_, _, _, J7, r6, q6⟩
    | false =>
      refine wpAny_handleBy_nil ?_
      obtain ⟨_, _, _, oe, vs, T, oT, ts', he, hz, hd, h1, _⟩ := id fl5
      unfold PySem.passOn
      refine wpAny_bind (wpAny_field he hd h1 ?_)
      rw [if_neg (show ¬ ((Value.ref T == Value.none) = true) from by simp), hf]
      have fin : wpAny (model X.prog X.w) X.A (setFlight (.ref a) (some X.env.locals)) (fun _ s4 => wpAny (model X.prog X.w) X.A (throw (.ref a) : Sem Flow) (SP X pins D) X.xe s4) X.xe { s' with heap := h3.push { cls := .type "tuple", data := .seq [c1, c2, c3].toArray } } :=
        HandSPX.setFlight_upZ fl5 fun h4 hh4 up4 => wpAny_throw (tk _ _ ⟨a, B, sI, pins, σ', H', cls, d, rfl, J, nb, up5.trans up4, .inr (.inr (by rw [hs]; exact hh4)), na, os, ag, hno rfl⟩)
      first
        | exact wpAny_bind (wpAny_pure (wpAny_bind fin))
        | exact wpAny_bind fin
end
end XSp
/-! Own: xs.count(y), flat items. -/
namespace XSp
open PySem PySem.Spec PyProof.Rows L2
def rCntF (K : PySem.W.Frag) : V → List V → Hp → VK → Prop := fun x xs H Q => ∃ (a : Addr) (ys : List V) (y : V), x = V.ref a ∧ xs = [y] ∧ SqL K H a ys ∧ flatV y = true ∧ ys.all flatV = true ∧ Q (.int (ys.countP fun z => eqV z y : Nat)) H
theorem countP_vals {y : V} {ys : List V} {its : List Value} (r : Vals ys its) (f : ys.all flatV = true) : its.countP (eqU y) = ys.countP fun z => eqV z y := by
  induction r with
  | nil => rfl
  | cons h r ih =>
    rw [List.all_cons, Bool.and_eq_true] at f
    rw [List.countP_cons, List.countP_cons, ih f.2, eqU_of h f.1]
theorem mt_cntF {X : Cx} : MtR X "list.count" (rCntF X.K) := by
  intro pins s σ H x xs v us Q I rx rxs h
  obtain ⟨a, ys, y, rfl, rfl, hs, fy, fys, q⟩ := h
  cases rx
  cases rxs with
  | cons ry rt =>
    rename_i uy ut
    cases rt
    obtain ⟨its, rv, ⟨⟨cls, dd, data, sl⟩, n, ho, hc, hdn, hd⟩, hlen⟩ := I.list hs
    simp only at hc hd
    subst hc hd
    refine call_meets PySem.F.slot_list_count ⟨_, ho, rfl⟩ PySem.F.entry_list_count (PySem.F.args_list_count_2 _ _)
      (SeqAt.list_countAt a its.toArray n dd sl uy (eqU y)) ⟨ho, fun u hu => mem_eqAt ry fy rv fys u (by simpa using hu), ?_⟩
    have ec : its.toArray.toList.countP (eqU y) = ys.countP fun z => eqV z y := countP_vals rv fys
    refine ⟨.int (ys.countP fun z => eqV z y : Nat), H, I.tok _, ⟨s.toks, ?_⟩, q⟩
    show Value.int ((its.toArray.toList.countP (eqU y) : Nat) : Int) s.toks = _
    rw [ec]
end XSp
/-! Own: the end of a law whose defs make lambdas and which is called where no repr runs. -/
namespace XG
open PySem PySem.Spec PyProof.Rows L2
/-- cs: code objects of defs with their tables, which are empty in h and stand outside K -/
structure Tabd (K : PySem.W.Frag) (cs : List (Addr × Addr)) (h : Heap) : Prop where
  hd : ∀ p ∈ cs, PySem.W.CodeHd h p.1 p.2
  no : ∀ p ∈ cs, h.get? p.2 = some (PySem.W.tabObj #[])
  out : ∀ p ∈ cs, K.lookup p.2 = none
section
variable {K : PySem.W.Frag} {cs : List (Addr × Addr)} {h : Heap}
theorem Tabd.mem (T : Tabd K cs h) {b : Addr} (m : b ∈ cs.map (·.2)) : h.get? b = some (PySem.W.tabObj #[]) ∧ K.lookup b = none := by
  obtain ⟨p, hp, rfl⟩ := List.mem_map.mp m
  exact ⟨T.no p hp, T.out p hp⟩
theorem Tabd.nil : Tabd K [] h := ⟨fun _ m => (List.not_mem_nil m).elim, fun _ m => (List.not_mem_nil m).elim, fun _ m => (List.not_mem_nil m).elim⟩
theorem Tabd.cons {c p : Addr} (T : Tabd K cs h) (h1 : PySem.W.CodeHd h c p) (h2 : h.get? p = some (PySem.W.tabObj #[])) (h3 : K.lookup p = none) : Tabd K ((c, p) :: cs) h :=
  ⟨fun _ m => (List.mem_cons.mp m).elim (fun e => by rw [e]; exact h1) (T.hd _), fun _ m => (List.mem_cons.mp m).elim (fun e => by rw [e]; exact h2) (T.no _), fun _ m => (List.mem_cons.mp m).elim (fun e => by rw [e]; exact h3) (T.out _)⟩
/-- what the walk may hold at the start: the empty tables, and the script at a -/
def Begun (K : PySem.W.Frag) (cs : List (Addr × Addr)) (a : Addr) (H : Hp) : Prop :=
  (∀ p ∈ cs, H p.2 = some (.tbl #[])) ∧ ∀ b u, H b = some u → (b ∈ cs.map (·.2) ∧ u = .tbl #[]) ∨ (b = a ∧ K.lookup a = none ∧ ∃ o xs, u = .frz o (.lst xs))
end
theorem end_tab {P : Program} {w : World} {K : PySem.W.Frag} {mg mb : Str → Option Value} {k : Nat} {fa a : Addr} {fd : FuncData} {x : Str} {sp : Sp} {z : Shared} {vs : List Value} {ns : List Int} {cs : List (Addr × Addr)}
    (KX : K.In z.heap) (hns : z.heap.Ns mainGlobals mg) (hb : z.heap.Ns builtinsNs mb) (hbb : ∀ x : Str, x ≠ "__name__" → mb x = bootBuiltins x) (hlim : z.heap.NoLimit) (hg : z.gens = #[]) (T : Tabd K cs z.heap)
    (hmod : ∃ (m : Addr) (ob : Obj), mg "__builtins__" = some (.ref m) ∧ m ≠ builtinsNs ∧ z.heap.get? m = some ob ∧ ob.cls = .type "module" ∧ ob.dict = some builtinsNs ∧ ob.data = .plain)
    (ha : z.heap.get? a = some { cls := .type "list", data := .seq vs.toArray }) (hi : IntsAre vs ns) (hl : ns.length ≤ sizeLine) (hr : Room k callerA)
    (F : ∀ base : Heap, K.In base → base.Ns mainGlobals mg → (∀ p ∈ cs, LamX.TabB base mg p.1 p.2) → FnG P w K mg base CX0 k fa fd [x] sp) (hbind : ∀ (s : Shared) (u : Value), BindsTo s fd ⟨[u], []⟩ [(x, u)])
    (hsp : ∀ H : Hp, (∀ p ∈ cs, H p.2 = some (.tbl #[])) → SqL K H a (ns.map V.int) → sp [.ref a] H (fun v _ => v = .bl true) fun _ _ _ => False) :
    codeAny (model P w) callerA (.call (.ref fa) ⟨[.ref a], []⟩) (fun r s' => r = .ok (.ret (.bool true)) ∧ OldK z.heap s'.heap ∧ s'.os = z.os ∧ AllBare s'.gens) z := by
  have aOut : a ∉ cs.map (·.2) := fun m => by
    have e := (T.mem m).1
    rw [ha] at e
    exact absurd (congrArg Obj.data (Option.some.inj e)) (fun y => by cases y)
  have go : ∀ H : Hp, Begun K cs a H → SqL K H a (ns.map V.int) → HOk P w H z.heap →
      codeAny (model P w) callerA (.call (.ref fa) ⟨[.ref a], []⟩) (fun r s' => r = .ok (.ret (.bool true)) ∧ OldK z.heap s'.heap ∧ s'.os = z.os ∧ AllBare s'.gens) z := by
    intro H hB hS hok
    obtain ⟨hT, hO⟩ := hB
    -- what is neither a list nor an empty table is not held
    have free : ∀ {b : Addr} {o : Obj}, z.heap.get? b = some o → (∀ us n, o.data ≠ .seq us n) → o.data ≠ .fields #[] → H b = none := fun {b o} e d1 d2 => by
      cases q : H b with
      | none => rfl
      | some u =>
        rcases hO b u q with ⟨m, _⟩ | ⟨rfl, _⟩
        · rw [(T.mem m).1] at e
          exact absurd (by rw [← Option.some.inj e]) d2
        · rw [ha] at e
          exact absurd (by rw [← Option.some.inj e]) (d1 vs.toArray 0)
    have keep : ∀ {b : Addr} {o : Obj}, z.heap.get? b = some o → (∀ us n, o.data ≠ .seq us n) → o.data ≠ .fields #[] → (hidT z.heap H).get? b = some o := fun e d1 d2 => hidT_get e (free e d1 d2)
    have nsO : ∀ {b : Addr} {m : Str → Option Value}, z.heap.Ns b m → (hidT z.heap H).Ns b m := fun {b m} n => by
      obtain ⟨o, es, ep, e, d, r⟩ := n
      exact ⟨o, es, ep, keep e (fun us n q => by rw [d] at q; cases q) (fun q => by rw [d] at q; cases q), d, r⟩
    have kb : K.In (hidT z.heap H) := fun b o e => by
      refine hidT_get (KX b o e) ?_
      cases q : H b with
      | none => rfl
      | some u =>
        rcases hO b u q with ⟨m, _⟩ | ⟨rfl, n, _⟩
        · rw [(T.mem m).2] at e; cases e
        · rw [n] at e; cases e
    obtain ⟨mc, c1, c2⟩ := hlim
    have M : Mod K mg (hidT z.heap H) := ⟨kb, nsO hns, ⟨mb, nsO hb, hbb⟩, mc, nsO c1, c2⟩
    have gN : ∀ p ∈ cs, mainGlobals ≠ p.2 := fun p hp e => by
      obtain ⟨o, es, ep, e1, d, _⟩ := hns
      rw [e, T.no p hp] at e1
      rw [← Option.some.inj e1] at d
      cases d
    have TB : ∀ p ∈ cs, LamX.TabB (hidT z.heap H) mg p.1 p.2 := fun p hp => by
      refine ⟨?_, ?_, gN p hp⟩
      · obtain ⟨o, us, q⟩ := T.hd p hp
        obtain ⟨fl, tf, fg, tg, inF, tx, tt, e1, r1, r2, r3, q⟩ := q
        refine ⟨o, us, fl, tf, fg, tg, inF, tx, tt, keep e1 (fun us n y => by rw [r2] at y; cases y) (fun y => ?_), r1, r2, r3, q⟩
        rw [r2] at y
        have y : us = #[] := by injection y
        rw [y] at r3
        simp at r3
      · obtain ⟨m, ob, b1, b2, b3, b4, b5, b6⟩ := hmod
        refine ⟨m, ob, b1, b2, fun e => ?_, fun e => ?_, keep b3 (fun us n y => by rw [b6] at y; cases y) (fun y => by rw [b6] at y; cases y), b4, b5, b6⟩
        · obtain ⟨o, es, ep, e1, d, _⟩ := hns
          rw [e, e1] at b3
          rw [Option.some.inj b3, b6] at d
          cases d
        · rw [e, T.no p hp] at b3
          rw [← Option.some.inj b3] at b6
          cases b6
    have e0 : Env0 P w K mg (hidT z.heap H) callerA [] z H := ⟨rfl, M, fun b o e => of_hidT e, Nat.le_of_eq (hidT_size _ _), trivial, fun b hb => absurd (show b ∈ ([] : List Addr) from hb) (by simp), hok, .of_eq hg⟩
    refine codeAny_mono ((F _ kb (nsO hns) TB).run callerA [] z H ⟨[.ref a], []⟩ [.ref a] [.ref a] _ _ rfl hr e0 (hbind z (.ref a)) (.cons rfl .nil) (hsp H hT hS)) fun r s' h => ?_
    cases r with
    | error e => exact h.elim
    | ok fl =>
      cases fl with
      | ret u =>
        obtain ⟨v, H', os, bare, un, hok', r', q⟩ := h
        obtain rfl : v = .bl true := q
        obtain rfl : u = Value.bool true := r'
        have same : ∀ b o, b ∉ cs.map (·.2) → z.heap.get? b = some o → s'.heap.get? b = some o := fun b o nb e => by
          cases q : H b with
          | none => exact un.keep b o e q (fun i => absurd (show b ∈ ([] : List Addr) from i) (by simp)) (by simp)
          | some u =>
            rcases hO b u q with ⟨m, _⟩ | ⟨_, _, ob, xs, rfl⟩
            · exact absurd m nb
            · have e1 := (hok b _ q).1
              rw [e] at e1
              rw [Option.some.inj e1]
              exact (hok' b _ (un.frzs b ob _ q)).1
        have more : ∀ p ∈ cs, ∃ ms : Array Value, s'.heap.get? p.2 = some (PySem.W.tabObj ms) := fun p hp => by
          obtain ⟨ms, y⟩ := un.tbls p.2 #[] (hT p hp)
          exact ⟨_, hok' p.2 _ y⟩
        refine ⟨rfl, ⟨fun b o e => ?_, fun b o e => ?_⟩, os, bare⟩
        · by_cases m : b ∈ cs.map (·.2)
          · obtain ⟨p, hp, rfl⟩ := List.mem_map.mp m
            obtain ⟨ms, y⟩ := more p hp
            obtain rfl := Option.some.inj (e.symm.trans (T.no p hp))
            exact .inr (.inl ⟨((T.hd p hp).tab (T.no p hp)).isCodeTable, rfl, #[], ms, rfl, by rw [Array.empty_append]; exact y⟩)
          · exact .inl (same b o m e)
        · by_cases m : b ∈ cs.map (·.2)
          · obtain ⟨p, hp, rfl⟩ := List.mem_map.mp m
            obtain ⟨ms, y⟩ := more p hp
            exact ⟨_, y⟩
          · exact ⟨o, same b o m e⟩
      | _ => exact False.elim h
  have rv := vals_ints hi
  have mT : ∀ p ∈ cs, p.2 ∈ cs.map (·.2) := fun p hp => List.mem_map.mpr ⟨p, hp, rfl⟩
  cases hk : K.lookup a with
  | some o =>
    have e := KX a o hk
    rw [ha] at e
    cases e
    refine go (fun b => if b ∈ cs.map (·.2) then some (.tbl #[]) else none) ⟨fun p hp => if_pos (mT p hp), fun b u q => ?_⟩ (.inr ⟨_, vs.toArray, _, hk, rfl, rfl, rfl, by rw [List.size_toArray, hi.length]; exact hl, by simpa using rv⟩) (fun b u q => ?_)
    · by_cases m : b ∈ cs.map (·.2)
      · exact .inl ⟨m, (Option.some.inj ((if_pos m).symm.trans q)).symm⟩
      · cases (if_neg m).symm.trans q
    · by_cases m : b ∈ cs.map (·.2)
      · rw [← Option.some.inj ((if_pos m).symm.trans q)]
        exact (T.mem m).1
      · cases (if_neg m).symm.trans q
  | none =>
    refine go (fun b => if b ∈ cs.map (·.2) then some (.tbl #[]) else if b = a then some (.frz { cls := .type "list", data := .seq vs.toArray } (.lst (ns.map V.int))) else none) ⟨fun p hp => if_pos (mT p hp), fun b u q => ?_⟩
      (.inl (.inr ⟨{ cls := .type "list", data := .seq vs.toArray }, (if_neg aOut).trans (if_pos rfl)⟩)) (fun b u q => ?_)
    · by_cases m : b ∈ cs.map (·.2)
      · exact .inl ⟨m, (Option.some.inj ((if_pos m).symm.trans q)).symm⟩
      · have q := (if_neg m).symm.trans q
        by_cases hb : b = a
        · have q := (if_pos hb).symm.trans q
          exact .inr ⟨hb, hk, _, _, (Option.some.inj q).symm⟩
        · cases (if_neg hb).symm.trans q
    · by_cases m : b ∈ cs.map (·.2)
      · rw [← Option.some.inj ((if_pos m).symm.trans q)]
        exact (T.mem m).1
      · have q := (if_neg m).symm.trans q
        by_cases hb : b = a
        · rw [← Option.some.inj ((if_pos hb).symm.trans q)]
          subst hb
          exact ⟨ha, by rw [List.length_map]; exact hl, vs, _, rv, ha⟩
        · cases (if_neg hb).symm.trans q
/-- the tables of the defs named xs -/
def tabsIn (K : PySem.W.Frag) : List Str → List (Addr × Addr) → Prop
  | [], [] => True
  | x :: xs, p :: ps => PySem.W.tabIn K x = some p ∧ tabsIn K xs ps
  | _, _ => False
theorem walk_tab {l : PySem.W.OpenLaw} {n k : Nat} {q : Program} {loose : List Str} {XP : (Str → Option Value) → Heap → Prop} {YP : World → Heap → Prop} {d : DefRec} {K : Params → PySem.W.Frag} {sp : World → List (Addr × Addr) → Sp} {x : Str} {xs : List Str}
    (hn : l.most = some n) (hn2 : n ≤ sizeLine) (hdf : d.params.defaults = []) (hr : Room k callerA) (hxs : ∀ y ∈ xs, ((recsOf q).find? (fun e => e.name == y)).isSome = true)
    (hY : ∀ (w : World) (h : Heap), YP w h → (K w.params).In h) (hK : ∀ w : World, PySem.W.noTabs (K w.params) = true)
    (F : ∀ (w : World) (mg : Str → Option Value) (fa : Addr) (h : Heap), (K w.params).In h → h.Ns mainGlobals mg → mg d.name = some (.ref fa) →
      ∃ (fd : FuncData) (cs : List (Addr × Addr)), tabsIn (K w.params) xs cs ∧ (∀ (s : Shared) (u : Value), BindsTo s fd ⟨[u], []⟩ [(x, u)]) ∧
        ∀ base : Heap, (K w.params).In base → base.Ns mainGlobals mg → (∀ p ∈ cs, LamX.TabB base mg p.1 p.2) → FnG l.prog w (K w.params) mg base CX0 k fa fd [x] (sp w cs))
    (hsp : ∀ (w : World) (cs : List (Addr × Addr)) (H : Hp) (a : Addr) (ns : List Int), ns.length ≤ n → (∀ z ∈ ns, Builtin.Int.intBits z ≤ 1048576) → (∀ p ∈ cs, H p.2 = some (.tbl #[])) → SqL (K w.params) H a (ns.map V.int) → sp w cs [.ref a] H (fun v _ => v = .bl true) fun _ _ _ => False) :
    PySem.W.WalkO q loose XP YP l.row.toRowW d [] (fun f vs => PySem.call f vs) := by
  refine Att.attach_callB hn hdf fun w s₀ s₁ mg mb fa o pm cd doc a vs ns G Y ho hd hcd hmg hobj hints hlen hbits hg => ?_
  have KX := hY w _ Y
  obtain ⟨fd, cs, ht, hb, hF⟩ := F w mg fa _ KX G.T.g hmg
  have T : Tabd (K w.params) cs s₁.heap := by
    have rec_ : ∀ (ys : List Str) (ps : List (Addr × Addr)), (∀ y ∈ ys, y ∈ xs) → tabsIn (K w.params) ys ps → Tabd (K w.params) ps s₁.heap := by
      intro ys
      induction ys with
      | nil =>
        intro ps _ e
        cases ps with
        | nil => exact Tabd.nil
        | cons p r => exact e.elim
      | cons y r ih =>
        intro ps m e
        cases ps with
        | nil => exact e.elim
        | cons p t =>
          obtain ⟨d', hd'⟩ := Option.isSome_iff_exists.mp (hxs y (m y List.mem_cons_self))
          have z := PySem.W.tab_of G.T KX hd' e.1
          refine (ih t (fun u hu => m u (List.mem_cons_of_mem _ hu)) e.2).cons z.1 z.2 ?_
          cases hk : (K w.params).lookup p.2 with
          | none => rfl
          | some o =>
            have e1 := KX _ _ hk
            rw [z.2] at e1
            have e2 := List.all_eq_true.mp (hK w) (p.2, o) (PySem.W.mem_of_lookupK hk)
            rw [← Option.some.inj e1] at e2
            exact absurd (show false = true from e2) Bool.false_ne_true
    exact rec_ xs cs (fun _ m => m) ht
  exact end_tab KX G.T.g G.T.b G.T.builtins G.T.nolimit hg T G.T.bmain hobj hints (Nat.le_trans hlen hn2) hr hF hb fun H hH hS => hsp w cs H a ns hlen hbits hH hS
end XG
/-! Own: values of any sort (none, bools, ints, texts, lists, tuples, dicts with flat members), kept apart from the drawer. -/
namespace XO2
open PySem PySem.Spec PyProof.Rows L2 Evl XB
def flatD : V → Option PyData
  | .non => some .none
  | .bl b => some (.bool b)
  | .int i => some (.int i)
  | .str x => some (.str x)
  | _ => none
def keyD : Key → PyData
  | .inl i => .int i
  | .inr x => .str x
/-- keys and flat members as data -/
inductive KvD : List (Key × V) → List (PyData × PyData) → Prop
  | nil : KvD [] []
  | cons {k : Key} {v : V} {d : PyData} {r : List (Key × V)} {ds : List (PyData × PyData)} : flatD v = some d → KvD r ds → KvD ((k, v) :: r) ((keyD k, d) :: ds)
theorem reads_flat {h : Heap} {v : V} {u : Value} {d : PyData} (e : flatD v = some d) (r : RelV v u) : Reads h u d [] := by
  cases v with
  | non => cases e; cases r; exact .none
  | bl b => cases e; cases r; exact .bool b
  | int i => cases e; obtain ⟨t, rfl⟩ := r; exact .int i t
  | str x => cases e; obtain ⟨t, rfl⟩ := r; exact .str x t
  | _ => cases e
theorem reads_key {h : Heap} {k : Key} {u : Value} (e : keyIs k u = true) : Reads h u (keyD k) [] := by
  rcases keyIs_shape e with ⟨i, t, rfl, rfl⟩ | ⟨x, t, rfl, rfl⟩
  · exact .int i t
  · exact .str x t
section
variable {X : Cx} {pins : List (Addr × Obj)} {σ : L2.St} {H : Hp} {s : Shared}
theorem kv_reads {h : Heap} {P : Program} {w : World} : ∀ {kvs : List (Key × V)} {ds : List (PyData × PyData)} {vs : List (Key × Value)} {es : List DictEntry}, KvD kvs ds → KV kvs vs → Pairs (mixKind P w) es vs →
    ReadsAll h (es.map (·.key)) (ds.map (·.1)) [] ∧ ReadsAll h (es.map (·.val)) (ds.map (·.2)) [] := by
  intro kvs ds vs es a
  induction a generalizing vs es with
  | nil =>
    intro b c
    cases b
    cases c
    exact ⟨.nil, .nil⟩
  | cons e r ih =>
    intro b c
    cases b with
    | cons hb b =>
      cases c with
      | cons h1 h2 c =>
        obtain ⟨z1, z2⟩ := ih b c
        have k := reads_key (h := h) (by have y := h1; rw [← hb.1] at y; exact y)
        have v := reads_flat (h := h) e hb.2
        rw [← h2] at v
        exact ⟨.cons k z1, .cons v z2⟩
theorem dict_reads {a : Addr} {kvs : List (Key × V)} {ds : List (PyData × PyData)} (I : Inv X pins σ H s) (h : H a = some (.dK kvs)) (g : KvD kvs ds) : ∃ as, Reads s.heap (.ref a) (.dict ds) as ∧ sysModules ∉ as := by
  obtain ⟨_, hd, vs, rel, o, es, ep, ho, hx, hdat, _, hp, _⟩ := dk_of I.hok h
  obtain ⟨z1, z2⟩ := kv_reads (h := s.heap) g rel hp
  refine ⟨_, .dict ho hx.1 hdat z1 z2, fun m => ?_⟩
  have m := List.mem_singleton.mp (show sysModules ∈ [a] from m)
  rw [m] at hd
  simp at hd
end
/-! ### texts whose signs are code points -/
def OkS (x : Str) : Prop := ∀ c ∈ x.cps.toList, c < 0x110000
theorem okS_ok {x : Str} (h : OkS x) : PyData.strOk x = true := by
  unfold PyData.strOk
  rw [← Array.all_toList, List.all_eq_true]
  exact fun c m => decide_eq_true (h c m)
theorem okS_app {x y : Str} (h : OkS x) (g : OkS y) : OkS (x ++ y) := fun c m => by
  have m : c ∈ (x.cps ++ y.cps).toList := m
  rw [Array.toList_append] at m
  exact (List.mem_append.mp m).elim (h c) (g c)
theorem okS_of (s : String) : OkS (Str.ofString s) := fun c m => by
  rw [Str.ofString_eq_toList] at m
  obtain ⟨k, _, rfl⟩ := List.mem_map.mp (show c ∈ s.toList.map Char.toNat by simpa using m)
  have v : k.val.toNat.isValidChar := k.valid
  show k.val.toNat < 0x110000
  rcases v with v | ⟨_, v⟩
  · omega
  · exact v
theorem okS_nil : OkS ⟨#[]⟩ := fun c m => by simp at m
theorem okC_repr {q c : Nat} (hc : c < 0x110000) : ∀ n ∈ Builtin.Str.reprChar q c, n < 0x110000 := by
  have hx : ∀ wd n, n ∈ List.replicate wd 48 ++ (Nat.toDigits 16 c).map Char.toNat → n < 0x110000 := fun wd n m => by
    rcases List.mem_append.mp m with m | m
    · rw [(List.mem_replicate.mp m).2]
      decide
    · obtain ⟨k, _, rfl⟩ := List.mem_map.mp m
      have v : k.val.toNat.isValidChar := k.valid
      show k.val.toNat < 0x110000
      rcases v with v | ⟨_, v⟩
      · omega
      · exact v
  intro n m
  unfold Builtin.Str.reprChar at m
  simp only at m
  split at m
  · simp only [List.mem_cons, List.not_mem_nil, or_false] at m
    rcases m with rfl | rfl
    · decide
    · exact hc
  split at m
  · simp only [List.mem_cons, List.not_mem_nil, or_false] at m
    rcases m with rfl | rfl <;> decide
  split at m
  · simp only [List.mem_cons, List.not_mem_nil, or_false] at m
    rcases m with rfl | rfl <;> decide
  split at m
  · simp only [List.mem_cons, List.not_mem_nil, or_false] at m
    rcases m with rfl | rfl <;> decide
  split at m
  · rw [List.mem_singleton.mp m]
    exact hc
  all_goals
    first
      | (split at m
         · rcases List.mem_append.mp m with m | m
           · simp only [List.mem_cons, List.not_mem_nil, or_false] at m
             rcases m with rfl | rfl <;> decide
           · exact hx _ _ m
         split at m
         · rcases List.mem_append.mp m with m | m
           · simp only [List.mem_cons, List.not_mem_nil, or_false] at m
             rcases m with rfl | rfl <;> decide
           · exact hx _ _ m
         · rcases List.mem_append.mp m with m | m
           · simp only [List.mem_cons, List.not_mem_nil, or_false] at m
             rcases m with rfl | rfl <;> decide
           · exact hx _ _ m)
theorem okS_repr {x : Str} (h : OkS x) : OkS (reprText x) := by
  have hq : reprQuote x < 0x110000 := by
    unfold reprQuote
    split <;> decide
  have go : ∀ (l : List Nat) (acc : Array Nat), (∀ c ∈ l, c < 0x110000) → (∀ c ∈ acc.toList, c < 0x110000) → ∀ c ∈ (l.foldl (fun out c => out ++ (Builtin.Str.reprChar (reprQuote x) c).toArray) acc).toList, c < 0x110000 := by
    intro l
    induction l with
    | nil => exact fun acc _ h2 => h2
    | cons a r ih =>
      intro acc h1 h2
      refine ih _ (fun c m => h1 c (List.mem_cons_of_mem _ m)) fun c m => ?_
      rw [Array.toList_append] at m
      rcases List.mem_append.mp m with m | m
      · exact h2 c m
      · exact okC_repr (h1 a List.mem_cons_self) c m
  intro c m
  have m : c ∈ ((x.cps.foldl (fun out c => out ++ (Builtin.Str.reprChar (reprQuote x) c).toArray) #[reprQuote x]).push (reprQuote x)).toList := m
  rw [Array.toList_push, ← Array.foldl_toList] at m
  rcases List.mem_append.mp m with m | m
  · exact go _ _ h (fun c m => by rw [List.mem_singleton.mp m]; exact hq) c m
  · rw [List.mem_singleton.mp m]
    exact hq
theorem okS_join {sep : Str} (hs : OkS sep) : ∀ {ts : List Str}, (∀ t ∈ ts, OkS t) → OkS (Str.join sep ts)
  | [], _ => okS_nil
  | [t], h => h t List.mem_cons_self
  | t :: u :: r, h => okS_app (okS_app (h t List.mem_cons_self) hs) (okS_join hs (ts := u :: r) fun y m => h y (List.mem_cons_of_mem _ m))
theorem okS_from : ∀ {ts : List Str} {k : Nat} {acc : Str}, OkS acc → (∀ t ∈ ts, OkS t) → OkS (textFrom k acc ts)
  | [], _, _, h, _ => h
  | t :: r, k, acc, h, g => okS_from (ts := r) (okS_app (okS_app h (okS_of _)) (g t List.mem_cons_self)) fun y m => g y (List.mem_cons_of_mem _ m)
mutual
def OkD : PyData → Prop
  | .none | .bool _ | .int _ => True
  | .str x => OkS x
  | .list xs | .tuple xs => OkDs xs
  | .dict kvs => OkKv kvs
def OkDs : List PyData → Prop
  | [] => True
  | x :: xs => OkD x ∧ OkDs xs
def OkKv : List (PyData × PyData) → Prop
  | [] => True
  | (k, v) :: r => OkD k ∧ OkD v ∧ OkKv r
end
mutual
theorem okS_shown : ∀ d : PyData, OkD d → OkS d.shown
  | .none, _ => okS_of "None"
  | .bool b, _ => by cases b <;> exact okS_of _
  | .int i, _ => okS_of (toString i)
  | .str x, h => okS_repr h
  | .list xs, h => okS_app (okS_from (okS_of "[") (okS_shownAll xs h)) (okS_of "]")
  | .tuple xs, h => okS_app (okS_app (okS_of "(") (okS_join (okS_of ", ") (okS_shownAll xs h))) (okS_of _)
  | .dict kvs, h => okS_app (okS_app (okS_of "{") (okS_join (okS_of ", ") (okS_shownKv kvs h))) (okS_of "}")
theorem okS_shownAll : ∀ xs : List PyData, OkDs xs → ∀ t ∈ PyData.shownAll xs, OkS t
  | [], _, _, m => (List.not_mem_nil m).elim
  | x :: xs, h, t, m => by
    rcases List.mem_cons.mp m with rfl | m
    · exact okS_shown x h.1
    · exact okS_shownAll xs h.2 t m
theorem okS_shownKv : ∀ xs : List (PyData × PyData), OkKv xs → ∀ t ∈ PyData.shownKv xs, OkS t
  | [], _, _, m => (List.not_mem_nil m).elim
  | (k, v) :: r, h, t, m => by
    rcases List.mem_cons.mp m with rfl | m
    · exact okS_app (okS_app (okS_shown k h.1) (okS_of ": ")) (okS_shown v h.2.1)
    · exact okS_shownKv r h.2.2 t m
end
/-- the text that repr gives for the value -/
def Shw (K : PySem.W.Frag) (H : Hp) (v : V) (z : Str) : Prop := ∃ d : PyData, z = d.shown ∧ d.showable = true ∧ d.depth ≤ 32 ∧ d.shown.length ≤ sizeLine ∧ OkD d ∧ ((d.hasDict = false ∧ Dp K H v d) ∨ ∃ a kvs ds, v = .ref a ∧ d = .dict ds ∧ H a = some (.dK kvs) ∧ KvD kvs ds)
def rReprQ (K : PySem.W.Frag) : List V → Hp → VK → Prop := fun xs H Q => ∃ v z, xs = [v] ∧ Shw K H v z ∧ Q (.str z) H
section
variable {X : Cx}
theorem call_reprQ (hc : XG.Calm X.A) (hu : X.A.units + 64 < cLine) : CallR X (.builtin "repr") (rReprQ X.K) := by
  intro pins s σ H xs us Q I r h
  obtain ⟨v, z, rfl, ⟨d, rfl, hs, hdp, hz, _, hk⟩, q⟩ := h
  rcases hk with ⟨hn, hd⟩ | ⟨a, kvs, ds, rfl, rfl, ha, hkv⟩
  · exact XG.call_repr hc hu pins s σ H [v] us Q I r ⟨v, d, rfl, hd, hs, hn, hdp, hz, q⟩
  · obtain ⟨u, rfl, ru⟩ := Vals.one r
    cases ru
    obtain ⟨as, rd, hm⟩ := dict_reads I ha hkv
    exact repr_of_reads' rd hs (fun _ => hm) hc (by omega) (fun _ _ z => z) (fun h' u tk hk => ⟨.str _, H, I.kept hk, ⟨u, rfl⟩, q⟩) hz
end
theorem shw_of {K : PySem.W.Frag} {H : Hp} {v : V} {d : PyData} (h : Dp K H v d) (h1 : d.showable = true) (h2 : d.hasDict = false) (h3 : d.depth ≤ 32) (h4 : d.shown.length ≤ sizeLine) (h5 : OkD d) : Shw K H v d.shown := ⟨d, rfl, h1, h3, h4, h5, .inl ⟨h2, h⟩⟩
theorem Shw.ok {K : PySem.W.Frag} {H : Hp} {v : V} {z : Str} (h : Shw K H v z) : OkS z := by
  obtain ⟨d, rfl, _, _, _, h, _⟩ := h
  exact okS_shown d h
end XO2
namespace T
open PySem PySem.Spec PyProof.Rows L2 Evl XB XSp LamX
def errN : List Str := ["InvalidKinds", "InvalidText", "InvalidEdit", "InvalidFirst", "InvalidChange", "InvalidArrival", "NotATable", "InvalidRows", "InvalidEdits", "UnknownName", "CannotDo"]
def basN : List Str := ["BadValue", "BadName", "NoAnswer"]
def basOf (j : Nat) : Nat := if j < 9 then 0 else if j = 9 then 1 else 2
/-- the errors that keep an index -/
def idxF (j : Nat) : Bool := j == 7 || j == 8
def fieldOf (j : Nat) : Str := if idxF j = true then "index" else "given"
/-- the classes of the errors, at c, their bases at b -/
structure ErrM (mg : Str → Option Value) (c b : Nat → Addr) : Prop where
  cls : ∀ (j : Nat) (n : Str), errN[j]? = some n → mg n = some (.ref (c j))
  bas : ∀ (j : Nat) (n : Str), basN[j]? = some n → mg n = some (.ref (b j))
structure BlE (mg : Str → Option Value) : Prop where
  isin : mg "isinstance" = none
  repr : mg "repr" = none
section
variable {K : PySem.W.Frag} {σ : L2.St} {H : Hp} {ta tb : TE} {a D C l : Addr} {cls : Value} {d : Option Addr} {fs : List (Str × V)} {bb : Bool} {v y : V} {ys zs : List V} {j : Nat} {f : Str}
theorem el_catV {xs : List V} {a : Addr} (ha : Ev ta σ H (.ref a)) (h : H a = some (.lst xs)) (hb : EvL tb σ H ys) (hz : xs.length + ys.length ≤ 100000) : EvL (tOp rCat ta tb) σ H (xs ++ ys) := fun H1 e Q q =>
  ha H1 e _ fun H2 e2 => hb H2 (e.trans e2) _ fun r H3 n3 e3 h3 =>
    ⟨a, r, xs, ys, rfl, rfl, e3 _ _ (e2 _ _ (e _ _ h)), h3, sz_of hz, fun l nl => q l _ (fresh_back (e2.trans e3) nl) ((e2.trans e3).trans (Ex.new nl)) upd_same⟩
theorem ev_ixN {xs : List V} {i : Int} (ha : EvL ta σ H xs) (hb : Ev tb σ H (.int i)) (hi : atI xs i = some v) : Ev (tOp (rIxL K) ta tb) σ H v := fun H1 e Q q =>
  ha H1 e _ fun p H2 n2 e2 h2 => hb H2 (e.trans e2) _ fun H3 e3 => rv_ixL (SqL.of (e3 _ _ h2)) hi H3 (Ex.refl _) _ fun H4 e4 => q H4 ((e2.trans e3).trans e4)
theorem ev_inN {xs : List V} {r : Bool} (ha : Ev ta σ H v) (hb : EvL tb σ H xs) (f1 : flatV v = true) (f2 : xs.all flatV = true) (hr : inV v xs = r) : Ev (tOp (rIn K false) ta tb) σ H (.bl r) := fun H1 e Q q =>
  ha H1 e _ fun H2 e2 => hb H2 (e.trans e2) _ fun p H3 n3 e3 h3 => ⟨p, xs, rfl, .inl (SqL.of h3), f1, f2, by subst hr; exact q H3 (e2.trans e3)⟩
theorem ev_reprV {z : Str} (ha : Ev ta σ H v) (dp : ∀ {H' : Hp}, Ex H H' → XO2.Shw K H' v z) : Ev (tCB (XO2.rReprQ K) (tCons ta tNil)) σ H (.str z) := fun H1 e Q q =>
  ha H1 e _ fun H2 e2 => ⟨v, z, rfl, dp (e.trans e2), q H2 e2⟩
theorem in78 : ∀ j : Nat, j < 11 → inV (.int (j : Nat)) [.int 7, .int 8] = idxF j
  | 0, _ | 1, _ | 2, _ | 3, _ | 4, _ | 5, _ | 6, _ | 7, _ | 8, _ | 9, _ | 10, _ => rfl
theorem bas_at : ∀ j, j < 11 → ([.int 0, .int 0, .int 0, .int 0, .int 0, .int 0, .int 0, .int 0, .int 0, .int 1, .int 2] : List V)[j]? = some (.int (basOf j : Nat))
  | 0, _ | 1, _ | 2, _ | 3, _ | 4, _ | 5, _ | 6, _ | 7, _ | 8, _ | 9, _ | 10, _ => rfl
theorem err_at : ∀ j, j < 11 → ([.str "InvalidKinds", .str "InvalidText", .str "InvalidEdit", .str "InvalidFirst", .str "InvalidChange", .str "InvalidArrival"] ++ [.str "NotATable", .str "InvalidRows", .str "InvalidEdits", .str "UnknownName", .str "CannotDo"] : List V)[j]? = some (.str (errN.getD j ""))
  | 0, _ | 1, _ | 2, _ | 3, _ | 4, _ | 5, _ | 6, _ | 7, _ | 8, _ | 9, _ | 10, _ => rfl
theorem held_ex {H' : Hp} (h : Held K cls d D fs H) (e : Ex H H') : Held K cls d D fs H' := by
  obtain ⟨h1, h2, dd, h3, h4⟩ := h
  exact ⟨h1, h2, dd, h3, e _ _ h4⟩
theorem ev_ask (h1 : Ev ta σ H (.ref a)) (hh : Held K cls d D fs H) (e : PySem.W.kitOne K (.ref D) (.ref C) = some bb) : Ev (tCB (rAsk K a cls d) (tCons ta (tCons (tC (.ref C)) tNil))) σ H (.bl bb) := fun H1 g Q q =>
  h1 H1 g _ fun H2 g2 => (show Ev (tC (.ref C)) σ H (.ref C) from ev_c) H2 (g.trans g2) _ fun H3 g3 => ⟨.ref C, .ref C, bb, D, fs, rfl, (fun u r => r), held_ex hh ((g.trans g2).trans g3), e, q H3 (g2.trans g3)⟩
theorem ev_of (h1 : Ev ta σ H (.ref a)) (hh : Held K cls d D fs H) (no : PySem.W.findIn K (.ref D) f = some none) (hv : fs.lookup f = some v) : Ev (tOf K a cls d f ta) σ H v := fun H1 g Q q =>
  h1 H1 g _ fun H2 g2 => ⟨rfl, D, fs, v, held_ex hh (g.trans g2), no, hv, q H2 g2⟩
theorem ev_cnt (h1 : Ev ta σ H (.ref l)) (hl : H l = some (.lst ys)) (h2 : Ev tb σ H y) (fy : flatV y = true) (fys : ys.all flatV = true) : Ev (tBM K "list" (rCntF K) ta (tCons tb tNil)) σ H (.int (ys.countP fun z => eqV z y : Nat)) := fun H1 g Q q =>
  h1 H1 g _ fun H2 g2 => ⟨.inl ⟨rfl, _, SqL.of ((g.trans g2) _ _ hl)⟩, h2 H2 (g.trans g2) _ fun H3 g3 => ⟨l, ys, y, rfl, rfl, SqL.of (((g.trans g2).trans g3) _ _ hl), fy, fys, q H3 (g2.trans g3)⟩⟩
theorem ev_lix {z : V} (h1 : Ev ta σ H (.ref l)) (hl : H l = some (.lst ys)) (h2 : Ev tb σ H y) (fy : flatV y = true) (fys : ys.all flatV = true) (hz : ys[j]? = some z) (ez : eqV z y = true) (no : ∀ (m : Nat) (z' : V), m < j → ys[m]? = some z' → eqV z' y = false) : Ev (tBM K "list" (rIndex K) ta (tCons tb tNil)) σ H (.int (j : Nat)) := fun H1 g Q q =>
  h1 H1 g _ fun H2 g2 => ⟨.inl ⟨rfl, _, SqL.of ((g.trans g2) _ _ hl)⟩, h2 H2 (g.trans g2) _ fun H3 g3 => ⟨l, ys, y, j, z, rfl, rfl, SqL.of (((g.trans g2).trans g3) _ _ hl), fy, fys, hz, ez, no, q H3 (g2.trans g3)⟩⟩
end
def tSuite (K : PySem.W.Frag) (c b : Nat → Addr) (a : Addr) (cls : Value) (d : Option Addr) : TS := (tSeq (tAsg (tLst (tCons (tCB (rAsk K a cls d) (tCons (tVar 1) (tCons (tC (V.ref (c 0))) tNil))) (tCons (tCB (rAsk K a cls d) (tCons (tVar 1) (tCons (tC (V.ref (c 1))) tNil))) (tCons (tCB (rAsk K a cls d) (tCons (tVar 1) (tCons (tC (V.ref (c 2))) tNil))) tNil)))) (gName 2)) (tSeq (tAsg (tOp rCat (tVar 2) (tLst (tCons (tCB (rAsk K a cls d) (tCons (tVar 1) (tCons (tC (V.ref (c 3))) tNil))) (tCons (tCB (rAsk K a cls d) (tCons (tVar 1) (tCons (tC (V.ref (c 4))) tNil))) (tCons (tCB (rAsk K a cls d) (tCons (tVar 1) (tCons (tC (V.ref (c 5))) tNil))) tNil))))) (gName 2)) (tSeq (tAsg (tOp rCat (tVar 2) (tLst (tCons (tCB (rAsk K a cls d) (tCons (tVar 1) (tCons (tC (V.ref (c 6))) tNil))) (tCons (tCB (rAsk K a cls d) (tCons (tVar 1) (tCons (tC (V.ref (c 7))) tNil))) (tCons (tCB (rAsk K a cls d) (tCons (tVar 1) (tCons (tC (V.ref (c 8))) tNil))) tNil))))) (gName 2)) (tSeq (tAsg (tOp rCat (tVar 2) (tLst (tCons (tCB (rAsk K a cls d) (tCons (tVar 1) (tCons (tC (V.ref (c 9))) tNil))) (tCons (tCB (rAsk K a cls d) (tCons (tVar 1) (tCons (tC (V.ref (c 10))) tNil))) tNil)))) (gName 2)) (tSeq (tAsg (tLst (tCons (tCB (rAsk K a cls d) (tCons (tVar 1) (tCons (tC (V.ref (b 0))) tNil))) (tCons (tCB (rAsk K a cls d) (tCons (tVar 1) (tCons (tC (V.ref (b 1))) tNil))) (tCons (tCB (rAsk K a cls d) (tCons (tVar 1) (tCons (tC (V.ref (b 2))) tNil))) tNil)))) (gName 3)) (tSeq (tIfS (tOr (tTest (tOp rNe (tBM K "list" (rCntF K) (tVar 2) (tCons (tC (V.bl true)) tNil)) (tC (V.int 1)))) (tTest (tOp rNe (tBM K "list" (rCntF K) (tVar 3) (tCons (tC (V.bl true)) tNil)) (tC (V.int 1))))) (tRet (tLst (tCons (tC (V.str (Str.ofString "another class"))) tNil))) tNext) (tSeq (tAsg (tBM K "list" (rIndex K) (tVar 2) (tCons (tC (V.bl true)) tNil)) (gName 4)) (tSeq (tIfS (tTest (tOp rNe (tBM K "list" (rIndex K) (tVar 3) (tCons (tC (V.bl true)) tNil)) (tOp (rIxL K) (tLst (tCons (tC (V.int 0)) (tCons (tC (V.int 0)) (tCons (tC (V.int 0)) (tCons (tC (V.int 0)) (tCons (tC (V.int 0)) (tCons (tC (V.int 0)) (tCons (tC (V.int 0)) (tCons (tC (V.int 0)) (tCons (tC (V.int 0)) (tCons (tC (V.int 1)) (tCons (tC (V.int 2)) tNil)))))))))))) (tVar 4)))) (tRet (tLst (tCons (tC (V.str (Str.ofString "another base"))) tNil))) tNext) (tSeq (tAsg (tLst (tCons (tC (V.str (Str.ofString "InvalidKinds"))) (tCons (tC (V.str (Str.ofString "InvalidText"))) (tCons (tC (V.str (Str.ofString "InvalidEdit"))) (tCons (tC (V.str (Str.ofString "InvalidFirst"))) (tCons (tC (V.str (Str.ofString "InvalidChange"))) (tCons (tC (V.str (Str.ofString "InvalidArrival"))) tNil))))))) (gName 5)) (tSeq (tAsg (tOp rCat (tVar 5) (tLst (tCons (tC (V.str (Str.ofString "NotATable"))) (tCons (tC (V.str (Str.ofString "InvalidRows"))) (tCons (tC (V.str (Str.ofString "InvalidEdits"))) (tCons (tC (V.str (Str.ofString "UnknownName"))) (tCons (tC (V.str (Str.ofString "CannotDo"))) tNil))))))) (gName 5)) (tRet (tLst (tCons (tOp (rIxL K) (tVar 5) (tVar 4)) (tCons (tIf (tTest (tOp (rIn K false) (tVar 4) (tLst (tCons (tC (V.int 7)) (tCons (tC (V.int 8)) tNil))))) (tCB (XO2.rReprQ K) (tCons (tOf K a cls d (Str.ofString "index") (tVar 1)) tNil)) (tCB (XO2.rReprQ K) (tCons (tOf K a cls d (Str.ofString "given") (tVar 1)) tNil))) tNil))))))))))))))
def bl11 (j : Nat) : List V := [.bl (decide (0 = j)), .bl (decide (1 = j)), .bl (decide (2 = j)), .bl (decide (3 = j)), .bl (decide (4 = j)), .bl (decide (5 = j)), .bl (decide (6 = j)), .bl (decide (7 = j)), .bl (decide (8 = j)), .bl (decide (9 = j)), .bl (decide (10 = j))]
def bl3 (j : Nat) : List V := [.bl (decide (0 = basOf j)), .bl (decide (1 = basOf j)), .bl (decide (2 = basOf j))]
theorem bl11_at (j : Nat) : ∀ m, m < 11 → (bl11 j)[m]? = some (.bl (decide (m = j)))
  | 0, _ | 1, _ | 2, _ | 3, _ | 4, _ | 5, _ | 6, _ | 7, _ | 8, _ | 9, _ | 10, _ => rfl
theorem bl3_at (j : Nat) : ∀ m, m < 3 → (bl3 j)[m]? = some (.bl (decide (m = basOf j)))
  | 0, _ | 1, _ | 2, _ => rfl
theorem bl_facts : ∀ j, j < 11 → ((bl11 j).countP fun z => eqV z (.bl true)) = 1 ∧ ((bl3 j).countP fun z => eqV z (.bl true)) = 1 ∧ (bl11 j)[j]? = some (.bl true) ∧ (bl3 j)[basOf j]? = some (.bl true) ∧ (bl11 j).all flatV = true ∧ (bl3 j).all flatV = true ∧
    (∀ m z', m < j → (bl11 j)[m]? = some z' → eqV z' (.bl true) = false) ∧ (∀ m z', m < basOf j → (bl3 j)[m]? = some z' → eqV z' (.bl true) = false) := by
  have no : ∀ {b : Bool}, b = false → eqV (.bl b) (.bl true) = false := fun h => by rw [h]; rfl
  intro j hj
  match j, hj with
  | 0, _ | 1, _ | 2, _ | 3, _ | 4, _ | 5, _ | 6, _ | 7, _ | 8, _ | 9, _ | 10, _ => exact ⟨rfl, rfl, rfl, rfl, rfl, rfl, fun m z' hm hz => by rw [bl11_at _ m (by omega)] at hz; cases hz; exact no (decide_eq_false (by omega)), fun m z' hm hz => by rw [bl3_at _ m (by unfold basOf at hm; simp at hm <;> omega)] at hz; cases hz; exact no (decide_eq_false (by omega))⟩
/-- what the class at D says of itself: it is the j-th error -/
structure ErrF (K : PySem.W.Frag) (c b : Nat → Addr) (D : Addr) (j : Nat) : Prop where
  no : PySem.W.findIn K (.ref D) (fieldOf j) = some none
  ex : PySem.W.exmAny K (.ref D) [.ref (b 0), .ref (b 1), .ref (b 2)] = some true
  kc : ∀ i, i < 11 → PySem.W.kitOne K (.ref D) (.ref (c i)) = some (decide (i = j))
  kb : ∀ i, i < 3 → PySem.W.kitOne K (.ref D) (.ref (b i)) = some (decide (i = basOf j))
/-- what comes of the reading of the lambda -/
def TCaught (K : PySem.W.Frag) (c b : Nat → Addr) : (XK → Hp → VK → Prop) → Hp → VK → Prop := fun tl H Q =>
  tl (fun cls d H' => ∃ (D : Addr) (j : Nat) (v : V) (z : Str), j < 11 ∧ Held K cls d D [(fieldOf j, v)] H' ∧ ErrF K c b D j ∧ (∀ H2, Ex H' H2 → XO2.Shw K H2 v z) ∧ ∀ l H'', Ex H' H'' → H'' l = some (.lst [.str (errN.getD j ""), .str z]) → Q (.ref l) H'')
    H fun _ H' => tLst tNil [] H' Q
end T
/-! Own: defs whose code object is told, heaps in which tables of code objects may grow. -/
namespace XB
open PySem PySem.Spec PyProof.Rows L2 Evl LamX
/-- the def st under its name x, its code object cd told -/
structure AtV (K : PySem.W.Frag) (mg : Str → Option Value) (x : Str) (st : Stmt) (ps : List Str) (cd : Value) : Prop where
  ex : ∃ (f : Addr) (oc kV doc pm ct : Value) (od an : Option Addr) (osl : Array (Option Value)), K.lookup f = some ⟨oc, od, .func (PySem.W.fnOf x x (defArgs st) (defBody st) (defScope st) .none kV doc pm an cd ct), osl⟩ ∧
    PySem.W.codeIn K cd x = true ∧ PySem.W.keepIn K (.ref f) = true ∧ mg x = some (.ref f) ∧ Binds K (PySem.W.fnOf x x (defArgs st) (defBody st) (defScope st) .none kV doc pm an cd ct) ps []
theorem atV_mk {K : PySem.W.Frag} {h : Heap} {mg : Str → Option Value} {x : Str} {st : Stmt} {ps : List Str} {f : Addr} {oc : Value} {od an : Option Addr} {osl : Array (Option Value)} {kV doc pm cdv ct : Value} (X : K.In h) (G : h.Ns mainGlobals mg)
    (a : PySem.W.nsIn K mainGlobals x = some (some (.ref f))) (l : K.lookup f = some ⟨oc, od, .func (PySem.W.fnOf x x (defArgs st) (defBody st) (defScope st) .none kV doc pm an cdv ct), osl⟩) (c : PySem.W.codeIn K cdv x = true) (k : PySem.W.keepIn K (.ref f) = true)
    (hb : ∀ (kV doc pm : Value) (an : Option Addr) (cdv ct : Value) (us : List Value), us.length = ps.length → bindArgs (PySem.W.fnOf x x (defArgs st) (defBody st) (defScope st) .none kV doc pm an cdv ct) ⟨us, []⟩ = pure (ps.zip us)) : AtV K mg x st ps cdv := by
  have F := fun_mk (st := st) l c k
  exact ⟨f, oc, kV, doc, pm, ct, od, an, osl, l, c, k, PySem.W.mg_of X G a, F.binds hb⟩
/-- the code object is the one that the table of x is told by -/
theorem cd_of {K : PySem.W.Frag} {x : Str} {f c P : Addr} {oc : Value} {od : Option Addr} {fd : FuncData} {osl : Array (Option Value)} (a : PySem.W.nsIn K mainGlobals x = some (some (.ref f))) (l : K.lookup f = some ⟨oc, od, .func fd, osl⟩) (t : PySem.W.tabIn K x = some (c, P)) : fd.code = .ref c := by
  unfold PySem.W.tabIn at t
  rw [a] at t
  simp only at t
  rw [l] at t
  simp only at t
  split at t
  · rename_i c2 hc
    rw [hc]
    split at t
    · split at t
      · cases t
        rfl
      · cases t
    · cases t
  · cases t
theorem tab_mk {K : PySem.W.Frag} {x : Str} {f c P : Addr} {oc e : Value} {od d2 : Option Addr} {fd : FuncData} {osl sl2 : Array (Option Value)} {vs : Array Value} (a : PySem.W.nsIn K mainGlobals x = some (some (.ref f))) (l : K.lookup f = some ⟨oc, od, .func fd, osl⟩) (hc : fd.code = .ref c)
    (o : K.lookup c = some ⟨e, d2, .fields vs, sl2⟩) (v : vs[11]? = some (.ref P)) : PySem.W.tabIn K x = some (c, P) := by
  unfold PySem.W.tabIn
  rw [a]
  simp only
  rw [l]
  simp only
  rw [hc]
  simp only
  rw [o]
  simp only
  rw [v]
section
variable {P : Program} {w : World} {K : PySem.W.Frag} {mg : Str → Option Value} {base : Heap} {k : Nat}
theorem calG_ofV {x : Str} {st : Stmt} {N ps : List Str} {sp : Sp} {cd : Value} (D : AtV K mg x st ps cd) (S : FnScope N ps (defScope st)) (len : ∀ vs H Q E, sp vs H Q E → vs.length = ps.length)
    (hbody : ∀ (f : Addr) (A : Around) (outer : List Env) (s : Shared) (H : Hp) (vs : List V) (Q : VK) (E : XK), XG.Calm (A.deeper (envOfC x (defScope st) s.heap.objs.size f cd)) → Room k (A.deeper (envOfC x (defScope st) s.heap.objs.size f cd)) → sp vs H Q E →
      ∃ t, PSs (cxOf CX0 P w K mg base N x (defScope st) f cd A outer s H E).nox (defBody st) t ∧ t { nx := fun _ H' => Q .non H', rt := Q } (start N vs) H) : CalG P w K mg base (k + 1) x sp := by
  obtain ⟨f, oc, kV, doc, pm, ct, od, an, osl, l, c, kp, hm, b⟩ := D.ex
  refine ⟨f, _, ps, XG.fn_calm l c S len fun A outer s H vs Q E hc hr hsp => ?_, hm, kp, b⟩
  obtain ⟨t, h, q⟩ := hbody f A outer s H vs Q E hc hr hsp
  exact ⟨t, h.nox, q⟩
end
/-! ### what is kept but at p and in tables -/
def Kp (p : Addr) (H H' : Hp) : Prop := ∀ b o, b ≠ p → (∀ ps, o ≠ .tbl ps) → H b = some o → H' b = some o
section
variable {p : Addr} {K : PySem.W.Frag} {H H' H1 H2 : Hp} {a : Addr} {xs : List V}
theorem Kp.refl (p : Addr) (H : Hp) : Kp p H H := fun _ _ _ _ h => h
theorem Kp.trans (a : Kp p H H1) (b : Kp p H1 H2) : Kp p H H2 := fun c o n t h => b c o n t (a c o n t h)
theorem Kp.ext (e : ExtN H H') : Kp p H H' := fun b o _ t h => e b o h t
theorem Kp.ex (e : Ex H H') : Kp p H H' := fun b o _ _ h => e b o h
theorem Kp.chg (e : Chg p H H') : Kp p H H' := fun b o n _ h => e b o n h
theorem Kp.lst {a : Addr} (c : Kp p H H') (n : a ≠ p) (h : H a = some (.lst xs)) : H' a = some (.lst xs) := c _ _ n (fun _ z => by cases z) h
theorem Kp.seq (c : Kp p H H') (n : a ≠ p) (h : SqL K H a xs) : SqL K H' a xs := by
  rcases h with (h | ⟨o, h⟩) | h
  · exact .inl (.inl (c _ _ n (fun _ z => by cases z) h))
  · exact .inl (.inr ⟨o, c _ _ n (fun _ z => by cases z) h⟩)
  · exact .inr h
theorem Kp.tup (c : Kp p H H') (n : a ≠ p) (h : SqT K H a xs) : SqT K H' a xs := by
  rcases h with (h | ⟨o, h⟩) | h
  · exact .inl (.inl (c _ _ n (fun _ z => by cases z) h))
  · exact .inl (.inr ⟨o, c _ _ n (fun _ z => by cases z) h⟩)
  · exact .inr h
theorem xn_l (c : ExtN H H') (h : SqL K H a xs) : SqL K H' a xs := by
  rcases h with (h | ⟨o, h⟩) | h
  · exact .inl (.inl (c _ _ h (fun _ z => by cases z)))
  · exact .inl (.inr ⟨o, c _ _ h (fun _ z => by cases z)⟩)
  · exact .inr h
theorem xn_t (c : ExtN H H') (h : SqT K H a xs) : SqT K H' a xs := by
  rcases h with (h | ⟨o, h⟩) | h
  · exact .inl (.inl (c _ _ h (fun _ z => by cases z)))
  · exact .inl (.inr ⟨o, c _ _ h (fun _ z => by cases z)⟩)
  · exact .inr h
theorem xn_ex (e : Ex H H') : ExtN H H' := fun b o h _ => e b o h
theorem purse_xn (h : Purse H p) (e : ExtN H H') : Purse H' p := by
  obtain ⟨d, s, c, h⟩ := h
  exact ⟨d, s, c, e _ _ h (fun _ z => by cases z)⟩
theorem purse_ex (h : Purse H p) (e : Ex H H') : Purse H' p := by
  obtain ⟨d, s, c, h⟩ := h
  exact ⟨d, s, c, e _ _ h⟩
theorem tabs_ex {T : List (Addr × Str)} (t : Tabs T H) (e : Ex H H') : Tabs T H' := t.ext e
theorem tabs_chg {T : List (Addr × Str)} (t : Tabs T H) (h : Purse H p) (e : Chg p H H') : Tabs T H' := fun q hq => by
  obtain ⟨d, s, c, h⟩ := h
  obtain ⟨ps, h1, h2, h3⟩ := t q hq
  refine ⟨ps, e _ _ (ne_of h1 h (fun z => by cases z)) h1, h2, fun pos cv hc => ?_⟩
  obtain ⟨c', e1, e2⟩ := h3 pos cv hc
  exact ⟨c', e1, e _ _ (ne_of e2 h (fun z => by cases z)) e2⟩
/-! data at another heap -/
mutual
theorem dp_map (hl : ∀ a xs, SqL K H a xs → SqL K H' a xs) (ht : ∀ a xs, SqT K H a xs → SqT K H' a xs) : ∀ (d : PyData) (v : V), Dp K H v d → Dp K H' v d
  | .none, _, h => by cases h; exact .non
  | .bool b, _, h => by cases h; exact .bl b
  | .int i, _, h => by cases h; exact .int i
  | .str x, _, h => by cases h; exact .str x
  | .list ds, _, h => by
    cases h with
    | lst h1 h2 => exact .lst (hl _ _ h1) (dp_maps hl ht ds _ h2)
  | .tuple ds, _, h => by
    cases h with
    | tup h1 h2 => exact .tup (ht _ _ h1) (dp_maps hl ht ds _ h2)
  | .dict kvs, _, h => by cases h
theorem dp_maps (hl : ∀ a xs, SqL K H a xs → SqL K H' a xs) (ht : ∀ a xs, SqT K H a xs → SqT K H' a xs) : ∀ (ds : List PyData) (vs : List V), DpAll K H vs ds → DpAll K H' vs ds
  | [], _, h => by cases h; exact .nil
  | d :: ds, _, h => by
    cases h with
    | cons h1 h2 => exact .cons (dp_map hl ht d _ h1) (dp_maps hl ht ds _ h2)
end
theorem dp_xn (e : ExtN H H') {v : V} {d : PyData} (h : Dp K H v d) : Dp K H' v d := dp_map (fun _ _ => xn_l e) (fun _ _ => xn_t e) d v h
theorem dp_ex' (e : Ex H H') {v : V} {d : PyData} (h : Dp K H v d) : Dp K H' v d := dp_xn (xn_ex e) h
theorem shw_xn (e : ExtN H H') {v : V} {z : Str} (h : XO2.Shw K H v z) : XO2.Shw K H' v z := by
  obtain ⟨d, e1, e2, e3, e4, e5, h⟩ := h
  refine ⟨d, e1, e2, e3, e4, e5, ?_⟩
  rcases h with ⟨n, h⟩ | ⟨a, kvs, ds, rfl, rfl, ha, g⟩
  · exact .inl ⟨n, dp_xn e h⟩
  · exact .inr ⟨a, kvs, ds, rfl, rfl, e _ _ ha (fun _ z => by cases z), g⟩
theorem shw_ex (e : Ex H H') {v : V} {z : Str} (h : XO2.Shw K H v z) : XO2.Shw K H' v z := shw_xn (xn_ex e) h
end
end XB
/-! Own: enumerate(t, 1) over a tuple; sorted of a tuple of ints; a def called by keywords alone. -/
namespace XQ
open PySem PySem.Spec PyProof.Rows L2
open AutoSeq1 (wpAny_loadPart')
/-! ### enumerate(t, 1) -/
theorem tc_enum2 (a b : Value) : checkTypeCall "enumerate" ⟨[a, b], []⟩ = pure () := by kernel_rfl
theorem nc_enum2 (a b : Value) : checkBuiltinCall "enumerate.__new__" ⟨[.type "enumerate", a, b], []⟩ = pure () := by kernel_rfl
theorem enum1_new (l : Addr) (items : Array Value) (o : Obj) (tk : Tok) (hc : o.cls = .type "tuple") (n : Nat) (hd : o.data = .seq items n) :
    Meets (Builtin.«enumerate.__new__» ⟨[.type "enumerate", .ref l, .int 1 tk], []⟩) (fun _ R s => s.heap.get? l = some o ∧
      R (.ok (.ret (.ref (s.heap.push { cls := .type "tuple_iterator", data := .fields #[.ref l, .int 0 0] }).objs.size)))
        { s with heap := (s.heap.push { cls := .type "tuple_iterator", data := .fields #[.ref l, .int 0 0] }).push { cls := .type "enumerate", data := .fields #[.none, .bool false, .ref s.heap.objs.size, rawInt 1, .none, .none] } }) :=
  .of_wp fun prog w A R s h => by
    obtain ⟨hp, g, d, t, os⟩ := s
    obtain ⟨hl, h⟩ := h
    have hsub := sub_enumerate
    have hL : Heap.IsTuple (Shared.heap ⟨hp, g, d, t, os⟩) l items := ⟨o, hl, hc, n, hd⟩
    wp_walk using wpAny_loadPart' hl
    refine wpAny_stack_any fun st => wpAny_pure ?_
    split
    · rename_i c _ _ _ _ _
      cases (c == Value.type "enumerate")
      · wp_walk using wpAny_loadPart' hl, wpAny_pyIter_tuple hL
        exact ⟨_, rfl, h⟩
      · wp_walk using wpAny_loadPart' hl, wpAny_pyIter_tuple hL
        exact ⟨_, rfl, h⟩
    · wp_walk using wpAny_loadPart' hl, wpAny_pyIter_tuple hL
      exact ⟨_, rfl, h⟩
theorem enum1_call {prog : Program} {w : World} {A : Around} {E : Value → Shared → Prop} {s : Shared} {l : Addr} {items : Array Value} {tk : Tok} {Q : Value → Shared → Prop} (hL : s.heap.IsTuple l items)
    (h : ∀ h', IsEnum h' (s.heap.objs.size + 1) s.heap.objs.size 1 .none → h'.IsTupleIter s.heap.objs.size l 0 → h'.objs.size = s.heap.objs.size + 2 →
      (∀ b o, s.heap.get? b = some o → h'.get? b = some o) → Q (.ref (s.heap.objs.size + 1)) { s with heap := h' }) :
    wpAny (model prog w) A (call (.type "enumerate") [.ref l, .int 1 tk]) Q E s := by
  obtain ⟨o, hl, hc, n, hd⟩ := hL
  refine callType_new F.called_enumerate (by decide) (tc_enum2 _ _) (nc_enum2 _ _) (fun obj => F.args_object_init_3 obj _ _) F.entry_enumerate_new
    (enum1_new l items o tk hc n hd) ⟨hl, ?_⟩
  have hz : (s.heap.push { cls := .type "tuple_iterator", data := .fields #[.ref l, .int 0 0] }).objs.size = s.heap.objs.size + 1 := Heap.size_push ..
  show _ ∧ _
  rw [hz]
  have he : IsEnum ((s.heap.push { cls := .type "tuple_iterator", data := .fields #[.ref l, .int 0 0] }).push
      { cls := .type "enumerate", data := .fields #[.none, .bool false, .ref s.heap.objs.size, rawInt 1, .none, .none] }) (s.heap.objs.size + 1) s.heap.objs.size 1 .none := by
    have q := Heap.get?_push_size (s.heap.push { cls := .type "tuple_iterator", data := .fields #[.ref l, .int 0 0] })
      (o := { cls := .type "enumerate", data := .fields #[.none, .bool false, .ref s.heap.objs.size, rawInt 1, .none, .none] }) rfl
    rw [hz] at q
    exact q
  exact ⟨⟨_, he, rfl⟩, h _ he ⟨_, Heap.get?_push_of_some _ (Heap.get?_push_size _ rfl), rfl, rfl⟩ (by rw [Heap.size_push, hz]) fun b o x => Heap.get?_push_of_some _ (Heap.get?_push_of_some _ x)⟩
/-- the same draws, counted from 1 -/
theorem draws_up {prog : Program} {w : World} {A : Around} {it : Addr} {fp : List Addr} {n : Nat} {P : Nat → Value → Prop} {St : Nat → Heap → Prop} (D : Draws prog w A it fp n P St) :
    Draws prog w A it fp (n + 1) (fun j v => ∃ i, j = i + 1 ∧ P i v) (fun j h => ∃ i, j = i + 1 ∧ St i h) where
  live := fun j h st => by obtain ⟨i, _, q⟩ := st; exact D.live i h q
  frame := fun j h h' st k => by obtain ⟨i, e, q⟩ := st; exact ⟨i, e, D.frame i h h' q k⟩
  item := fun j s Q E hj st hQ => by
    obtain ⟨i, e, q⟩ := st
    exact D.item i s Q E (by omega) q fun x h' tk px st' sb => hQ x h' tk ⟨i, e, px⟩ ⟨i + 1, by omega, st'⟩ sb
  done := fun s Q E st hE => by
    obtain ⟨i, e, q⟩ := st
    obtain rfl : i = n := by omega
    exact D.done s Q E q hE
/-- the tuple at a, each item in a new pair with its place, counted from 1 -/
def Itet1 (K : PySem.W.Frag) (a : Addr) : It :=
  ⟨fun i H => ∃ (xs : List V) (x : V), SqT K H a xs ∧ xs[i]? = some x, fun i H v H' => ∃ T x, v = .ref T ∧ H T = none ∧ H' = upd H T (.tup [.int ((i + 1 : Nat) : Int), x]) ∧ ∀ xs, SqT K H a xs → xs[i]? = some x, fun i H => ∃ xs : List V, SqT K H a xs ∧ xs.length ≤ i⟩
theorem turn_enumT1 {P : Program} {w : World} {K : PySem.W.Frag} {elts : List Expr} {kk : Nat} {tpos : Pos} (a e it : Addr) :
    Turn P w K (.Tuple elts kk tpos) (Itet1 K a) [e, it] e (fun i h => (∃ old, IsEnum h e it ((i + 1 : Nat) : Int) old) ∧ h.IsTupleIter it a i ∧ e ≠ it ∧ a ≠ it ∧ a ≠ e) where
  mem := by simp
  obj := fun i h st b hb => by
    obtain ⟨⟨old, he⟩, ⟨o, ho, hc, hd⟩, _⟩ := st
    have e' : b = e ∨ b = it := by simpa using hb
    rcases e' with z | z
    · rw [z]; exact ⟨_, he, fun v q => nomatch q⟩
    · rw [z]; exact ⟨o, ho, fun v q => by rw [hd] at q; cases q⟩
  keep := fun i h h' st k => by
    obtain ⟨⟨old, he⟩, hi, hne⟩ := st
    exact ⟨⟨old, k e (by simp) _ he⟩, hi.at fun o q => k it (by simp) o q, hne⟩
  item := by
    intro X hP hw hK hc i pins s σ H E I hf st hg
    subst hP hw hK
    obtain ⟨⟨old, he⟩, hit, hne, hai, hae⟩ := st
    obtain ⟨xs, x, hq, hx⟩ := hg
    obtain ⟨its, rv, p, hz⟩ := I.tuple hq
    obtain ⟨u, hu, ru⟩ := rv.get hx
    have hel : e < s.heap.objs.size := Heap.lt_size he
    have hil : it < s.heap.objs.size := by obtain ⟨_, q, _⟩ := hit; exact Heap.lt_size q
    have hT : s.heap.IsTuple a its.toArray := p
    have hlt : i < its.toArray.size := by
      have z1 := (List.getElem?_eq_some_iff.mp hu).1
      simpa using z1
    refine wpAny_pyNext_enum_itemD (draws_up (Draws.tuple (A := X.A.in1) (I.ok.hd hc) it a hai its.toArray)) (i := i + 1) he ⟨i, rfl, hit, hT⟩ (Nat.succ_lt_succ hlt) hne (by simp [hne, Ne.symm hae]) fun y h' tk hy ho hst hT' hsz hk => ?_
    obtain ⟨i', ei, hy⟩ := hy
    obtain ⟨i'', ei', hit'⟩ := hst
    obtain rfl : i = i' := by omega
    obtain rfl : i'' = i + 1 := by omega
    obtain rfl : y = u := by
      have z1 : its.toArray[i]? = some u := by simpa using hu
      exact Option.some.inj (hy.symm.trans z1)
    refine ⟨_, rfl, wpAny_letOwnedTupleGo_enum (s := { s with heap := h', toks := tk + 1 }) ho fun h'' he' sb => ?_⟩
    have hT2 : h''.get? s.heap.objs.size = some { cls := .type "tuple", data := .seq #[.int ((i + 1 : Nat) : Int) tk, y] } := (sb.2 _ (Nat.ne_of_gt hel)).trans hT'
    have new : ObjOk X.prog X.w (upd H s.heap.objs.size (.tup [.int ((i + 1 : Nat) : Int), x])) h'' s.heap.objs.size (.tup [.int ((i + 1 : Nat) : Int), x]) :=
      ⟨by show 2 ≤ sizeLine; decide, [.int ((i + 1 : Nat) : Int) tk, y], .cons ⟨_, rfl⟩ (.cons ru .nil), ⟨_, hT2, rfl, _, rfl⟩⟩
    have I1 : L2.Inv X pins σ (upd H s.heap.objs.size (.tup [.int ((i + 1 : Nat) : Int), x])) { s with heap := h'', toks := tk + 1 } :=
      I.turnedNew (ch := [e, it]) (fun b ob hb q => (sb.2 b (fun z => hb (by simp [z]))).trans (hk b ob (fun z => hb (by simp [z])) (fun z => hb (by simp [z])) q)) hf (Nat.le_refl _) new
    refine ⟨.ref s.heap.objs.size, _, I1, rfl, ⟨_, x, rfl, I.hok.fresh (Nat.le_refl _), rfl, fun ys hy => by rw [I.tuple_inj hy hq]; exact hx⟩, ⟨⟨y, ?_⟩, hit'.1.at fun o q => (sb.2 it (Ne.symm hne)).trans q, hne, hai, hae⟩, fun b hb => ?_⟩
    · have e1 : ((i + 1 + 1 : Nat) : Int) = ((i + 1 : Nat) : Int) + 1 := by omega
      rw [e1]; exact he'
    · have hb' : b < s.heap.objs.size := by
        have e' : b = e ∨ b = it := by simpa using hb
        rcases e' with z | z
        · rw [z]; exact hel
        · rw [z]; exact hil
      rw [upd_ne (Nat.ne_of_lt hb')]
      exact (hf b hb).1
  done := by
    intro X hP hw hK hc i pins s σ H E I hf st hg
    subst hP hw hK
    obtain ⟨⟨old, he⟩, hit, hne, hai, hae⟩ := st
    obtain ⟨xs, hq, hx⟩ := hg
    obtain ⟨its, rv, p, hz⟩ := I.tuple hq
    obtain ⟨f0, f1, f2, f3, f4, f5⟩ := hf it (by simp)
    have hl := rv.length
    exact XI.enum_endT (I.ok.hd hc) he hit (show s.heap.IsTuple a its.toArray from p) (by simp; omega) fun h' eb => ⟨rfl, I.turned (t' := s.toks) (fun b o hb q => eb b o hb q) f0 f1 f3 f4 f5⟩
  self := fun A i s Q E st h => by
    obtain ⟨⟨_, he⟩, _⟩ := st
    exact wpAny_pyIter_enum he h
def iEnumT1 (K : PySem.W.Frag) (ta : TA) : TI := fun σ H R => ta σ H fun vs H1 => ∃ a xs, vs = [.ref a, .int 1] ∧ SqT K H1 a xs ∧ R (Itet1 K a) H1
theorem pi_enumT1 {X : Cx} {e e2 : Expr} {ta : TA} {p pos tpos : Pos} {elts : List Expr} {kk : Nat} (hg : Gl X "enumerate") (hm : X.mg "enumerate" = none) (ha : PA X [e, e2] ta) (hs : starEach [e, e2] X.env = (false, eval e X.env) :: starEach [e2] X.env := by rfl) (hpl : (backTo pos (starEach [e2] X.env)).any (·.1) = false := by rfl) :
    PI X (.Tuple elts kk tpos) (.Call (.Name "enumerate" p) [e, e2] [] pos) (iEnumT1 X.K ta) := by
  refine ⟨fun pins s σ H R I h => ?_⟩
  refine Call_ (ld_blt I hg hm boot_enumerate (PyProof.Rows.callWith_type1 (thn (ha.run pos pins s σ H _ I h) fun us s1 ⟨vs, H1, I1, r1, q1⟩ => ?_) hs hpl))
  obtain ⟨a, xs, ex, hq, q⟩ := q1
  subst ex
  cases r1 with
  | cons ra rr =>
    cases rr with
    | cons rb rr =>
      cases rr
      cases ra
      obtain ⟨tk, rfl⟩ := rb
      obtain ⟨its, rv, p', hz⟩ := I1.tuple hq
      have hal : a < s1.heap.objs.size := by obtain ⟨_, z, _⟩ := p'; exact Heap.lt_size z
      refine enum1_call p' fun h' he hit hsz hk => wpAny_pyIter_enum he ?_
      have I2 : L2.Inv X pins σ H1 { s1 with heap := h' } := I1.kept (t' := s1.toks) hk
      refine ⟨s1.heap.objs.size + 1, [s1.heap.objs.size + 1, s1.heap.objs.size], _, _, H1, rfl, I2, turn_enumT1 a (s1.heap.objs.size + 1) s1.heap.objs.size, ⟨⟨.none, he⟩, hit, Nat.succ_ne_self _, Nat.ne_of_lt hal, Nat.ne_of_lt (Nat.lt_succ_of_lt hal)⟩, fun b hb => ?_, q⟩
      have hle : s1.heap.objs.size ≤ b := by
        have e' : b = s1.heap.objs.size + 1 ∨ b = s1.heap.objs.size := by simpa using hb
        rcases e' with z | z
        · rw [z]; exact Nat.le_add_right _ _
        · rw [z]; exact Nat.le_refl _
      exact I1.fpOk hle (I1.hok.fresh hle)
theorem walk_enumT1 {K : PySem.W.Frag} {a : Addr} {xs : List V} : Walk (Itet1 K a) xs.length (fun H => SqT K H a xs) (YPair (fun i => some (.int ((i + 1 : Nat) : Int))) (fun i => xs[i]?)) := by
  refine ⟨fun i _ hi q => ⟨xs, xs[i], q, by simp [hi]⟩, fun _ q => ⟨xs, q, Nat.le_refl _⟩, fun i H v H' _ q y => ?_⟩
  obtain ⟨T, x, h1, h2, h3, h4⟩ := y
  exact ⟨T, .int ((i + 1 : Nat) : Int), x, h1, h2, h3, rfl, h4 xs q⟩
end XQ
namespace XQ
open PySem PySem.Spec PyProof.Rows L2 SrtO
/-! ### sorted of a tuple of ints -/
section
variable {prog : Program} {w : World} {A : Around} {E : Value → Shared → Prop} {s : Shared}
theorem sorted_tup {l : Addr} {vs : List Value} {ltv : Value → Value → Bool} {Q : Value → Shared → Prop} (O : Swo ltv) (hl : s.heap.IsTuple l vs.toArray) (hz : vs.length ≤ sizeLine)
    (hS : 2 ≤ vs.length → ∀ (h₁ : Heap) (a : Addr), h₁.get? a = some (seqObj "list" vs.toArray 0) → SortableO prog w A.in1.in1 { s with heap := h₁ } a vs ltv)
    (h : ∀ (out : List Value) (h1 h' : Heap) (p : Addr) (c : Nat), Srtd ltv out → Stb ltv out vs → (∀ b o, s.heap.get? b = some o → h1.get? b = some o) → (∀ b o, h1.get? b = some o → h'.get? b = some o) → h1.objs.size ≤ p → h'.get? p = some (seqObj "list" out.toArray c) → Q (.ref p) { s with heap := h' }) :
    wpAny (model prog w) A (call (.builtin "sorted") [.ref l]) Q E s := by
  obtain ⟨o, ho, hc, n, hd⟩ := hl
  refine Calls.call_function_entry kind_sorted plain_sorted entry_sorted (args_sorted1 _) ?_
  unfold Builtin.«sorted»
  refine wpAny_bind (m := checkCount "sorted" 1 1 _) (wpAny_pure ?_)
  refine wpAny_bind (wpAny_collect_seq l (.inr rfl) ho hc hd (fun h1 k1 => ?_) (by simpa using hz))
  have e0 : vs.toArray.toList = vs := by simp
  rw [e0]
  refine wpAny_bind (wpAny_newList ?_ hz)
  have hoL : (h1.push (seqObj "list" vs.toArray 0)).get? h1.objs.size = some (seqObj "list" vs.toArray 0) := Heap.get?_push_size _ rfl
  show wpAny _ _ _ _ _ { s with heap := h1.push (seqObj "list" vs.toArray 0) }
  refine wpAny_bind (wpAny_holding (wpAny_call_entry slot_list_sort ⟨_, hoL, rfl⟩ entry_list_sort (list_sort_ord O hoL hz (fun h2 => hS h2 _ _ hoL) fun out hs hb => ⟨_, rfl, ?_⟩) (args_list_sort _)))
  obtain ⟨c, hat⟩ := PyProof.Rows.sortedHeap_at (vs := vs) (out := out.toArray) hoL
  refine wpAny_pure ⟨_, rfl, h out h1 _ h1.objs.size c hs hb k1 (fun b u hb1 => ?_) (Nat.le_refl _) hat⟩
  have hlt := Heap.lt_size hb1
  rw [PyProof.Rows.sortedHeap_old (Nat.ne_of_lt hlt) (by rw [Heap.size_push]; exact Nat.lt_succ_of_lt hlt)]
  exact Heap.get?_push_of_some _ hb1
end
def rSortedT (K : PySem.W.Frag) : List V → Hp → VK → Prop := fun vs H Q => ∃ (a : Addr) (ns : List Int), vs = [V.ref a] ∧ SqT K H a (ns.map V.int) ∧
  ∀ (ns' : List Int) (p : Addr), ns'.Perm ns → ns'.Pairwise (· ≤ ·) → H p = none → Q (.ref p) (upd H p (.lst (ns'.map V.int)))
section
variable {X : Cx}
theorem cr_sortedT : CallR X (.builtin "sorted") (rSortedT X.K) := by
  intro pins s σ H vs us Q I r h
  obtain ⟨a, ns, rfl, hs, q⟩ := h
  obtain ⟨its, rv, hl, hz⟩ := I.tuple hs
  rw [Vals.ref1 r]
  have hi := rv.ints
  refine sorted_tup SrtO.swo_int hl (by rw [← rv.length]; exact hz) (fun h2 h₁ a' _ => SrtO.ints_sortable hi h2) fun out hm h' p c h1 h2 k0 kp hp hat => ?_
  obtain ⟨k1, k2, k3⟩ := SrtO.ints_out hi h1 h2
  have hlen : ((out.map SrtO.iv).map V.int).length ≤ sizeLine := by
    rw [List.length_map, k2.length_eq]
    rw [List.length_map] at hz
    exact hz
  have I1 : L2.Inv X pins σ H { s with heap := hm } := I.kept (t' := s.toks) k0
  exact ⟨.ref _, upd H p (.lst ((out.map SrtO.iv).map V.int)), I1.laid (t' := s.toks) kp hp ⟨hlen, out, c, vals_of_ints k1, hat⟩, rfl, q _ _ k2 k3 (I1.hok.fresh hp)⟩
end
/-! ### f(k = v, ..) -/
section
variable {X : Cx} {CX : CXT} {k : Nat} {f : Addr} {fd : FuncData} {ps ks : List Str} {sp : Sp} {E : XK} {x : Str} {p pos : Pos} {kws : List Keyword} {tk : TA} {gg : List Value → List Value → List Value} {gV : List V → List V → List V}
def tCallK0 (n : Nat) (sp : Sp) (gV : List V → List V → List V) (E : XK) (tk : TA) : TE := fun σ H Q => tk σ H fun zs H2 => zs.length = n ∧ sp (gV [] zs) H2 Q E
theorem pe_callK0 (F : FnOk X.prog X.w X.K X.mg X.base CX k f fd ps sp) (hr : Room k X.A) (hg : Gl X x) (hm : X.mg x = some (.ref f)) (hk : PySem.W.keepIn X.K (.ref f) = true) (hb : KBn X.K fd ps 0 ks gg gV) (hx : Passes CX X E) (hkw : PK X kws tk)
    (hall : (backToKw pos (keywordEach kws X.env)).all (·.1.isSome) = true := by rfl) (hks : (backToKw pos (keywordEach kws X.env)).filterMap (·.1) = ks := by rfl) (hdb : (x == ("__debug__" : Str)) = false := by decide)
    (hpl : ((backTo pos (starEach [] X.env)).any (·.1) || (backToKw pos (keywordEach kws X.env)).any (·.1.isNone)) = false := by rfl) :
    PE X (.Call (.Name x p) [] kws pos) (tCallK0 ks.length sp gV E tk) := by
  refine ⟨fun pins s σ H Q I h => ?_⟩
  refine wpAny_Call_Name_kw (ld_glob I hg hm ?_ hdb)
  refine PySem.W.callWith_KW0 (first := []) (h₀ := X.base) I.ok.mod.kin hk hall ?_ hpl
  refine thn (hkw.run pos pins s σ H _ I h) fun ws s2 ⟨zs, H2, I2, rz, l2, q2⟩ => ⟨I2.kIn, ?_⟩
  rw [hks]
  exact run_fnN (us := []) (vs := []) F hr hb hx I2 .nil rz rfl l2 q2
end
end XQ
namespace XB
open PySem PySem.Spec PyProof.Rows L2 Evl
section
variable {K : PySem.W.Frag} {σ : L2.St} {H : Hp} {t : TT} {ta tb te : TE}
/-- a comprehension over the signs of a text -/
theorem el_lcT {z : Str} {tl : TE} {j : Nat} {vs : List Nat} (v : Nat → V) (h : Ev tl σ H (.str z)) (hz : z.cps.size ≤ 40000) (hw : ∀ x, wipe ((wipe σ vs).set j (some x)) vs = wipe σ vs)
    (he : ∀ c H1, Ex H H1 → c ∈ z.cps.toList → Ev te ((wipe σ vs).set j (some (.str ⟨#[c]⟩))) H1 (v c)) :
    EvL (tLc (iStr tl) (gName j) tYes te vs) σ H (z.cps.toList.map v) := fun H0 e Q q => h H0 e _ fun H1 e1 => ⟨z, rfl, fun D hD => by
  refine lc_it walk_str (fun i G => Ex H1 G ∧ G D = some (.lst ((z.cps.toList.take i).map v))) ⟨Ex.new hD, upd_same⟩ (fun i G _ p => trivial) ?_ ?_
  · rintro i x G' G hi ⟨g1, g2⟩ ⟨rfl, c, hc, rfl⟩
    have hcl : z.cps.toList[i]? = some c := by rw [Array.getElem?_toList]; exact hc
    have m := List.mem_of_getElem? hcl
    have tk : z.cps.toList.take (i + 1) = z.cps.toList.take i ++ [c] := by rw [List.take_succ, hcl]; rfl
    refine ⟨hw _, tYes_go ?_⟩
    refine he c _ ((e.trans e1).trans g1) m _ (Ex.refl _) _ fun G3 g3 => ⟨_, g3 _ _ g2, ?_, Ex.mut (g1.trans g3) hD, ?_⟩
    · refine sz_lt ?_
      rw [List.length_map, List.length_take, Array.length_toList]
      omega
    · rw [upd_same, tk, List.map_append]
      rfl
  · rintro G ⟨g1, g2⟩
    refine q D G (fresh_back e1 hD) (e1.trans g1) ?_
    rw [g2, List.take_of_length_le (by rw [Array.length_toList]; exact Nat.le_refl _)]⟩
end
end XB
/-! Own: values of any sort, apart from the drawer p: what they are as data, menus of them, their types. -/
namespace XO2
open PySem PySem.Spec PyProof.Rows L2 Evl XB LamX
mutual
inductive Od (K : PySem.W.Frag) (p : Addr) (H : Hp) : V → PyData → Prop
  | non : Od K p H .non .none
  | bl (b : Bool) : Od K p H (.bl b) (.bool b)
  | int (i : Int) : Od K p H (.int i) (.int i)
  | str (x : Str) : Od K p H (.str x) (.str x)
  | lst {a : Addr} {xs : List V} {ds : List PyData} : a ≠ p → SqL K H a xs → OdAll K p H xs ds → Od K p H (.ref a) (.list ds)
  | tup {a : Addr} {xs : List V} {ds : List PyData} : a ≠ p → SqT K H a xs → OdAll K p H xs ds → Od K p H (.ref a) (.tuple ds)
  | dct {a : Addr} {kvs : List (Key × V)} {ds : List (PyData × PyData)} : a ≠ p → H a = some (.dK kvs) → KvD kvs ds → Od K p H (.ref a) (.dict ds)
inductive OdAll (K : PySem.W.Frag) (p : Addr) (H : Hp) : List V → List PyData → Prop
  | nil : OdAll K p H [] []
  | cons {v : V} {vs : List V} {d : PyData} {ds : List PyData} : Od K p H v d → OdAll K p H vs ds → OdAll K p H (v :: vs) (d :: ds)
end
section
variable {K : PySem.W.Frag} {p : Addr} {H H' : Hp} {v : V} {d : PyData} {vs : List V} {ds : List PyData}
mutual
theorem od_kp (c : Kp p H H') : ∀ (d : PyData) (v : V), Od K p H v d → Od K p H' v d
  | .none, _, h => by cases h; exact .non
  | .bool b, _, h => by cases h; exact .bl b
  | .int i, _, h => by cases h; exact .int i
  | .str x, _, h => by cases h; exact .str x
  | .list ds, _, h => by
    cases h with
    | lst n h1 h2 => exact .lst n (c.seq n h1) (ods_kp c ds _ h2)
  | .tuple ds, _, h => by
    cases h with
    | tup n h1 h2 => exact .tup n (c.tup n h1) (ods_kp c ds _ h2)
  | .dict ds, _, h => by
    cases h with
    | dct n h1 h2 => exact .dct n (c _ _ n (fun _ z => by cases z) h1) h2
theorem ods_kp (c : Kp p H H') : ∀ (ds : List PyData) (vs : List V), OdAll K p H vs ds → OdAll K p H' vs ds
  | [], _, h => by cases h; exact .nil
  | d :: ds, _, h => by
    cases h with
    | cons h1 h2 => exact .cons (od_kp c d _ h1) (ods_kp c ds _ h2)
end
theorem Od.kp (h : Od K p H v d) (c : Kp p H H') : Od K p H' v d := od_kp c d v h
theorem OdAll.kp (h : OdAll K p H vs ds) (c : Kp p H H') : OdAll K p H' vs ds := ods_kp c ds vs h
theorem Od.ex (h : Od K p H v d) (e : Ex H H') : Od K p H' v d := h.kp (Kp.ex e)
theorem OdAll.ex (h : OdAll K p H vs ds) (e : Ex H H') : OdAll K p H' vs ds := h.kp (Kp.ex e)
mutual
theorem od_dp : ∀ (d : PyData) (v : V), d.hasDict = false → Od K p H v d → Dp K H v d
  | .none, _, _, h => by cases h; exact .non
  | .bool b, _, _, h => by cases h; exact .bl b
  | .int i, _, _, h => by cases h; exact .int i
  | .str x, _, _, h => by cases h; exact .str x
  | .list ds, _, n, h => by
    cases h with
    | lst _ h1 h2 => exact .lst h1 (ods_dp ds _ n h2)
  | .tuple ds, _, n, h => by
    cases h with
    | tup _ h1 h2 => exact .tup h1 (ods_dp ds _ n h2)
  | .dict ds, _, n, h => by cases n
theorem ods_dp : ∀ (ds : List PyData) (vs : List V), PyData.hasDictAll ds = false → OdAll K p H vs ds → DpAll K H vs ds
  | [], _, _, h => by cases h; exact .nil
  | d :: ds, _, n, h => by
    have n : (d.hasDict || PyData.hasDictAll ds) = false := n
    rw [Bool.or_eq_false_iff] at n
    cases h with
    | cons h1 h2 => exact .cons (od_dp d _ n.1 h1) (ods_dp ds _ n.2 h2)
end
theorem OdAll.len (h : OdAll K p H vs ds) : vs.length = ds.length := by
  induction ds generalizing vs with
  | nil => cases h; rfl
  | cons d ds ih =>
    cases h with
    | cons _ h2 => rw [List.length_cons, List.length_cons, ih h2]
theorem OdAll.at (h : OdAll K p H vs ds) {i : Nat} {v : V} (hv : vs[i]? = some v) : ∃ d, ds[i]? = some d ∧ Od K p H v d := by
  induction ds generalizing vs i with
  | nil => cases h; cases hv
  | cons d ds ih =>
    cases h with
    | cons h1 h2 =>
      cases i with
      | zero => cases hv; exact ⟨d, rfl, h1⟩
      | succ i => exact ih h2 hv
theorem OdAll.atD (h : OdAll K p H vs ds) {i : Nat} {d : PyData} (hd : ds[i]? = some d) : ∃ v, vs[i]? = some v ∧ Od K p H v d := by
  induction ds generalizing vs i with
  | nil => cases hd
  | cons d ds ih =>
    cases h with
    | cons h1 h2 =>
      cases i with
      | zero => cases hd; exact ⟨_, rfl, h1⟩
      | succ i => exact ih h2 hd
theorem OdAll.mem (h : OdAll K p H vs ds) (hv : v ∈ vs) : ∃ d ∈ ds, Od K p H v d := by
  obtain ⟨i, hi⟩ := List.getElem?_of_mem hv
  obtain ⟨d, hd, o⟩ := h.at hi
  exact ⟨d, List.mem_of_getElem? hd, o⟩
theorem OdAll.app {us : List V} {es : List PyData} (h : OdAll K p H vs ds) (g : OdAll K p H us es) : OdAll K p H (vs ++ us) (ds ++ es) := by
  induction ds generalizing vs with
  | nil => cases h; exact g
  | cons d ds ih =>
    cases h with
    | cons h1 h2 => exact .cons h1 (ih h2)
theorem OdAll.take (h : OdAll K p H vs ds) (n : Nat) : OdAll K p H (vs.take n) (ds.take n) := by
  induction ds generalizing vs n with
  | nil => cases h; rw [List.take_nil, List.take_nil]; exact .nil
  | cons d ds ih =>
    cases h with
    | cons h1 h2 =>
      cases n with
      | zero => exact .nil
      | succ n => exact .cons h1 (ih h2 n)
theorem OdAll.drop (h : OdAll K p H vs ds) (n : Nat) : OdAll K p H (vs.drop n) (ds.drop n) := by
  induction ds generalizing vs n with
  | nil => cases h; rw [List.drop_nil, List.drop_nil]; exact .nil
  | cons d ds ih =>
    cases h with
    | cons h1 h2 =>
      cases n with
      | zero => exact .cons h1 h2
      | succ n => exact ih h2 n
/-! ### the type -/
def isStrD : PyData → Bool | .str _ => true | _ => false
def isTupD : PyData → Bool | .tuple _ => true | _ => false
def isBoolD : PyData → Bool | .bool _ => true | _ => false
def isIntD : PyData → Bool | .int _ | .bool _ => true | _ => false
def isNumD : PyData → Bool | .int _ => true | _ => false
theorem tyx_sql {a : Addr} {xs : List V} (h : SqL K H a xs) : TyX K H (.ref a) (.type "list") := by
  rcases h with (h | ⟨o, h⟩) | ⟨o, its, n, h, hc, _⟩
  · exact .base (.lst h)
  · exact .base (.frz h)
  · exact .kList h hc
def tyD : PyData → String
  | .none => "NoneType" | .bool _ => "bool" | .int _ => "int" | .str _ => "str" | .list _ => "list" | .tuple _ => "tuple" | .dict _ => "dict"
theorem Od.ty (h : Od K p H v d) : TyX K H v (.type (tyD d)) := by
  cases h with
  | non => exact .base .non
  | bl b => exact .base (.bl b)
  | int i => exact .base (.int i)
  | str x => exact .base (.str x)
  | lst _ h1 _ => exact tyx_sql h1
  | tup _ h1 _ => exact tyx_sqt h1
  | dct _ h1 _ => exact .base (.dK h1)
theorem kit_str : ∀ d : PyData, kitB (tyD d) "str" = some (isStrD d)
  | .none => (by decide +kernel : kitB "NoneType" "str" = some false)
  | .bool _ => (by decide +kernel : kitB "bool" "str" = some false)
  | .int _ => (by decide +kernel : kitB "int" "str" = some false)
  | .str _ => (by decide +kernel : kitB "str" "str" = some true)
  | .list _ => (by decide +kernel : kitB "list" "str" = some false)
  | .tuple _ => (by decide +kernel : kitB "tuple" "str" = some false)
  | .dict _ => (by decide +kernel : kitB "dict" "str" = some false)
theorem kit_tup : ∀ d : PyData, kitB (tyD d) "tuple" = some (isTupD d)
  | .none => (by decide +kernel : kitB "NoneType" "tuple" = some false)
  | .bool _ => (by decide +kernel : kitB "bool" "tuple" = some false)
  | .int _ => (by decide +kernel : kitB "int" "tuple" = some false)
  | .str _ => (by decide +kernel : kitB "str" "tuple" = some false)
  | .list _ => (by decide +kernel : kitB "list" "tuple" = some false)
  | .tuple _ => (by decide +kernel : kitB "tuple" "tuple" = some true)
  | .dict _ => (by decide +kernel : kitB "dict" "tuple" = some false)
theorem kit_bool : ∀ d : PyData, kitB (tyD d) "bool" = some (isBoolD d)
  | .none => (by decide +kernel : kitB "NoneType" "bool" = some false)
  | .bool _ => (by decide +kernel : kitB "bool" "bool" = some true)
  | .int _ => (by decide +kernel : kitB "int" "bool" = some false)
  | .str _ => (by decide +kernel : kitB "str" "bool" = some false)
  | .list _ => (by decide +kernel : kitB "list" "bool" = some false)
  | .tuple _ => (by decide +kernel : kitB "tuple" "bool" = some false)
  | .dict _ => (by decide +kernel : kitB "dict" "bool" = some false)
theorem kit_int : ∀ d : PyData, kitB (tyD d) "int" = some (isIntD d)
  | .none => (by decide +kernel : kitB "NoneType" "int" = some false)
  | .bool _ => (by decide +kernel : kitB "bool" "int" = some true)
  | .int _ => (by decide +kernel : kitB "int" "int" = some true)
  | .str _ => (by decide +kernel : kitB "str" "int" = some false)
  | .list _ => (by decide +kernel : kitB "list" "int" = some false)
  | .tuple _ => (by decide +kernel : kitB "tuple" "int" = some false)
  | .dict _ => (by decide +kernel : kitB "dict" "int" = some false)
end
section
variable {K : PySem.W.Frag} {σ : L2.St} {p : Addr} {H H' : Hp} {v : V} {d : PyData} {vs xs : List V} {ds es : List PyData} {ta tb te : TE} {tl tr : TA} {a : Addr}
theorem ev_isStrO (ha : Ev ta σ H v) (h : Od K p H v d) : Ev (tCB (rIsi K) (tCons ta (tCons (tC (.ty "str")) tNil))) σ H (.bl (isStrD d)) := ev_isi ha (fun _ e => (h.ex e).ty) (kit_str d)
theorem ev_isTupO (ha : Ev ta σ H v) (h : Od K p H v d) : Ev (tCB (rIsi K) (tCons ta (tCons (tC (.ty "tuple")) tNil))) σ H (.bl (isTupD d)) := ev_isi ha (fun _ e => (h.ex e).ty) (kit_tup d)
theorem ev_isBoolO (ha : Ev ta σ H v) (h : Od K p H v d) : Ev (tCB (rIsi K) (tCons ta (tCons (tC (.ty "bool")) tNil))) σ H (.bl (isBoolD d)) := ev_isi ha (fun _ e => (h.ex e).ty) (kit_bool d)
theorem ev_isIntO (ha : Ev ta σ H v) (h : Od K p H v d) : Ev (tCB (rIsi K) (tCons ta (tCons (tC (.ty "int")) tNil))) σ H (.bl (isIntD d)) := ev_isi ha (fun _ e => (h.ex e).ty) (kit_int d)
/-! ### making such values -/
/-- d comes, apart from p -/
def EvO (K : PySem.W.Frag) (p : Addr) (te : TE) (σ : L2.St) (H : Hp) (d : PyData) : Prop := ∀ H1, Ex H H1 → ∀ Q : VK, (∀ v H2, Ex H1 H2 → Od K p H2 v d → Q v H2) → te σ H1 Q
def EvOs (K : PySem.W.Frag) (p : Addr) (ta : TA) (σ : L2.St) (H : Hp) (ds : List PyData) : Prop := ∀ H1, Ex H H1 → ∀ Q : List V → Hp → Prop, (∀ vs H2, Ex H1 H2 → OdAll K p H2 vs ds → Q vs H2) → ta σ H1 Q
/-- a new list of ds -/
def EvLo (K : PySem.W.Frag) (p : Addr) (te : TE) (σ : L2.St) (H : Hp) (ds : List PyData) : Prop := ∀ H1, Ex H H1 → ∀ Q : VK, (∀ l vs H2, H1 l = none → Ex H1 H2 → H2 l = some (.lst vs) → OdAll K p H2 vs ds → Q (.ref l) H2) → te σ H1 Q
theorem EvO.mono (h : EvO K p te σ H d) (e : Ex H H') : EvO K p te σ H' d := fun H1 e1 Q q => h H1 (e.trans e1) Q q
theorem eo_is {d' : PyData} (h : EvO K p te σ H d) (e : d = d') : EvO K p te σ H d' := e ▸ h
theorem eo_at (h : Ev te σ H v) (g : Od K p H v d) : EvO K p te σ H d := fun H1 e Q q => h H1 e _ fun H2 e2 => q v H2 e2 (g.ex (e.trans e2))
theorem eo_str {x : Str} (h : Ev te σ H (.str x)) : EvO K p te σ H (.str x) := eo_at h (.str x)
theorem eo_int {x : Int} (h : Ev te σ H (.int x)) : EvO K p te σ H (.int x) := eo_at h (.int x)
theorem eo_bl {x : Bool} (h : Ev te σ H (.bl x)) : EvO K p te σ H (.bool x) := eo_at h (.bl x)
theorem eo_non (h : Ev te σ H .non) : EvO K p te σ H .none := eo_at h .non
theorem eo_cs {x : Str} : EvO K p (tC (.str x)) σ H (.str x) := eo_str ev_c
theorem eo_ci {x : Int} : EvO K p (tC (.int x)) σ H (.int x) := eo_int ev_c
theorem eo_cb {x : Bool} : EvO K p (tC (.bl x)) σ H (.bool x) := eo_bl ev_c
theorem eo_cn : EvO K p (tC .non) σ H .none := eo_non ev_c
theorem eos_nil : EvOs K p tNil σ H [] := fun H1 e Q q => q [] H1 (Ex.refl H1) .nil
theorem eos_cons (h : EvO K p te σ H d) (hs : EvOs K p tr σ H ds) : EvOs K p (tCons te tr) σ H (d :: ds) := fun H1 e Q q => h H1 e _ fun v H2 e2 g => hs H2 (e.trans e2) _ fun vs H3 e3 gs => q (v :: vs) H3 (e2.trans e3) (.cons (g.ex e3) gs)
theorem elo_lst (h : EvOs K p tl σ H ds) (hz : ds.length ≤ 100000) : EvLo K p (tLst tl) σ H ds := fun H1 e Q q => h H1 e _ fun vs H2 e2 g => ⟨by rw [g.len]; exact sz_of hz, fun l hl => q l vs _ (fresh_back e2 hl) (e2.trans (Ex.new hl)) upd_same (g.ex (Ex.new hl))⟩
theorem elo_cat (ha : EvLo K p ta σ H ds) (hb : EvLo K p tb σ H es) (hz : ds.length + es.length ≤ 100000) : EvLo K p (tOp rCat ta tb) σ H (ds ++ es) := fun H1 e Q q =>
  ha H1 e _ fun l1 vs H2 _ e2 h2 o2 => hb H2 (e.trans e2) _ fun l2 us H3 _ e3 h3 o3 =>
    ⟨l1, l2, vs, us, rfl, rfl, e3 _ _ h2, h3, by rw [o2.len, o3.len]; exact sz_of hz, fun l hl => q l _ _ (fresh_back (e2.trans e3) hl) ((e2.trans e3).trans (Ex.new hl)) upd_same (((o2.ex e3).app o3).ex (Ex.new hl))⟩
theorem elo_catV (ha : Ev ta σ H (.ref a)) (hl : H a = some (.lst xs)) (ho : OdAll K p H xs ds) (hb : EvLo K p tb σ H es) (hz : ds.length + es.length ≤ 100000) : EvLo K p (tOp rCat ta tb) σ H (ds ++ es) := fun H1 e Q q =>
  ha H1 e _ fun H2 e2 => hb H2 (e.trans e2) _ fun l2 us H3 _ e3 h3 o3 =>
    ⟨a, l2, xs, us, rfl, rfl, e3 _ _ (e2 _ _ (e _ _ hl)), h3, by rw [ho.len, o3.len]; exact sz_of hz, fun l hl => q l _ _ (fresh_back (e2.trans e3) hl) ((e2.trans e3).trans (Ex.new hl)) upd_same (((ho.ex ((e.trans e2).trans e3)).app o3).ex (Ex.new hl))⟩
section
variable {o : HO}
theorem eo_lo (hp : H p = some o) (h : EvLo K p te σ H ds) : EvO K p te σ H (.list ds) := fun H1 e Q q => h H1 e _ fun l vs H2 n e2 hl od => q _ H2 e2 (.lst (ne_of_none (e _ _ hp) n).symm (SqL.of hl) od)
theorem eo_lst (hp : H p = some o) (h : EvOs K p tl σ H ds) (hz : ds.length ≤ 100000) : EvO K p (tLst tl) σ H (.list ds) := eo_lo hp (elo_lst h hz)
theorem eo_tup (hp : H p = some o) (h : EvOs K p tl σ H ds) (hz : ds.length ≤ 100000) : EvO K p (tTup tl) σ H (.tuple ds) := fun H1 e Q q => h H1 e _ fun vs H2 e2 g => ⟨by rw [g.len]; exact sz_of hz, fun l hl =>
  q _ _ (e2.trans (Ex.new hl)) (.tup (ne_of_none (e2 _ _ (e _ _ hp)) hl).symm (st_of upd_same) (g.ex (Ex.new hl)))⟩
theorem eo_d0 (hp : H p = some o) : EvO K p tDNewK σ H (.dict []) := fun H1 e Q q => fun l hl => q _ _ (Ex.new hl) (.dct (ne_of_none (e _ _ hp) hl).symm upd_same .nil)
/-- list(x) of a tuple, of a list -/
theorem eo_listT (hp : H p = some o) (h : Ev ta σ H (.ref a)) (hs : SqL K H a xs ∨ SqT K H a xs) (od : OdAll K p H xs ds) : EvO K p (tCB (rListS K) (tCons ta tNil)) σ H (.list ds) := fun H1 e Q q =>
  h H1 e _ fun H2 e2 => ⟨a, xs, rfl, hs.elim (fun z => .inl (ex_l (e.trans e2) z)) (fun z => .inr (ex_t (e.trans e2) z)), fun l nl =>
    q _ _ (e2.trans (Ex.new nl)) (.lst (ne_of_none (e2 _ _ (e _ _ hp)) nl).symm (SqL.of upd_same) (od.ex ((e.trans e2).trans (Ex.new nl))))⟩
/-- a part of a tuple; two tuples, one behind the other -/
theorem eo_slA (hp : H p = some o) {t1 t2 : TO} {lo hi : Option Int} (h : Ev te σ H (.ref a)) (hx : SqT K H a xs) (np : a ≠ p) (h1 : Evl.EvO t1 σ H lo) (h2 : Evl.EvO t2 σ H hi) (od : OdAll K p H (cutV xs lo hi) es) : EvO K p (tSl (rSlA K) te t1 t2) σ H (.tuple es) := fun H1 e Q q =>
  h H1 e _ fun H2 e2 => h1 H2 (e.trans e2) _ fun H3 e3 => h2 H3 ((e.trans e2).trans e3) _ fun H4 e4 => by
    have x4 := ex_t (((e.trans e2).trans e3).trans e4) hx
    have o4 := od.ex (((e.trans e2).trans e3).trans e4)
    have e14 := (e2.trans e3).trans e4
    refine ⟨a, xs, rfl, x4, fun hw => ?_, fun hw l nl => ?_⟩
    · have : cutV xs lo hi = xs := by
        unfold cutV
        rw [hw.1, hw.2]
        simp
      rw [this] at o4
      exact q _ H4 e14 (.tup np x4 o4)
    · exact q _ _ (e14.trans (Ex.new nl)) (.tup (ne_of_none (e14 _ _ (e _ _ hp)) nl).symm (st_of upd_same) (o4.ex (Ex.new nl)))
theorem eo_catA (hp : H p = some o) (ha : EvO K p ta σ H (.tuple ds)) (hb : EvO K p tb σ H (.tuple es)) (hz : ds.length + es.length ≤ 100000) : EvO K p (tOp (rCatA K) ta tb) σ H (.tuple (ds ++ es)) := fun H1 e Q q =>
  ha H1 e _ fun v H2 e2 o2 => hb H2 (e.trans e2) _ fun u H3 e3 o3 => by
    have o2 := o2.ex e3
    cases o2 with
    | tup n1 s1 d1 =>
      cases o3 with
      | tup n2 s2 d2 =>
        rename_i a xs b ys
        refine ⟨a, b, xs, ys, rfl, rfl, s1, s2, by rw [d1.len, d2.len]; exact sz_of hz, fun z => ?_, fun _ z => ?_, fun _ _ l nl => ?_⟩
        · subst z
          cases d1
          exact q _ H3 (e2.trans e3) (.tup n2 s2 d2)
        · subst z
          cases d2
          exact q _ H3 (e2.trans e3) (by rw [List.append_nil]; exact .tup n1 s1 d1)
        · exact q _ _ ((e2.trans e3).trans (Ex.new nl)) (.tup (ne_of_none ((e2.trans e3) _ _ (e _ _ hp)) nl).symm (st_of upd_same) ((d1.app d2).ex (Ex.new nl)))
end
end
/-! ### what repr can show -/
def okSB (x : Str) : Bool := x.cps.toList.all fun c => decide (c < 0x110000)
theorem okSB_ok {x : Str} (h : okSB x = true) : OkS x := fun c m => of_decide_eq_true (List.all_eq_true.mp h c m)
mutual
def okB : PyData → Bool
  | .none | .bool _ | .int _ => true
  | .str x => okSB x
  | .list xs | .tuple xs => okBs xs
  | .dict kvs => okBk kvs
def okBs : List PyData → Bool
  | [] => true
  | x :: xs => okB x && okBs xs
def okBk : List (PyData × PyData) → Bool
  | [] => true
  | (k, v) :: r => okB k && okB v && okBk r
end
mutual
theorem okB_ok : ∀ d : PyData, okB d = true → OkD d
  | .none, _ | .bool _, _ | .int _, _ => trivial
  | .str x, h => okSB_ok h
  | .list xs, h => okBs_ok xs h
  | .tuple xs, h => okBs_ok xs h
  | .dict kvs, h => okBk_ok kvs h
theorem okBs_ok : ∀ xs : List PyData, okBs xs = true → OkDs xs
  | [], _ => trivial
  | x :: xs, h => by
    have h : (okB x && okBs xs) = true := h
    rw [Bool.and_eq_true] at h
    exact ⟨okB_ok x h.1, okBs_ok xs h.2⟩
theorem okBk_ok : ∀ xs : List (PyData × PyData), okBk xs = true → OkKv xs
  | [], _ => trivial
  | (k, v) :: r, h => by
    have h : (okB k && okB v && okBk r) = true := h
    rw [Bool.and_eq_true, Bool.and_eq_true] at h
    exact ⟨okB_ok k h.1.1, okB_ok v h.1.2, okBk_ok r h.2⟩
end
/-- shown without a dict, not deeper than a, not heavier than b -/
structure Nc (d : PyData) (a b : Nat) : Prop where
  s : d.showable = true
  l : PyData.leavesShort 50 d = true
  dd : d.depth ≤ a
  w : d.weight ≤ b
  o : OkD d
  n : d.hasDict = false
def ncB (a b : Nat) (d : PyData) : Bool := d.showable && PyData.leavesShort 50 d && decide (d.depth ≤ a) && decide (d.weight ≤ b) && okB d && !d.hasDict
theorem nc_b {a b : Nat} {d : PyData} (h : ncB a b d = true) : Nc d a b := by
  unfold ncB at h
  simp only [Bool.and_eq_true, decide_eq_true_eq, Bool.not_eq_true'] at h
  obtain ⟨⟨⟨⟨⟨h1, h2⟩, h3⟩, h4⟩, h5⟩, h6⟩ := h
  exact ⟨h1, h2, h3, h4, okB_ok _ h5, h6⟩
section
variable {d : PyData} {ds : List PyData} {a b a' b' : Nat}
theorem Nc.mono (h : Nc d a b) (h1 : a ≤ a') (h2 : b ≤ b') : Nc d a' b' := ⟨h.s, h.l, Nat.le_trans h.dd h1, Nat.le_trans h.w h2, h.o, h.n⟩
theorem nc_all (h : ∀ d ∈ ds, Nc d a b) : PyData.showableAll ds = true ∧ PyData.leavesShortAll 50 ds = true ∧ PyData.depthAll ds ≤ a ∧ PyData.weightAll ds ≤ ds.length * (b + 1) ∧ OkDs ds ∧ PyData.hasDictAll ds = false := by
  induction ds with
  | nil => exact ⟨rfl, rfl, Nat.zero_le _, Nat.zero_le _, trivial, rfl⟩
  | cons x r ih =>
    obtain ⟨i1, i2, i3, i4, i5, i6⟩ := ih fun y m => h y (List.mem_cons_of_mem _ m)
    have g := h x List.mem_cons_self
    refine ⟨?_, ?_, ?_, ?_, ⟨g.o, i5⟩, ?_⟩
    · show (x.showable && PyData.showableAll r) = true
      rw [g.s, i1]; rfl
    · show (PyData.leavesShort 50 x && PyData.leavesShortAll 50 r) = true
      rw [g.l, i2]; rfl
    · show max x.depth (PyData.depthAll r) ≤ a
      exact Nat.max_le.mpr ⟨g.dd, i3⟩
    · show x.weight + 1 + PyData.weightAll r ≤ (r.length + 1) * (b + 1)
      have := g.w
      rw [Nat.succ_mul]
      omega
    · show (x.hasDict || PyData.hasDictAll r) = false
      rw [g.n, i6]; rfl
theorem nc_tup (h : ∀ d ∈ ds, Nc d a b) : Nc (.tuple ds) (a + 1) (ds.length * (b + 1)) := by
  obtain ⟨i1, i2, i3, i4, i5, i6⟩ := nc_all h
  exact ⟨i1, i2, Nat.succ_le_succ i3, i4, i5, i6⟩
theorem nc_lst (h : ∀ d ∈ ds, Nc d a b) : Nc (.list ds) (a + 1) (ds.length * (b + 1)) := by
  obtain ⟨i1, i2, i3, i4, i5, i6⟩ := nc_all h
  exact ⟨i1, i2, Nat.succ_le_succ i3, i4, i5, i6⟩
theorem nc_str {x : Str} (h : ∀ c ∈ x.cps.toList, c < 128) (hl : x.length ≤ b) : Nc (.str x) 0 b :=
  ⟨rfl, List.all_eq_true.mpr fun c m => decide_eq_true (Nat.lt_trans (h c m) (by decide)), Nat.zero_le _, hl, fun c m => Nat.lt_trans (h c m) (by decide), rfl⟩
theorem nc_int {i : Int} (h : i.natAbs < 10 ^ 13) : Nc (.int i) 0 64 := by
  have lg : i.natAbs.log2 < 63 := by
    by_cases z : i.natAbs = 0
    · rw [z]; decide
    · exact (Nat.log2_lt z).mpr (Nat.lt_trans h (by decide))
  refine ⟨decide_eq_true (by omega), decide_eq_true ?_, Nat.zero_le _, ?_, trivial, rfl⟩
  · have e := int_text_length_le10 (k := 13) (by decide) h
    show (Str.ofString (toString i)).length ≤ 50
    rw [PySem.ofString_length]
    omega
  · show (if i == 0 then 0 else i.natAbs.log2 + 1) ≤ 64
    split <;> omega
/-- also a dict, as it stands -/
def ncD (d : PyData) : Bool := d.showable && PyData.leavesShort 50 d && decide (d.depth ≤ 8) && decide (d.weight ≤ 20000) && okB d && (match d with | .dict _ => true | _ => false)
def NcV (d : PyData) : Prop := Nc d 8 20000 ∨ ncD d = true
theorem NcV.w (h : NcV d) : d.weight ≤ 20000 := by
  rcases h with h | h
  · exact h.w
  · unfold ncD at h
    simp only [Bool.and_eq_true, decide_eq_true_eq] at h
    exact h.1.1.2
theorem shw_odd {K : PySem.W.Frag} {p : Addr} {H : Hp} {v : V} (h : Od K p H v d) (n : NcV d) : Shw K H v d.shown := by
  have fit : PyData.leavesShort 50 d = true → d.weight ≤ 20000 → d.shown.length ≤ sizeLine := fun l w => by
    have z := PyData.shown_le 50 (by decide) d l
    rw [sizeLine_eq]
    omega
  rcases n with n | n
  · exact ⟨d, rfl, n.s, Nat.le_trans n.dd (by decide), fit n.l n.w, n.o, .inl ⟨n.n, od_dp d v n.n h⟩⟩
  · unfold ncD at n
    simp only [Bool.and_eq_true, decide_eq_true_eq] at n
    obtain ⟨⟨⟨⟨⟨h1, h2⟩, h3⟩, h4⟩, h5⟩, h6⟩ := n
    refine ⟨d, rfl, h1, Nat.le_trans h3 (by decide), fit h2 h4, okB_ok _ h5, .inr ?_⟩
    cases h with
    | dct np ha hk => exact ⟨_, _, _, rfl, rfl, ha, hk⟩
    | _ => cases h6
end
/-! ### list(a text) -/
theorem vals_sgn {z : Str} : ∀ {l : List Nat} {acc : List Value}, acc.length = l.length → (∀ (j : Nat) (v : Value), acc[j]? = some v → ∃ (c : Nat) (u : Tok), l[j]? = some c ∧ v = Value.str ⟨#[c]⟩ u) → Vals (l.map fun c => V.str ⟨#[c]⟩) acc
  | [], [], _, _ => .nil
  | c :: l, v :: acc, hl, h => by
    obtain ⟨c', u, e, rfl⟩ := h 0 v rfl
    cases e
    exact .cons ⟨_, rfl⟩ (vals_sgn (z := z) (by simpa using hl) fun j v e => h (j + 1) v e)
def sgnV (z : Str) : List V := z.cps.toList.map fun c => V.str ⟨#[c]⟩
def rListStr : List V → Hp → VK → Prop := fun xs H Q => ∃ z : Str, xs = [.str z] ∧ z.length ≤ 100000 ∧ ∀ l, H l = none → Q (.ref l) (upd H l (.lst (sgnV z)))
theorem call_listS {X : Cx} (hcalm : X.calm = true) : CallR X (.type "list") rListStr := by
  intro pins s σ H xs us Q I r h
  obtain ⟨z, rfl, hz, q⟩ := h
  obtain ⟨u, rfl, ru⟩ := Vals.one r
  obtain ⟨t, rfl⟩ := ru
  have hz' : z.cps.size ≤ sizeLine := sz_of hz
  refine call_list_str (I.ok.hd hcalm) z t (hn := hz') fun h' tk acc c' hk hS hacc => ?_
  have hv : Vals (sgnV z) acc.toList := vals_sgn (z := z) (by rw [Array.length_toList, Array.length_toList]; exact hacc.1) fun j v e => by
    obtain ⟨c, u, hc, rfl⟩ := hacc.2 j v (by rw [← Array.getElem?_toList]; exact e)
    exact ⟨c, u, by rw [Array.getElem?_toList]; exact hc, rfl⟩
  refine ⟨.ref s.heap.objs.size, upd H s.heap.objs.size (.lst (sgnV z)), I.laid (t' := tk) hk (Nat.le_refl _)
    (show ObjOk X.prog X.w _ _ _ (.lst (sgnV z)) from ⟨by unfold sgnV; rw [List.length_map, Array.length_toList]; exact hz', acc.toList, c', hv, by rw [Array.toArray_toList]; exact hS⟩), rfl, q _ (I.hok.fresh (Nat.le_refl _))⟩
section
variable {K : PySem.W.Frag} {σ : L2.St} {p : Addr} {H : Hp} {te : TE} {z : Str} {o : HO}
theorem od_sgn : ∀ l : List Nat, OdAll K p H (l.map fun c => V.str ⟨#[c]⟩) (l.map fun c => PyData.str ⟨#[c]⟩)
  | [] => .nil
  | _ :: r => .cons (.str _) (od_sgn r)
theorem eo_listS (hp : H p = some o) (h : Ev te σ H (.str z)) (hz : z.length ≤ 100000) : EvO K p (tCB rListStr (tCons te tNil)) σ H (.list (z.cps.toList.map fun c => PyData.str ⟨#[c]⟩)) := fun H1 e Q q =>
  h H1 e _ fun H2 e2 => ⟨z, rfl, hz, fun l nl => q _ _ (e2.trans (Ex.new nl)) (.lst (ne_of_none (e2 _ _ (e _ _ hp)) nl).symm (SqL.of upd_same) (od_sgn _))⟩
end
end XO2
namespace T
open PySem PySem.Spec PyProof.Rows L2 Evl XB TL XS XI XC ClX XQ XSp LamX
/-- a call of _law_caught, or another one in which a lambda is made, gives a new list of these texts -/
def GivesW (K : PySem.W.Frag) (T : List (Addr × Str)) (te : TE) (σ : L2.St) (H : Hp) (ws : List Str) : Prop := ∀ Q : VK, (∀ l H2, ExtN H H2 → Tabs T H2 → H2 l = some (.lst (sl ws)) → Q (.ref l) H2) → te σ H Q
section
variable {K : PySem.W.Frag} {T : List (Addr × Str)} {t : XK → TE} {te ta tb : TE} {σ : L2.St} {H : Hp} {c b : Nat → Addr} {D : Addr} {j : Nat} {v : V} {z : Str} {ws us : List Str}
theorem gives_err (hT : Tabs T H) (hj : j < 11) (A : AskC K D) (F : ErrF K c b D j) (sh : ∀ H2, ExtN H H2 → XO2.Shw K H2 v z)
    (he : ∀ H1, ExtN H H1 → ∀ (E : XK) (Q : VK), (∀ dd H2, Ex H1 H2 → H2 dd = some (.xd [(fieldOf j, v)]) → E (.ref D) (some dd) H2) → t E σ H1 Q) : GivesW K T (tLam T (TCaught K c b) t) σ H [errN.getD j "", z] := fun Q q => by
  refine ⟨hT, fun H1 e1 T1 => ?_⟩
  show t _ σ H1 _
  refine he H1 e1 _ _ fun dd H2 e2 hd => ?_
  exact ⟨D, j, v, z, hj, ⟨rfl, A, dd, rfl, hd⟩, F, fun H3 e3 => sh H3 (e1.trans ((xn_ex e2).trans (xn_ex e3))), fun l H3 e3 hl => q l H3 (e1.trans ((xn_ex e2).trans (xn_ex e3))) (tabs_ex T1 (e2.trans e3)) hl⟩
theorem gives_fine (hT : Tabs T H) (hf : ∀ H1, ExtN H H1 → ∀ (E : XK) (Q : VK), (∀ v H2, Ex H1 H2 → Q v H2) → t E σ H1 Q) : GivesW K T (tLam T (TCaught K c b) t) σ H [] := fun Q q => by
  refine ⟨hT, fun H1 e1 T1 => ?_⟩
  show t _ σ H1 _
  refine hf H1 e1 _ _ fun v H2 e2 => ?_
  exact (el_lst (σ := []) (vs := []) ea_nil (Nat.zero_le _)) H2 (Ex.refl _) _ fun l H3 n e3 h3 => q l H3 (e1.trans ((xn_ex e2).trans (xn_ex e3))) (tabs_ex T1 (e2.trans e3)) h3
def OkW (ws : List Str) : Prop := ∀ x ∈ ws, XO2.OkS x
theorem shp_ok {ws : List Str} (h : OkW ws) : SeqAt.shaped (.list (ws.map PyData.str)) = true := by
  have e : ∀ {ws : List Str}, OkW ws → PyData.canLayAll0 (ws.map PyData.str) = true := fun {ws} => by
    induction ws with
    | nil => exact fun _ => rfl
    | cons x r ih =>
      intro h
      show (PyData.strOk x && PyData.canLayAll0 (r.map PyData.str)) = true
      rw [XO2.okS_ok (h x List.mem_cons_self), ih fun y m => h y (List.mem_cons_of_mem _ m)]
      rfl
  show (PyData.canLayAll0 (ws.map PyData.str) && decide (PyData.depthAll (ws.map PyData.str) + 1 ≤ 64)) = true
  rw [e h, dep_strs]
  rfl
theorem okW_err (hj : j < 11) (h : XO2.OkS z) : OkW [errN.getD j "", z] := by
  have e : ∀ j, j < 11 → XO2.OkS (errN.getD j "") := by
    intro j hj
    match j, hj with
    | 0, _ | 1, _ | 2, _ | 3, _ | 4, _ | 5, _ | 6, _ | 7, _ | 8, _ | 9, _ | 10, _ => exact XO2.okS_of _
  intro x m
  simp only [List.mem_cons, List.not_mem_nil, or_false] at m
  rcases m with rfl | rfl
  · exact e j hj
  · exact h
theorem dp_slL {H : Hp} {l : Addr} (h : SqL K H l (sl ws)) : Dp K H (.ref l) (.list (ws.map PyData.str)) := .lst h (dp_sl ws)
/-- caught(lambda: ..) != a list of texts -/
theorem tt_neW {R : Bool → Hp → Prop} (h : GivesW K T ta σ H ws) (ow : OkW ws) (ou : OkW us) (hb : ∀ H1, ExtN H H1 → EvM tb σ H1 (sl us)) (k : ∀ H1, ExtN H H1 → Tabs T H1 → R (!decide (ws = us)) H1) : (tTest (tOp (rNeD K) ta tb)) σ H R := by
  refine h _ fun l H1 e1 T1 hl => ?_
  refine hb H1 e1 H1 (Ex.refl _) _ fun l2 H2 e2 hl2 => ?_
  refine ⟨_, _, dp_slL (SqL.of (e2 _ _ hl)), dp_slL (SqL.of hl2), shp_ok ow, shp_ok ou, _, rfl, ?_⟩
  rw [show PyData.eqv (.list (ws.map PyData.str)) (.list (us.map PyData.str)) = decide (ws = us) from eqv_strs ws us]
  exact k H2 (e1.trans (xn_ex e2)) (tabs_ex T1 e2)
theorem em_of {xs : List V} (h : EvL te σ H xs) : EvM te σ H xs := fun H1 e Q q => h H1 e _ fun p H2 _ e2 hp => q p H2 e2 hp
theorem em_at {xs : List V} {l : Addr} (h : Ev te σ H (.ref l)) (hl : H l = some (.lst xs)) : EvM te σ H xs := fun H1 e Q q => h H1 e _ fun H2 e2 => q l H2 e2 (e2 _ _ (e _ _ hl))
end
end T
namespace T
open PySem PySem.Spec PyProof.Rows L2 Evl XB XSp LamX
/-! ### the facts of the errors, put together -/
def cOf (a0 a1 a2 a3 a4 a5 a6 a7 a8 a9 a10 : Addr) : Nat → Addr
  | 0 => a0 | 1 => a1 | 2 => a2 | 3 => a3 | 4 => a4 | 5 => a5 | 6 => a6 | 7 => a7 | 8 => a8 | 9 => a9 | _ => a10
def bOf (b0 b1 b2 : Addr) : Nat → Addr
  | 0 => b0 | 1 => b1 | _ => b2
section
variable {K : PySem.W.Frag} {mg : Str → Option Value} {a0 a1 a2 a3 a4 a5 a6 a7 a8 a9 a10 b0 b1 b2 D : Addr} {j : Nat}
theorem errM_mk (h0 : mg "InvalidKinds" = some (.ref a0)) (h1 : mg "InvalidText" = some (.ref a1)) (h2 : mg "InvalidEdit" = some (.ref a2)) (h3 : mg "InvalidFirst" = some (.ref a3)) (h4 : mg "InvalidChange" = some (.ref a4)) (h5 : mg "InvalidArrival" = some (.ref a5))
    (h6 : mg "NotATable" = some (.ref a6)) (h7 : mg "InvalidRows" = some (.ref a7)) (h8 : mg "InvalidEdits" = some (.ref a8)) (h9 : mg "UnknownName" = some (.ref a9)) (h10 : mg "CannotDo" = some (.ref a10))
    (g0 : mg "BadValue" = some (.ref b0)) (g1 : mg "BadName" = some (.ref b1)) (g2 : mg "NoAnswer" = some (.ref b2)) : ErrM mg (cOf a0 a1 a2 a3 a4 a5 a6 a7 a8 a9 a10) (bOf b0 b1 b2) :=
  ⟨fun j n h => match j, h with
    | 0, h => by cases h; exact h0
    | 1, h => by cases h; exact h1
    | 2, h => by cases h; exact h2
    | 3, h => by cases h; exact h3
    | 4, h => by cases h; exact h4
    | 5, h => by cases h; exact h5
    | 6, h => by cases h; exact h6
    | 7, h => by cases h; exact h7
    | 8, h => by cases h; exact h8
    | 9, h => by cases h; exact h9
    | 10, h => by cases h; exact h10
    | _ + 11, h => (by cases h),
   fun j n h => match j, h with
    | 0, h => by cases h; exact g0
    | 1, h => by cases h; exact g1
    | 2, h => by cases h; exact g2
    | _ + 3, h => by cases h⟩
theorem errF_mk (no : PySem.W.findIn K (.ref D) (fieldOf j) = some none) (ex : PySem.W.exmAny K (.ref D) [.ref b0, .ref b1, .ref b2] = some true)
    (k0 : PySem.W.kitOne K (.ref D) (.ref a0) = some (decide (0 = j))) (k1 : PySem.W.kitOne K (.ref D) (.ref a1) = some (decide (1 = j))) (k2 : PySem.W.kitOne K (.ref D) (.ref a2) = some (decide (2 = j))) (k3 : PySem.W.kitOne K (.ref D) (.ref a3) = some (decide (3 = j)))
    (k4 : PySem.W.kitOne K (.ref D) (.ref a4) = some (decide (4 = j))) (k5 : PySem.W.kitOne K (.ref D) (.ref a5) = some (decide (5 = j))) (k6 : PySem.W.kitOne K (.ref D) (.ref a6) = some (decide (6 = j))) (k7 : PySem.W.kitOne K (.ref D) (.ref a7) = some (decide (7 = j)))
    (k8 : PySem.W.kitOne K (.ref D) (.ref a8) = some (decide (8 = j))) (k9 : PySem.W.kitOne K (.ref D) (.ref a9) = some (decide (9 = j))) (k10 : PySem.W.kitOne K (.ref D) (.ref a10) = some (decide (10 = j)))
    (m0 : PySem.W.kitOne K (.ref D) (.ref b0) = some (decide (0 = basOf j))) (m1 : PySem.W.kitOne K (.ref D) (.ref b1) = some (decide (1 = basOf j))) (m2 : PySem.W.kitOne K (.ref D) (.ref b2) = some (decide (2 = basOf j))) :
    ErrF K (cOf a0 a1 a2 a3 a4 a5 a6 a7 a8 a9 a10) (bOf b0 b1 b2) D j :=
  ⟨no, ex, fun i hi => match i, hi with
    | 0, _ => k0 | 1, _ => k1 | 2, _ => k2 | 3, _ => k3 | 4, _ => k4 | 5, _ => k5 | 6, _ => k6 | 7, _ => k7 | 8, _ => k8 | 9, _ => k9 | 10, _ => k10,
   fun i hi => match i, hi with
    | 0, _ => m0 | 1, _ => m1 | 2, _ => m2⟩
end
end T
namespace T
open PySem PySem.Spec PyProof.Rows L2 Evl XB TL XS XI XC ClX XQ XSp LamX
/-! ### the lambda handed to _law_caught, in a def -/
/-- what is raised in the lambda's body goes to the one who calls it -/
theorem pass_lam {X : Cx} {A : Around} {outer : List Env} {s : Shared} {H : Hp} {E : XK} {scope : Scope} {f c' : Addr} : Passes (L2.CX X.prog X.w) (lamCx X A outer s H E scope f c') E := passes_call (takes_of (E := E) rfl rfl rfl rfl) fun _ _ _ _ h => h
/-! ### repr by the wider rule -/
section
variable {K : PySem.W.Frag} {σ : L2.St} {H : Hp} {ta tb te : TE} {x y : Str} {n : Int} {a : Addr} {d : Deed} {ks : List Str} {xs : List V}
theorem ev_reprQ {v : V} {z : Str} (h : Ev ta σ H v) (s : XO2.Shw K H v z) : Ev (tCB (XO2.rReprQ K) (tCons ta tNil)) σ H (.str z) := ev_reprV h fun e => shw_ex e s
theorem okD_fl : ∀ {xs : List V}, (∀ v ∈ xs, Fl v) → XO2.OkDs (xs.map dpv)
  | [], _ => trivial
  | v :: r, h => by
    refine ⟨?_, okD_fl fun y hy => h y (List.mem_cons_of_mem _ hy)⟩
    rcases h v List.mem_cons_self with ⟨x, rfl, lx, _⟩ | ⟨n, rfl, _⟩
    · exact fun c m => Nat.lt_trans (lx c m) (by decide)
    · trivial
theorem shw_fl (hp : SqT K H a xs) (fl : ∀ v ∈ xs, Fl v) (hl : xs.length ≤ 3) : XO2.Shw K H (.ref a) (shownT xs) := by
  obtain ⟨i1, i2, i3, i4, i5⟩ := fl_all fl
  refine ⟨PyData.tuple (xs.map dpv), rfl, i1, ?_, ?_, okD_fl fl, .inl ⟨i2, .tup hp (dp_fl fl)⟩⟩
  · show PyData.depthAll (xs.map dpv) + 1 ≤ 32
    rw [i3]
    decide
  · have z := PyData.shown_le 20 (by decide) (PyData.tuple (xs.map dpv)) i4
    have y : PyData.weight (PyData.tuple (xs.map dpv)) ≤ xs.length * 101 := i5
    refine Nat.le_trans z ?_
    rw [sizeLine_eq]
    omega
theorem shw_deed (ha : SqT K H a d.vs) (ok : d.ok ks) (hk : ks ∈ kinds7) : XO2.Shw K H (.ref a) (shownT d.vs) := shw_fl ha (fl_deed ok hk).1 (fl_deed ok hk).2
/-- text * number -/
def rMulS : R2 := fun x y H Q => ∃ (a : Str) (n : Int), x = .str a ∧ y = .int n ∧ 2 ≤ n ∧ n ≤ 100000 ∧ 0 < a.length ∧ a.length * n.toNat ≤ 16777216 ∧ Q (.str ⟨(List.replicate n.toNat a.cps).foldl (· ++ ·) #[]⟩) H
theorem op_mulS {X : Cx} : OpR X (binaryOp .Mult) rMulS := by
  intro pins s σ H x y v u Q I rx ry h
  obtain ⟨a, n, rfl, rfl, n1, n2, a0, hz, q⟩ := h
  obtain ⟨t, rfl⟩ := rx
  obtain ⟨t', rfl⟩ := ry
  have M := PyProof.Rows.mulOk_of (x := a) (n := n) a.length n.toNat (Nat.le_refl _) (by omega) (by omega) (by omega) hz
  refine PySem.P.mul_str M.1 M.2.1 M.2.2 ?_
  have h1 : ¬ n < 1 := by omega
  have h2 : ¬ (n == 1 || a.length == 0) = true := by
    rw [Bool.or_eq_true, beq_iff_eq, beq_iff_eq]
    omega
  rw [if_neg h1, if_neg h2]
  refine ⟨?_, .str _, H, I.tok _, ⟨_, rfl⟩, q⟩
  show ((List.replicate n.toNat a.cps).foldl (· ++ ·) #[]).size ≤ sizeLine
  rw [PyProof.Rows.len_reps]
  have : n.toNat * a.cps.size = a.length * n.toNat := Nat.mul_comm _ _
  have e0 : (#[] : Array Nat).size = 0 := rfl
  rw [this, sizeLine_eq]
  omega
def repS (a : Str) (n : Nat) : Str := ⟨(List.replicate n a.cps).foldl (· ++ ·) #[]⟩
theorem repS_len (a : Str) (n : Nat) : (repS a n).length = n * a.length := by
  show ((List.replicate n a.cps).foldl (· ++ ·) #[]).size = _
  rw [PyProof.Rows.len_reps]
  show 0 + _ = _
  rw [Nat.zero_add]
  rfl
theorem rv_mulS {H : Hp} (n1 : 2 ≤ n) (n2 : n ≤ 100000) (a0 : 0 < x.length) (hz : x.length * n.toNat ≤ 16777216) : RV rMulS (.str x) (.int n) H (.str (repS x n.toNat)) := fun H1 _ _ q => ⟨x, n, rfl, rfl, n1, n2, a0, hz, q H1 (Ex.refl H1)⟩
end
end T
namespace T
open PySem PySem.Spec PyProof.Rows L2 Evl XB TL XS XI XC ClX XQ XSp LamX XO2
/-! ### tables where tables of code objects grow -/
section
variable {K : PySem.W.Frag} {C : Addr} {H H' : Hp} {x : Addr} {ks : List Str} {cs : List Cell} {kvs : List (Nm × V)}
theorem DictOf.xn (h : DictOf H kvs cs) (e : ExtN H H') : DictOf H' kvs cs := ⟨h.1, fun i c hc => by
  obtain ⟨t, h1, h2⟩ := h.2 i c hc
  exact ⟨t, h1, e _ _ h2 (fun _ z => by cases z)⟩⟩
theorem TabW.xn (h : TabW K C H x ks cs) (e : ExtN H H') : TabW K C H' x ks cs := by
  obtain ⟨dx, D, a, r, kvs, f⟩ := h
  exact ⟨dx, D, a, r, kvs, e _ _ f.hx (fun _ z => by cases z), xn_t e f.ha, xn_t e f.hr, e _ _ f.hD (fun _ z => by cases z), f.d.xn e, f.c⟩
theorem LDict.xn (h : LDict H kvs cs) (e : ExtN H H') : LDict H' kvs cs := ⟨h.keys, fun i c hc => by
  obtain ⟨t, h1, h2⟩ := h.at_ i c hc
  exact ⟨t, h1, e _ _ h2 (fun _ z => by cases z)⟩⟩
theorem LDict.chgP {p : Addr} (h : LDict H kvs cs) (hC : Cells ks cs) (hp : Purse H p) (c : Chg p H H') : LDict H' kvs cs := by
  obtain ⟨d, z, w, e⟩ := hp
  exact h.chgU hC e notx_int c
end
end T
/-! Own: a list comprehension with any number of for clauses. -/
namespace XLN
open PySem PySem.Spec PyProof.Rows L2
section
variable {prog : Program} {w : World} {A : Around} {R : Result → Shared → Prop} {s : Shared} {elt t0 i0 : Expr} {ifs0 : List Expr} {gens : List Comprehension} {scope : Scope} {pos : Pos} {it acc : Value} {env : Env} {k : Nat}
/-- what a turn of clause k does behind its tests: the next clause's own loop, or the new element -/
def Body (prog : Program) (w : World) (A : Around) (gens : List Comprehension) (elt : Expr) (scope : Scope) (pos : Pos) (k : Nat) (acc : Value) (env : Env) (Post : Shared → Prop) (E : Value → Shared → Prop) (s : Shared) : Prop :=
  match gens[k + 1]? with
  | none => wpAny (model prog w) A (eval elt env) (fun x s₄ => wpAny (model prog w) A (call (.builtin "list.append") [acc, x]) (fun _ s₅ => Post s₅) E s₄) E s
  | some c => c.is_async = 0 ∧ (∀ x, foldedSetIterable c.iter env x = pure x) ∧ wpAny (model prog w) A (eval c.iter env) (fun x s₄ => wpAny (model prog w) A (pyIter x) (fun it1 s₅ =>
      codeAny (model prog w) A (.compStart (.ListComp elt gens scope pos) (k + 1) it1 acc env) (fun r s' => match r with
        | .ok _ => Post s'
        | .error _ => False) s₅) E s₄) E s
theorem loopN (hk : gens[k]? = some ⟨t0, i0, ifs0, 0⟩) (I : Nat → Shared → Prop)
    (turn : ∀ n s, I n s → wpAny (model prog w) A (pyNext it) (fun r s₁ => match r with
      | none => R (.ok .next) s₁
      | some v => wpAny (model prog w) A (letOwnedTupleGo t0 it v) (fun _ s₁' => wpAny (model prog w) A (assign t0 env v) (fun _ s₂ =>
          wpAny (model prog w) A (forIn ifs0 true fun c r => if r = true then do let ok ← isTrue c env (eval c env); pure (ForInStep.yield ok) else pure (ForInStep.yield r)) (fun ok s₃ =>
            if ok = true then Body prog w A gens elt scope pos k acc env (fun s' => ∃ m, m < n ∧ I m s') (notedBy (model prog w) A env fun e s' => R (.error e) s') s₃
            else ∃ m, m < n ∧ I m s₃) (notedBy (model prog w) A env fun e s' => R (.error e) s') s₂) (notedBy (model prog w) A env fun e s' => R (.error e) s') s₁') (notedBy (model prog w) A env fun e s' => R (.error e) s') s₁) (notedBy (model prog w) A env fun e s' => R (.error e) s') s)
    (n : Nat) (h : I n s) : codeAny (model prog w) A (.compLoop (.ListComp elt gens scope pos) k it acc env) R s := by
  refine codeAny_loop rfl I (fun n s hI => ?_) n h
  show wpAny _ A ((compTurn (.ListComp elt gens scope pos) k it acc env).onRaise (fun x => do noteFrame x env; theTreesLotGoes x)) _ _ s
  refine wpAny_noted ?_
  unfold compTurn
  simp only [hk]
  refine wpAny_bind (wpAny_standAt (wpAny_bind (wpAny_mono (turn n s hI) (fun r s₁ h₁ => ?_) fun _ _ h' => h')))
  cases r with
  | none => exact wpAny_pure h₁
  | some v =>
    refine wpAny_bind (wpAny_mono h₁ (fun _ s₁' h₁' => ?_) fun _ _ h' => h')
    refine wpAny_bind (wpAny_mono h₁' (fun _ s₂ h₂ => wpAny_bind (wpAny_mono h₂ (fun ok s₃ h₃ => ?_) fun _ _ h' => h')) fun _ _ h' => h')
    cases ok with
    | false => exact wpAny_pure ⟨rfl, h₃⟩
    | true =>
      have h₃ : Body prog w A gens elt scope pos k acc env (fun s' => ∃ m, m < n ∧ I m s') (notedBy (model prog w) A env fun e s' => R (.error e) s') s₃ := h₃
      unfold Body at h₃
      cases hg : gens[k + 1]? with
      | none =>
        simp only [hg] at h₃ ⊢
        exact wpAny_bind (wpAny_bind (wpAny_mono h₃ (fun x s₄ h₄ => wpAny_bind (wpAny_mono h₄ (fun _ s₅ h₅ => wpAny_pure (wpAny_pure ⟨rfl, h₅⟩)) fun _ _ h' => h')) fun _ _ h' => h'))
      | some c =>
        obtain ⟨tg, ic, ifs, asy⟩ := c
        simp only [hg] at h₃ ⊢
        obtain ⟨ha, hs, h₃⟩ := h₃
        subst ha
        refine wpAny_bind (wpAny_mono h₃ (fun x s₄ h₄ => ?_) fun _ _ h' => h')
        refine wpAny_bind (wpAny_standAt (wpAny_bind (wpAny_of_eq (hs x) (wpAny_bind (wpAny_holding (wpAny_mono h₄ (fun it1 s₅ h₅ => ?_) fun _ _ h' => h'))))))
        refine wpAny_bind (wpAny_runOwn ?_)
        rw [Around.mark_none]
        refine codeAny_mono h₅ fun r s' hr => ?_
        cases r with
        | ok f =>
          first
            | exact wpAny_pure ⟨rfl, hr⟩
            | exact wpAny_bind (wpAny_pure (wpAny_pure ⟨rfl, hr⟩))
        | error e => exact hr.elim
theorem startN (hk : gens[k]? = some ⟨t0, i0, ifs0, 0⟩) (h0 : codeAny (model prog w) A (.compLoop (.ListComp elt gens scope pos) k it acc env) R s)
    (h : wpAny (model prog w) A (pyIter it) (fun it' s' => codeAny (model prog w) A (.compLoop (.ListComp elt gens scope pos) k it' acc env) R s')
      (notedBy (model prog w) A env fun x s' => R (.error x) s') s) :
    codeAny (model prog w) A (.compStart (.ListComp elt gens scope pos) k it acc env) R s := by
  refine codeAny_of_tree ?_
  show wpAny _ _ ((compStart (.ListComp elt gens scope pos) k it acc env).onRaise (fun x => do noteFrame x env; standAt theWindowsPlace)) _ _ s
  refine wpAny_notedAt ?_
  unfold compStart
  have hc : (clausesOf (.ListComp elt gens scope pos))[k]? = some ⟨t0, i0, ifs0, 0⟩ := hk
  simp only [hc]
  show wpAny _ _ (ask >>= _) _ _ s
  refine wpAny_bind (wpAny_askSetting (wpAny_ite ?_))
  split
  · first
      | exact wpAny_bind (wpAny_pure (wpAny_pure (And.intro rfl h0)))
      | exact wpAny_pure (And.intro rfl h0)
  · first
      | exact wpAny_bind (wpAny_rule (wpAny_bind (wpAny_standAt (wpAny_bind (wpAny_mono h (fun it' s' h' => wpAny_pure (And.intro rfl h')) fun _ _ x => x)))))
      | (refine wpAny_bind (wpAny_rule ?_); show wpAny _ _ (standAt i0.pos >>= _) _ _ s; exact wpAny_bind (wpAny_standAt (wpAny_bind (wpAny_mono h (fun it' s' h' => wpAny_pure (And.intro rfl h')) fun _ _ x => x))))
theorem Body.mono {P P' : Shared → Prop} {E : Value → Shared → Prop} (h : Body prog w A gens elt scope pos k acc env P E s) (hp : ∀ s', P s' → P' s') : Body prog w A gens elt scope pos k acc env P' E s := by
  unfold Body at h ⊢
  cases hg : gens[k + 1]? with
  | none =>
    simp only [hg] at h ⊢
    exact wpAny_mono h (fun x s₄ h₄ => wpAny_mono h₄ (fun _ s₅ h₅ => hp s₅ h₅) fun _ _ z => z) fun _ _ z => z
  | some c =>
    simp only [hg] at h ⊢
    refine ⟨h.1, h.2.1, wpAny_mono h.2.2 (fun x s₄ h₄ => wpAny_mono h₄ (fun _ s₅ h₅ => codeAny_mono h₅ fun r s' hr => ?_) fun _ _ z => z) fun _ _ z => z⟩
    cases r with
    | ok f => exact hp s' hr
    | error e => exact hr
end
end XLN
namespace XLN
open PySem PySem.Spec PyProof.Rows L2
abbrev Clq := TI × TG × TT × List Nat
/-- the clauses behind the first one, from the slots σ: a new element is added to the list at D; Nx holds behind the last turn -/
def tIn (D : Addr) (te : TE) : List Clq → L2.St → Hp → (Hp → Prop) → Prop
  | [], σ, H, Nx => te σ H fun y H7 => ∃ acc, H7 D = some (.lst acc) ∧ acc.length < sizeLine ∧ Nx (upd H7 D (.lst (acc ++ [y])))
  | (wi, g, tt, vs) :: r, σ, H, Nx => wi σ H fun J H4 => ∃ W : Nat → Nat → Hp → Prop, (∃ m, W 0 m H4) ∧ ∀ j k H, W j k H →
      (J.stop j H ∧ Nx H) ∨ (J.go j H ∧ ∃ Nx1 : Hp → Prop, (∀ H', Nx1 H' → ∃ k', k' < k ∧ W (j + 1) k' H') ∧ ∀ x H', J.yld j H x H' → g x (wipe σ vs) H' fun σ3 H5 => wipe σ3 vs = wipe σ vs ∧ tt σ3 H5 fun b H6 =>
        if b = true then tIn D te r σ3 H6 Nx1 else Nx1 H6)
/-- a comprehension: the first clause, the others -/
def tLcN (wi : TI) (g : TG) (tt : TT) (te : TE) (vs : List Nat) (r : List Clq) : TE := fun σ H Q => wi σ H fun J H1 => ∀ D, H1 D = none → ∃ W : Nat → Nat → Hp → Prop, (∃ m, W 0 m (upd H1 D (.lst []))) ∧ ∀ i m H, W i m H →
  (J.stop i H ∧ Q (.ref D) H) ∨ (J.go i H ∧ ∃ Nx : Hp → Prop, (∀ H', Nx H' → ∃ m', m' < m ∧ W (i + 1) m' H') ∧ ∀ x H', J.yld i H x H' → g x (wipe σ vs) H' fun σ2 H2 => wipe σ2 vs = wipe σ vs ∧ tt σ2 H2 fun b H3 =>
    if b = true then tIn D te r σ2 H3 Nx else Nx H3)
/-- the clauses as they are read in Y; VS: all names of the block -/
inductive Cls (Y : Cx) : List Nat → List Comprehension → List Clq → Prop
  | nil {VS : List Nat} : Cls Y VS [] []
  | cons {VS : List Nat} {tg iter : Expr} {ifs : List Expr} {wi : TI} {g : TG} {tt : TT} {vs : List Nat} {cs : List Comprehension} {r : List Clq} : PI Y tg iter wi → PG Y tg g → PTs Y ifs tt → (∀ env x, foldedSetIterable iter env x = pure x) → (∀ i ∈ vs, i ∈ VS) → Cls Y vs cs r → Cls Y VS (⟨tg, iter, ifs, 0⟩ :: cs) ((wi, g, tt, vs) :: r)
theorem drop_cons {α : Type} {l : List α} {k : Nat} {c : α} {cs : List α} (h : l.drop k = c :: cs) : l[k]? = some c ∧ l.drop (k + 1) = cs := by
  refine ⟨?_, ?_⟩
  · have : (l.drop k)[0]? = some c := by rw [h]; rfl
    rwa [List.getElem?_drop] at this
  · rw [← List.drop_drop, h]
    rfl
theorem drop_nil {α : Type} {l : List α} {k : Nat} (h : l.drop k = []) : l[k]? = none := by
  have : (l.drop k)[0]? = none := by rw [h]; rfl
  rwa [List.getElem?_drop] at this
section
variable {X : Cx}
theorem inner_ok (hc : X.calm = true) {s3 : Shared} {H3 : Hp} {scope sc : Scope} {ce : Env} {fp : List Addr} {gens : List Comprehension} {elt : Expr} {te : TE} {pos : Pos} {D : Addr} (hce : (X.blk s3 H3 scope ce fp).env = ce)
    (he : PE (X.blk s3 H3 scope ce fp) elt te) {E : Value → Shared → Prop} : ∀ (VS : List Nat) (cs : List Comprehension) (r : List Clq) (k : Nat), Cls (X.blk s3 H3 scope ce fp) VS cs r → gens.drop (k + 1) = cs →
    ∀ (pins : List (Addr × Obj)) (s : Shared) (σ : L2.St) (H : Hp) (Nx : Hp → Prop), Inv (X.blk s3 H3 scope ce fp) pins σ H s → tIn D te r σ H Nx →
    Body X.prog X.w X.A gens elt sc pos k (.ref D) ce (fun s' => ∃ σ' H', Inv (X.blk s3 H3 scope ce fp) pins σ' H' s' ∧ σ'.length = σ.length ∧ (∀ (j : Nat) v, j ∉ VS → σ[j]? = some (some v) → σ'[j]? = some (some v)) ∧ Nx H') E s
  | _, _, _, k, .nil, hd, pins, s, σ, H, Nx, I, q => by
    unfold Body
    rw [drop_nil hd]
    refine thnF (he.run pins s σ H _ I q) fun z s17 ⟨yv, H17, I17, r17, acc, hD17, hz17, nx⟩ => ?_
    exact app_ok (X := X.blk s3 H3 scope ce fp) I17 hD17 hz17 r17 fun s18 I18 => ⟨σ, _, I18, rfl, fun _ _ _ e => e, nx⟩
  | VS, _, _, k, @Cls.cons _ _ tg1 iter1 ifs1 wi g tt vs1 cs r pi1 pg1 pt1 hs1 hv cl, hd, pins, s, σ, H, Nx, I, q => by
    obtain ⟨hk, hd2⟩ := drop_cons hd
    unfold Body
    rw [hk]
    refine ⟨rfl, hs1 ce, ?_⟩
    refine thnF (pi1.run pins s σ H _ I q) fun xv s10 hx => thnF hx fun itv s11 h11 => ?_
    obtain ⟨it1, fp1, tn1, J1, H11, e1, I11, T1, st11, f11, W1, ⟨m1, w1⟩, turn1⟩ := h11
    subst e1
    have stat1 : ∀ {H' : Hp}, (∀ b ∈ fp1, H' b = none) → ∀ b ∈ fp1, FpOk (X.blk s3 H3 scope ce fp) pins H' b := fun hn b hb => ⟨hn b hb, (f11 b hb).2⟩
    have loop1 : codeAny (model X.prog X.w) X.A (.compLoop (.ListComp elt gens sc pos) (k + 1) (.ref it1) (.ref D) ce)
        (fun r s' => match r with
          | .ok _ => ∃ σ' H', Inv (X.blk s3 H3 scope ce fp) pins σ' H' s' ∧ σ'.length = σ.length ∧ (∀ (j : Nat) v, j ∉ VS → σ[j]? = some (some v) → σ'[j]? = some (some v)) ∧ Nx H'
          | .error _ => False) s11 := by
      refine loopN hk (fun k s' => ∃ j H', Inv (X.blk s3 H3 scope ce fp) pins (wipe σ vs1) H' s' ∧ tn1 j s'.heap ∧ (∀ b ∈ fp1, H' b = none) ∧ W1 j k H') ?_ m1 ⟨0, H11, I11.weak (wipe_length _ _) (fun j v e => (wipe_some e).1), st11, fun b hb => (f11 b hb).1, w1⟩
      rintro m s12 ⟨j, H12, I12, st12, n12, w12⟩
      rcases turn1 j m H12 w12 with ⟨stop1, nx1⟩ | ⟨go1, Nx1, hNx1, step1⟩
      · refine thnF (T1.done (X.blk s3 H3 scope ce fp) rfl rfl rfl hc j _ s12 (wipe σ vs1) H12 (fun _ _ => False) I12 (stat1 n12) st12 stop1) fun r s13 ⟨hr, I13⟩ => ?_
        subst hr
        exact ⟨wipe σ vs1, H12, I13, wipe_length _ _, fun j v hj e => by rw [wipe_out fun z => hj (hv j z)]; exact e, nx1⟩
      · refine thnF (T1.item (X.blk s3 H3 scope ce fp) rfl rfl rfl hc j _ s12 (wipe σ vs1) H12 (fun _ _ => False) I12 (stat1 n12) st12 go1) fun r s13 ⟨u1, hr, h13⟩ => ?_
        subst hr
        refine thnF h13 fun _ s14 ⟨x1, H14, I14, r14, y14, st14, n14⟩ => ?_
        have I14' := I14.pinned (stat1 n14) (T1.obj _ _ st14)
        refine thnF (pg1.run _ s14 (wipe σ vs1) H14 x1 u1 _ I14' r14 (step1 x1 H14 y14)) fun _ s15 ⟨σ15, H15, I15, hw15, q15⟩ => ?_
        refine thnF (pt1.run _ s15 σ15 H15 _ I15 q15) fun b1 s16 ⟨H16, I16, q16⟩ => ?_
        have fin1 : ∀ {s' : Shared} {σ' : L2.St} {H' : Hp}, Inv (X.blk s3 H3 scope ce fp) (pins ++ pinsAt fp1 s14.heap) σ' H' s' → σ'.length = σ15.length → (∀ (j : Nat) v, (wipe σ vs1)[j]? = some (some v) → σ'[j]? = some (some v)) → Nx1 H' → ∃ m', m' < m ∧ ∃ j H', Inv (X.blk s3 H3 scope ce fp) pins (wipe σ vs1) H' s' ∧ tn1 j s'.heap ∧ (∀ b ∈ fp1, H' b = none) ∧ W1 j m' H' := fun {s' σ' H'} I' hl hkp nx => by
          obtain ⟨m', hm, w'⟩ := hNx1 H' nx
          have pin' : ∀ b ∈ fp1, ∀ o, s14.heap.get? b = some o → s'.heap.get? b = some o ∧ H' b = none := fun b hb o e =>
            let z := I'.pin (b, o) (List.mem_append_right _ (List.mem_append_right _ (mem_pinsAt hb e)))
            ⟨z.1, z.2.1⟩
          refine ⟨m', hm, j + 1, H', I'.unpinned.weak (by rw [hl, ← hw15, wipe_length]) hkp, T1.keep _ _ _ st14 fun b hb o e => (pin' b hb o e).1, fun b hb => ?_, w'⟩
          obtain ⟨o, e, _⟩ := T1.obj _ _ st14 b hb
          exact (pin' b hb o e).2
        have hk15 : ∀ (j : Nat) v, (wipe σ vs1)[j]? = some (some v) → σ15[j]? = some (some v) := fun j v e => by
          rw [← hw15] at e
          exact (wipe_some e).1
        cases b1 with
        | false =>
          simp only [Bool.false_eq_true, if_false] at q16 ⊢
          exact fin1 I16 rfl hk15 q16
        | true =>
          simp only [if_true] at q16 ⊢
          refine (inner_ok hc hce he vs1 cs r (k + 1) cl hd2 _ s16 σ15 H16 Nx1 I16 q16).mono fun s' ⟨σ', H', I', hl, hkp, nx⟩ => fin1 I' hl (fun j v e => hkp j v (wipe_some e).2 (hk15 j v e)) nx
    exact startN hk loop1 (T1.self X.A 0 _ _ _ st11 loop1)
theorem lcN_core {pins : List (Addr × Obj)} {s : Shared} {σ : L2.St} {H : Hp} {Q : VK} {elt tg iter : Expr} {ifs : List Expr} {cs : List Comprehension} {r : List Clq} {scope : Scope} {own : List (Str × Nat)} {pos pos' : Pos} {wi : TI} {g : TG} {tt : TT} {te : TE} {use : Option (Value → Sem Unit)} {Qf : Value → Shared → Prop}
    (hc : X.calm = true) (hN : X.N.Nodup) (I : Inv X pins σ H s) (hi : PI X tg iter wi) (ok : BlkOk X.N X.env.scope scope own)
    (hg : ∀ (s : Shared) (H : Hp) (C : Addr) (cl : List (Str × Addr)) (fp : List Addr), PG (X.blk s H scope (compEnvC scope cl C X.env) fp) tg g) (ht : ∀ (s : Shared) (H : Hp) (C : Addr) (cl : List (Str × Addr)) (fp : List Addr), PTs (X.blk s H scope (compEnvC scope cl C X.env) fp) ifs tt)
    (he : ∀ (s : Shared) (H : Hp) (C : Addr) (cl : List (Str × Addr)) (fp : List Addr), PE (X.blk s H scope (compEnvC scope cl C X.env) fp) elt te) (hs : ∀ x, foldedSetIterable iter X.env x = pure x)
    (hr : ∀ (s : Shared) (H : Hp) (C : Addr) (cl : List (Str × Addr)) (fp : List Addr), Cls (X.blk s H scope (compEnvC scope cl C X.env) fp) (own.map (·.2)) cs r)
    (h : tLcN wi g tt te (own.map (·.2)) r σ H Q)
    (hRR : ∀ D C s' m H', Inv X pins σ H' s' → Q (.ref D) H' → s'.heap.Ns C m → FpOk X pins H' C → compPost (model X.prog X.w) X.A X.xe use Qf (.ref D) C (.ok .next) s') :
    wpAny (model X.prog X.w) X.A (comprehension (.ListComp elt (⟨tg, iter, ifs, 0⟩ :: cs) scope pos) scope X.env pos' (newList []) false (eval iter X.env) use) Qf X.xe s := by
  have hfree : ∀ y ∈ scope.names, y.2 = .free → ∃ c, X.env.cells.lookup y.1 = some c := fun y hy e => by
    rcases ok.free y hy e with k | k
    · exact I.ok.has _ (.inl k)
    · exact I.ok.has _ (.inr k)
  refine wpAny_comprehension_free (use := use) rfl hs (closure_ok hfree) ok.kind (fun y hy e => by rw [ok.uniq y hy, e])
    (thn (hi.run pins s σ H _ I h) fun xv s1 hx => thn hx fun itv s2 h2 => ?_)
  obtain ⟨it, fp, tn, J, H2, e, I2, T, st2, f2, q⟩ := h2
  subst e
  refine wpAny_newObj_type (newEnv_comp ?_) (by show 0 ≤ sizeLine; decide)
  generalize hD : s2.heap.objs.size = D
  have hDn : H2 D = none := I2.hok.fresh (Nat.le_of_eq hD)
  obtain ⟨W, ⟨m0, w0⟩, turn⟩ := q D hDn
  generalize hs3 : ({ s2 with heap := s2.heap.push { cls := .type "list", data := .seq ([] : List Value).toArray } } : Shared) = s3
  have I3 : Inv X pins σ (upd H2 D (.lst [])) s3 := by
    rw [← hs3]
    refine I2.laid (t' := s2.toks) (fun b o e => Heap.get?_push_of_some _ e) (Nat.le_of_eq hD) ⟨Nat.zero_le _, [], 0, .nil, ?_⟩
    rw [← hD]
    exact Heap.get?_push_size _ rfl
  have h3 : s3.heap = s2.heap.push { cls := .type "list", data := .seq ([] : List Value).toArray } := by rw [← hs3]
  have f3 : ∀ b ∈ fp, FpOk X pins (upd H2 D (.lst [])) b ∧ b < s3.heap.objs.size := fun b hb => by
    obtain ⟨o, e, _⟩ := T.obj _ _ st2 b hb
    have hlt := Heap.lt_size e
    refine ⟨⟨?_, (f2 b hb).2⟩, by rw [h3, Heap.size_push]; exact Nat.lt_succ_of_lt hlt⟩
    rw [upd_ne (by rw [← hD]; exact Nat.ne_of_lt hlt)]
    exact (f2 b hb).1
  have st3 : tn 0 s3.heap := T.keep _ _ _ st2 fun b _ o e => by rw [h3]; exact Heap.get?_push_of_some _ e
  have I4 := block_start I3 ok hN f3
  have pg := hg s3 (upd H2 D (.lst [])) s3.heap.objs.size (cellsFrom (s3.heap.objs.size + 1) scope.names (cloFrom X.env.cells scope.names [])) fp
  have pt := ht s3 (upd H2 D (.lst [])) s3.heap.objs.size (cellsFrom (s3.heap.objs.size + 1) scope.names (cloFrom X.env.cells scope.names [])) fp
  have pe := he s3 (upd H2 D (.lst [])) s3.heap.objs.size (cellsFrom (s3.heap.objs.size + 1) scope.names (cloFrom X.env.cells scope.names [])) fp
  have pr := hr s3 (upd H2 D (.lst [])) s3.heap.objs.size (cellsFrom (s3.heap.objs.size + 1) scope.names (cloFrom X.env.cells scope.names [])) fp
  show codeAny _ _ (.compStart (.ListComp elt (⟨tg, iter, ifs, 0⟩ :: cs) scope pos) 0 (.ref it) (.ref D) (compEnvC scope (cellsFrom (s3.heap.objs.size + 1) scope.names (cloFrom X.env.cells scope.names [])) s3.heap.objs.size X.env)) (compPost (model X.prog X.w) X.A X.xe use Qf (.ref D) s3.heap.objs.size) { s3 with heap := pushCells (s3.heap.push { cls := .type "dict", data := .dict #[] }) scope.names }
  have nfp : ∀ b ∈ fp, (upd H2 D (.lst [])) b = none := fun b hb => (f3 b hb).1.1
  generalize hce : compEnvC scope (cellsFrom (s3.heap.objs.size + 1) scope.names (cloFrom X.env.cells scope.names [])) s3.heap.objs.size X.env = ce at I4 pg pt pe pr ⊢
  have cL : ce.locals = s3.heap.objs.size := by subst hce; rfl
  generalize hH3 : upd H2 D (.lst []) = H3 at I3 I4 pg pt pe pr w0 nfp f3
  generalize hs4 : ({ s3 with heap := pushCells (s3.heap.push { cls := .type "dict", data := .dict #[] }) scope.names } : Shared) = s4 at I4 ⊢
  have st4 : tn 0 s4.heap := T.keep _ _ _ st3 fun b _ o e => by rw [← hs4]; exact pushCells_keeps _ _ _ _ (Heap.get?_push_of_some _ e)
  have stat : ∀ {σ' : L2.St} {H' : Hp} {s' : Shared}, Inv (X.blk s3 H3 scope ce fp) [] σ' H' s' → (∀ b ∈ fp, H' b = none) → ∀ b ∈ fp, FpOk (X.blk s3 H3 scope ce fp) [] H' b := fun {σ' H' s'} I' hn b hb =>
    ⟨hn b hb, (I'.ok.exf b hb).1, I'.ok.exfs b hb, .inl hb, fun x c e => (I'.ok.exf b hb).2 x c e, fun p hp => absurd (show p ∈ ([] : List (Addr × Obj)) ++ [] from hp) (by simp)⟩
  have loop : codeAny (model X.prog X.w) X.A (.compLoop (.ListComp elt (⟨tg, iter, ifs, 0⟩ :: cs) scope pos) 0 (.ref it) (.ref D) ce) (compPost (model X.prog X.w) X.A X.xe use Qf (.ref D) s3.heap.objs.size) s4 := by
    refine loopN (k := 0) rfl (fun n s' => ∃ i H', Inv (X.blk s3 H3 scope ce fp) [] (wipe σ (own.map (·.2))) H' s' ∧ tn i s'.heap ∧ (∀ b ∈ fp, H' b = none) ∧ W i n H') ?_ m0 ⟨0, H3, I4, st4, nfp, w0⟩
    rintro n s5 ⟨i, H5, I5, st5, n5, w5⟩
    rcases turn i n H5 w5 with ⟨stop, qq⟩ | ⟨go, Nx, hNx, step⟩
    · have td := T.done (X.blk s3 H3 scope ce fp) rfl rfl rfl hc i [] s5 _ H5 (fun _ _ => False) I5 (stat I5 n5) st5 stop
      refine thnF td fun r s6 ⟨hr, I6⟩ => ?_
      subst hr
      have I7 : Inv X pins σ H5 s6 := I3.call' (ch := fp) I6.os I6.base I6.hok I6.bare fun b hb => ⟨(f3 b hb).1.2.2.2.1, (f3 b hb).1.2.1, (f3 b hb).1.2.2.2.2.1, (f3 b hb).1.2.2.2.2.2⟩
      have nC : H5 s3.heap.objs.size = none := by
        have z : H5 ce.locals = none := I6.free
        rw [cL] at z
        exact z
      obtain ⟨m, hn, _⟩ := I6.loc
      have hn : s6.heap.Ns ce.locals m := hn
      rw [cL] at hn
      exact hRR D s3.heap.objs.size s6 m H5 I7 qq hn (I3.fpOk (Nat.le_refl _) nC)
    · have ti := T.item (X.blk s3 H3 scope ce fp) rfl rfl rfl hc i [] s5 _ H5 (fun _ _ => False) I5 (stat I5 n5) st5 go
      refine thnF ti fun r6 s6 ⟨u, hr, h6⟩ => ?_
      subst hr
      refine thnF h6 fun _ s7 ⟨x, H7, I7, r7, y7, st7, n7⟩ => ?_
      have I7' := I7.pinned (stat I7 n7) (T.obj _ _ st7)
      refine thnF (pg.run _ s7 _ H7 x u _ I7' r7 (step x H7 y7)) fun _ s8 ⟨σ8, H8, I8, hw8, q8⟩ => ?_
      refine thnF (pt.run _ s8 σ8 H8 _ I8 q8) fun b s9 ⟨H9, I9, q9⟩ => ?_
      have fin : ∀ {σ9 : L2.St} {s' : Shared} {H' : Hp}, Inv (X.blk s3 H3 scope ce fp) ([] ++ pinsAt fp s7.heap) σ9 H' s' → (wipe σ (own.map (·.2))).length = σ9.length → (∀ (j : Nat) v, (wipe σ (own.map (·.2)))[j]? = some (some v) → σ9[j]? = some (some v)) → Nx H' →
          ∃ m, m < n ∧ ∃ i H', Inv (X.blk s3 H3 scope ce fp) [] (wipe σ (own.map (·.2))) H' s' ∧ tn i s'.heap ∧ (∀ b ∈ fp, H' b = none) ∧ W i m H' := fun {σ9 s' H'} I' hl hk nx => by
        obtain ⟨m', hm, w'⟩ := hNx H' nx
        have pin' : ∀ b ∈ fp, ∀ o, s7.heap.get? b = some o → s'.heap.get? b = some o ∧ H' b = none := fun b hb o e =>
          let z := I'.pin (b, o) (List.mem_append_right _ (List.mem_append_right _ (mem_pinsAt hb e)))
          ⟨z.1, z.2.1⟩
        refine ⟨m', hm, i + 1, H', (I'.unpinned (pins := [])).weak hl hk, T.keep _ _ _ st7 fun b hb o e => (pin' b hb o e).1, fun b hb => ?_, w'⟩
        obtain ⟨o, e, _⟩ := T.obj _ _ st7 b hb
        exact (pin' b hb o e).2
      have hl8 : (wipe σ (own.map (·.2))).length = σ8.length := by rw [← hw8, wipe_length]
      have hk8 : ∀ (j : Nat) v, (wipe σ (own.map (·.2)))[j]? = some (some v) → σ8[j]? = some (some v) := fun j v e => by
        rw [← hw8] at e
        exact (wipe_some e).1
      cases b with
      | false =>
        simp only [Bool.false_eq_true, if_false] at q9 ⊢
        exact fin I9 hl8 hk8 q9
      | true =>
        simp only [if_true] at q9 ⊢
        refine (inner_ok hc rfl pe (own.map (·.2)) cs r 0 pr rfl _ s9 σ8 H9 Nx I9 q9).mono fun s' ⟨σ', H', I', hl, hkp, nx⟩ => fin I' (hl8.trans hl.symm) (fun j v e => hkp j v (wipe_some e).2 (hk8 j v e)) nx
  exact codeAny_compStart_list loop (T.self X.A 0 _ _ _ st4 loop)
/-- as a value -/
theorem pe_lcN {elt tg iter : Expr} {ifs : List Expr} {cs : List Comprehension} {r : List Clq} {scope : Scope} {own : List (Str × Nat)} {pos : Pos} {wi : TI} {g : TG} {tt : TT} {te : TE} (hc : X.calm = true) (hN : X.N.Nodup) (hi : PI X tg iter wi) (ok : BlkOk X.N X.env.scope scope own)
    (hg : ∀ (s : Shared) (H : Hp) (C : Addr) (cl : List (Str × Addr)) (fp : List Addr), PG (X.blk s H scope (compEnvC scope cl C X.env) fp) tg g) (ht : ∀ (s : Shared) (H : Hp) (C : Addr) (cl : List (Str × Addr)) (fp : List Addr), PTs (X.blk s H scope (compEnvC scope cl C X.env) fp) ifs tt)
    (hr : ∀ (s : Shared) (H : Hp) (C : Addr) (cl : List (Str × Addr)) (fp : List Addr), Cls (X.blk s H scope (compEnvC scope cl C X.env) fp) (own.map (·.2)) cs r)
    (he : ∀ (s : Shared) (H : Hp) (C : Addr) (cl : List (Str × Addr)) (fp : List Addr), PE (X.blk s H scope (compEnvC scope cl C X.env) fp) elt te) (hs : ∀ x, foldedSetIterable iter X.env x = pure x := by intro _; rfl) :
    PE X (.ListComp elt (⟨tg, iter, ifs, 0⟩ :: cs) scope pos) (tLcN wi g tt te (own.map (·.2)) r) := by
  refine ⟨fun pins s σ H Q I h => ?_⟩
  rw [eval_ListComp]
  refine lcN_core hc hN I hi ok hg ht he hs hr h fun D C s' m H' I' q hn f => ⟨m, hn, fun h'' sb => ?_⟩
  obtain ⟨f0, f1, f2, f3, f4, f5⟩ := f
  exact ⟨.ref D, H', I'.turned (t' := s'.toks) (fun b o hb e => (sb.2 b hb).trans e) f0 f1 f3 f4 f5, rfl, q⟩
end
end XLN
namespace XLN
open PySem PySem.Spec PyProof.Rows L2 Evl
section
variable {J : It} {n : Nat} {G : Hp → Prop} {Y : Nat → Hp → V → Hp → Prop} {K : PySem.W.Frag} {D a : Addr} {te ta : TE} {r : List Clq} {g : TG} {tt : TT} {vs : List Nat} {σ : L2.St} {H : Hp} {Nx : Hp → Prop} {xs : List V} {j : Nat} {Q : VK}
/-- a clause over it: Pv by the turn and the heap -/
theorem tin_it (w : Walk J n G Y) (Pv : Nat → Hp → Prop) (h0 : Pv 0 H) (hG : ∀ i H, i ≤ n → Pv i H → G H)
    (hs : ∀ i x H H', i < n → Pv i H → Y i H x H' → g x (wipe σ vs) H' fun σ2 H2 => wipe σ2 vs = wipe σ vs ∧ tt σ2 H2 fun b H3 => if b = true then tIn D te r σ2 H3 (Pv (i + 1)) else Pv (i + 1) H3) (hd : ∀ H, Pv n H → Nx H) :
    ∃ W : Nat → Nat → Hp → Prop, (∃ m, W 0 m H) ∧ ∀ j k H, W j k H →
      (J.stop j H ∧ Nx H) ∨ (J.go j H ∧ ∃ Nx1 : Hp → Prop, (∀ H', Nx1 H' → ∃ k', k' < k ∧ W (j + 1) k' H') ∧ ∀ x H', J.yld j H x H' → g x (wipe σ vs) H' fun σ3 H5 => wipe σ3 vs = wipe σ vs ∧ tt σ3 H5 fun b H6 => if b = true then tIn D te r σ3 H6 Nx1 else Nx1 H6) := by
  refine ⟨fun i m H => m = n - i ∧ i ≤ n ∧ Pv i H, ⟨n, by simp, Nat.zero_le _, h0⟩, ?_⟩
  rintro i m H ⟨rfl, hi, p⟩
  have q := hG i H hi p
  by_cases hlt : i < n
  · exact .inr ⟨w.goes i H hlt q, Pv (i + 1), fun H' p' => ⟨n - (i + 1), by omega, rfl, hlt, p'⟩, fun x H' y => hs i x H H' hlt p (w.yields i H x H' hlt q y)⟩
  · have e : i = n := by omega
    subst e
    exact .inl ⟨w.stops H q, hd H p⟩
/-- a clause over a tuple that stands, without tests -/
theorem tin_tup (h : Ev ta σ H (.ref a)) (hx : SqT K H a xs) (σ' : V → L2.St) (hσ : ∀ x, (wipe σ vs).set j (some x) = σ' x) (hw : ∀ x, wipe (σ' x) vs = wipe σ vs) (Pv : Nat → Hp → Prop) (h0 : ∀ H1, Ex H H1 → Pv 0 H1) (hG : ∀ i H, Pv i H → SqT K H a xs)
    (hs : ∀ i x H', xs[i]? = some x → Pv i H' → tIn D te r (σ' x) H' (Pv (i + 1))) (hd : ∀ H', Pv xs.length H' → Nx H') : tIn D te ((iTup K ta, gName j, tYes, vs) :: r) σ H Nx :=
  h H (Ex.refl H) _ fun H2 e2 => ⟨a, rfl, ⟨xs, ex_t e2 hx⟩, tin_it walk_tup Pv (h0 H2 e2) (fun i H _ p => hG i H p) (fun i x H1 H' hi p y => by
    obtain ⟨rfl, hx⟩ := y
    show (fun σ2 H2 => wipe σ2 vs = wipe σ vs ∧ tYes σ2 H2 fun b H3 => if b = true then tIn D te r σ2 H3 (Pv (i + 1)) else Pv (i + 1) H3) ((wipe σ vs).set j (some x)) H'
    rw [hσ x]
    exact ⟨hw x, XB.tYes_go (hs i x H' hx p)⟩) hd⟩
/-- the same as the first clause -/
theorem lcN_tup (h : Ev ta σ H (.ref a)) (hx : SqT K H a xs) (σ' : V → L2.St) (hσ : ∀ x, (wipe σ vs).set j (some x) = σ' x) (hw : ∀ x, wipe (σ' x) vs = wipe σ vs) (Pv : Addr → Nat → Hp → Prop) (h0 : ∀ D H1, Ex H H1 → H1 D = none → Pv D 0 (upd H1 D (.lst []))) (hG : ∀ D i H, Pv D i H → SqT K H a xs)
    (hs : ∀ D i x H', xs[i]? = some x → Pv D i H' → tIn D te r (σ' x) H' (Pv D (i + 1))) (hd : ∀ D H', Pv D xs.length H' → Q (.ref D) H') : tLcN (iTup K ta) (gName j) tYes te vs r σ H Q :=
  h H (Ex.refl H) _ fun H2 e2 => ⟨a, rfl, ⟨xs, ex_t e2 hx⟩, fun D nD => by
    refine ⟨fun i m H => m = xs.length - i ∧ i ≤ xs.length ∧ Pv D i H, ⟨xs.length, by simp, Nat.zero_le _, h0 D H2 e2 nD⟩, ?_⟩
    rintro i m H ⟨rfl, hi, p⟩
    have q := hG D i H p
    have w := walk_tup (K := K) (a := a) (xs := xs)
    by_cases hlt : i < xs.length
    · refine .inr ⟨w.goes i H hlt q, Pv D (i + 1), fun H' p' => ⟨xs.length - (i + 1), by omega, rfl, hlt, p'⟩, fun x H' y => ?_⟩
      obtain ⟨rfl, hx⟩ := w.yields i H x H' hlt q y
      show (fun σ2 H2 => wipe σ2 vs = wipe σ vs ∧ tYes σ2 H2 fun b H3 => if b = true then tIn D te r σ2 H3 (Pv D (i + 1)) else Pv D (i + 1) H3) ((wipe σ vs).set j (some x)) H'
      rw [hσ x]
      exact ⟨hw x, XB.tYes_go (hs D i x H' hx p)⟩
    · have e : i = xs.length := by omega
      subst e
      exact .inl ⟨w.stops H q, hd D H p⟩⟩
end
end XLN
namespace T
open PySem PySem.Spec PyProof.Rows L2 Evl XB TL XS XI XC ClX XLN
/-! ### made, pairs -/
def mkV (k : Str) (n : Int) (x : Str) : List V := if k = "stay" then [.str "stay"] else if k = "out" then [.str k, .int n] else [.str k, .int n, .str x]
def mkD (k : Str) (n : Int) (c : Nat) : Deed := if k = "stay" then .stay else if k = "out" then .out n else .sig k n c
theorem mkV_d {k : Str} {n : Int} {c : Nat} : mkV k n (let1 c) = (mkD k n c).vs := by
  unfold mkV mkD
  split
  · rfl
  · split
    · rename_i h
      rw [h]
      rfl
    · rfl
theorem mkD_ok {ks : List Str} {k : Str} {n : Int} {c : Nat} (hk : ks ∈ kinds7) (h : k = "stay" ∨ k ∈ ks) (h1 : -9 ≤ n) (h2 : n ≤ 10 ^ 12) (h3 : 97 ≤ c) (h4 : c ≤ 122) : (mkD k n c).ok ks := by
  unfold mkD
  split
  · trivial
  · rename_i hs
    have h := h.resolve_left hs
    split
    · rename_i ho
      exact ⟨by rw [← ho]; exact h, h1, h2⟩
    · rename_i ho
      exact ⟨(kind_cases hk k h).resolve_left ho, h, h1, h2, h3, h4⟩
/-- a global tuple of tuples -/
structure TupV (K : PySem.W.Frag) (mg : Str → Option Value) (x : Str) (xss : List (List V)) : Prop where
  ex : ∃ (a : Addr) (rs : List Addr), mg x = some (.ref a) ∧ rs.length = xss.length ∧ (∀ H, SqT K H a (rs.map V.ref)) ∧ ∀ (i : Nat) r xs, rs[i]? = some r → xss[i]? = some xs → ∀ H, SqT K H r xs
def diffV : List (List V) := [sl [""], sl ["x"], sl ["xy", "yx"], sl ["xyz", "xzy", "yxz", "yzx", "zxy", "zyx"]]
def sameV : List (List V) := [[], [], sl ["xx"], sl ["xxx", "xxy", "xyx", "yxx", "xyy", "yxy", "yyx"]]
def placeV : List (List V) := [[.int 0, .int 1], [.int 0, .int 0], [.int 1, .int 0]]
def sg2 : List (Str × Nat × Nat) := [("xy", 120, 121), ("yx", 121, 120), ("xx", 120, 120)]
def pl2 : List (Int × Int) := [(0, 1), (0, 0), (1, 0)]
def pairD (ks : List Str) : List (Deed × Deed) := ks.flatMap fun m => ks.flatMap fun i => pl2.flatMap fun p => sg2.flatMap fun s => [(mkD m p.1 s.2.1, mkD i p.2 s.2.2)]
theorem pairD_ok {ks : List Str} (hk : ks ∈ kinds7) : ∀ x ∈ pairD ks, x.1.ok ks ∧ x.2.ok ks := fun x h => by
  unfold pairD at h
  obtain ⟨m, hm, h⟩ := List.mem_flatMap.mp h
  obtain ⟨i, hi, h⟩ := List.mem_flatMap.mp h
  obtain ⟨p, hp, h⟩ := List.mem_flatMap.mp h
  obtain ⟨s, hs, h⟩ := List.mem_flatMap.mp h
  rw [List.mem_singleton.mp h]
  have p1 : ∀ p ∈ pl2, -9 ≤ p.1 ∧ p.1 ≤ 10 ^ 12 ∧ -9 ≤ p.2 ∧ p.2 ≤ 10 ^ 12 := by decide
  have s1 : ∀ s ∈ sg2, 97 ≤ s.2.1 ∧ s.2.1 ≤ 122 ∧ 97 ≤ s.2.2 ∧ s.2.2 ≤ 122 := by decide
  obtain ⟨a1, a2, a3, a4⟩ := p1 p hp
  obtain ⟨b1, b2, b3, b4⟩ := s1 s hs
  exact ⟨mkD_ok hk (.inr hm) a1 a2 b1 b2, mkD_ok hk (.inr hi) a3 a4 b3 b4⟩
theorem flat_take {α β : Type} {xs : List α} {i : Nat} {x : α} (f : α → List β) (h : xs[i]? = some x) : (xs.take (i + 1)).flatMap f = (xs.take i).flatMap f ++ f x := by
  rw [List.take_succ, h]
  simp [List.flatMap_append]
/-- a pair of edits -/
def PairAt (H : Hp) (v : V) (de : Deed × Deed) : Prop := ∃ t a b : Addr, v = .ref t ∧ H t = some (.tup [.ref a, .ref b]) ∧ H a = some (.tup de.1.vs) ∧ H b = some (.tup de.2.vs)
theorem PairAt.ex {H H' : Hp} {v : V} {de : Deed × Deed} (h : PairAt H v de) (e : Ex H H') : PairAt H' v de := by
  obtain ⟨t, a, b, h1, h2, h3, h4⟩ := h
  exact ⟨t, a, b, h1, e _ _ h2, e _ _ h3, e _ _ h4⟩
theorem PairAt.put {H : Hp} {v : V} {de : Deed × Deed} {F : Addr} {zs : List V} {o : HO} (h : PairAt H v de) (hF : H F = some (.lst zs)) : PairAt (upd H F o) v de := by
  obtain ⟨t, a, b, h1, h2, h3, h4⟩ := h
  exact ⟨t, a, b, h1, by rw [upd_ne (ne_of h2 hF fun q => by cases q)]; exact h2, by rw [upd_ne (ne_of h3 hF fun q => by cases q)]; exact h3, by rw [upd_ne (ne_of h4 hF fun q => by cases q)]; exact h4⟩
structure PairsV (H : Hp) (ys : List V) (ds : List (Deed × Deed)) : Prop where
  len : ys.length = ds.length
  at_ : ∀ (i : Nat) v de, ys[i]? = some v → ds[i]? = some de → PairAt H v de
theorem PairsV.ex {H H' : Hp} {ys : List V} {ds : List (Deed × Deed)} (h : PairsV H ys ds) (e : Ex H H') : PairsV H' ys ds := ⟨h.len, fun i v de h1 h2 => (h.at_ i v de h1 h2).ex e⟩
theorem PairsV.put {H : Hp} {ys zs : List V} {ds : List (Deed × Deed)} {F : Addr} {o : HO} (h : PairsV H ys ds) (hF : H F = some (.lst zs)) : PairsV (upd H F o) ys ds := ⟨h.len, fun i v de h1 h2 => (h.at_ i v de h1 h2).put hF⟩
theorem PairsV.snoc {H : Hp} {ys : List V} {ds : List (Deed × Deed)} {v : V} {de : Deed × Deed} (h : PairsV H ys ds) (ha : PairAt H v de) : PairsV H (ys ++ [v]) (ds ++ [de]) := ⟨by rw [List.length_append, List.length_append, h.len]; rfl, fun i u ce hu hc => by
  rcases Nat.lt_trichotomy i ds.length with q | q | q
  · rw [List.getElem?_append_left q] at hc
    rw [List.getElem?_append_left (by rw [h.len]; exact q)] at hu
    exact h.at_ i u ce hu hc
  · subst q
    rw [List.getElem?_append_right (Nat.le_refl _), Nat.sub_self] at hc
    rw [← h.len, List.getElem?_append_right (Nat.le_refl _), Nat.sub_self] at hu
    injection hc with hc
    injection hu with hu
    subst hc hu
    exact ha
  · rw [List.getElem?_eq_none (by rw [List.length_append]; show ds.length + 1 ≤ i; omega)] at hc
    cases hc⟩
section
variable {P : Program} {w : World} {K : PySem.W.Frag} {mg : Str → Option Value} {base : Heap} {C : Addr}
variable {σ : L2.St} {H H' G : Hp} {ta tb te : TE} {p a b l : Addr} {E : XK} {Q : VK} {ks : List Str}
def spMk : Sp := fun vs0 H Q _ => ∃ (k x : Str) (n : Int), vs0 = [.str k, .int n, .str x] ∧ ∀ l H', H l = none → Ex H H' → H' l = some (.tup (mkV k n x)) → Q (.ref l) H'
theorem c_mk (D : At K mg "made" s_made ["kind", "place", "sign"]) : C8.Cal P w K mg base 1 "made" spMk [] := by
  refine cal_of D sc_made (fun vs H Q E h => ?_) (fun f cdv A outer s H vs Q E hr h => ?_)
  · obtain ⟨k, x, n, rfl, _⟩ := h
    rfl
  · obtain ⟨k, x, n, rfl, q⟩ := h
    refine ⟨_, pss_cons (ps_if (pt_cmpR op_eq (pv 0) pe_str (nomark _)) (pss_one (ps_ret (pe_tup (pa_cons pe_str pa_nil)))) pss_nil)
      (pss_cons (ps_if (pt_cmpR op_eq (pv 0) pe_str (nomark _)) (pss_one (ps_ret (pe_tup (pa_cons (pv 0) (pa_cons (pv 1) pa_nil))))) pss_nil)
      (pss_one (ps_ret (pe_tup (pa_cons (pv 0) (pa_cons (pv 1) (pa_cons (pv 2) pa_nil))))))), ?_⟩
    unfold mkV at q
    refine q_when (et_test (ev_eqS (ev_var rfl) ev_c)) (fun y H1 e1 => ?_) (fun y H1 e1 => ?_)
    · rw [if_pos (of_decide_eq_true y)] at q
      exact ⟨(by show 1 ≤ sizeLine; decide), fun l nl => q l _ (fresh_back e1 nl) (e1.trans (Ex.new nl)) upd_same⟩
    · rw [if_neg (of_decide_eq_false y)] at q
      refine q_when (et_test (ev_eqS (ev_var rfl) ev_c)) (fun y2 H2 e2 => ?_) (fun y2 H2 e2 => ?_)
      · rw [if_pos (of_decide_eq_true y2)] at q
        exact ⟨_, rfl, _, rfl, (by show 2 ≤ sizeLine; decide), fun l nl => q l _ (fresh_back (e1.trans e2) nl) ((e1.trans e2).trans (Ex.new nl)) upd_same⟩
      · rw [if_neg (of_decide_eq_false y2)] at q
        exact ⟨_, rfl, _, rfl, _, rfl, (by show 3 ≤ sizeLine; decide), fun l nl => q l _ (fresh_back (e1.trans e2) nl) ((e1.trans e2).trans (Ex.new nl)) upd_same⟩
def spPairs (K : PySem.W.Frag) : Sp := fun vs0 H Q _ => ∃ (b : Addr) (ks : List Str), vs0 = [.ref b] ∧ SqT K H b (sl ks) ∧ ks ∈ kinds7 ∧ ∀ l ys H', Ex H H' → H' l = some (.lst ys) → PairsV H' ys (pairD ks) → ys.length ≤ 81 → Q (.ref l) H'
theorem c_pairs (D : At K mg "pairs" s_pairs ["kinds"]) (TD : TupV K mg "DIFFERENT_SIGNS" diffV) (TS : TupV K mg "SAME_SIGNS" sameV) (TP : TupV K mg "PLACES_BY_RELATION" placeV) (Cm : C8.Cal P w K mg base 1 "made" spMk []) : C8.Cal P w K mg base 2 "pairs" (spPairs K) [] := by
  obtain ⟨aD, rD, mD, lD, hD, iD⟩ := TD.ex
  obtain ⟨aS, rS, mS, lS, hS, iS⟩ := TS.ex
  obtain ⟨aP, rP, mP, lP, hP, iP⟩ := TP.ex
  refine cal_of D sc_pairs (fun vs H Q E h => ?_) (fun f cdv A outer s H vs Q E hr h => ?_)
  · obtain ⟨b, ks, rfl, _⟩ := h
    rfl
  · obtain ⟨b, ks, rfl, hb, hk, q⟩ := h
    refine ⟨_, pss_cons (ps_set (i := 1) sc_pairs.nd rfl (.inr rfl) (pe_op op_catA (pe_ix ix_tup (pe_glob (v := .ref aD) (by rfl) mD rfl) pe_int (fun _ _ => rfl)) (pe_ix ix_tup (pe_glob (v := .ref aS) (by rfl) mS rfl) pe_int (fun _ _ => rfl))))
      (pss_one (ps_ret (pe_lcN (own := [("mine", 2), ("its", 3), ("places", 4), ("order", 5)]) (wi := iTup K (tVar 0)) (g := gName 2) (tt := tYes) (te := tTup (tCons (tCall spMk [] C8.E0 (tCons (tVar 2) (tCons (tOp (rIxT K) (tVar 4) (tC (.int 0))) (tCons (tOp rIxS (tVar 5) (tC (.int 0))) tNil)))) (tCons (tCall spMk [] C8.E0 (tCons (tVar 3) (tCons (tOp (rIxT K) (tVar 4) (tC (.int 1))) (tCons (tOp rIxS (tVar 5) (tC (.int 1))) tNil)))) tNil))) (r := [(iTup K (tVar 0), gName 3, tYes, [3, 4, 5]), (iTup K (tC (.ref aP)), gName 4, tYes, [4, 5]), (iTup K (tVar 1), gName 5, tYes, [5])]) rfl sc_pairs.nd (pi_tup (pv 0)) (blkOk_by (own := [("mine", 2), ("its", 3), ("places", 4), ("order", 5)]) (N := N_pairs) (sc := defScope s_pairs) (by decide +kernel)) (fun _ _ _ _ _ => pg_name (i := 2) sc_pairs.nd rfl (.inl rfl)) (fun _ _ _ _ _ => pts_nil) (fun _ _ _ _ _ => (.cons (vs := [3, 4, 5]) (pi_tup (pv 0)) (pg_name (i := 3) sc_pairs.nd rfl (.inl rfl)) pts_nil (fun _ _ => rfl) (by decide) (.cons (vs := [4, 5]) (pi_tup (pe_glob (v := .ref aP) (by rfl) mP rfl)) (pg_name (i := 4) sc_pairs.nd rfl (.inl rfl)) pts_nil (fun _ _ => rfl) (by decide) (.cons (vs := [5]) (pi_tup (pv 1)) (pg_name (i := 5) sc_pairs.nd rfl (.inl rfl)) pts_nil (fun _ _ => rfl) (by decide) .nil)))) (fun _ _ _ _ _ => pe_tup (pa_cons (C8.pe_c Cm hr (by decide) (by rfl) (pa_cons (pv 2) (pa_cons (pe_ix ix_tup (pv 4) pe_int (fun _ _ => rfl)) (pa_cons (pe_ix ix_str (pv 5) pe_int (fun _ _ => rfl)) pa_nil)))) (pa_cons (C8.pe_c Cm hr (by decide) (by rfl) (pa_cons (pv 3) (pa_cons (pe_ix ix_tup (pv 4) pe_int (fun _ _ => rfl)) (pa_cons (pe_ix ix_str (pv 5) pe_int (fun _ _ => rfl)) pa_nil)))) pa_nil)))))), ?_⟩
    have k3 : ks.length ≤ 3 := len7 hk
    have d2 : ∃ r, rD[2]? = some r ∧ ∀ H, SqT K H r (sl ["xy", "yx"]) := ⟨rD[2]'(by rw [lD]; decide), List.getElem?_eq_getElem _, iD 2 _ _ (List.getElem?_eq_getElem _) rfl⟩
    have s2 : ∃ r, rS[2]? = some r ∧ ∀ H, SqT K H r (sl ["xx"]) := ⟨rS[2]'(by rw [lS]; decide), List.getElem?_eq_getElem _, iS 2 _ _ (List.getElem?_eq_getElem _) rfl⟩
    obtain ⟨r1, hr1, hq1⟩ := d2
    obtain ⟨r2, hr2, hq2⟩ := s2
    have at1 : (rD.map V.ref)[2]? = some (.ref r1) := by rw [List.getElem?_map, hr1]; rfl
    have at2 : (rS.map V.ref)[2]? = some (.ref r2) := by rw [List.getElem?_map, hr2]; rfl
    refine q_asgS (K := K) (xs := sl ["xy", "yx", "xx"]) (es_catA (xs := sl ["xy", "yx"]) (ys := sl ["xx"]) (es_at (ev_ixT ev_c ev_c (hD _) (atI_nat at1)) (hq1 _)) (es_at (ev_ixT ev_c ev_c (hS _) (atI_nat at2)) (hq2 _)) (by show 2 + 1 ≤ 100000; decide)) fun sg H1 e1 hsg => ?_
    have hb1 := ex_t e1 hb
    let F4 (m i : Str) (p : Int × Int) (s : Str × Nat × Nat) : List (Deed × Deed) := [(mkD m p.1 s.2.1, mkD i p.2 s.2.2)]
    let F3 (m i : Str) (p : Int × Int) : List (Deed × Deed) := sg2.flatMap (F4 m i p)
    let F2 (m i : Str) : List (Deed × Deed) := pl2.flatMap (F3 m i)
    let F1 (m : Str) : List (Deed × Deed) := ks.flatMap (F2 m)
    have sq : ∀ {G : Hp}, Ex H1 G → SqT K G b (sl ks) := fun g => ex_t g hb1
    refine lcN_tup (K := K) (a := b) (xs := sl ks) (ev_var rfl) hb1 (fun x => [some (.ref b), some (.ref sg), some x, none, none, none]) (fun _ => rfl) (fun _ => rfl) (fun D i G => ∃ acc, Ex H1 G ∧ H1 D = none ∧ G D = some (.lst acc) ∧ PairsV G acc ((ks.take i).flatMap F1) ∧ acc.length ≤ 27 * i) (fun D H2 e2 nD => ⟨[], e2.trans (Ex.new nD), fresh_back e2 nD, upd_same, ⟨rfl, fun i v de h => by cases h⟩, Nat.le_refl _⟩) (fun D i G ⟨acc, e, _⟩ => sq e) (fun D i x G hx ⟨acc, eG, nD, hG, hV, hl⟩ => ?_) (fun D G ⟨acc, eG, nD, hG, hV, hl⟩ => ?_)
    · obtain ⟨m, hm, rfl⟩ : ∃ m, ks[i]? = some m ∧ x = .str m := by
        rw [List.getElem?_map] at hx
        cases e : ks[i]? with
        | none => rw [e] at hx; cases hx
        | some m => rw [e] at hx; injection hx with hx; exact ⟨m, rfl, hx.symm⟩
      refine tin_tup (K := K) (a := b) (xs := sl ks) (ev_var rfl) (sq eG) (fun x => [some (.ref b), some (.ref sg), some (.str m), some x, none, none]) (fun _ => rfl) (fun _ => rfl) (fun j G2 => ∃ acc, Ex H1 G2 ∧ G2 D = some (.lst acc) ∧ PairsV G2 acc ((ks.take i).flatMap F1 ++ (ks.take j).flatMap (F2 m)) ∧ acc.length ≤ 27 * i + 9 * j) (fun G2 g2 => ⟨acc, eG.trans g2, g2 _ _ hG, by rw [List.take_zero, List.flatMap_nil, List.append_nil]; exact hV.ex g2, hl⟩) (fun j G2 ⟨acc, e, _⟩ => sq e) (fun j y G2 hy ⟨acc2, eG2, hG2, hV2, hl2⟩ => ?_) (fun G2 ⟨acc2, eG2, hG2, hV2, hl2⟩ => ⟨acc2, eG2, nD, hG2, ?_, ?_⟩)
      · obtain ⟨mi, hmi, rfl⟩ : ∃ m, ks[j]? = some m ∧ y = .str m := by
          rw [List.getElem?_map] at hy
          cases e : ks[j]? with
          | none => rw [e] at hy; cases hy
          | some m => rw [e] at hy; injection hy with hy; exact ⟨m, rfl, hy.symm⟩
        refine tin_tup (K := K) (a := aP) (xs := rP.map V.ref) ev_c (hP _) (fun x => [some (.ref b), some (.ref sg), some (.str m), some (.str mi), some x, none]) (fun _ => rfl) (fun _ => rfl) (fun k G3 => ∃ acc, Ex H1 G3 ∧ G3 D = some (.lst acc) ∧ PairsV G3 acc ((ks.take i).flatMap F1 ++ (ks.take j).flatMap (F2 m) ++ (pl2.take k).flatMap (F3 m mi)) ∧ acc.length ≤ 27 * i + 9 * j + 3 * k) (fun G3 g3 => ⟨acc2, eG2.trans g3, g3 _ _ hG2, by rw [List.take_zero, List.flatMap_nil, List.append_nil]; exact hV2.ex g3, hl2⟩) (fun k G3 _ => hP _) (fun k u G3 hu ⟨acc3, eG3, hG3, hV3, hl3⟩ => ?_) (fun G3 ⟨acc3, eG3, hG3, hV3, hl3⟩ => ⟨acc3, eG3, hG3, ?_, ?_⟩)
        · obtain ⟨pr, pp, hpl, hu2, hpr⟩ : ∃ (pr : Addr) (pp : Int × Int), pl2[k]? = some pp ∧ u = .ref pr ∧ ∀ H, SqT K H pr [.int pp.1, .int pp.2] := by
            rw [List.getElem?_map] at hu
            cases e : rP[k]? with
            | none => rw [e] at hu; cases hu
            | some pr =>
              rw [e] at hu
              injection hu with hu
              have hk3 : k < 3 := by
                have := (List.getElem?_eq_some_iff.mp e).1
                rw [lP] at this
                exact this
              have all : ∀ k < 3, ∃ pp : Int × Int, pl2[k]? = some pp ∧ placeV[k]? = some [.int pp.1, .int pp.2] := fun k h => by
                rcases (show k = 0 ∨ k = 1 ∨ k = 2 by omega) with h | h | h <;> subst h
                · exact ⟨(0, 1), rfl, rfl⟩
                · exact ⟨(0, 0), rfl, rfl⟩
                · exact ⟨(1, 0), rfl, rfl⟩
              obtain ⟨pp, h1, h2⟩ := all k hk3
              exact ⟨pr, pp, h1, hu.symm, iP k pr _ e h2⟩
          subst hu2
          have hk3 : k < 3 := (List.getElem?_eq_some_iff.mp hpl).1
          refine tin_tup (K := K) (a := sg) (xs := sl ["xy", "yx", "xx"]) (ev_var rfl) (ex_t eG3 hsg) (fun x => [some (.ref b), some (.ref sg), some (.str m), some (.str mi), some (.ref pr), some x]) (fun _ => rfl) (fun _ => rfl) (fun n G4 => ∃ acc, Ex H1 G4 ∧ G4 D = some (.lst acc) ∧ PairsV G4 acc ((ks.take i).flatMap F1 ++ (ks.take j).flatMap (F2 m) ++ (pl2.take k).flatMap (F3 m mi) ++ (sg2.take n).flatMap (F4 m mi pp)) ∧ acc.length ≤ 27 * i + 9 * j + 3 * k + n) (fun G4 g4 => ⟨acc3, eG3.trans g4, g4 _ _ hG3, by rw [List.take_zero, List.flatMap_nil, List.append_nil]; exact hV3.ex g4, hl3⟩) (fun n G4 ⟨_, e, _⟩ => ex_t e hsg) (fun n z G4 hz ⟨acc4, eG4, hG4, hV4, hl4⟩ => ?_) (fun G4 ⟨acc4, eG4, hG4, hV4, hl4⟩ => ⟨acc4, eG4, hG4, ?_, ?_⟩)
          · obtain ⟨ss, hss, rfl, hc1, hc2, hlen⟩ : ∃ ss : Str × Nat × Nat, sg2[n]? = some ss ∧ z = .str ss.1 ∧ atI ss.1.cps.toList 0 = some ss.2.1 ∧ atI ss.1.cps.toList 1 = some ss.2.2 ∧ ss.1.length ≤ 2 := by
              have hn3 : n < 3 := (List.getElem?_eq_some_iff.mp hz).1
              rcases (show n = 0 ∨ n = 1 ∨ n = 2 by omega) with h | h | h <;> subst h <;> cases hz
              · exact ⟨("xy", 120, 121), rfl, rfl, rfl, rfl, by decide⟩
              · exact ⟨("yx", 121, 120), rfl, rfl, rfl, rfl, by decide⟩
              · exact ⟨("xx", 120, 120), rfl, rfl, rfl, rfl, by decide⟩
            have hn3 : n < 3 := (List.getElem?_eq_some_iff.mp hss).1
            have hi3 : i < ks.length := (List.getElem?_eq_some_iff.mp hm).1
            have hj3 : j < ks.length := (List.getElem?_eq_some_iff.mp hmi).1
            refine ⟨_, rfl, _, rfl, pr, _, 0, _, rfl, rfl, hpr _, rfl, _, rfl, ss.1, 0, ss.2.1, rfl, rfl, (by rw [sizeLine_eq]; omega), hc1, m, _, pp.1, rfl, fun ea G5 nea g5 hea => ⟨_, rfl, _, rfl, pr, _, 1, _, rfl, rfl, hpr _, rfl, _, rfl, ss.1, 1, ss.2.2, rfl, rfl, (by rw [sizeLine_eq]; omega), hc2, mi, _, pp.2, rfl, fun eb G6 neb g6 heb => ⟨(by show 2 ≤ sizeLine; decide), fun t nt => ?_⟩⟩⟩
            have g46 := (g5.trans g6).trans (Ex.new (o := .tup [.ref ea, .ref eb]) nt)
            have hG7 := g46 _ _ hG4
            have pa : PairAt (upd G6 t (.tup [.ref ea, .ref eb])) (.ref t) (mkD m pp.1 ss.2.1, mkD mi pp.2 ss.2.2) := ⟨t, ea, eb, rfl, upd_same, by rw [← mkV_d]; exact kp (g6 _ _ hea) nt, by rw [← mkV_d]; exact kp heb nt⟩
            refine ⟨acc4, hG7, by rw [sizeLine_eq]; omega, acc4 ++ [.ref t], Ex.mut (eG4.trans g46) nD, upd_same, ?_, by rw [List.length_append]; show _ + 1 ≤ _; omega⟩
            rw [flat_take (F4 m mi pp) hss, ← List.append_assoc]
            exact ((hV4.ex g46).snoc pa).put hG7
          · rw [flat_take (F3 m mi) hpl, ← List.append_assoc]
            have : sg2.take (sl ["xy", "yx", "xx"]).length = sg2 := rfl
            rw [this] at hV4
            exact hV4
          · have : (sl ["xy", "yx", "xx"]).length = 3 := rfl
            rw [this] at hl4
            omega
        · have l3 : (rP.map V.ref).length = 3 := by rw [List.length_map, lP]; rfl
          rw [l3] at hV3
          rw [flat_take (F2 m) hmi, ← List.append_assoc]
          exact hV3
        · have l3 : (rP.map V.ref).length = 3 := by rw [List.length_map, lP]; rfl
          rw [l3] at hl3
          omega
      · rw [flat_take F1 hm]
        rw [XB.len_sl, List.take_length] at hV2
        exact hV2
      · rw [XB.len_sl] at hl2
        omega
    · rw [XB.len_sl, List.take_length] at hV
      rw [XB.len_sl] at hl
      exact q D acc G (e1.trans eG) hG hV (by omega)
end
end T
namespace T
open PySem PySem.Spec PyProof.Rows L2 Evl XB TL XS XI XC ClX XQ XSp LamX XO2 XLN
section
variable {P : Program} {w : World} {K : PySem.W.Frag} {mg : Str → Option Value} {base : Heap} {C CN CT CE CA : Addr}
variable {σ : L2.St} {H H' : Hp} {ta tb te : TE} {p a b r l : Addr} {E : XK} {d du de da : PyData} {ds : List PyData} {v hv tv ev av : V} {ks ws : List Str} {cs : List Cell} {xs : List V} {z : Str} {n : Nat}
/-! ### ask_for_table of anything -/
def NoKit (K : PySem.W.Frag) (C : Addr) : Prop := ∀ T ∈ (["NoneType", "bool", "int", "str", "list", "tuple", "dict"] : List String), PySem.W.kitOne K (.type T) (.ref C) = some false
theorem tyD_in7 (d : PyData) : tyD d ∈ (["NoneType", "bool", "int", "str", "list", "tuple", "dict"] : List String) := by cases d <;> simp [tyD]
/-- a table, or data of any sort -/
def HeadV (K : PySem.W.Frag) (C p : Addr) (H : Hp) (v : V) (ks : List Str) (cs : List Cell) : Option PyData → Prop
  | none => ∃ x, v = .ref x ∧ TabW K C H x ks cs
  | some d => Od K p H v d
theorem HeadV.ex {o : Option PyData} (h : HeadV K C p H v ks cs o) (e : Ex H H') : HeadV K C p H' v ks cs o := by
  cases o with
  | none =>
    obtain ⟨x, h1, h2⟩ := h
    exact ⟨x, h1, h2.ex e⟩
  | some d => exact Od.ex h e
theorem ev_isiH (I : C8.InsC K C) (NK : NoKit K C) {o : Option PyData} (ha : Ev ta σ H v) (h : HeadV K C p H v ks cs o) : Ev (tCB (rIsi K) (tCons ta (tCons (tC (.ref C)) tNil))) σ H (.bl o.isNone) := fun H1 e Q q => ha H1 e _ fun H2 e2 => by
  cases o with
  | none =>
    obtain ⟨x, rfl, dx, D, a, r, kvs, f⟩ := h.ex (e.trans e2)
    exact ⟨_, _, .ref C, .ref C, true, rfl, .own C, .base (.ins f.hx I.cl I.ha I.hn I.htk I.hm), I.me, q H2 e2⟩
  | some d => exact ⟨_, _, .type (tyD d), .ref C, false, rfl, .own C, (Od.ex h (e.trans e2)).ty, NK _ (tyD_in7 d), q H2 e2⟩
def spAskO (K : PySem.W.Frag) (C CN : Addr) : Sp := fun vs H Q E => ∃ (p : Addr) (v : V) (ks : List Str) (cs : List Cell) (o : Option PyData), vs = [v] ∧ HeadV K C p H v ks cs o ∧ (o ≠ none → ∀ dd H', Ex H H' → H' dd = some (.xd [("given", v)]) → E (.ref CN) (some dd) H') ∧ (o = none → ∀ H', Ex H H' → Q .non H')
theorem c_askO {f : Addr} {fd : FuncData} (F : Fun K "ask_for_table" "ask_for_table" s_ask_for_table f fd) (B : Bl mg) (T : TabC K mg C) (I : C8.InsC K C) (NK : NoKit K C) (SN : SupC P K mg CN "given") (gN : mg "NotATable" = some (.ref CN)) : FnOk P w K mg base (L2.CX P w) 2 f fd ["value"] (spAskO K C CN) := by
  refine F.okX sc_ask_for_table (fun vs H Q E h => ?_) (fun cdv A outer s H vs Q E hr h => ?_)
  · obtain ⟨p, v, ks, cs, o, rfl, _⟩ := h
    rfl
  · obtain ⟨p, v, ks, cs, o, rfl, hv, q1, q2⟩ := h
    refine ⟨_, pss_one (ps_if (pt_not (pt_val (pe_callB call_isi (by rfl) B.isin (by decide +kernel) (pa_cons (pv 0) (pa_cons (pe_glob (v := .ref C) (by rfl) T.mgT rfl) pa_nil))))) (pss_one (ps_raise rfl (takes_of rfl rfl rfl rfl) (pmk_sup SN (hr.mono (by decide)) (by rfl) gN (by exact (pa_cons (pv 0) pa_nil))))) pss_nil), ?_⟩
    refine s_when (b := !o.isNone) (et_not (et_B (ev_isiH I NK (ev_var rfl) hv))) (fun y H1 e1 => ?_) (fun y H1 e1 => q2 (by cases o with | none => rfl | some d => cases y) H1 e1)
    exact ⟨_, rfl, _, rfl, fun dd hd => q1 (by intro z; rw [z] at y; cases y) dd _ (e1.trans (Ex.new hd)) upd_same⟩
end
end T
namespace T
open PySem PySem.Spec PyProof.Rows L2 Evl XB TL XS XI XC ClX XQ XSp LamX XO2 XLN
section
variable {P : Program} {w : World} {K : PySem.W.Frag} {mg : Str → Option Value} {base : Heap} {C CN CO : Addr}
variable {σ : L2.St} {H H' G : Hp} {ta tb te : TE} {p a b l x : Addr} {E : XK} {Q : VK} {ks kt ws us : List Str} {cs ct : List Cell} {xs ys : List V} {v u r : V} {o o1 o2 : Option PyData} {t : TE}
theorem passR {X : Cx} {E : XK} {W : WX} (tk : Takes X W) (h : ∀ cls d σ H, E cls d H → W cls d σ H) : Passes (L2.CX X.prog X.w) X E := passes_call tk h
theorem lay_fl : ∀ {xs : List V}, (∀ v ∈ xs, Fl v) → PyData.canLayAll0 (xs.map dpv) = true
  | [], _ => rfl
  | v :: r, h => by
    have ih := lay_fl fun y hy => h y (List.mem_cons_of_mem _ hy)
    show ((dpv v).canLay0 && PyData.canLayAll0 (r.map dpv)) = true
    rw [ih, Bool.and_true]
    rcases h v List.mem_cons_self with ⟨x, rfl, hx, _⟩ | ⟨n, rfl, _⟩
    · show (x.cps.all fun c => decide (c < 0x110000)) = true
      rw [← Array.all_toList, List.all_eq_true]
      exact fun c m => decide_eq_true (Nat.lt_trans (hx c m) (by decide))
    · rfl
theorem shp_fl (h : ∀ v ∈ xs, Fl v) : SeqAt.shaped (.tuple (xs.map dpv)) = true := by
  show (PyData.canLayAll0 (xs.map dpv) && decide (PyData.depthAll (xs.map dpv) + 1 ≤ 64)) = true
  rw [lay_fl h, (fl_all h).2.2.1]
  rfl
theorem eqv_fl : ∀ {xs ys : List V}, (∀ v ∈ xs, Fl v) → (∀ v ∈ ys, Fl v) → PyData.eqvAll (xs.map dpv) (ys.map dpv) = decide (xs = ys)
  | [], [], _, _ => rfl
  | [], _ :: _, _, _ => rfl
  | _ :: _, [], _, _ => rfl
  | v :: r, u :: s, h, g => by
    have ih := eqv_fl (xs := r) (ys := s) (fun y hy => h y (List.mem_cons_of_mem _ hy)) fun y hy => g y (List.mem_cons_of_mem _ hy)
    show (PyData.eqv (dpv v) (dpv u) && PyData.eqvAll (r.map dpv) (s.map dpv)) = _
    rw [ih]
    have e : PyData.eqv (dpv v) (dpv u) = decide (v = u) := by
      rcases h v List.mem_cons_self with ⟨x, rfl, _⟩ | ⟨n, rfl, _⟩ <;> rcases g u List.mem_cons_self with ⟨y, rfl, _⟩ | ⟨m, rfl, _⟩
      · show (x == y) = _
        by_cases e : x = y
        · rw [e, beq_self_eq_true, decide_eq_true rfl]
        · rw [beq_eq_false_iff_ne.mpr e, decide_eq_false fun z => e (by injection z)]
      · show false = _
        rw [decide_eq_false fun z => by cases z]
      · show false = _
        rw [decide_eq_false fun z => by cases z]
      · show (n == m) = _
        by_cases e : n = m
        · rw [e, beq_self_eq_true, decide_eq_true rfl]
        · rw [beq_eq_false_iff_ne.mpr e, decide_eq_false fun z => e (by injection z)]
    rw [e, ← Bool.decide_and]
    exact decide_eq_decide.mpr ⟨fun ⟨e1, e2⟩ => by rw [e1, e2], fun e => by injection e with e1 e2; exact ⟨e1, e2⟩⟩
/-- two tuples of flat values, != -/
theorem et_neF (h : EvS K ta σ H xs) (g : EvS K tb σ H ys) (fx : ∀ v ∈ xs, Fl v) (fy : ∀ v ∈ ys, Fl v) : EvT (tTest (tOp (rNeD K) ta tb)) σ H (!decide (xs = ys)) := fun H1 e Q q =>
  h H1 e _ fun l H2 e2 hl => g H2 (e.trans e2) _ fun m H3 e3 hm => ⟨.tuple (xs.map dpv), .tuple (ys.map dpv), .tup (ex_t e3 hl) (dp_fl fx), .tup hm (dp_fl fy), shp_fl fx, shp_fl fy, by
    rw [show PyData.eqv (.tuple (xs.map dpv)) (.tuple (ys.map dpv)) = decide (xs = ys) from eqv_fl fx fy]
    exact ⟨_, rfl, q H3 (e2.trans e3)⟩⟩
theorem fl_words (hk : ks ∈ kinds7) : ∀ v ∈ sl ks, Fl v := fun v m => by
  obtain ⟨x, hx, rfl⟩ := List.mem_map.mp m
  have all : ∀ ks ∈ kinds7, ∀ x ∈ ks, (∀ c ∈ x.cps.toList, c < 128) ∧ x.length ≤ 16 := by decide +kernel
  exact .inl ⟨x, rfl, (all ks hk x hx).1, (all ks hk x hx).2⟩
theorem es_turnedP {first : Bool} (h0 : Ev ta σ H (.ref x)) (h1 : Ev tb σ H (.ref a)) (h2 : Ev te σ H (.ref b)) (h3 : Ev t σ H (.bl first)) (tw : TabW K C H x ks cs) (hk : ks ∈ kinds7) {d e : Deed} (ha : SqT K H a d.vs) (hb : SqT K H b e.vs) (okd : d.ok ks) (oke : e.ok ks) : EvS K (tCall (spTurned K C) [] E (tCons ta (tCons tb (tCons te (tCons t tNil))))) σ H (turnedOf cs d e first) :=
  es_call (ea_cons h0 (ea_cons h1 (ea_cons h2 (ea_cons h3 ea_nil)))) fun G g Q q E => ⟨x, a, b, d, e, first, ks, cs, rfl, tw.ex g, hk, ex_t g ha, ex_t g hb, okd, oke, q⟩
theorem slx_inj : ∀ {a b : List Str}, sl a = sl b → a = b
  | [], [], _ => rfl
  | [], _ :: _, h => by cases h
  | _ :: _, [], h => by cases h
  | x :: a, y :: b, h => by
    have h : V.str x :: sl a = V.str y :: sl b := h
    injection h with h1 h2
    injection h1 with h1
    rw [h1, slx_inj h2]
/-- what unlike gives back for tables of the same kinds -/
def UnlikeR (K : PySem.W.Frag) (H : Hp) (ks : List Str) (cs ct : List Cell) (r : V) : Prop :=
  (r = .non ∧ ∀ x ∈ pairD ks, ∀ f, turnedOf cs x.1 x.2 f = turnedOf ct x.1 x.2 f) ∨
  ∃ (t a b : Addr) (d e : Deed) (f : Bool), r = .ref t ∧ SqT K H t [.ref a, .ref b, .bl f] ∧ SqT K H a d.vs ∧ SqT K H b e.vs ∧ (d, e) ∈ pairD ks ∧ turnedOf cs d e f ≠ turnedOf ct d e f
def spUnlike (K : PySem.W.Frag) (C CN CO : Addr) (R : V → Hp → List Str → List Cell → List Cell → V) : Sp := fun vs0 H Q E => ∃ (p : Addr) (v u : V) (ks kt : List Str) (cs ct : List Cell) (o1 o2 : Option PyData), vs0 = [v, u] ∧ HeadV K C p H v ks cs o1 ∧ HeadV K C p H u kt ct o2 ∧ ks ∈ kinds7 ∧ kt ∈ kinds7 ∧ Cells ks cs ∧ Cells kt ct ∧
  (o1 ≠ none → ∀ dd H', Ex H H' → H' dd = some (.xd [("given", v)]) → E (.ref CN) (some dd) H') ∧
  (o1 = none → o2 ≠ none → ∀ dd H', Ex H H' → H' dd = some (.xd [("given", u)]) → E (.ref CN) (some dd) H') ∧
  (o1 = none → o2 = none → ks ≠ kt → ∀ dd H', Ex H H' → H' dd = some (.xd [("given", u)]) → E (.ref CO) (some dd) H') ∧
  (o1 = none → o2 = none → ks = kt → ∀ r H', Ex H H' → UnlikeR K H' ks cs ct r → Q (R r H' ks cs ct) H')
theorem c_unlike {f fa : Addr} {fd fda : FuncData} (F : Fun K "unlike" "unlike" s_unlike f fd) (B : Bl mg) (M : TabM P w K mg base C) (Pk : ProM P w K mg base 1 C "kinds" (spKindsP K C))
    (ma : mg "ask_for_table" = some (.ref fa)) (ka : PySem.W.keepIn K (.ref fa) = true) (ba : Binds K fda ["value"] []) (Fa : FnOk P w K mg base (L2.CX P w) 2 fa fda ["value"] (spAskO K C CN))
    (SO : SupC P K mg CO "given") (gO : mg "OtherKinds" = some (.ref CO)) (Cpa : C8.Cal P w K mg base 2 "pairs" (spPairs K) []) (Ctu : C8.Cal P w K mg base 5 "turned" (spTurned K C) []) : FnOk P w K mg base (L2.CX P w) 6 f fd ["one", "other"] (spUnlike K C CN CO fun r _ _ _ _ => r) := by
  obtain ⟨fk, fdk, pk, Fk, hpk, bk⟩ := Pk.ex
  refine F.okX sc_unlike (fun vs H Q E h => ?_) (fun cdv A outer s H vs Q E hr h => ?_)
  · obtain ⟨p, v, u, ks, kt, cs, ct, o1, o2, rfl, _⟩ := h
    rfl
  · obtain ⟨p, v, u, ks, kt, cs, ct, o1, o2, rfl, hv, hu, hk, hkt, hC, hCt, q1, q2, q3, q4⟩ := h
    refine ⟨_, pss_cons (ps_expr (pe_call Fa (hr.mono (by decide)) (by rfl) ma ka ba .nil (passR (takes_of rfl rfl rfl rfl) fun _ _ _ _ h => h) (pa_cons (pv 0) pa_nil)))
      (pss_cons (ps_expr (pe_call Fa (hr.mono (by decide)) (by rfl) ma ka ba .nil (passR (takes_of rfl rfl rfl rfl) fun _ _ _ _ h => h) (pa_cons (pv 1) pa_nil)))
      (pss_cons (ps_if (pt_cmpR (op_neD hr.units) (pe_prop (pv 0) M.T.cl hpk Fk (hr.mono (by decide)) bk .nil pass0 rfl) (pe_prop (pv 1) M.T.cl hpk Fk (hr.mono (by decide)) bk .nil pass0 rfl) (nomark _)) (pss_one (ps_raise rfl (takes_of rfl rfl rfl rfl) (pmk_sup SO (hr.mono (by decide)) (by rfl) gO (by exact (pa_cons (pv 1) pa_nil))))) pss_nil)
      (pss_cons (ps_for (passes_of rfl) rfl (pi_list (C8.pe_c Cpa hr (by decide) (by rfl) (pa_cons (pe_prop (pv 0) M.T.cl hpk Fk (hr.mono (by decide)) bk .nil pass0 rfl) pa_nil))) (pg_tup (by rfl) (pgs_cons (pg_name (i := 2) sc_unlike.nd rfl (.inl rfl)) (pgs_cons (pg_name (i := 3) sc_unlike.nd rfl (.inl rfl)) pgs_nil))) (pss_one (ps_for (passes_of rfl) rfl (pi_tup (pe_tup (pa_cons pe_bl (pa_cons pe_bl pa_nil)))) (pg_name (i := 4) sc_unlike.nd rfl (.inl rfl)) (pss_one (ps_if (pt_cmpR (op_neD hr.units) (C8.pe_c Ctu hr (by decide) (by rfl) (pa_cons (pv 0) (pa_cons (pv 2) (pa_cons (pv 3) (pa_cons (pv 4) pa_nil))))) (C8.pe_c Ctu hr (by decide) (by rfl) (pa_cons (pv 1) (pa_cons (pv 2) (pa_cons (pv 3) (pa_cons (pv 4) pa_nil))))) (nomark _)) (pss_one (ps_ret (pe_tup (pa_cons (pv 2) (pa_cons (pv 3) (pa_cons (pv 4) pa_nil)))))) pss_nil)))))
      (pss_one (ps_ret pe_non))))), ?_⟩
    refine ⟨_, rfl, p, v, ks, cs, o1, rfl, hv, fun z dd H' e hd => q1 z dd H' e hd, fun z1 H1 e1 => ?_⟩
    refine ⟨_, rfl, p, u, kt, ct, o2, rfl, hu.ex e1, fun z dd H' e hd => q2 z1 z dd H' (e1.trans e) hd, fun z2 H2 e2 => ?_⟩
    subst z1 z2
    have q3 := q3 rfl rfl
    have q4 := q4 rfl rfl
    obtain ⟨x, rfl, tx⟩ := hv
    obtain ⟨y, rfl, ty⟩ := hu
    have e12 := e1.trans e2
    dsimp only
    refine q_when (b := !decide (ks = kt)) (et_is (et_neF (es_propK (ev_var rfl) (tx.ex e12).at) (es_propK (ev_var rfl) (ty.ex e12).at) (fl_words hk) (fl_words hkt)) (congrArg (!·) (decide_eq_decide.mpr ⟨fun z => slx_inj z, fun z => by rw [z]⟩))) (fun yk H3 e3 => ?_) (fun yk H3 e3 => ?_)
    · exact ⟨_, rfl, _, rfl, fun dd hd => q3 (of_decide_eq_false (by simpa using yk)) dd _ ((e12.trans e3).trans (Ex.new hd)) upd_same⟩
    have kk : ks = kt := of_decide_eq_true (by simpa using yk)
    subst kk
    have q4 := q4 rfl
    have e13 := e12.trans e3
    have kE : EvS K (tProp C (spKindsP K C) [] E0 (tVar 0)) [some (.ref x), some (.ref y), none, none, none] H3 (sl ks) := es_propK (ev_var rfl) (tx.ex e13).at
    refine kE H3 (Ex.refl _) _ fun kb H4 e4 hkb => ⟨kb, ks, rfl, hkb, hk, fun l ys H5 e5 hl hV hy => ?_⟩
    have e15 := (e13.trans e4).trans e5
    refine ⟨l, rfl, ⟨_, SqL.of hl⟩, for_list (K := K) (a := l) (xs := ys)
      (fun i σ G => ∃ y2 y3 y4, σ = [some (.ref x), some (.ref y), y2, y3, y4] ∧ Ex H5 G ∧ ∀ j < i, ∀ de, (pairD ks)[j]? = some de → ∀ f, turnedOf cs de.1 de.2 f = turnedOf ct de.1 de.2 f)
      ⟨_, _, _, rfl, Ex.refl _, fun j hj => absurd hj (Nat.not_lt_zero j)⟩ (fun i σ G _ ⟨_, _, _, _, e, _⟩ => SqL.of (e _ _ hl)) ?_ ?_⟩
    · rintro i v σ G hv ⟨y2, y3, y4, rfl, eG, gG⟩
      have hi : i < (pairD ks).length := by rw [← hV.len]; exact (List.getElem?_eq_some_iff.mp hv).1
      obtain ⟨de, hde⟩ : ∃ de, (pairD ks)[i]? = some de := ⟨_, List.getElem?_eq_getElem hi⟩
      obtain ⟨t, ea, eb, rfl, ht, hea, heb⟩ := (hV.at_ i v de hv hde).ex eG
      have hm := List.mem_of_getElem? hde
      obtain ⟨ok1, ok2⟩ := pairD_ok hk de hm
      refine ⟨t, _, rfl, SqT.of ht, rfl, _, _, rfl, _, _, rfl, rfl, ?_⟩
      refine ⟨(by show 2 ≤ sizeLine; decide), fun tt ntt => ⟨tt, rfl, ⟨_, SqT.of upd_same⟩, for_tup (K := K) (a := tt) (xs := [.bl true, .bl false])
        (fun j σ G2 => ∃ y4, σ = [some (.ref x), some (.ref y), some (.ref ea), some (.ref eb), y4] ∧ Ex (upd G tt (.tup [.bl true, .bl false])) G2 ∧ ∀ k < j, ∀ f, [true, false][k]? = some f → turnedOf cs de.1 de.2 f = turnedOf ct de.1 de.2 f)
        ⟨_, rfl, Ex.refl _, fun j hj => absurd hj (Nat.not_lt_zero j)⟩ (fun j σ G2 _ ⟨_, _, e, _⟩ => ex_t e (SqT.of upd_same)) ?_ ?_⟩⟩
      · rintro j u σ G2 hu ⟨y4, rfl, e2, g2⟩
        obtain ⟨f, hf, rfl⟩ : ∃ f, [true, false][j]? = some f ∧ u = .bl f := by
          rcases j with _ | _ | j
          · cases hu; exact ⟨true, rfl, rfl⟩
          · cases hu; exact ⟨false, rfl, rfl⟩
          · cases hu
        have eG2 := (eG.trans (Ex.new ntt)).trans e2
        have eT := (Ex.new ntt).trans e2
        have e16 := e15.trans eG2
        have ha2 : SqT K G2 ea de.1.vs := SqT.of (eT _ _ hea)
        have hb2 : SqT K G2 eb de.2.vs := SqT.of (eT _ _ heb)
        have f1 := fl_turned ok1 ok2 hk hC f
        have f2 := fl_turned ok1 ok2 hk hCt f
        refine s_when (et_neF (es_turnedP (ev_var rfl) (ev_var rfl) (ev_var rfl) (by exact ev_var rfl) (tx.ex e16) hk ha2 hb2 ok1 ok2) (es_turnedP (ev_var rfl) (ev_var rfl) (ev_var rfl) (by exact ev_var rfl) (ty.ex e16) hk ha2 hb2 ok1 ok2) f1.1 f2.1) (fun yn G3 e3 => ?_) (fun yn G3 e3 => ⟨_, rfl, e2.trans e3, fun k hk' f' hf' => ?_⟩)
        · refine ⟨_, rfl, _, rfl, _, rfl, (by show 3 ≤ sizeLine; decide), fun r nr => ?_⟩
          have e4 := e3.trans (Ex.new (o := .tup [.ref ea, .ref eb, .bl f]) nr)
          exact q4 _ _ (e16.trans e4) (.inr ⟨r, ea, eb, de.1, de.2, f, rfl, SqT.of upd_same, ex_t e4 ha2, ex_t e4 hb2, hm, of_decide_eq_false (by simpa using yn)⟩)
        · rcases Nat.lt_succ_iff_lt_or_eq.mp hk' with z | z
          · exact g2 k z f' hf'
          · subst z
            rw [hf] at hf'
            injection hf' with hf'
            subst hf'
            exact of_decide_eq_true (by simpa using yn)
      · rintro σ G2 ⟨y4, rfl, e2, g2⟩
        refine ⟨_, _, _, rfl, (eG.trans (Ex.new ntt)).trans e2, fun k hk' ce hce f => ?_⟩
        rcases Nat.lt_succ_iff_lt_or_eq.mp hk' with z | z
        · exact gG k z ce hce f
        · subst z
          rw [hde] at hce
          injection hce with hce
          subst hce
          cases f with
          | true => exact g2 0 (by show 0 < 2; decide) true rfl
          | false => exact g2 1 (by show 1 < 2; decide) false rfl
    · rintro σ G ⟨y2, y3, y4, rfl, eG, gG⟩
      refine q4 .non G (e15.trans eG) (.inl ⟨rfl, fun de hm f => ?_⟩)
      obtain ⟨j, hj⟩ := List.getElem?_of_mem hm
      exact gG j (by rw [hV.len]; exact (List.getElem?_eq_some_iff.mp hj).1) de hj f
theorem c_alike {f fu : Addr} {fd fdu : FuncData} (F : Fun K "alike" "alike" s_alike f fd) (mu : mg "unlike" = some (.ref fu)) (ku : PySem.W.keepIn K (.ref fu) = true) (bu : Binds K fdu ["one", "other"] []) (Fu : FnOk P w K mg base (L2.CX P w) 6 fu fdu ["one", "other"] (spUnlike K C CN CO fun r _ _ _ _ => r)) : FnOk P w K mg base (L2.CX P w) 7 f fd ["one", "other"] (spUnlike K C CN CO fun r _ _ _ _ => .bl (decide (r = .non))) := by
  refine F.okX sc_alike (fun vs H Q E h => ?_) (fun cdv A outer s H vs Q E hr h => ?_)
  · obtain ⟨p, v, u, ks, kt, cs, ct, o1, o2, rfl, _⟩ := h
    rfl
  · obtain ⟨p, v, u, ks, kt, cs, ct, o1, o2, rfl, hv, hu, hk, hkt, hC, hCt, q1, q2, q3, q4⟩ := h
    refine ⟨_, pss_one (ps_ret (pe_cmpR op_isN (pe_call Fu (hr.mono (by decide)) (by rfl) mu ku bu .nil (passR (takes_of rfl rfl rfl rfl) fun _ _ _ _ h => h) (pa_cons (pv 0) (pa_cons (pv 1) pa_nil))) pe_non (nomark _))), ?_⟩
    exact ⟨_, rfl, _, rfl, p, v, u, ks, kt, cs, ct, o1, o2, rfl, hv, hu, hk, hkt, hC, hCt, q1, q2, q3, fun z1 z2 zk r H' e hr => ⟨rfl, q4 z1 z2 zk r H' e hr⟩⟩
end
end T
/-! Own: a written dict whose keys are tuples; update of such a dict by another. -/
namespace XDt
open PySem PySem.Spec PyProof.Rows L2
def mergeT (kvs more : List (List Key × V)) : List (List Key × V) := more.foldl (fun acc kv => putK acc kv.1 kv.2) kvs
theorem mergeT_len : ∀ (more kvs : List (List Key × V)), (mergeT kvs more).length ≤ kvs.length + more.length
  | [], kvs => by show kvs.length ≤ kvs.length + 0; omega
  | p :: r, kvs => by
    have h1 := mergeT_len r (putK kvs p.1 p.2)
    have h2 := length_putK kvs p.1 p.2
    show (mergeT (putK kvs p.1 p.2) r).length ≤ _
    rw [List.length_cons]; omega
theorem KTmerge {H : Hp} : ∀ {more : List (List Key × V)} {rs : List (List Key × Addr × Value)} {kvs : List (List Key × V)} {vs : List (List Key × Addr × Value)}, KT H more rs → KT H kvs vs → KT H (mergeT kvs more) (storedAllH vs rs) := by
  intro more rs kvs vs r
  induction r generalizing kvs vs with
  | nil => intro q; exact q
  | @cons p q ps qs h t ih =>
    intro r0
    obtain ⟨e, hb, hv⟩ := h
    have e2 : KT H (putK kvs p.1 p.2) (storedH vs q.1 q.2.1 q.2.2) := by
      rw [← e]
      exact r0.put p.1 hb hv
    exact ih e2
/-- the pairs of a display: each key is a tuple that stands in H -/
inductive PairsT (H : Hp) : List (V × V) → List (List Key × V) → Prop
  | nil : PairsT H [] []
  | cons {a : Addr} {k : List Key} {v : V} {ps : List (V × V)} {kvs : List (List Key × V)} : H a = some (.tup (k.map kV)) → PairsT H ps kvs → PairsT H ((.ref a, v) :: ps) ((k, v) :: kvs)
theorem PairsT.len {H : Hp} {ps : List (V × V)} {kvs : List (List Key × V)} (h : PairsT H ps kvs) : ps.length = kvs.length := by
  induction h with
  | nil => rfl
  | cons _ _ ih => rw [List.length_cons, List.length_cons, ih]
theorem carriesT {P : Program} {w : World} {H : Hp} {h : Heap} (ok : HOk P w H h) {ps : List (V × V)} {kvs : List (List Key × V)} (q : PairsT H ps kvs) : ∀ {ws : List (Value × Value)}, VV ps ws → ∃ rs, CarriesH (tupleKind (mixKind P w)) h ws rs ∧ KT H kvs rs := by
  induction q with
  | nil => intro ws r; cases r; exact ⟨[], trivial, .nil⟩
  | @cons a k v ps kvs ha _ ih =>
    intro ws r
    cases r with
    | @cons p b as bs hh t =>
      obtain ⟨rs, c, q⟩ := ih t
      obtain ⟨b1, b2⟩ := b
      have e : b1 = Value.ref a := hh.1
      subst e
      exact ⟨(k, a, b2) :: rs, ⟨rfl, rfl, key_of ok ha, c⟩, .cons ⟨rfl, ha, hh.2⟩ q⟩
/-- {(..): v, ..} with keys tuples -/
def tDispT (trs : List (TE × TE)) : TE := fun σ H Q => ∀ p, H p = none → tPairs trs σ (upd H p (.dT [])) fun ps H2 => H2 p = some (.dT []) ∧ ∃ kvs : List (List Key × V), PairsT H2 ps kvs ∧ kvs.length ≤ 15 ∧ Q (.ref p) (upd H2 p (.dT (mergeT [] kvs)))
theorem pe_dispT {X : Cx} {pos : Pos} {keys : List (Option Expr)} {values : List Expr} {trs : List (TE × TE)} (hu : X.A.units + 1 < cLine) (h : PPs X pos keys values trs) (hall : keys.all (·.isSome) = true) (hl : keys.length = values.length) (h0 : keys ≠ [])
    (h15 : keys.length ≤ 15) : PE X (.Dict keys values pos) (tDispT trs) := by
  refine ⟨fun pins s σ H Q I q => ?_⟩
  have hn := I.hok.fresh (Nat.le_refl s.heap.objs.size)
  have I1 := I.laid (a := s.heap.objs.size) (o := .dT []) (h' := s.heap.push { cls := .type "dict", data := .dict #[] }) (t' := s.toks) (fun _ _ q => Heap.get?_push_of_some _ q) (Nat.le_refl _) (dt_empty s.heap I.big)
  have hpl := pairTrees_length keys values X.env pos hall hl
  rw [arm_eval_Dict, zip_pairTrees keys values X.env pos hall hl, dictDisplay_pairs (pairTrees keys values X.env pos) (fun he => by
    rw [he] at hpl
    exact h0 (List.length_eq_zero_iff.mp hpl.symm)) (by rw [hpl]; omega)]
  refine wpAny_bind (wpAny_standAt (wpAny_bind (wpAny_subDictH (knd := tupleKind (mixKind X.prog X.w)) (by show X.A.units + 0 < cLine; omega) (by rw [hpl]; exact h15) (thn (h.run pins _ σ _ _ I1 (q _ hn)) fun ws s2 ⟨ps, H2, I2, rel, e, kvs, ep, lk, q2⟩ => ?_))))
  obtain ⟨rs, c, rk⟩ := carriesT I2.hok ep rel
  obtain ⟨z, hd, xs0, r0, dd⟩ := dt_of I2.hok e
  cases r0
  refine ⟨rs, c, dd, fun h' tk dd' hs => wpAny_pure ⟨.ref s.heap.objs.size, _, ?_, rfl, q2⟩⟩
  have hz : (mergeT [] kvs).length ≤ sizeLine := by
    have h1 := mergeT_len kvs []
    rw [List.length_nil] at h1
    rw [sizeLine_eq]; omega
  obtain ⟨o, es, ep', hq, h2, h3, h4, _, h5⟩ := dd'
  refine d_write I2 (by rw [e]; exact True.intro) hs ⟨o, hq⟩ ⟨hz, hd, _, (KTmerge rk (.nil : KT H2 [] [])).keeps fun b ys eb => ?_, o, es, ep', hq, h2, h3, h4, h5⟩
  rw [upd_ne (ne_of eb e (fun z => nomatch z))]
  exact eb
/-- d.update(e), both with keys tuples, d not empty -/
def rUpdT : V → List V → Hp → VK → Prop := fun x vs H Q => ∃ a b kvs more, x = .ref a ∧ vs = [.ref b] ∧ a ≠ b ∧ H a = some (.dT kvs) ∧ H b = some (.dT more) ∧ kvs ≠ [] ∧ kvs.length + more.length ≤ 1000 ∧ Q .non (upd H a (.dT (mergeT kvs more)))
theorem mt_updT {X : Cx} (hu : X.A.units + 1 < cLine) : MtR X "dict.update" rUpdT := by
  intro pins s σ H x vs v us Q I rx rv h
  obtain ⟨a, b, kvs, more, rfl, rfl, hab, ha, hb, hne, hz, q⟩ := h
  cases rx
  obtain ⟨u, rfl, ru⟩ := Vals.one rv
  obtain rfl : u = Value.ref b := ru
  obtain ⟨z1, d1, xs1, r1, dd1⟩ := dt_of I.hok ha
  obtain ⟨z2, d2, xs2, r2, dd2⟩ := dt_of I.hok hb
  have l1 := Paired.length r1
  have l2 := Paired.length r2
  refine call_update_dictH (tupleKind_room_in1 hu) hab d2 dd1 dd2 (.inl (fun e => hne (by
    rw [e] at l1
    exact List.eq_nil_of_length_eq_zero l1))) (by rw [← l1, ← l2, sizeLine_eq]; omega) fun h' dd' ho' hs => ⟨.non, _, ?_, rfl, q⟩
  have hzm : (mergeT kvs more).length ≤ sizeLine := by
    have h1 := mergeT_len more kvs
    rw [sizeLine_eq]; omega
  obtain ⟨o, es, ep', hq, h2, h3, h4, _, h5⟩ := dd'
  exact d_write (t' := s.toks) I (by rw [ha]; exact True.intro) hs ⟨o, hq⟩ ⟨hzm, d1, _, (KTmerge r2 r1).keeps fun c ys ec => by
    rw [upd_ne (ne_of ec ha (fun z => nomatch z))]
    exact ec, o, es, ep', hq, h2, h3, h4, h5⟩
end XDt
namespace T
open PySem PySem.Spec PyProof.Rows L2 Evl XB TL XS XI XC ClX XDt
/-! ### written dicts of cells -/
theorem putK_new {kvs : List (Nm × V)} {k : Nm} {v : V} (h : k ∉ kvs.map (·.1)) : putK kvs k v = kvs ++ [(k, v)] := by
  unfold putK
  rw [if_neg]
  intro z
  obtain ⟨p, hp, e⟩ := List.any_eq_true.mp z
  exact h (List.mem_map.mpr ⟨p, hp, of_decide_eq_true e⟩)
theorem mergeT_app : ∀ {more acc : List (Nm × V)}, ((acc ++ more).map (·.1)).Nodup → mergeT acc more = acc ++ more
  | [], acc, _ => by rw [List.append_nil]; rfl
  | p :: r, acc, h => by
    have h1 : p.1 ∉ acc.map (·.1) := fun z => by
      rw [List.map_append, List.map_cons] at h
      exact (List.nodup_append.mp h).2.2 p.1 z p.1 List.mem_cons_self rfl
    show mergeT (putK acc p.1 p.2) r = _
    rw [putK_new h1, mergeT_app (by rw [List.append_assoc]; exact h), List.append_assoc]
    rfl
section
variable {P : Program} {w : World} {K : PySem.W.Frag} {mg : Str → Option Value} {base : Heap} {C : Addr}
variable {σ : L2.St} {H H' G : Hp} {ta tb te tk tv : TE} {p a b l D : Addr} {E : XK} {Q : VK} {ks : List Str} {cs ct : List Cell} {kvs kvt : List (Nm × V)} {c : Cell} {trs : List (TE × TE)}
theorem LDict.nil : LDict H [] [] := ⟨rfl, fun i c h => by cases h⟩
theorem LDict.cons {l : Addr} (hl : H l = some (.lst (sl c.2.2.2))) (h : LDict H kvs cs) : LDict H ((nmOf c, .ref l) :: kvs) (c :: cs) := ⟨by rw [List.map_cons, List.map_cons, h.keys], fun i d hd => by
  cases i with
  | zero => cases hd; exact ⟨l, rfl, hl⟩
  | succ i => exact h.at_ i d hd⟩
theorem LDict.app (h : LDict H kvs cs) (g : LDict H kvt ct) : LDict H (kvs ++ kvt) (cs ++ ct) := ⟨by rw [List.map_append, List.map_append, h.keys, g.keys], fun i d hd => by
  have hl : kvs.length = cs.length := by have := congrArg List.length h.keys; simpa using this
  by_cases z : i < cs.length
  · rw [List.getElem?_append_left z] at hd
    obtain ⟨l, h1, h2⟩ := h.at_ i d hd
    exact ⟨l, by rw [List.getElem?_append_left (by rw [hl]; exact z)]; exact h1, h2⟩
  · rw [List.getElem?_append_right (by omega)] at hd
    obtain ⟨l, h1, h2⟩ := g.at_ _ d hd
    exact ⟨l, by rw [List.getElem?_append_right (by omega), hl]; exact h1, h2⟩⟩
theorem LDict.put {F : Addr} {zs : List (Nm × V)} {o : HO} (h : LDict H kvs cs) (hF : H F = some (.dT zs)) : LDict (upd H F o) kvs cs := ⟨h.keys, fun i d hd => by
  obtain ⟨l, h1, h2⟩ := h.at_ i d hd
  exact ⟨l, h1, by rw [upd_ne (ne_of h2 hF fun q => by cases q)]; exact h2⟩⟩
def EvPs (trs : List (TE × TE)) (σ : L2.St) (H : Hp) (cs : List Cell) : Prop := ∀ H1, Ex H H1 → ∀ Q : List (V × V) → Hp → Prop, (∀ ps kvs H2, Ex H1 H2 → PairsT H2 ps kvs → LDict H2 kvs cs → Q ps H2) → tPairs trs σ H1 Q
theorem PairsT.ex {ps : List (V × V)} (h : PairsT H ps kvs) (e : Ex H H') : PairsT H' ps kvs := by
  induction h with
  | nil => exact .nil
  | cons ha _ ih => exact .cons (e _ _ ha) ih
theorem ep_nil : EvPs [] σ H [] := fun H1 e Q q => q [] [] H1 (Ex.refl H1) .nil LDict.nil
theorem ep_cons (hk : EvU tk σ H (sl [c.1, c.2.1, c.2.2.1])) (hv : EvL tv σ H (sl c.2.2.2)) (hr : EvPs trs σ H cs) : EvPs ((tk, tv) :: trs) σ H (c :: cs) := fun H1 e Q q =>
  hk H1 e _ fun t H2 _ e2 ht => hv H2 (e.trans e2) _ fun l H3 _ e3 hl => hr H3 ((e.trans e2).trans e3) _ fun ps kvs H4 e4 hp hL =>
    q _ ((nmOf c, .ref l) :: kvs) H4 ((e2.trans e3).trans e4) (.cons (k := nmOf c) ((e3.trans e4) _ _ ht) hp) (LDict.cons (e4 _ _ hl) hL)
theorem disp_go (h : EvPs trs σ H cs) (nd : (cs.map nmOf).Nodup) (hl : cs.length ≤ 15) (q : ∀ D kvs H1, H D = none → Ex H H1 → H1 D = some (.dT kvs) → LDict H1 kvs cs → Q (.ref D) H1) : tDispT trs σ H Q := fun D nD =>
  h _ (Ex.new nD) _ fun ps kvs H2 e2 hp hL => by
    have hD := e2 _ _ (upd_same (H := H) (a := D) (o := .dT []))
    have ll : kvs.length = cs.length := by have := congrArg List.length hL.keys; simpa using this
    have me : mergeT [] kvs = kvs := by
      rw [mergeT_app (by rw [List.nil_append, hL.keys]; exact nd), List.nil_append]
    refine ⟨hD, kvs, hp, by rw [ll]; exact hl, ?_⟩
    rw [me]
    exact q D kvs _ nD (Ex.mut ((Ex.new nD).trans e2) nD) upd_same (hL.put hD)
/-! ### _law_good -/
def g1 : List Cell := [("put", "put", ">", ["up"]), ("put", "put", "=", ["first:keep", "up"]), ("put", "out", ">", ["down"])]
def g2 : List Cell := [("out", "put", ">", ["up"]), ("out", "put", "=", ["up"]), ("out", "out", ">", ["down"])]
def g3 : List Cell := [("out", "out", "=", ["stay"]), ("set", "put", ">", ["up"]), ("set", "put", "=", ["up"])]
def g4 : List Cell := [("set", "out", ">", ["down"]), ("set", "out", "=", ["stay"])]
def g5 : Cell := ("set", "set", "=", ["first:keep", "stay"])
def goodC : List Cell := g1 ++ g2 ++ g3 ++ g4 ++ [g5]
theorem goodC_nd : (goodC.map nmOf).Nodup := by decide
theorem g5_new : nmOf g5 ∉ (g1 ++ g2 ++ g3 ++ g4).map nmOf := fun h => by
  have n : (((g1 ++ g2 ++ g3 ++ g4).map nmOf) ++ [nmOf g5]).Nodup := goodC_nd
  exact (List.nodup_append.mp n).2.2 _ h _ List.mem_cons_self rfl
theorem ev_key3 {x y z : Str} : EvU (tTup (tCons (tC (.str x)) (tCons (tC (.str y)) (tCons (tC (.str z)) tNil)))) σ H (sl [x, y, z]) := eu_tup (ea_str (ea_str (ea_str ea_nil))) (by show 3 ≤ 100000; decide)
theorem el_1 {x : Str} : EvL (tLst (tCons (tC (.str x)) tNil)) σ H (sl [x]) := el_lst (ea_str ea_nil) (by show 1 ≤ 100000; decide)
theorem el_2 {x y : Str} : EvL (tLst (tCons (tC (.str x)) (tCons (tC (.str y)) tNil))) σ H (sl [x, y]) := el_lst (ea_str (ea_str ea_nil)) (by show 2 ≤ 100000; decide)
def spGood : Sp := fun vs0 H Q _ => vs0 = [] ∧ ∀ D kvs H', H D = none → Ex H H' → H' D = some (.dT kvs) → LDict H' kvs goodC → Q (.ref D) H'
theorem upd_go {kvt : List (Nm × V)} (hD : H D = some (.dT kvs)) (hb : H b = some (.dT kvt)) (hne : D ≠ b) (h1 : LDict H kvs cs) (h2 : LDict H kvt ct) (h0 : cs ≠ []) (nd : ((cs ++ ct).map nmOf).Nodup) (hl : cs.length + ct.length ≤ 1000) (q : LDict (upd H D (.dT (kvs ++ kvt))) (kvs ++ kvt) (cs ++ ct) → Q .non (upd H D (.dT (kvs ++ kvt)))) : rUpdT (.ref D) [.ref b] H Q := by
  have l1 : kvs.length = cs.length := by have := congrArg List.length h1.keys; simpa using this
  have l2 : kvt.length = ct.length := by have := congrArg List.length h2.keys; simpa using this
  refine ⟨D, b, kvs, kvt, rfl, rfl, hne, hD, hb, (fun z => h0 (List.eq_nil_of_length_eq_zero (by rw [← l1, z]; rfl))), by omega, ?_⟩
  rw [mergeT_app (by rw [(h1.app h2).keys]; exact nd)]
  exact q ((h1.app h2).put hD)
theorem q_dispT {i : Nat} {tz : TS} {D' : Ends} (h : EvPs trs σ H cs) (nd : (cs.map nmOf).Nodup) (hl : cs.length ≤ 15) (k : ∀ D kvs H1, H D = none → Ex H H1 → H1 D = some (.dT kvs) → LDict H1 kvs cs → tz D' (σ.set i (some (.ref D))) H1) : tSeq (tAsg (tDispT trs) (gName i)) tz D' σ H := disp_go (Q := fun x H1 => gName i x σ H1 (tz D')) h nd hl k
theorem q_updT {i : Nat} {tz : TS} {D' : Ends} (h0 : σ[i]? = some (some (.ref D))) (hD : H D = some (.dT kvs)) (L : LDict H kvs cs) (h : EvPs trs σ H ct) (nc : cs ≠ []) (nt : (ct.map nmOf).Nodup) (nd : ((cs ++ ct).map nmOf).Nodup) (hl : ct.length ≤ 15) (hl2 : cs.length ≤ 900) (k : ∀ kvt H2, Ex H H2 → LDict (upd H2 D (.dT (kvs ++ kvt))) (kvs ++ kvt) (cs ++ ct) → tz D' σ (upd H2 D (.dT (kvs ++ kvt)))) : tSeq (tDrop (tBM K "dict" rUpdT (tVar i) (tCons (tDispT trs) tNil))) tz D' σ H :=
  ⟨_, h0, .inr (.inr (.inl ⟨rfl, .inr ⟨_, hD⟩⟩)), disp_go h nt hl fun b kvt H2 nb e2 hb Lt => by
    show rUpdT (.ref D) [.ref b] H2 fun _ H1 => tz D' σ H1
    exact upd_go (Q := fun _ H1 => tz D' σ H1) (e2 _ _ hD) hb (ne_of_none hD nb) (L.ex e2) Lt nc nd (by omega) fun M => k kvt H2 e2 M⟩
theorem c_good (Dg : At K mg "_law_good" s__law_good []) : C8.Cal P w K mg base 1 "_law_good" spGood [] := by
  refine cal_of Dg sc__law_good (fun vs H Q E h => ?_) (fun f cdv A outer s H vs Q E hr h => ?_)
  · obtain ⟨rfl, _⟩ := h
    rfl
  · obtain ⟨rfl, q⟩ := h
    refine ⟨_, pss_cons (ps_set (i := 0) sc__law_good.nd rfl (.inl rfl) (pe_dispT (by have := hr.units; exact Nat.lt_of_le_of_lt (Nat.add_le_add_left (by decide) _) this) (pps_cons (pe_tup (pa_cons pe_str (pa_cons pe_str (pa_cons pe_str pa_nil)))) (pe_lst (pa_cons pe_str pa_nil)) (pps_cons (pe_tup (pa_cons pe_str (pa_cons pe_str (pa_cons pe_str pa_nil)))) (pe_lst (pa_cons pe_str (pa_cons pe_str pa_nil))) (pps_cons (pe_tup (pa_cons pe_str (pa_cons pe_str (pa_cons pe_str pa_nil)))) (pe_lst (pa_cons pe_str pa_nil)) pps_nil))) rfl rfl (by simp) (by decide)))
      (pss_cons (ps_expr (pe_bm PySem.F.plainAttrs_dict PySem.F.slot_dict_update PySem.F.type_dict_update (mt_updT (by have := hr.units; exact Nat.lt_of_le_of_lt (Nat.add_le_add_left (by decide) _) this)) (pv 0) (pa_cons (pe_dispT (by have := hr.units; exact Nat.lt_of_le_of_lt (Nat.add_le_add_left (by decide) _) this) (pps_cons (pe_tup (pa_cons pe_str (pa_cons pe_str (pa_cons pe_str pa_nil)))) (pe_lst (pa_cons pe_str pa_nil)) (pps_cons (pe_tup (pa_cons pe_str (pa_cons pe_str (pa_cons pe_str pa_nil)))) (pe_lst (pa_cons pe_str pa_nil)) (pps_cons (pe_tup (pa_cons pe_str (pa_cons pe_str (pa_cons pe_str pa_nil)))) (pe_lst (pa_cons pe_str pa_nil)) pps_nil))) rfl rfl (by simp) (by decide)) pa_nil)))
      (pss_cons (ps_expr (pe_bm PySem.F.plainAttrs_dict PySem.F.slot_dict_update PySem.F.type_dict_update (mt_updT (by have := hr.units; exact Nat.lt_of_le_of_lt (Nat.add_le_add_left (by decide) _) this)) (pv 0) (pa_cons (pe_dispT (by have := hr.units; exact Nat.lt_of_le_of_lt (Nat.add_le_add_left (by decide) _) this) (pps_cons (pe_tup (pa_cons pe_str (pa_cons pe_str (pa_cons pe_str pa_nil)))) (pe_lst (pa_cons pe_str pa_nil)) (pps_cons (pe_tup (pa_cons pe_str (pa_cons pe_str (pa_cons pe_str pa_nil)))) (pe_lst (pa_cons pe_str pa_nil)) (pps_cons (pe_tup (pa_cons pe_str (pa_cons pe_str (pa_cons pe_str pa_nil)))) (pe_lst (pa_cons pe_str pa_nil)) pps_nil))) rfl rfl (by simp) (by decide)) pa_nil)))
      (pss_cons (ps_expr (pe_bm PySem.F.plainAttrs_dict PySem.F.slot_dict_update PySem.F.type_dict_update (mt_updT (by have := hr.units; exact Nat.lt_of_le_of_lt (Nat.add_le_add_left (by decide) _) this)) (pv 0) (pa_cons (pe_dispT (by have := hr.units; exact Nat.lt_of_le_of_lt (Nat.add_le_add_left (by decide) _) this) (pps_cons (pe_tup (pa_cons pe_str (pa_cons pe_str (pa_cons pe_str pa_nil)))) (pe_lst (pa_cons pe_str pa_nil)) (pps_cons (pe_tup (pa_cons pe_str (pa_cons pe_str (pa_cons pe_str pa_nil)))) (pe_lst (pa_cons pe_str pa_nil)) pps_nil)) rfl rfl (by simp) (by decide)) pa_nil)))
      (pss_cons (ps_dput (by have := hr.units; exact Nat.lt_of_le_of_lt (Nat.add_le_add_left (by decide) _) this) (pv 0) (pe_tup (pa_cons pe_str (pa_cons pe_str (pa_cons pe_str pa_nil)))) (pe_lst (pa_cons pe_str (pa_cons pe_str pa_nil))) (by rfl))
      (pss_one (ps_ret (pv 0))))))), ?_⟩
    refine q_dispT (cs := g1) (ep_cons ev_key3 el_1 (ep_cons ev_key3 el_2 (ep_cons ev_key3 el_1 ep_nil))) (by decide) (by decide) fun D k1 H1 nD e1 hD1 L1 => ?_
    refine q_updT (K := K) (D := D) rfl hD1 L1 (ct := g2) (ep_cons ev_key3 el_1 (ep_cons ev_key3 el_1 (ep_cons ev_key3 el_1 ep_nil))) (by intro z; cases z) (by decide) (by decide) (by decide) (by decide) fun k2 H2 e2 M2 => ?_
    have E2 := Ex.mut (o := .dT (k1 ++ k2)) (e1.trans e2) nD
    generalize hG2 : upd H2 D (.dT (k1 ++ k2)) = G2 at M2 E2 ⊢
    have hD2 : G2 D = some (.dT (k1 ++ k2)) := by rw [← hG2]; exact upd_same
    clear hG2 L1 hD1 e2 e1
    refine q_updT (K := K) (D := D) rfl hD2 M2 (ct := g3) (ep_cons ev_key3 el_1 (ep_cons ev_key3 el_1 (ep_cons ev_key3 el_1 ep_nil))) (by intro z; cases z) (by decide) (by decide) (by decide) (by decide) fun k3 H3 e3 M3 => ?_
    have E3 := Ex.mut (o := .dT (k1 ++ k2 ++ k3)) (E2.trans e3) nD
    generalize hG3 : upd H3 D (.dT (k1 ++ k2 ++ k3)) = G3 at M3 E3 ⊢
    have hD3 : G3 D = some (.dT (k1 ++ k2 ++ k3)) := by rw [← hG3]; exact upd_same
    clear hG3 M2 hD2 e3 E2
    refine q_updT (K := K) (D := D) rfl hD3 M3 (ct := g4) (ep_cons ev_key3 el_1 (ep_cons ev_key3 el_1 ep_nil)) (by intro z; cases z) (by decide) (by decide) (by decide) (by decide) fun k4 H4 e4 M4 => ?_
    have E4 := Ex.mut (o := .dT (k1 ++ k2 ++ k3 ++ k4)) (E3.trans e4) nD
    generalize hG4 : upd H4 D (.dT (k1 ++ k2 ++ k3 ++ k4)) = G4 at M4 E4 ⊢
    have hD4 : G4 D = some (.dT (k1 ++ k2 ++ k3 ++ k4)) := by rw [← hG4]; exact upd_same
    clear hG4 M3 hD3 e4 E3
    generalize k1 ++ k2 ++ k3 ++ k4 = k5 at M4 hD4 E4
    refine ⟨(by show 2 ≤ sizeLine; decide), fun l nl => ⟨_, rfl, (by show 3 ≤ sizeLine; decide), fun t nt => ?_⟩⟩
    have eN : Ex G4 _ := (Ex.new (o := .lst (sl ["first:keep", "stay"])) nl).trans (Ex.new (o := .tup (sl ["set", "set", "="])) nt)
    have hD5 := eN _ _ hD4
    have l5 : k5.length = 11 := by
      have := congrArg List.length M4.keys
      rw [List.length_map, List.length_map] at this
      exact this.trans rfl
    refine ⟨D, _, rfl, DPut.t (k := nmOf g5) hD5 upd_same (by rw [l5, sizeLine_eq]; decide), ?_⟩
    have nw : nmOf g5 ∉ k5.map (·.1) := by rw [M4.keys]; exact g5_new
    rw [putK_new nw]
    refine ⟨_, rfl, q D _ _ nD (Ex.mut (E4.trans eN) nD) upd_same ?_⟩
    have := ((M4.ex eN).app (LDict.cons (c := g5) (l := l) (kp upd_same nt) LDict.nil)).put (o := .dT (k5 ++ [(nmOf g5, V.ref l)])) hD5
    exact this
end
end T
namespace T
open PySem PySem.Spec PyProof.Rows L2 Evl XB TL XS XI XC ClX XDt
section
variable {P : Program} {w : World} {K : PySem.W.Frag} {mg : Str → Option Value} {base : Heap} {C : Addr}
/-! ### _law_options, with or without conditions of signs -/
theorem first_in {m i : Str} : ("first" : Str) ∈ condsOf m i := by
  unfold condsOf
  split <;> decide
def spOpts2 (K : PySem.W.Frag) : Sp := fun vs H Q _ => ∃ (p a : Addr) (m i : Str) (ks : List Str) (asked : Bool), vs = [.ref p, .str m, .str i, .ref a, .bl asked] ∧ Purse H p ∧ SqL K H a (sl ks) ∧ a ≠ p ∧
  ∀ l ws H', Chg p H H' → Purse H' p → H l = none → l ≠ p → H' l = some (.lst (sl ws)) → IsOpts m i ks ws → Q (.ref l) H'
theorem c_opts2 (D : At K mg "_law_options" s__law_options ["purse", "mine", "its", "sorts", "is_asked"]) (B : Bl mg) (Cp : C8.Cal P w K mg base 2 "_law_pick" (spPick K) []) : C8.Cal P w K mg base 3 "_law_options" (spOpts2 K) [] := by
  refine cal_of D sc__law_options (fun vs H Q E h => ?_) (fun f cdv A outer s H vs Q E hr h => ?_)
  · obtain ⟨p, a, m, i, ks, asked, rfl, _⟩ := h
    rfl
  · obtain ⟨p, a, m, i, ks, asked, rfl, hp, hS, ne, q⟩ := h
    refine ⟨_, pss_cons (ps_set (i := 5) sc__law_options.nd rfl (.inl rfl) (pe_op op_cat (pe_lst (pa_cons pe_str (pa_cons pe_str (pa_cons pe_str (pa_cons pe_str pa_nil))))) (pe_ifExp (PW.pt (pw_and (pt_cmpR op_eq (pv 1) pe_str (nomark _)) (pw_and1 (pt_cmpR op_in_seq pe_str (pv 3) (by rfl))))) (pe_lst (pa_cons pe_str pa_nil)) (pe_lst pa_nil))))
 (pss_cons (ps_set (i := 6) sc__law_options.nd rfl (.inl rfl) (pe_lst (pa_cons pe_str pa_nil)))
 (pss_cut (ps_if (PW.pt (pw_and (pt_val (pv 4)) (pw_and (pt_cmpR op_ne (pv 1) pe_str (nomark _)) (pw_and1 (pt_cmpR op_ne (pv 2) pe_str (nomark _)))))) (pss_one (ps_set (i := 6) sc__law_options.nd rfl (.inl rfl) (pe_lst (pa_cons pe_str (pa_cons pe_str (pa_cons pe_str (pa_cons pe_str pa_nil))))))) pss_nil) (pss_cons (ps_set (i := 7) sc__law_options.nd rfl (.inl rfl) (pe_lst pa_nil))
      (pss_cons (ps_for PassesOwn.never rfl (pi_range1 (by rfl) B.range (pa_cons (C8.pe_c Cp hr (by decide) (by rfl) (pa_cons (pv 0) (pa_cons (pe_lst (pa_cons pe_int (pa_cons pe_int (pa_cons pe_int (pa_cons pe_int pa_nil))))) pa_nil))) pa_nil)) (pg_name (i := 8) sc__law_options.nd rfl (.inl rfl))
      (pss_one (ps_expr (pe_bm PySem.F.plainAttrs_list PySem.F.slot_list_append PySem.F.type_list_append mt_append (pv 7) (pa_cons (pe_op op_add_str (pe_op op_add_str (C8.pe_c Cp hr (by decide) (by rfl) (pa_cons (pv 0) (pa_cons (pv 6) pa_nil))) pe_str) (C8.pe_c Cp hr (by decide) (by rfl) (pa_cons (pv 0) (pa_cons (pv 5) pa_nil)))) pa_nil)))))
      (pss_one (ps_ret (pe_op op_cat (pv 7) (pe_lst (pa_cons (C8.pe_c Cp hr (by decide) (by rfl) (pa_cons (pv 0) (pa_cons (pv 5) pa_nil))) pa_nil))))))))), ?_⟩
    refine q_asgL (xs := sl (resultsOf m ks)) (el_is (el_cat (xs := sl ["keep", "up", "down", "stay"]) (ys := sl (if m = "set" ∧ ("put" : Str) ∈ ks then [("put" : Str)] else [])) (el_lst (ea_str (ea_str (ea_str (ea_str ea_nil)))) (by decide))
      (el_if (et_and (et_test (ev_eqS (ev_var rfl) ev_c)) (fun _ => et_test (ev_inL ev_c (ev_var rfl) hS))) (fun b => ?_) (fun b => ?_)) ?_) ?_) fun l4 H1 n4 e1 h4 => ?_
    · rw [Bool.and_eq_true, decide_eq_true_eq, decide_eq_true_eq] at b
      rw [if_pos b]
      exact el_lst (ea_str ea_nil) (by decide)
    · rw [if_neg (fun z => by rw [decide_eq_true z.1, decide_eq_true z.2] at b; cases b)]
      exact el_lst ea_nil (by decide)
    · split <;> decide
    · show _ = (_ ++ _ : List Str).map V.str
      rw [List.map_append]
    refine q_asgL (xs := sl ["first"]) (el_lst (ea_str ea_nil) (by show 1 ≤ 100000; decide)) fun l0 H2 n0 e2 h0 => ?_
    refine q_cut (M := fun σ' G => ∃ l5 cw, σ' = [some (.ref p), some (.str m), some (.str i), some (.ref a), some (.bl asked), some (.ref l4), some (.ref l5), none, none] ∧ Ex H2 G ∧ H1 l5 = none ∧ G l5 = some (.lst (sl cw)) ∧ (∀ x ∈ cw, x ∈ condsOf m i) ∧ cw ≠ [] ∧ cw.length ≤ 4) ?_ ?_
    · refine s_when (b := asked && (!decide (V.str m = V.str "out") && !decide (V.str i = V.str "out"))) (et_and (et_B (ev_var rfl)) (fun _ => et_and (et_test (ev_op (ev_var rfl) ev_c (rv_ne rfl))) (fun _ => et_test (ev_op (ev_var rfl) ev_c (rv_ne rfl))))) (fun y H3 e3 => ?_) (fun _ H3 e3 => ⟨l0, ["first"], rfl, e3, n0, e3 _ _ h0, fun x hx => by rw [List.mem_singleton.mp hx]; exact first_in, by decide, by decide⟩)
      rw [Bool.and_eq_true, Bool.and_eq_true, Bool.not_eq_true', Bool.not_eq_true', decide_eq_false_iff_not, decide_eq_false_iff_not] at y
      have cd : condsOf m i = [("first" : Str), "less", "same", "more"] := by
        unfold condsOf
        rw [if_neg fun z => z.elim (fun z => y.2.1 (by rw [z])) fun z => y.2.2 (by rw [z])]
      exact (el_lst (σ := [some (.ref p), some (.str m), some (.str i), some (.ref a), some (.bl asked), some (.ref l4), some (.ref l0), none, none]) (vs := sl ["first", "less", "same", "more"]) (ea_str (ea_str (ea_str (ea_str ea_nil)))) (by show 4 ≤ 100000; decide)) H3 (Ex.refl _) _ fun l5 H4 n5 e4 h5 => ⟨l5, ["first", "less", "same", "more"], rfl, e3.trans e4, fresh_back (e2.trans e3) n5, h5, fun x hx => by rw [cd]; exact hx, by decide, by decide⟩
    rintro σ' Hc ⟨l5, cw, rfl, e2c, n5, h5, cwc, cwn, cwl⟩
    have e2 := e2.trans e2c
    refine q_asgL (xs := []) (el_lst ea_nil (by decide)) fun l6 H3 n6 e3 h6 => ?_
    have s12 := e1.trans e2
    have s2 : Same H H3 := s12.trans e3
    have hp3 : Purse H3 p := by
      obtain ⟨d, z, c, e⟩ := hp
      exact ⟨d, z, c, s2 _ _ e⟩
    have n4p : l4 ≠ p := (hp.ne n4).symm
    have n5p : l5 ≠ p := by
      obtain ⟨d, z, c, e⟩ := hp
      exact (ne_of_none (e1 _ _ e) n5).symm
    have n6p : l6 ≠ p := by
      obtain ⟨d, z, c, e⟩ := hp
      exact (ne_of_none (s12 _ _ e) n6).symm
    have n6H : H l6 = none := fresh_back s12 n6
    have h4' := e2 _ _ h4
    have resL : (sl (resultsOf m ks)) ≠ [] ∧ (sl (resultsOf m ks)).length ≤ 1000 := by
      unfold resultsOf
      split <;> exact ⟨(by intro z; cases z), by decide⟩
    have conL : (sl cw) ≠ [] ∧ (sl cw).length ≤ 1000 := ⟨fun z => cwn (List.map_eq_nil_iff.mp z), by rw [XB.len_sl]; omega⟩
    have resS : ∀ r ∈ resultsOf m ks, r.length ≤ 10 := by
      unfold resultsOf
      split <;> decide
    have conS : ∀ r ∈ condsOf m i, r.length ≤ 10 := by
      unfold condsOf
      split <;> decide
    refine ⟨_, rfl, (by show 4 ≤ sizeLine; decide), fun l7 n7 => ⟨p, _, rfl, hp3.new n7, .inl ⟨l7, _, rfl, (hp3.ne n7).symm, SqL.of upd_same, (by intro z; cases z), (by show 4 ≤ 1000; decide), fun x hx H4 hp4 c4 => ?_⟩⟩⟩
    obtain ⟨n, hn, rfl⟩ : ∃ n : Nat, n ≤ 4 ∧ x = V.int (n : Int) := by
      simp only [List.mem_cons, List.not_mem_nil, or_false] at hx
      rcases hx with rfl | rfl | rfl | rfl
      · exact ⟨0, by decide, rfl⟩
      · exact ⟨0, by decide, rfl⟩
      · exact ⟨1, by decide, rfl⟩
      · exact ⟨2, by decide, rfl⟩
    have c24 : Chg p Hc H4 := ((Same.chg e3).new n7).trans c4
    refine ⟨(n : Int), rfl, by omega, by omega, for_range (lo := 0) (n := ((n : Nat) : Int).toNat)
      (fun j σ H' => ∃ y7 os, σ = [some (.ref p), some (.str m), some (.str i), some (.ref a), some (.bl asked), some (.ref l4), some (.ref l5), some (.ref l6), y7] ∧ Chg p Hc H' ∧ Purse H' p ∧ H' l6 = some (.lst (sl os)) ∧ os.length = j ∧ ∀ o ∈ os, ∃ c ∈ condsOf m i, ∃ r ∈ resultsOf m ks, o = c ++ ":" ++ r)
      ⟨none, [], rfl, c24, hp4, c4 _ _ n6p (kp h6 n7), rfl, fun _ z => by cases z⟩ ?_ ?_⟩
    · rintro j σ H5 hj ⟨y7, os, rfl, c5, hp5, h65, hl5, ho⟩
      refine ⟨_, rfl, .inl ⟨rfl, _, SqL.of h65⟩, _, rfl, _, rfl, p, _, rfl, hp5, .inl ⟨l5, _, rfl, n5p, c5.seq n5p (SqL.of h5), conL.1, conL.2, fun x hx H6 hp6 c6 => ?_⟩⟩
      obtain ⟨c, hc0, rfl⟩ := List.mem_map.mp hx
      have hc := cwc c hc0
      refine ⟨_, _, rfl, rfl, (by have := conS c hc; rw [sizeLine_eq]; show _ + 1 ≤ _; omega), ?_⟩
      have c56 := c5.trans c6
      refine ⟨_, rfl, _, rfl, p, _, rfl, hp6, .inl ⟨l4, _, rfl, n4p, c56.seq n4p (SqL.of h4'), resL.1, resL.2, fun y hy H7 hp7 c7 => ?_⟩⟩
      obtain ⟨r, hr2, rfl⟩ := List.mem_map.mp hy
      refine ⟨_, _, rfl, rfl, ?_, ?_⟩
      · rw [show (c ++ ":" : Str).length = c.length + 1 from by rw [Str.length_append] <;> rfl, sizeLine_eq]
        have := conS c hc
        have := resS r hr2
        omega
      · have h67 := c7 _ _ n6p (c6 _ _ n6p h65)
        refine ⟨l6, _, _, rfl, rfl, h67, (by rw [XB.len_sl, sizeLine_eq]; omega), ?_⟩
        refine ⟨_, os ++ [c ++ ":" ++ r], rfl, (c56.trans c7).own n6, ?_, ?_, ?_, ?_⟩
        · obtain ⟨d, z, w, e⟩ := hp7
          exact ⟨d, z, w, by rw [upd_ne n6p.symm]; exact e⟩
        · exact at_sl (ys := [c ++ ":" ++ r]) upd_same rfl
        · rw [List.length_append, hl5]
          rfl
        · intro o hh
          rcases List.mem_append.mp hh with z | z
          · exact ho o z
          · exact ⟨c, hc, r, hr2, List.mem_singleton.mp z⟩
    · rintro σ H5 ⟨y7, os, rfl, c5, hp5, h65, hl5, ho⟩
      refine ⟨_, rfl, _, rfl, _, rfl, p, _, rfl, hp5, .inl ⟨l4, _, rfl, n4p, c5.seq n4p (SqL.of h4'), resL.1, resL.2, fun y hy H6 hp6 c6 => ?_⟩⟩
      obtain ⟨r, hr2, rfl⟩ := List.mem_map.mp hy
      refine ⟨(by show 1 ≤ sizeLine; decide), fun l8 n8 => ?_⟩
      have h66 := kp (u := HO.lst [V.str r]) (c6 _ _ n6p h65) n8
      refine ⟨l6, l8, _, _, rfl, rfl, h66, upd_same, (by rw [XB.len_sl, sizeLine_eq]; show _ + 1 ≤ _; omega), fun l9 n9 => ?_⟩
      have cf : Chg p Hc _ := ((c5.trans c6).new (o := .lst [.str r]) n8)
      have hp8 := hp6.new (o := .lst [.str r]) n8
      have n9p := (hp8.ne n9).symm
      refine q l9 (os ++ [r]) _ ((Same.chg s12).trans (cf.new n9)) (hp8.new n9) (fresh_back s12 (cf.free n9p n9)) n9p ?_ ⟨os, r, rfl, by omega, ho, hr2⟩
      exact at_sl (ys := [r]) upd_same rfl
end
end T
namespace T
open PySem PySem.Spec PyProof.Rows L2 Evl XB TL XS XI XC ClX XDt
/-! ### _law_cells: the good ones, some of them bent -/
theorem io1 {m i z : Str} {ks : List Str} (h : z ∈ [("keep" : Str), "up", "down", "stay"]) : IsOpts m i ks [z] := ⟨[], z, rfl, (by decide), (fun o ho => by cases ho), List.mem_append_left _ h⟩
theorem io_pre {m i z : Str} {ks pre : List Str} (hl : pre.length ≤ 4) (h : ∀ o ∈ pre, ∃ c ∈ condsOf m i, ∃ r ∈ [("keep" : Str), "up", "down", "stay"], o = c ++ ":" ++ r) (hz : z ∈ [("keep" : Str), "up", "down", "stay"]) : IsOpts m i ks (pre ++ [z]) := ⟨pre, z, rfl, hl, fun o ho => by
  obtain ⟨c, hc, r, hr, e⟩ := h o ho
  exact ⟨c, hc, r, List.mem_append_left _ hr, e⟩, List.mem_append_left _ hz⟩
theorem io2 {m i z : Str} {ks : List Str} (h : z ∈ [("keep" : Str), "up", "down", "stay"]) : IsOpts m i ks ["first:keep", z] :=
  io_pre (pre := ["first:keep"]) (by decide) (fun o ho => by rw [List.mem_singleton.mp ho]; exact ⟨"first", first_in, "keep", by decide, by decide⟩) h
theorem io_put {ks : List Str} : IsOpts "put" "put" ks ["less:keep", "more:up", "first:keep", "up"] :=
  io_pre (pre := ["less:keep", "more:up", "first:keep"]) (by decide) (fun o ho => by
    simp only [List.mem_cons, List.not_mem_nil, or_false] at ho
    rcases ho with rfl | rfl | rfl
    · exact ⟨"less", by decide, "keep", by decide, by decide⟩
    · exact ⟨"more", by decide, "up", by decide, by decide⟩
    · exact ⟨"first", by decide, "keep", by decide, by decide⟩) (by decide)
theorem good_opts {ks : List Str} : ∀ c ∈ goodC, c.2.2.1 ∈ rels ∧ IsOpts c.1 c.2.1 ks c.2.2.2 := fun c h => by
  have all : ∀ c ∈ goodC, c.2.2.1 ∈ rels ∧ ((∃ z ∈ [("keep" : Str), "up", "down", "stay"], c.2.2.2 = [z]) ∨ ∃ z ∈ [("keep" : Str), "up", "down", "stay"], c.2.2.2 = [("first:keep" : Str), z]) := by decide
  obtain ⟨h1, h2⟩ := all c h
  refine ⟨h1, ?_⟩
  rcases h2 with ⟨z, hz, e⟩ | ⟨z, hz, e⟩ <;> rw [e]
  · exact io1 hz
  · exact io2 hz
section
variable {P : Program} {w : World} {K : PySem.W.Frag} {mg : Str → Option Value} {base : Heap} {C : Addr}
theorem CellAt.ex {H H' : Hp} {ks : List Str} {v : Nm × V} (h : CellAt H ks v) (e : Ex H H') : CellAt H' ks v := by
  obtain ⟨m, i, s, l, ws, h1, h2, h3, h4, ho, t⟩ := h
  exact ⟨m, i, s, l, ws, h1, h2, h3, h4, ho, e _ _ t⟩
def spCells2 (K : PySem.W.Frag) : Sp := fun vs H Q _ => ∃ (p a : Addr) (n : Nat) (asked : Bool) (ks : List Str), vs = [.ref p, .ref a, .int (n : Nat), .bl asked] ∧ Purse H p ∧ H a = some (.lst (sl ks)) ∧ a ≠ p ∧ ks ∈ kinds7 ∧ n ≤ 10 ∧
  ∀ D kvs H', Chg p H H' → Purse H' p → D ≠ p → H D = none → H' D = some (.dT kvs) → CellsAt H' ks kvs → kvs.length ≤ 27 → Q (.ref D) H'
theorem and_go {t u : TT} {σ : L2.St} {H : Hp} {R : Bool → Hp → Prop} (h : t σ H fun b H1 => if b = true then u σ H1 R else R false H1) : tAnd t u σ H R := h
theorem ifs_go {t : TT} {tu tz : TS} {D : Ends} {σ : L2.St} {H : Hp} (h : t σ H fun b H1 => if b = true then tu D σ H1 else tz D σ H1) : tIfS t tu tz D σ H := h
theorem CellAt.frz {H : Hp} {D : Addr} {ks : List Str} {v : Nm × V} {o : Obj} {u u' : HO} (h : CellAt H ks v) (e : H D = some (.frz o u)) : CellAt (upd H D u') ks v := by
  obtain ⟨m, i, s, l, ws, h1, h2, h3, h4, ho, t⟩ := h
  exact ⟨m, i, s, l, ws, h1, h2, h3, h4, ho, kpm t (ne_of t e fun q => by cases q)⟩
theorem c_cells2 (Dc : At K mg "_law_cells" s__law_cells ["purse", "sorts", "bends", "is_asked"]) (B : Bl mg) (Cg : C8.Cal P w K mg base 1 "_law_good" spGood []) (Cd : C8.Cal P w K mg base 1 "_law_draw" spDraw []) (Cp : C8.Cal P w K mg base 2 "_law_pick" (spPick K) [])
    (Co : C8.Cal P w K mg base 3 "_law_options" (spOpts2 K) []) : C8.Cal P w K mg base 4 "_law_cells" (spCells2 K) [] := by
  obtain ⟨fs, fds, psg, dsg, Fs, hms, kps, bds, ds0⟩ := Cg.ex
  refine cal_of Dc sc__law_cells (fun vs H Q E h => ?_) (fun f cdv A outer s H vs Q E hr h => ?_)
  · obtain ⟨p, a, n, asked, ks, rfl, _⟩ := h
    rfl
  · obtain ⟨p, a, n, asked, ks, rfl, hp, ha, ne, hk, hn, q⟩ := h
    refine ⟨_, pss_cons (ps_par (i := 4) (j := 5) (by rfl) sc__law_cells.nd rfl rfl (by decide) rfl rfl (pa_cons (pe_call0 Fs (hr.mono (by decide)) (by rfl) hms kps bds ds0 pass0) (pa_cons pe_dnewT pa_nil)) (by rfl))
 (pss_cons (ps_lock (ps_for PassesOwn.never rfl (pi_keys (pv 4)) (pg_name (i := 6) sc__law_cells.nd rfl (.inl rfl)) (pss_one (ps_if (PW.pt (pw_and (pt_cmpR op_in_seq (pe_ix ix_tup (pv 6) pe_int (fun _ _ => rfl)) (pv 1) (by rfl)) (pw_and1 (pt_cmpR op_in_seq (pe_ix ix_tup (pv 6) pe_int (fun _ _ => rfl)) (pv 1) (by rfl))))) (pss_one (ps_dput (by have := hr.units; exact Nat.lt_of_le_of_lt (Nat.add_le_add_left (by decide) _) this) (pv 5) (pv 6) (pe_dget (by have := hr.units; exact Nat.lt_of_le_of_lt (Nat.add_le_add_left (by decide) _) this) (pv 4) (pv 6) (fun _ _ => rfl)) (by rfl))) pss_nil))))
 (pss_cons (ps_for PassesOwn.never rfl (pi_range1 (by rfl) B.range (pa_cons (pv 2) pa_nil)) (pg_name (i := 7) sc__law_cells.nd rfl (.inl rfl))
      (pss_cons (ps_par (i := 8) (j := 9) (by rfl) sc__law_cells.nd rfl rfl (by decide) rfl rfl (pa_cons (C8.pe_c Cp hr (by decide) (by rfl) (pa_cons (pv 0) (pa_cons (pv 1) pa_nil))) (pa_cons (C8.pe_c Cp hr (by decide) (by rfl) (pa_cons (pv 0) (pa_cons (pv 1) pa_nil))) pa_nil)) (by rfl))
      (pss_cons (ps_set (i := 6) sc__law_cells.nd rfl (.inl rfl) (pe_tup (pa_cons (pv 8) (pa_cons (pv 9) (pa_cons (C8.pe_c Cp hr (by decide) (by rfl) (pa_cons (pv 0) (pa_cons (pe_lst (pa_cons pe_str (pa_cons pe_str (pa_cons pe_str (pa_cons pe_str pa_nil))))) pa_nil))) pa_nil)))))
      (pss_one (ps_dput (by have := hr.units; exact Nat.lt_of_le_of_lt (Nat.add_le_add_left (by decide) _) this) (pv 5) (pv 6) (C8.pe_c Co hr (by decide) (by rfl) (pa_cons (pv 0) (pa_cons (pv 8) (pa_cons (pv 9) (pa_cons (pv 1) (pa_cons (pv 3) pa_nil)))))) (by rfl))))))
 (pss_cut (ps_if (PW.pt (pw_and (pt_val (pv 3)) (pw_and (pt_cmpR op_in_seq pe_str (pv 1) (by rfl)) (pw_and1 (pt_cmpR op_eq (C8.pe_c Cd hr (by decide) (by rfl) (pa_cons (pv 0) (pa_cons pe_int pa_nil))) pe_int (nomark _)))))) (pss_one (ps_dput (by have := hr.units; exact Nat.lt_of_le_of_lt (Nat.add_le_add_left (by decide) _) this) (pv 5) (pe_tup (pa_cons pe_str (pa_cons pe_str (pa_cons pe_str pa_nil)))) (pe_lst (pa_cons pe_str (pa_cons pe_str (pa_cons pe_str (pa_cons pe_str pa_nil))))) (by rfl))) pss_nil) (pss_one (ps_ret (pv 5)))))), ?_⟩
    have kne : sl ks ≠ [] := fun z => (show ∀ ks ∈ kinds7, ks ≠ [] by decide) ks hk (List.map_eq_nil_iff.mp z)
    have k3 := len7 hk
    refine ⟨rfl, fun g kg H1 ng e1 hg Lg => fun D nD => ⟨_, _, rfl, ?_⟩⟩
    have hp1 := purse_ex hp e1
    have ha1 := e1 _ _ ha
    have hgD : g ≠ D := ne_of_none hg nD
    have Dp : D ≠ p := (hp1.ne nD).symm
    have gp : g ≠ p := (hp.ne ng).symm
    have nDH : H D = none := fresh_back e1 nD
    have hg2 : (upd H1 D (.dT [])) g = some (.dT kg) := kp hg nD
    have kglen : kg.length = goodC.length := by
      have := congrArg List.length Lg.keys
      rw [List.length_map, List.length_map] at this
      exact this
    have kgnd : (kg.map (·.1)).Nodup := by rw [Lg.keys]; exact goodC_nd
    refine ⟨g, .dT kg, hg2, trivial, fun od => ⟨_, rfl, g, od, rfl, .inr ⟨kg, upd_same, for_it walk_keysT
      (fun i σ G => ∃ y6 kf, σ = [some (.ref p), some (.ref a), some (.int (n : Nat)), some (.bl asked), some (.ref g), some (.ref D), y6, none, none, none] ∧ Ex (upd H1 g (.frz od (.dT kg))) G ∧ G D = some (.dT kf) ∧ CellsAt G ks kf ∧ kf.length ≤ i)
      ⟨_, [], rfl, fun b o hb => ?_, kpm upd_same hgD.symm, ⟨List.nodup_nil, fun _ z => by cases z⟩, Nat.zero_le _⟩ (fun i σ G _ ⟨_, _, _, e, _⟩ => e _ _ upd_same) ?_ ?_⟩⟩⟩
    · by_cases bg : b = g
      · subst bg
        rw [upd_same] at hb ⊢
        exact hb
      · rw [upd_ne bg] at hb ⊢
        exact kp hb nD
    · rintro i x σ G G' hi ⟨y6, kf, rfl, eG, hD, hC, hl⟩ ⟨rfl, k, v, qa, hkv, rfl, hq⟩
      have hc : goodC[i]? = some (goodC[i]'(by rw [← kglen]; exact hi)) := List.getElem?_eq_getElem _
      generalize goodC[i]'(by rw [← kglen]; exact hi) = c at hc
      obtain ⟨b, hb1, hb2⟩ := Lg.at_ i c hc
      rw [hkv] at hb1
      obtain ⟨rfl, rfl⟩ : k = nmOf c ∧ v = .ref b := by
        injection hb1 with e
        injection e with e1 e2
        exact ⟨e1, e2⟩
      obtain ⟨cr, co⟩ := good_opts (ks := ks) c (List.mem_of_getElem? hc)
      have hbG : G' b = some (.lst (sl c.2.2.2)) := eG _ _ (kpm hb2 (ne_of hb2 hg fun z => by cases z))
      have haG : G' a = some (.lst (sl ks)) := eG _ _ (kpm ha1 (ne_of ha1 hg fun z => by cases z))
      have hgG := eG _ _ (upd_same (H := H1) (a := g) (o := .frz od (.dT kg)))
      have i27 : i < 27 := by
        have : i < goodC.length := (List.getElem?_eq_some_iff.mp hc).1
        have h12 : goodC.length = 12 := rfl
        omega
      refine s_when (b := decide (c.1 ∈ ks) && decide (c.2.1 ∈ ks)) (et_and (et_test (ev_inL (ev_ixT (ev_var rfl) ev_c (SqT.of hq) (atI_nat (j := 0) rfl)) (ev_var rfl) (SqL.of haG))) (fun _ => et_test (ev_inL (ev_ixT (ev_var rfl) ev_c (SqT.of hq) (atI_nat (j := 1) rfl)) (ev_var rfl) (SqL.of haG)))) (fun y G1 g1 => ?_) (fun _ G1 g1 => ⟨_, kf, rfl, eG.trans g1, g1 _ _ hD, ⟨hC.1, fun z hz => (hC.2 z hz).ex g1⟩, Nat.le_succ_of_le hl⟩)
      rw [Bool.and_eq_true, decide_eq_true_eq, decide_eq_true_eq] at y
      refine (ev_dget (σ := [some (.ref p), some (.ref a), some (.int (n : Nat)), some (.bl asked), some (.ref g), some (.ref D), some (.ref qa), none, none, none]) (ta := tVar 4) (tb := tVar 6) (ev_var rfl) (ev_var rfl) (.inr ⟨od, g1 _ _ hgG⟩) (g1 _ _ hq) (valV_at kgnd hkv)) G1 (Ex.refl _) _ fun G2 g2 => ?_
      have g12 := g1.trans g2
      have hD2 := g12 _ _ hD
      refine ⟨_, rfl, _, rfl, D, _, rfl, DPut.t (k := nmOf c) hD2 (g12 _ _ hq) (by rw [sizeLine_eq]; omega), ?_⟩
      have nDB : (upd H1 g (.frz od (.dT kg))) D = none := by rw [upd_ne hgD.symm]; exact nD
      refine ⟨_, _, rfl, Ex.mut (eG.trans g12) nDB, upd_same, ⟨putK_nd hC.1, fun z hz => ?_⟩, Nat.le_trans (DSub.putK_len _ _ _) (Nat.succ_le_succ hl)⟩
      rcases putK_mem hz with rfl | z'
      · have hb3 := g12 _ _ hbG
        exact ⟨c.1, c.2.1, c.2.2.1, b, c.2.2.2, y.1, y.2, cr, rfl, co, kpm hb3 (ne_of hb3 hD2 fun q => by cases q)⟩
      · exact ((hC.2 z z').ex g12).put hD2
    · rintro σ G ⟨y6, kf, rfl, eG, hD, hC, hl⟩
      have hgG := eG _ _ (upd_same (H := H1) (a := g) (o := .frz od (.dT kg)))
      refine ⟨hgG, ?_⟩
      have eN : Ex H1 (upd G g (.dT kg)) := fun b o hb => by
        by_cases bg : b = g
        · subst bg
          rw [hg] at hb
          rw [upd_same]
          exact hb
        · rw [upd_ne bg]
          exact eG _ _ (by rw [upd_ne bg]; exact hb)
      have hDN : (upd G g (.dT kg)) D = some (.dT kf) := kpm hD hgD.symm
      have hCN : CellsAt (upd G g (.dT kg)) ks kf := ⟨hC.1, fun z hz => (hC.2 z hz).frz hgG⟩
      have hl12 : kf.length ≤ 12 := by rw [kglen] at hl; exact hl
      generalize upd G g (.dT kg) = G0 at eN hDN hCN ⊢
      clear hgG hC hD eG hg2 Lg
      have e0 := e1.trans eN
      have hp0 := purse_ex hp e0
      have ha0 := e0 _ _ ha
      refine ⟨_, rfl, (n : Int), rfl, by omega, by omega, for_range (lo := 0) (n := ((n : Nat) : Int).toNat)
        (fun i σ G => ∃ y6 y7 y8 y9 kf, σ = [some (.ref p), some (.ref a), some (.int (n : Nat)), some (.bl asked), some (.ref g), some (.ref D), y6, y7, y8, y9] ∧ Chg p H G ∧ Purse G p ∧ G D = some (.dT kf) ∧ CellsAt G ks kf ∧ kf.length ≤ 12 + i)
        ⟨_, _, _, _, kf, rfl, Same.chg e0, hp0, hDN, hCN, hl12⟩ ?_ ?_⟩
      · rintro i σ G ii ⟨y6, y7, y8, y9, kf, rfl, cG, pG, hD, hC, hl⟩
        have hs : SqL K G a (sl ks) := SqL.of (cG _ _ ne ha)
        refine ⟨_, rfl, _, rfl, p, _, rfl, pG, .inl ⟨a, _, rfl, ne, hs, kne, (by rw [XB.len_sl]; omega), fun x hx G1 p1 c1 => ⟨_, rfl, _, rfl, p, _, rfl, p1, .inl ⟨a, _, rfl, ne, c1.seq ne hs, kne, (by rw [XB.len_sl]; omega), fun y hy G2 p2 c2 => ⟨_, _, rfl, ?_⟩⟩⟩⟩⟩
        obtain ⟨m, hm, rfl⟩ := List.mem_map.mp hx
        obtain ⟨mi, hmi, rfl⟩ := List.mem_map.mp hy
        have c12 := c1.trans c2
        refine ⟨_, rfl, _, rfl, _, rfl, (by show 4 ≤ sizeLine; decide), fun l nl => ⟨p, _, rfl, p2.new nl, .inl ⟨l, _, rfl, (p2.ne nl).symm, SqL.of upd_same, (by intro z; cases z), (by show 4 ≤ 1000; decide), fun z hz G3 p3 c3 => ⟨(by show 3 ≤ sizeLine; decide), fun t nt => ?_⟩⟩⟩⟩
        obtain ⟨r, hr, rfl⟩ : ∃ r, r ∈ rels ∧ z = V.str r := by
          simp only [List.mem_cons, List.not_mem_nil, or_false] at hz
          rcases hz with rfl | rfl | rfl | rfl
          · exact ⟨"<", by decide, rfl⟩
          · exact ⟨"=", by decide, rfl⟩
          · exact ⟨"=", by decide, rfl⟩
          · exact ⟨">", by decide, rfl⟩
        have c13 : Chg p G (upd G3 t (.tup [.str m, .str mi, .str r])) := ((c12.new nl).trans c3).new nt
        have p4 : Purse (upd G3 t (.tup [.str m, .str mi, .str r])) p := p3.new nt
        have ht : (upd G3 t (.tup [.str m, .str mi, .str r])) t = some (.tup [.str m, .str mi, .str r]) := upd_same
        generalize upd G3 t (.tup [.str m, .str mi, .str r]) = G4 at c13 p4 ht ⊢
        have tp : t ≠ p := by
          obtain ⟨d1, d2, d3, e⟩ := p4
          exact ne_of ht e fun q => by cases q
        refine ⟨_, rfl, _, rfl, _, rfl, _, rfl, _, rfl, p, a, m, mi, ks, asked, rfl, p4, c13.seq ne hs, ne, fun l5 ws G5 c5 p5 n5 n5p h5 ho => ?_⟩
        have c15 := c13.trans c5
        have hD5 := c15 _ _ Dp hD
        refine ⟨_, rfl, _, rfl, D, _, rfl, DPut.t (k := nm3 m mi r) hD5 (c5 _ _ tp ht) (by rw [sizeLine_eq]; omega), ?_⟩
        refine ⟨_, _, _, _, _, rfl, (cG.trans c15).own nDH, ?_, upd_same, ⟨putK_nd hC.1, fun z hz => ?_⟩, Nat.le_trans (DSub.putK_len _ _ _) (by omega)⟩
        · obtain ⟨d1, d2, d3, e⟩ := p5
          exact ⟨d1, d2, d3, kpm e Dp.symm⟩
        · rcases putK_mem hz with rfl | z'
          · exact ⟨m, mi, r, l5, ws, hm, hmi, hr, rfl, ho, kpm h5 (ne_of h5 hD5 fun q => by cases q)⟩
          · exact ((hC.2 z z').chg pG c15).put hD5
      · rintro σ G ⟨y6, y7, y8, y9, kf, rfl, cG, pG, hD, hC, hl⟩
        have hs : SqL K G a (sl ks) := SqL.of (cG _ _ ne ha)
        refine q_cut (M := fun σ' G => ∃ kf, σ' = [some (.ref p), some (.ref a), some (.int (n : Nat)), some (.bl asked), some (.ref g), some (.ref D), y6, y7, y8, y9] ∧ Chg p H G ∧ Purse G p ∧ G D = some (.dT kf) ∧ CellsAt G ks kf ∧ kf.length ≤ 27) ?_ ?_
        · have done : ∀ {G' : Hp}, Chg p G G' → Purse G' p → ∃ kf, ([some (.ref p), some (.ref a), some (.int (n : Nat)), some (.bl asked), some (.ref g), some (.ref D), y6, y7, y8, y9] : L2.St) = [some (.ref p), some (.ref a), some (.int (n : Nat)), some (.bl asked), some (.ref g), some (.ref D), y6, y7, y8, y9] ∧ Chg p H G' ∧ Purse G' p ∧ G' D = some (.dT kf) ∧ CellsAt G' ks kf ∧ kf.length ≤ 27 := fun c p' => ⟨kf, rfl, cG.trans c, p', c _ _ Dp hD, ⟨hC.1, fun z hz => (hC.2 z hz).chg pG c⟩, by omega⟩
          refine ifs_go (and_go ((et_B (ev_var (σ := [some (.ref p), some (.ref a), some (.int (n : Nat)), some (.bl asked), some (.ref g), some (.ref D), y6, y7, y8, y9]) (i := 3) rfl)) G (Ex.refl _) _ fun G1 e1 => ?_))
          cases hask : asked with
          | false =>
            subst hask
            exact iteF (iteF (done (Same.chg e1) (purse_ex pG e1)))
          | true =>
            subst hask
            refine iteT ?_
            refine and_go ((et_test (ev_inL (σ := [some (.ref p), some (.ref a), some (.int (n : Nat)), some (.bl true), some (.ref g), some (.ref D), y6, y7, y8, y9]) (ta := tC (.str "put")) (tb := tVar 1) (K := K) ev_c (ev_var rfl) ((Same.chg e1).seq ne hs))) G1 (Ex.refl _) _ fun G2 e2 => ?_)
            have e12 := e1.trans e2
            cases hpk : decide (("put" : Str) ∈ ks) with
            | false => exact iteF (iteF (done (Same.chg e12) (purse_ex pG e12)))
            | true =>
              have hpk := of_decide_eq_true hpk
              refine iteT ⟨_, rfl, p, 2, rfl, purse_ex pG e12, by decide, by decide, fun j G3 j0 j1 p3 c3 => ⟨rfl, _, rfl, ite2 (fun _ => ?_) (fun _ => ?_)⟩⟩
              · have c13 := (Same.chg e12).trans c3
                refine ⟨(by show 4 ≤ sizeLine; decide), fun l nl => ⟨_, rfl, (by show 3 ≤ sizeLine; decide), fun t nt => ?_⟩⟩
                have eN : Ex G3 _ := (Ex.new (o := .lst (sl ["less:keep", "more:up", "first:keep", "up"])) nl).trans (Ex.new (o := .tup (sl ["put", "put", "="])) nt)
                have c14 := c13.trans (Same.chg eN)
                have hD4 := c14 _ _ Dp hD
                refine ⟨D, _, rfl, DPut.t (k := nm3 "put" "put" "=") hD4 upd_same (by rw [sizeLine_eq]; omega), ?_⟩
                refine ⟨_, rfl, (cG.trans c14).own nDH, ?_, upd_same, ⟨putK_nd hC.1, fun z hz => ?_⟩, Nat.le_trans (DSub.putK_len _ _ _) (by omega)⟩
                · obtain ⟨d1, d2, d3, e⟩ := purse_ex p3 eN
                  exact ⟨d1, d2, d3, kpm e Dp.symm⟩
                · rcases putK_mem hz with rfl | z'
                  · have hl4 : (upd (upd G3 l (.lst (sl ["less:keep", "more:up", "first:keep", "up"]))) t (.tup (sl ["put", "put", "="]))) l = some (.lst (sl ["less:keep", "more:up", "first:keep", "up"])) := kp upd_same nt
                    exact ⟨"put", "put", "=", l, _, hpk, hpk, by decide, rfl, io_put, kpm hl4 (ne_of hl4 hD4 fun q => by cases q)⟩
                  · exact ((hC.2 z z').chg pG c14).put hD4
              · exact done ((Same.chg e12).trans c3) p3
        · rintro σ' G1 ⟨kf, rfl, c1, p1, hD1, hC1, hl1⟩
          exact ⟨_, rfl, q D kf G1 c1 p1 Dp nDH hD1 hC1 hl1⟩
end
end T
namespace T
open PySem PySem.Spec PyProof.Rows L2 Evl XB TL XS XI XC ClX XDt
section
variable {P : Program} {w : World} {K : PySem.W.Frag} {mg : Str → Option Value} {base : Heap} {C : Addr}
/-! ### _law_text, of a dict of cells -/
def spText2 : Sp := fun vs0 H Q _ => ∃ (a d : Addr) (ks : List Str) (kvs : List (Nm × V)), vs0 = [.ref a, .ref d] ∧ ks ∈ kinds7 ∧ H a = some (.lst (sl ks)) ∧ H d = some (.dT kvs) ∧ CellsAt H ks kvs ∧ kvs.length ≤ 27 ∧
  ∀ cs H', Ex H H' → Cells ks cs → LDict H kvs cs → Q (.str (textOf ks (cs.map lineOf))) H'
theorem c_text2 (Dt : At K mg "_law_text" s__law_text ["sorts", "cells"]) (B : Bl mg) : C8.Cal P w K mg base 1 "_law_text" spText2 [] := by
  refine cal_of Dt sc__law_text (fun vs H Q E h => ?_) (fun f cdv A outer s H vs Q E hr h => ?_)
  · obtain ⟨a, d, ks, kvs, rfl, _⟩ := h
    rfl
  · obtain ⟨a, d, ks, kvs, rfl, hks, ha, hd, hC, hl, q⟩ := h
    refine ⟨_, pss_cons (ps_set (i := 2) sc__law_text.nd rfl (.inl rfl) (pe_lst (pa_cons (pe_join pe_str (pe_op op_cat (pe_lst (pa_cons pe_str pa_nil)) (pv 0))) pa_nil)))
      (pss_cons (ps_lock (ps_for PassesOwn.never rfl (pi_keys (pv 1)) (pg_name (i := 3) sc__law_text.nd rfl (.inl rfl)) (pss_one (ps_expr (pe_bm PySem.F.plainAttrs_list PySem.F.slot_list_append PySem.F.type_list_append mt_append (pv 2) (pa_cons (pe_join pe_str (pe_op op_cat (pe_callTy call_list_of (by rfl) B.list (by decide +kernel) (pa_cons (pv 3) pa_nil)) (pe_dget (by have := hr.units; exact Nat.lt_of_le_of_lt (Nat.add_le_add_left (by decide) _) this) (pv 1) (pv 3) (fun _ _ => rfl)))) pa_nil))))))
      (pss_one (ps_ret (pe_join pe_str (pv 2))))), ?_⟩
    obtain ⟨cs, hk, hg, hlen, hat⟩ := cells_of hC.2
    have nd : (cs.map nmOf).Nodup := hk ▸ hC.1
    have CC : Cells ks cs := ⟨nd, hg, by omega⟩
    have LD : LDict H kvs cs := ⟨hk, hat⟩
    have l7 := len7 hks
    have ad : a ≠ d := ne_of ha hd fun z => by cases z
    refine q_asgL (xs := sl [headOf ks]) (el_lst (ea_cons (ev_join (ys := "kinds" :: ks) ev_c (el_catR (xs := sl ["kinds"]) (ys := sl ks) (el_lst (ea_str ea_nil) (by decide)) (ev_var rfl) ha (by rw [XB.len_sl, XB.len_sl]; show 1 + _ ≤ _; omega)) (by
      refine join_bound (B := 16) (n := 4) (fun p hp => ?_) (by show ks.length + 1 ≤ 4; omega) (by decide) rfl
      rcases List.mem_cons.mp hp with rfl | hp
      · decide
      · exact (small_ks hks p hp).len)) ea_nil) (by show 1 ≤ 100000; decide)) fun l H1 nl e1 hl1 => ?_
    have hd1 := e1 _ _ hd
    have ld : l ≠ d := (ne_of_none hd nl).symm
    refine ⟨d, .dT kvs, hd1, trivial, fun od => ⟨_, rfl, d, od, rfl, .inr ⟨kvs, upd_same, for_it walk_keysT
      (fun i σ G => ∃ y3, σ = [some (.ref a), some (.ref d), some (.ref l), y3] ∧ Ex (upd H d (.frz od (.dT kvs))) G ∧ G l = some (.lst (sl (headOf ks :: (cs.take i).map lineOf)))) ⟨_, rfl, fun b o hb => ?_, kpm hl1 ld⟩ (fun i σ G _ ⟨_, _, e, _⟩ => e _ _ upd_same) ?_ ?_⟩⟩⟩
    · by_cases bd : b = d
      · subst bd
        rw [upd_same] at hb ⊢
        exact hb
      · rw [upd_ne bd] at hb ⊢
        exact e1 _ _ hb
    · rintro i x σ G G' hi ⟨y3, rfl, eG, hG⟩ ⟨rfl, k, v, qa, hkv, rfl, hq⟩
      have hc : cs[i]? = some (cs[i]'(by omega)) := List.getElem?_eq_getElem _
      generalize cs[i]'(by omega) = c at hc
      obtain ⟨b, hb1, hb2⟩ := hat i c hc
      rw [hkv] at hb1
      obtain ⟨rfl, rfl⟩ : k = nmOf c ∧ v = .ref b := by
        injection hb1 with e
        injection e with e1 e2
        exact ⟨e1, e2⟩
      obtain ⟨sp1, sp2⟩ := small_parts hks (hg c (List.mem_of_getElem? hc))
      have bd : b ≠ d := ne_of hb2 hd fun z => by cases z
      have hb3 : G' b = some (.lst (sl c.2.2.2)) := eG _ _ (kpm hb2 bd)
      refine ⟨_, rfl, .inl ⟨rfl, _, SqL.of hG⟩, (ev_join (K := K) (σ := [some (.ref a), some (.ref d), some (.ref l), some (.ref qa)]) (ta := tC (.str " ")) (tb := tOp rCat (tCB (rListS K) (tCons (tVar 3) tNil)) (tDGet (tVar 1) (tVar 3))) (ys := partsOf c) ev_c (el_is (el_catR (xs := sl [c.1, c.2.1, c.2.2.1]) (ys := sl c.2.2.2) (el_listS (ev_var rfl) (.inr (SqT.of hq))) (ev_dget (ev_var rfl) (ev_var rfl) (.inr ⟨od, eG _ _ upd_same⟩) hq (valV_at hC.1 hkv)) hb3 ?_) ?_) (join_bound (B := 16) (n := 8) (fun p hp => (sp1 p hp).len) sp2 (by decide) rfl)) G' (Ex.refl G') _ fun H4 e4 => ?_⟩
      · have : c.2.2.2.length + 1 + 1 + 1 ≤ 8 := sp2
        rw [XB.len_sl c.2.2.2]
        show 3 + _ ≤ _
        omega
      · exact sl_cat _ _
      · have nlB : (upd H d (.frz od (.dT kvs))) l = none := by rw [upd_ne ld]; exact nl
        refine ⟨l, _, _, rfl, rfl, e4 _ _ hG, ?_, _, rfl, Ex.mut (eG.trans e4) nlB, at_sl (ys := [lineOf c]) upd_same ?_⟩
        · rw [XB.len_sl, List.length_cons, List.length_map, List.length_take, sizeLine_eq]
          omega
        · rw [List.take_succ, hc, List.map_append]
          rfl
    · rintro σ G ⟨y3, rfl, eG, hG⟩
      have hdG := eG _ _ (upd_same (H := H) (a := d) (o := .frz od (.dT kvs)))
      refine ⟨hdG, ?_⟩
      have eN : Ex H (upd G d (.dT kvs)) := fun b o hb => by
        by_cases bd : b = d
        · subst bd
          rw [hd] at hb
          rw [upd_same]
          exact hb
        · rw [upd_ne bd]
          exact eG _ _ (by rw [upd_ne bd]; exact hb)
      have hlN : (upd G d (.dT kvs)) l = some (.lst (sl (headOf ks :: cs.map lineOf))) := by
        rw [upd_ne ld, hG, show kvs.length = cs.length from hlen.symm, List.take_length]
      refine s_ret (ev_joinS (ys := headOf ks :: cs.map lineOf) ev_c (ev_var rfl) (.inl (SqL.of hlN)) (join_bound (B := 136) (n := 28) (fun p hp => ?_) (by rw [List.length_cons, List.length_map]; have := CC.few; omega) (by decide) rfl)) fun H2 e2 => q cs H2 (eN.trans e2) CC LD
      rcases List.mem_cons.mp hp with rfl | hp
      · exact Nat.le_trans (head_len hks) (by decide)
      · obtain ⟨c, hc, rfl⟩ := List.mem_map.mp hp
        exact line_len hks (hg c hc)
end
end T
namespace T
open PySem PySem.Spec PyProof.Rows L2 Evl XB TL XS XI XC ClX XDt
/-! ### lists of lists of words -/
structure RowsL (H : Hp) (vs : List V) (wss : List (List Str)) : Prop where
  len : vs.length = wss.length
  at_ : ∀ (i : Nat) ws, wss[i]? = some ws → ∃ l : Addr, vs[i]? = some (.ref l) ∧ H l = some (.lst (sl ws))
theorem RowsL.ex {H H' : Hp} {vs : List V} {wss : List (List Str)} (h : RowsL H vs wss) (e : Ex H H') : RowsL H' vs wss := ⟨h.len, fun i ws hw => by
  obtain ⟨l, h1, h2⟩ := h.at_ i ws hw
  exact ⟨l, h1, e _ _ h2⟩⟩
section
variable {σ : L2.St} {H H' G : Hp} {te : TE} {ta : TA} {ws : List Str} {wss : List (List Str)} {Q : VK}
def EvRs (ta : TA) (σ : L2.St) (H : Hp) (wss : List (List Str)) : Prop := ∀ H1, Ex H H1 → ∀ Q : List V → Hp → Prop, (∀ vs H2, Ex H1 H2 → RowsL H2 vs wss → Q vs H2) → ta σ H1 Q
theorem er_nil : EvRs tNil σ H [] := fun H1 e Q q => q [] H1 (Ex.refl H1) ⟨rfl, fun i ws h => by cases h⟩
theorem er_cons (h : EvL te σ H (sl ws)) (hr : EvRs ta σ H wss) : EvRs (tCons te ta) σ H (ws :: wss) := fun H1 e Q q =>
  h H1 e _ fun l H2 _ e2 hl => hr H2 (e.trans e2) _ fun vs H3 e3 R => q _ H3 (e2.trans e3) ⟨by rw [List.length_cons, List.length_cons, R.len], fun i us hu => by
    cases i with
    | zero => cases hu; exact ⟨l, rfl, e3 _ _ hl⟩
    | succ i => exact R.at_ i us hu⟩
theorem q_rows {i : Nat} {tz : TS} {D' : Ends} (h : EvRs ta σ H wss) (hz : wss.length ≤ 1000) (k : ∀ L vs H1, H L = none → Ex H H1 → H1 L = some (.lst vs) → RowsL H1 vs wss → tz D' (σ.set i (some (.ref L))) H1) : tSeq (tAsg (tLst ta) (gName i)) tz D' σ H :=
  h H (Ex.refl H) _ fun vs H2 e2 R => ⟨by rw [R.len, sizeLine_eq]; omega, fun L nL => k L vs _ (fresh_back e2 nL) (e2.trans (Ex.new nL)) upd_same (R.ex (Ex.new nL))⟩
end
section
variable {P : Program} {w : World} {K : PySem.W.Frag} {mg : Str → Option Value} {base : Heap} {C : Addr}
def menu7k : List (List Str) := [["put"], ["out"], ["set"], ["put", "out"], ["put", "set"], ["out", "set"], ["put", "out", "set"]]
def spSorts2 : Sp := fun vs H Q _ => ∃ (p : Addr) (m : Nat), vs = [.ref p, .int (m : Nat)] ∧ Purse H p ∧ 1 ≤ m ∧ ∀ l ks H', ks ∈ kinds7 → ks.length ≤ m → H' l = some (.lst (sl ks)) → l ≠ p → Purse H' p → Chg p H H' → Q (.ref l) H'
theorem c_sorts2 (D : At K mg "_law_sorts" s__law_sorts ["purse", "most_here"]) (B : Bl mg) (Cp : C8.Cal P w K mg base 2 "_law_pick" (spPick K) []) : C8.Cal P w K mg base 3 "_law_sorts" spSorts2 [] := by
  refine cal_of D sc__law_sorts (fun vs H Q E h => ?_) (fun f cdv A outer s H vs Q E hr h => ?_)
  · obtain ⟨p, m, rfl, _⟩ := h
    rfl
  · obtain ⟨p, m, rfl, hp, hm, q⟩ := h
    refine ⟨_, pss_cons (ps_set (i := 2) sc__law_sorts.nd rfl (.inl rfl) (pe_lst (pa_cons (pe_lst (pa_cons pe_str pa_nil)) (pa_cons (pe_lst (pa_cons pe_str pa_nil)) (pa_cons (pe_lst (pa_cons pe_str pa_nil)) (pa_cons (pe_lst (pa_cons pe_str (pa_cons pe_str pa_nil))) (pa_cons (pe_lst (pa_cons pe_str (pa_cons pe_str pa_nil))) (pa_cons (pe_lst (pa_cons pe_str (pa_cons pe_str pa_nil))) (pa_cons (pe_lst (pa_cons pe_str (pa_cons pe_str (pa_cons pe_str pa_nil)))) pa_nil)))))))))
      (pss_one (ps_ret (C8.pe_c Cp hr (by decide) (by rfl) (pa_cons (pv 0) (pa_cons (pe_lc (own := [("row", 3)]) (g := gName 3) (tt := tTest (tOp (rI0 fun i j => V.bl (decide (i ≤ j))) (tCB (rLenS K) (tCons (tVar 3) tNil)) (tVar 1))) (te := tVar 3) rfl sc__law_sorts.nd (pi_list (pv 2)) (blkOk_by (own := [("row", 3)]) (N := N__law_sorts) (sc := defScope s__law_sorts) (by decide +kernel)) (fun _ _ _ _ _ => pg_name (i := 3) sc__law_sorts.nd rfl (Or.inl rfl)) (fun _ _ _ _ _ => pts_one (pt_cmpR op_le (pe_callB call_len_seq (by rfl) B.len (by decide +kernel) (pa_cons (pv 3) pa_nil)) (pv 1) (nomark _))) (fun _ _ _ _ _ => pv 3)) pa_nil))))), ?_⟩
    have el3 : ∀ {x y z : Str} {σ : L2.St} {H : Hp}, EvL (tLst (tCons (tC (.str x)) (tCons (tC (.str y)) (tCons (tC (.str z)) tNil)))) σ H (sl [x, y, z]) := el_lst (ea_str (ea_str (ea_str ea_nil))) (by show 3 ≤ 100000; decide)
    refine q_rows (wss := menu7k) (er_cons el_1 (er_cons el_1 (er_cons el_1 (er_cons el_2 (er_cons el_2 (er_cons el_2 (er_cons el3 er_nil))))))) (by decide) fun L vs H1 nL e1 hL R => ?_
    have hp1 := purse_ex hp e1
    have vl : vs.length = 7 := R.len
    refine ⟨_, rfl, _, rfl, L, rfl, ⟨_, SqL.of hL⟩, fun D nD => lc_list (K := K) (a := L) (xs := vs) (fun i G => ∃ acc, Ex H1 G ∧ G D = some (.lst acc) ∧ (∀ v ∈ acc, ∃ l ws, v = V.ref l ∧ ws ∈ kinds7 ∧ ws.length ≤ m ∧ H1 l = some (.lst (sl ws))) ∧ acc.length ≤ i ∧ (0 < i → acc ≠ []))
      ⟨[], Ex.new nD, upd_same, (fun v hv => by cases hv), Nat.le_refl _, fun z => absurd z (Nat.lt_irrefl 0)⟩ (fun i G _ ⟨_, e, _⟩ => SqL.of (e _ _ hL)) (fun i x G hx ⟨acc, eG, hG, hA, hl, hne⟩ => ?_) (fun G ⟨acc, eG, hG, hA, hl, hne⟩ => ?_)⟩
    · have hi7 : i < 7 := by rw [← vl]; exact (List.getElem?_eq_some_iff.mp hx).1
      obtain ⟨ws, hws⟩ : ∃ ws, menu7k[i]? = some ws := ⟨menu7k[i]'hi7, List.getElem?_eq_getElem _⟩
      obtain ⟨l, hv, hl1⟩ := R.at_ i ws hws
      rw [hx] at hv
      injection hv with hv
      subst hv
      have wk : ws ∈ kinds7 := (show ∀ ws ∈ menu7k, ws ∈ kinds7 by decide) ws (List.mem_of_getElem? hws)
      have lG := eG _ _ hl1
      refine ⟨rfl, (et_test (σ := [some (.ref p), some (.int (m : Nat)), some (.ref L), some (.ref l)]) (ev_op (ev_len (K := K) (ta := tVar 3) (ev_var rfl) (SqL.of lG)) (ev_var (i := 1) rfl) rv_I0)) G (Ex.refl _) _ fun G2 e2 => ?_⟩
      cases hb : decide (((sl ws).length : Int) ≤ (m : Int)) with
      | false =>
        refine iteF ⟨acc, eG.trans e2, e2 _ _ hG, hA, Nat.le_succ_of_le hl, fun _ => ?_⟩
        by_cases i0 : 0 < i
        · exact hne i0
        · exfalso
          have : i = 0 := by omega
          subst this
          cases hws
          have := of_decide_eq_false hb
          exact this (by show (1 : Int) ≤ m; omega)
      | true =>
        have hb := of_decide_eq_true hb
        rw [XB.len_sl] at hb
        have nDH : H1 D = none := nD
        refine iteT ⟨_, rfl, acc, e2 _ _ hG, by rw [sizeLine_eq]; omega, acc ++ [.ref l], Ex.mut (eG.trans e2) nDH, upd_same, fun v hv => ?_, by rw [List.length_append]; show _ + 1 ≤ _; omega, fun _ => by simp⟩
        rcases List.mem_append.mp hv with hv | hv
        · exact hA v hv
        · exact ⟨l, ws, List.mem_singleton.mp hv, wk, by omega, hl1⟩
    · have an := hne (by rw [vl]; decide)
      have hpG := purse_ex hp1 eG
      refine ⟨p, .ref D, rfl, hpG, .inl ⟨D, acc, rfl, (hp1.ne nD).symm, SqL.of hG, an, by rw [vl] at hl; omega, fun v hv G2 p2 c2 => ?_⟩⟩
      obtain ⟨l, ws, rfl, wk, wl, hl1⟩ := hA v hv
      have lp : l ≠ p := by
        obtain ⟨d1, d2, d3, e⟩ := hp1
        refine ne_of hl1 e fun z => ?_
        injection z with z
        cases ws with
        | nil => cases z
        | cons y r => injection z with z _; cases z
      exact q l ws G2 wk wl (c2 _ _ lp (eG _ _ hl1)) lp p2 ((Same.chg (e1.trans eG)).trans c2)
end
end T
/-! Own: a def that nothing raises in, called within an except suite, whatever is known of what is handled; str of an instance there. -/
namespace XHot
open PySem PySem.Spec PyProof.Rows L2 L2H
/-- a def, called where something may be handled: its object's pin is all that is asked -/
structure FnW (P : Program) (w : World) (K : PySem.W.Frag) (mg : Str → Option Value) (base : Heap) (k : Nat) (f : Addr) (fd : FuncData) (ps : List Str) (sp : Sp) : Prop where
  run : ∀ (A : Around) (st : List Env) (s : Shared) (H : Hp) (args : Args) (us : List Value) (vs : List V) (Q : VK) (p : Addr × Obj), RoomH k A → PinOk st H s p → Env0 P w K mg base A st s H → BindsTo s fd args (ps.zip us) → Vals vs us → vs.length = ps.length → sp vs H Q E0 →
    codeAny (model P w) A (.call (.ref f) args) (CR CX0 st P w H s Q E0) s
theorem fnW_of {P : Program} {w : World} {K : PySem.W.Frag} {mg : Str → Option Value} {base : Heap} {k : Nat} {f : Addr} {nm ql : Str} {prm : Arguments} {bd : List Stmt} {sc : Scope} {dV kV dc pm cv ct oc : Value} {an od : Option Addr}
    {osl : Array (Option Value)} {N ps : List Str} {sp : Sp} (at_ : K.lookup f = some ⟨oc, od, .func (PySem.W.fnOf nm ql prm bd sc dV kV dc pm an cv ct), osl⟩) (code : PySem.W.codeIn K cv ql = true) (S : FnScope N ps sc)
    (body : ∀ (A : Around) (st : List Env) (s : Shared) (H : Hp) (vs : List V) (Q : VK) (p : Addr × Obj), RoomH k (A.deeper (envOfC ql sc s.heap.objs.size f cv)) → sp vs H Q E0 →
      ∃ t, PSs (cxH CX0 P w K mg base N ql sc f cv A st s H E0 p) bd t ∧ t { nx := fun _ H' => Q .non H', rt := Q } (L2.start N vs) H) :
    FnW P w K mg base (k + 1) f (PySem.W.fnOf nm ql prm bd sc dV kV dc pm an cv ct) ps sp := by
  refine ⟨fun A st s H args us vs Q p room pin e0 bi rl hl want => ?_⟩
  have kx : K.In s.heap := e0.mod.kin.keeps fun b o e => (e0.bs b o e).1
  have nl : s.heap.NoLimit := e0.mod.nolimit.keeps fun b o e => (e0.bs b o e).1
  refine codeAny_call_function room.depth (kx _ _ at_) rfl S.co S.gen rfl (PySem.W.codeRec_of kx code) (bi _ _ _ _ ?_)
  refine wpAny_newFunctionEnv_cells S.kind (fun ⟨n, v⟩ hy => ?kinds) fun env he s1 x => ?_
  case kinds =>
    rcases S.par n (List.of_mem_zip hy).1 with q | q
    · exact .inl q
    · exact .inr ⟨q, PySem.W.cellsFrom_some _ _ _ (.inl q)⟩
  subst he
  refine ⟨nl.keeps x.toInCall.keep, codeAny_func ?_⟩
  obtain ⟨t, ht, hq⟩ := body A st s H vs Q p (room.deeper _) want
  refine wpAny_mono (ht.run [] s1 (L2.start N vs) H _ (inv_startH S pin e0 hl rl x) hq) (fun fl s' hs => ?_) fun e s' hs => hs
  cases fl with
  | ret u =>
    obtain ⟨v, σ', H', J, rv, q⟩ := hs
    exact ⟨v, H', J.os, J.bare, J.base, J.hok, rv, q⟩
  | next =>
    obtain ⟨σ', H', J, q⟩ := hs
    exact ⟨.non, H', J.os, J.bare, J.base, J.hok, rfl, q⟩
  | brk =>
    obtain ⟨_, _, _, z⟩ := hs
    exact z.elim
  | cont =>
    obtain ⟨_, _, _, z⟩ := hs
    exact z.elim
section
variable {X : Cx} {k : Nat} {C f a dx : Addr} {fs : List (Str × V)} {fd : FuncData} {sp : Sp}
theorem run_ownW {pins : List (Addr × Obj)} {σ : L2.St} {H : Hp} {s : Shared} {Q : VK} {A : Around} {G : Value → Shared → Prop} {p : Addr × Obj} (F : FnW X.prog X.w X.K X.mg X.base k f fd ["self"] sp) (hr : RoomH k A) (pin : PinOk X.stack H s p) (he : Env0 X.prog X.w X.K X.mg X.base A X.stack s H)
    (hb : Binds X.K fd ["self"] []) (I : L2.Inv X pins σ H s) (h : sp [.ref a] H Q E0) : wpAny (model X.prog X.w) A (call (.ref f) [.ref a]) (EP X pins σ Q) G s := by
  refine wpAny_call (codeAny_mono (F.run A X.stack s H ⟨[.ref a], []⟩ [.ref a] [.ref a] Q p hr pin he (hb s [.ref a] I.kIn rfl) (.cons rfl .nil) rfl h) fun r s' hq => ?_)
  cases r with
  | error er => exact hq.elim
  | ok fl =>
    cases fl with
    | ret u => exact I.after hq
    | _ => exact False.elim hq
/-- an object that every state of this context bears -/
def PnC (X : Cx) : Prop := ∃ p : Addr × Obj, p ∈ X.pn
theorem call_strW (O : XO.Own X.K C "__str__" f) (F : FnW X.prog X.w X.K X.mg X.base k f fd ["self"] sp) (hr : RoomH (k + 1) X.A) (hc : PnC X) (hb : Binds X.K fd ["self"] []) : CallR X (.type "str") (XO.rStrO C sp) := by
  intro pins s σ H xs us Q I r h
  obtain ⟨a, dx, fs, rfl, ea, q⟩ := h
  obtain rfl := Vals.ref1 r
  obtain ⟨od, J⟩ := XO.inst_look I ea
  obtain ⟨p, hp⟩ := hc
  have P1 := I.pin p (List.mem_append_left _ hp)
  have pin : PinOk X.stack H s p := ⟨P1.1, P1.2.1, fun hm => (List.mem_cons.mp (I.stkSub p.1 hm)).elim P1.2.2.1 P1.2.2.2.1, P1.2.2.2.2⟩
  have rH : RoomH k X.A.in1.in1 := ⟨by have := hr.dp; show X.A.depth + 3 * k + 5 < _; omega, by have := hr.un; show X.A.units + 1 + 1 + 16 * k + 200 < _; omega⟩
  refine PySem.W.kso_call (by have := hr.un; show X.A.units + 1 + 1 < cLine; omega) I.kIn J O.at_ O.fn (thn (run_ownW F rH pin I.env0.in1.in1 hb I q) fun u s1 ⟨v, H1, I1, rv, z, ev, q1⟩ => ?_)
  subst ev
  obtain ⟨t, rfl⟩ := rv
  exact ⟨.str z, H1, I1, ⟨_, rfl⟩, q1⟩
end
end XHot
namespace T
open PySem PySem.Spec PyProof.Rows L2 Evl XB TL XS XI XC ClX XSp LamX
/-! ### _law_caught of three classes -/
theorem roomH_sx {k : Nat} {A : Around} {env : Env} {h : Option Value} (r : Room (k + 1) A) : L2H.RoomH k ((A.deeper env).mark h) := ⟨(r.deeper env).dp, (r.deeper env).un⟩
structure OwnW (P : Program) (w : World) (K : PySem.W.Frag) (mg : Str → Option Value) (base : Heap) (k : Nat) (C : Addr) (m : Str) (sp : Sp) : Prop where
  ex : ∃ (f : Addr) (fd : FuncData), XHot.FnW P w K mg base k f fd ["self"] sp ∧ XO.Own K C m f ∧ Binds K fd ["self"] []
/-- str of a table, called in an except suite -/
theorem p_strW {P : Program} {w : World} {K : PySem.W.Frag} {mg : Str → Option Value} {base : Heap} {C : Addr} (D : MetD K C "__str__" "Table.__str__" s_Table___str__) (T : TabC K mg C) : OwnW P w K mg base 1 C "__str__" (spStrP K C) := by
  obtain ⟨f, fd, F, hp, hb⟩ := D.ex
  obtain ⟨oc, od, kV, doc, pm, an, cdv, ct, osl, rfl, lk, hcd⟩ := F.ex
  refine ⟨f, _, XHot.fnW_of lk hcd sc_Table___str__ (fun A st s H vs Q p hr h => ?_), hp, hb⟩
  obtain ⟨x, ks, lns, rfl, tt, hks, hl, hx2, q⟩ := h
  obtain ⟨dx, D', a, r, hx, h1, h2⟩ := tt.raw
  refine ⟨_, pss_one (ps_ret (pe_join pe_str (pe_lst (pa_cons (pe_op op_add_str pe_str (pe_join pe_str (pe_fld (pv 0) rfl))) (StX.pa_star (pe_fld (pv 0) rfl) pa_nil))))), ?_⟩
  refine s_ret (ev_join (ys := headOf ks :: lns) ev_c (el_lst (ea_cons (ev_is (ev_addS ev_c (ev_joinS (ys := ks) ev_c (ev_fld (ev_var rfl) hx T.cl T.k rfl) (.inr h1) ?_) ?_) (by rw [head_eq hks])) (ea_is (ea_star (ev_fld (ev_var rfl) hx T.cl T.r rfl) h2 ea_nil) (List.append_nil _))) ?_) ?_) fun H1 e1 => q H1 e1
  · exact join_bound (B := 16) (n := 3) (fun p hp => (small_ks hks p hp).len) (len7 hks) (by decide) rfl
  · have := join_le (B := 16) (n := 3) (ws := ks) (fun p hp => (small_ks hks p hp).len) (len7 hks) (sep := " ") rfl
    show 6 + _ ≤ _
    omega
  · rw [XB.len_sl]
    show lns.length + 1 ≤ _
    omega
  · refine join_bound (B := 136) (n := 28) (fun p hp => ?_) (by show lns.length + 1 ≤ 28; omega) (by decide) rfl
    rcases List.mem_cons.mp hp with rfl | hp
    · exact Nat.le_trans (head_len hks) (by decide)
    · exact hx2 p hp
def errN3 : List Str := ["NotATable", "OtherKinds", "InvalidKinds"]
def basN3 : List Str := ["BadValue", "BadName", "NoAnswer"]
structure ErrM3 (mg : Str → Option Value) (c b : Nat → Addr) : Prop where
  cls : ∀ (j : Nat) (n : Str), errN3[j]? = some n → mg n = some (.ref (c j))
  bas : ∀ (j : Nat) (n : Str), basN3[j]? = some n → mg n = some (.ref (b j))
theorem err3_at : ∀ j, j < 3 → ([.str "NotATable", .str "OtherKinds", .str "InvalidKinds"] : List V)[j]? = some (.str (errN3.getD j ""))
  | 0, _ | 1, _ | 2, _ => rfl
theorem oth_at : ∀ j, j < 3 → decide (V.str (errN3.getD j "") = V.str "OtherKinds") = decide (j = 1)
  | 0, _ | 1, _ | 2, _ => by decide
def bb3 (j : Nat) : List V := [.bl (decide (0 = j)), .bl (decide (1 = j)), .bl (decide (2 = j))]
theorem bb3_at (j : Nat) : ∀ m, m < 3 → (bb3 j)[m]? = some (.bl (decide (m = j)))
  | 0, _ | 1, _ | 2, _ => rfl
theorem bb_facts : ∀ j, j < 3 → ((bb3 j).countP fun z => eqV z (.bl true)) = 1 ∧ (bb3 j)[j]? = some (.bl true) ∧ (bb3 j).all flatV = true ∧ (∀ m z', m < j → (bb3 j)[m]? = some z' → eqV z' (.bl true) = false) := by
  have no : ∀ {b : Bool}, b = false → eqV (.bl b) (.bl true) = false := fun h => by rw [h]; rfl
  intro j hj
  match j, hj with
  | 0, _ | 1, _ | 2, _ => exact ⟨rfl, rfl, rfl, fun m z' hm hz => by rw [bb3_at _ m (by omega)] at hz; cases hz; exact no (decide_eq_false (by omega))⟩
/-- what the class at D says of itself: it is the j-th error, a BadValue -/
structure ErrF3 (K : PySem.W.Frag) (c b : Nat → Addr) (D : Addr) (j : Nat) : Prop where
  no : PySem.W.findIn K (.ref D) "given" = some none
  ex : PySem.W.exmAny K (.ref D) [.ref (b 0), .ref (b 1), .ref (b 2)] = some true
  kc : ∀ i, i < 3 → PySem.W.kitOne K (.ref D) (.ref (c i)) = some (decide (i = j))
  kb : PySem.W.kitOne K (.ref D) (.ref (b 0)) = some true
/-- the text that is told of the value that is kept -/
def ShwE (K : PySem.W.Frag) (C : Addr) (j : Nat) (v : V) (z : Str) (H : Hp) : Prop := (j = 1 → ∃ x ks cs, v = .ref x ∧ TabW K C H x ks cs ∧ ks ∈ kinds7 ∧ Cells ks cs ∧ z = textOf ks (cs.map lineOf)) ∧ (j ≠ 1 → ∀ H2, Ex H H2 → XO2.Shw K H2 v z)
def TCaught3 (K : PySem.W.Frag) (C : Addr) (c b : Nat → Addr) : (XK → Hp → VK → Prop) → Hp → VK → Prop := fun tl H Q =>
  tl (fun cls d H' => ∃ (D : Addr) (j : Nat) (v : V) (z : Str), j < 3 ∧ Held K cls d D [("given", v)] H' ∧ ErrF3 K c b D j ∧ ShwE K C j v z H' ∧ ∀ l H'', Ex H' H'' → H'' l = some (.lst [.str (errN3.getD j ""), .str z]) → Q (.ref l) H'')
    H fun _ H' => tLst tNil [] H' Q
def tSuite3 (K : PySem.W.Frag) (C : Addr) (c b : Nat → Addr) (a : Addr) (cls : Value) (d : Option Addr) : TS :=
  tSeq (tAsg (tLst (tCons (tCB (rAsk K a cls d) (tCons (tVar 1) (tCons (tC (V.ref (c 0))) tNil))) (tCons (tCB (rAsk K a cls d) (tCons (tVar 1) (tCons (tC (V.ref (c 1))) tNil))) (tCons (tCB (rAsk K a cls d) (tCons (tVar 1) (tCons (tC (V.ref (c 2))) tNil))) tNil)))) (gName 2))
  (tSeq (tIfS (tOr (tTest (tOp rNe (tBM K "list" (rCntF K) (tVar 2) (tCons (tC (.bl true)) tNil)) (tC (.int 1)))) (tNot (tB (tCB (rAsk K a cls d) (tCons (tVar 1) (tCons (tC (V.ref (b 0))) tNil)))))) (tRet (tLst (tCons (tC (.str "another error")) tNil))) tNext)
  (tSeq (tAsg (tOp (rIxL K) (tLst (tCons (tC (.str "NotATable")) (tCons (tC (.str "OtherKinds")) (tCons (tC (.str "InvalidKinds")) tNil)))) (tBM K "list" (rIndex K) (tVar 2) (tCons (tC (.bl true)) tNil))) (gName 3))
  (tRet (tLst (tCons (tVar 3) (tCons (tIf (tTest (tOp rEq (tVar 3) (tC (.str "OtherKinds")))) (tCB (XO.rStrO C (spStrP K C)) (tCons (tOf K a cls d "given" (tVar 1)) tNil)) (tCB (XO2.rReprQ K) (tCons (tOf K a cls d "given" (tVar 1)) tNil))) tNil))))))
theorem caught3_gives {X : Cx} {C : Addr} {c b : Nat → Addr} {g : Addr} {cdg : Value} {q : Str} (M : ErrM3 X.mg c b) (B : Bl X.mg) (Os : OwnW X.prog X.w X.K X.mg X.base 1 C "__str__" (spStrP X.K C)) (hc : XG.Calm X.A) (hr : Room 3 X.A) :
    GivesTo X N__law_caught "_law_caught" (defScope s__law_caught) g cdg (defBody s__law_caught) "act" q (TCaught3 X.K C c b) := by
  obtain ⟨fs, fds, Fs, os, bs⟩ := Os.ex
  intro f c' s H Q tl act hco h
  have huS : X.A.units + 3 + 64 < cLine := by have := hr.un; omega
  refine' ⟨_, pss_cons (ps_try_tup3 (X := (cxOf C8.CX0 X.prog X.w X.K X.mg X.base N__law_caught "_law_caught" (defScope s__law_caught) g cdg X.A X.stack s H C8.E0).nox)
      (tb := fun W D σ H => ∃ Ech : XK, (∀ cls d σ' H', Ech cls d H' → W cls d σ' H') ∧ σ[0]? = some (some (.ref f)) ∧ H c' = some (CodeO c' q) ∧ tl Ech H fun _ H' => D.nx σ H')
      (i := 1) (ts := tSuite3 X.K C c b) rfl rfl sc__law_caught.nd rfl rfl ⟨rfl, by decide, .inl (M.bas 0 "BadValue" rfl)⟩ ⟨rfl, by decide, .inl (M.bas 1 "BadName" rfl)⟩ ⟨rfl, by decide, .inl (M.bas 2 "NoAnswer" rfl)⟩ LamX.takes0 ?body ?suite)
      ?ret, ?sem⟩
  case suite =>
    intro a oe cls d pn hz hf
    exact pss_cons (ps_set (i := 2) sc__law_caught.nd rfl (.inl rfl) (pe_lst (pa_cons (pe_callB (XSp.call_ask hz hf) (by rfl) B.isin (by decide +kernel) (pa_cons (pv 1) (pa_cons (pe_glob (v := .ref (c 0)) (by rfl) (M.cls 0 "NotATable" (by rfl)) rfl) pa_nil))) (pa_cons (pe_callB (XSp.call_ask hz hf) (by rfl) B.isin (by decide +kernel) (pa_cons (pv 1) (pa_cons (pe_glob (v := .ref (c 1)) (by rfl) (M.cls 1 "OtherKinds" (by rfl)) rfl) pa_nil))) (pa_cons (pe_callB (XSp.call_ask hz hf) (by rfl) B.isin (by decide +kernel) (pa_cons (pv 1) (pa_cons (pe_glob (v := .ref (c 2)) (by rfl) (M.cls 2 "InvalidKinds" (by rfl)) rfl) pa_nil))) pa_nil)))))
      (pss_cons (ps_if (PW.pt (by exact (pw_or (pt_cmpR op_ne (pe_bm PySem.F.plainAttrs_list PySem.F.slot_list_count PySem.F.type_list_count XSp.mt_cntF (pv 2) (pa_cons pe_bl pa_nil)) pe_int (nomark _)) (pw_or1 (pt_not (pt_val (pe_callB (XSp.call_ask hz hf) (by rfl) B.isin (by decide +kernel) (pa_cons (pv 1) (pa_cons (pe_glob (v := .ref (b 0)) (by rfl) (M.bas 0 "BadValue" (by rfl)) rfl) pa_nil))))))))) (pss_one (ps_ret (pe_lst (pa_cons pe_str pa_nil)))) pss_nil)
      (pss_cons (ps_set (i := 3) sc__law_caught.nd rfl (.inl rfl) (pe_ix ix_list (pe_lst (pa_cons pe_str (pa_cons pe_str (pa_cons pe_str pa_nil)))) (pe_bm PySem.F.plainAttrs_list PySem.F.slot_list_index PySem.F.type_list_index mt_index (pv 2) (pa_cons pe_bl pa_nil)) (fun _ _ => rfl)))
      (pss_one (ps_ret (pe_lst (pa_cons (pv 3) (pa_cons (pe_ifExp (pt_cmpR op_eq (pv 3) pe_str (nomark _)) (pe_callTy (XHot.call_strW os Fs (roomH_sx hr) ⟨_, List.mem_cons_self⟩ bs) (by rfl) B.str (by decide +kernel) (pa_cons (XSp.pe_of (f := "given") hz hf (pv 1) (by rfl)) pa_nil)) (pe_callB (XO2.call_reprQ (by exact hc) (by exact huS)) (by rfl) B.repr (by decide +kernel) (pa_cons (XSp.pe_of (f := "given") hz hf (pv 1) (by rfl)) pa_nil))) pa_nil)))))))
  case ret => exact pss_one (ps_ret (pe_lst pa_nil))
  case body =>
    intro W pn xe tk _
    exact ⟨fun pins s' σ H' D I ⟨Ech, hW, h1, h2, h3⟩ => (pss_one (ps_expr (act W pn xe Ech _ _ tk hW))).run pins s' σ H' D I ⟨h1, h2, h3⟩⟩
  case sem =>
    refine ⟨fun cls d H' => ∃ (D : Addr) (j : Nat) (v : V) (z : Str), j < 3 ∧ Held X.K cls d D [("given", v)] H' ∧ ErrF3 X.K c b D j ∧ ShwE X.K C j v z H' ∧ ∀ l H'', Ex H' H'' → H'' l = some (.lst [.str (errN3.getD j ""), .str z]) → Q (.ref l) H'', ?_, rfl, hco, ?_⟩
    · rintro cls d σ' H' ⟨D, j, v, z, hj, hh, ⟨no, ex, kc, kb⟩, dp, q⟩
      have hcls := hh.1
      refine ⟨true, by rw [hcls]; exact ex, fun _ a na hl => ?_, fun z => by cases z⟩
      obtain ⟨s0, s1, s2, s3, rfl⟩ : ∃ s0 s1 s2 s3, σ' = [s0, s1, s2, s3] := by
        match σ', hl with
        | [s0, s1, s2, s3], _ => exact ⟨_, _, _, _, rfl⟩
      have kA : ∀ {i : Nat} {G : Hp} {σ : L2.St}, i < 3 → Ex H' G → σ[1]? = some (some (.ref a)) → Ev (tCB (rAsk X.K a cls d) (tCons (tVar 1) (tCons (tC (.ref (c i))) tNil))) σ G (.bl (decide (i = j))) := fun hi e h1 => ev_ask (ev_var h1) (held_ex hh e) (kc _ hi)
      unfold tSuite3
      refine q_asgL (xs := bb3 j) (el_lst (ea_cons (kA (by decide) (Ex.refl _) rfl) (ea_cons (kA (by decide) (Ex.refl _) rfl) (ea_cons (kA (by decide) (Ex.refl _) rfl) ea_nil))) (by show 3 ≤ 100000; decide)) fun p1 G1 n1 e1 h1 => ?_
      obtain ⟨f1, f2, f3, f4⟩ := bb_facts j hj
      refine q_when (b := false) (et_is (et_or (b := false) (et_test (ev_op (ev_cnt (ev_var rfl) h1 ev_c rfl f3) ev_c (rv_ne rfl))) (fun _ => et_is (et_not (et_B (ev_ask (ev_var rfl) (held_ex hh e1) kb))) rfl)) (by rw [f1]; rfl)) (fun z => by cases z) (fun _ G2 e2 => ?_)
      have e12 := e1.trans e2
      refine q_asg (v := .str (errN3.getD j "")) (ev_ixN (el_lst (vs := [.str "NotATable", .str "OtherKinds", .str "InvalidKinds"]) (ea_str (ea_str (ea_str ea_nil))) (by show 3 ≤ 100000; decide)) (ev_lix (ev_var rfl) (e2 _ _ h1) ev_c rfl f3 f2 rfl f4) (atI_nat (err3_at j hj))) fun G3 e3 => ?_
      have e13 := e12.trans e3
      refine (el_lst (vs := [.str (errN3.getD j ""), .str z]) (ea_cons (ev_var rfl) (ea_cons (ev_if (b := decide (j = 1)) (et_is (et_test (ev_op (ev_var rfl) ev_c (rv_eq rfl))) (oth_at j hj)) (fun y => ?_) (fun y => ?_)) ea_nil)) (by show 2 ≤ 100000; decide)) G3 (Ex.refl _) _ fun l G' n' e' h' => q l G' (e13.trans e') h'
      · obtain ⟨x, ks, cs, rfl, tw, hk, hC, rfl⟩ := dp.1 (of_decide_eq_true y)
        exact ev_strT (ev_of (f := "given") (ev_var rfl) (held_ex hh e13) no rfl) (tw.ex e13).at hk (by rw [List.length_map]; exact hC.few) (fun y hy => by
          obtain ⟨c, hc, rfl⟩ := List.mem_map.mp hy
          exact line_len hk (hC.good c hc))
      · exact ev_reprV (ev_of (f := "given") (ev_var rfl) (held_ex hh e13) no rfl) (fun e => dp.2 (of_decide_eq_false y) _ (e13.trans e))
    · exact h
end T
namespace T
open PySem PySem.Spec PyProof.Rows L2 Evl XB TL XS XI XC ClX XQ XSp LamX XO2
section
variable {P : Program} {w : World} {K : PySem.W.Frag} {mg : Str → Option Value} {base : Heap} {C CN CO : Addr} {c b : Nat → Addr} {T : List (Addr × Str)} {cR Pt : Addr} {cdc : Value}
variable {σ : L2.St} {H H' G G' : Hp} {ta tb te : TE} {t : XK → TE} {p x y l a : Addr} {v u : V} {ks kt ws us : List Str} {cs ct : List Cell} {o o1 o2 : Option PyData} {j : Nat} {z : Str} {D : Addr} {vs xs : List V} {E : XK}
theorem pe_caught3 {X : Cx} {C : Addr} {c b : Nat → Addr} {cdc : Value} {T : List (Addr × Str)} {cR Pt : Addr} {k : Nat} {params : Arguments} {body : Expr} {scope : Scope} {t : XK → TE} {p lpos pos : Pos}
    (V : AtV X.K X.mg "_law_caught" s__law_caught ["act"] cdc) (M : ErrM3 X.mg c b) (B : Bl X.mg) (Os : OwnW X.prog X.w X.K X.mg X.base 1 C "__str__" (spStrP X.K C)) (hc : XG.Calm X.A) (hr : Room (k + 2) X.A) (hk1 : 3 ≤ k + 2) (TB : TabB X.base X.mg cR Pt) (hg : Gl X "_law_caught") (hcode : X.env.code = .ref cR)
    (hmT : (Pt, X.env.qual ++ "<lambda>") ∈ T) (hu : ∀ p ∈ T, p.1 = Pt → p.2 = X.env.qual ++ "<lambda>") (L : lamSB X.env.scope scope = true) (hdef : defaultsOf params X.env = ([], []))
    (hbind : ∀ (q : Str) (cl : List (Str × Addr)) (pm cv ctv : Value), bindArgs (PySem.W.kla_fn "<lambda>" q params body scope cl pm cv ctv) ⟨[], []⟩ = pure [])
    (hbody : ∀ (A : Around) (outer : List Env) (s : Shared) (H : Hp) (E : XK) (f c' : Addr), Room k (A.deeper (lamEnv X scope s.heap.objs.size f c')) → PE (lamCx X A outer s H E scope f c') body (t E)) :
    PE X (.Call (.Name "_law_caught" p) [.Lambda params body scope lpos] [] pos) (tLam T (TCaught3 X.K C c b) t) := by
  obtain ⟨f, oc, kV, doc, pm, ct, od, an, osl, lk, hcd, kp, hm, bd⟩ := V.ex
  exact pe_lamcall hg hm kp lk hcd bd sc__law_caught rfl (.inl rfl) (caught3_gives M B Os hc (hr.mono hk1)) TB hcode hmT hu hr (lamS_by L) hdef hbind hbody
theorem gives3_err (hT : Tabs T H) (hj : j < 3) (A : AskC K D) (F : ErrF3 K c b D j) (sh : ∀ H2, ExtN H H2 → ShwE K C j v z H2)
    (he : ∀ H1, ExtN H H1 → ∀ (E : XK) (Q : VK), (∀ dd H2, Ex H1 H2 → H2 dd = some (.xd [("given", v)]) → E (.ref D) (some dd) H2) → t E σ H1 Q) : GivesW K T (tLam T (TCaught3 K C c b) t) σ H [errN3.getD j "", z] := fun Q q => by
  refine ⟨hT, fun H1 e1 T1 => ?_⟩
  show t _ σ H1 _
  refine he H1 e1 _ _ fun dd H2 e2 hd => ?_
  exact ⟨D, j, v, z, hj, ⟨rfl, A, dd, rfl, hd⟩, F, sh H2 (e1.trans (xn_ex e2)), fun l H3 e3 hl => q l H3 (e1.trans ((xn_ex e2).trans (xn_ex e3))) (tabs_ex T1 (e2.trans e3)) hl⟩
theorem gives3_fine (hT : Tabs T H) (hf : ∀ H1, ExtN H H1 → ∀ (E : XK) (Q : VK), (∀ v H2, Ex H1 H2 → Q v H2) → t E σ H1 Q) : GivesW K T (tLam T (TCaught3 K C c b) t) σ H [] := fun Q q => by
  refine ⟨hT, fun H1 e1 T1 => ?_⟩
  show t _ σ H1 _
  refine hf H1 e1 _ _ fun v H2 e2 => ?_
  exact (el_lst (σ := []) (vs := []) ea_nil (Nat.zero_le _)) H2 (Ex.refl _) _ fun l H3 n e3 h3 => q l H3 (e1.trans ((xn_ex e2).trans (xn_ex e3))) (tabs_ex T1 (e2.trans e3)) h3
theorem et_eqN (h : EvM ta σ H (sl ws)) (g : EvM tb σ H (sl us)) (ow : OkW ws) (ou : OkW us) : EvT (tTest (tOp (rEqD K) ta tb)) σ H (decide (ws = us)) := fun H1 e Q q => by
  refine h H1 e _ fun l H2 e2 hl => ?_
  refine g H2 (e.trans e2) _ fun l2 H3 e3 hl2 => ?_
  refine ⟨_, _, dp_slL (SqL.of (e3 _ _ hl)), dp_slL (SqL.of hl2), shp_ok ow, shp_ok ou, _, rfl, ?_⟩
  rw [show PyData.eqv (.list (ws.map PyData.str)) (.list (us.map PyData.str)) = decide (ws = us) from eqv_strs _ _]
  exact q H3 (e2.trans e3)
/-- a list of texts != [] -/
theorem et_neL (h : EvM ta σ H (sl ws)) (g : EvM tb σ H []) (ow : OkW ws) : EvT (tTest (tOp (rNeD K) ta tb)) σ H (!decide (ws = [])) := fun H1 e Q q => by
  refine h H1 e _ fun l H2 e2 hl => ?_
  refine g H2 (e.trans e2) _ fun l2 H3 e3 hl2 => ?_
  refine ⟨_, _, dp_slL (SqL.of (e3 _ _ hl)), dp_slL (ws := []) (SqL.of hl2), shp_ok ow, shp_ok (fun _ m => (List.not_mem_nil m).elim), _, rfl, ?_⟩
  rw [show PyData.eqv (.list (ws.map PyData.str)) (.list (([] : List Str).map PyData.str)) = decide (ws = []) from eqv_strs _ _]
  exact q H3 (e2.trans e3)
theorem headV_xn (h : HeadV K C p H v ks cs o) (e : ExtN H H') : HeadV K C p H' v ks cs o := by
  cases o with
  | none =>
    obtain ⟨x, h1, h2⟩ := h
    exact ⟨x, h1, h2.xn e⟩
  | some d => exact Od.kp h (Kp.ext e)
theorem headV_chg (h : HeadV K C p H v ks cs o) (hk : ks ∈ kinds7) (hp : Purse H p) (e : Chg p H H') : HeadV K C p H' v ks cs o := by
  cases o with
  | none =>
    obtain ⟨x, h1, h2⟩ := h
    obtain ⟨q1, q2, q3, hh⟩ := id hp
    exact ⟨x, h1, h2.chgU hk hh e⟩
  | some d => exact Od.kp h (Kp.chg e)
def dW : Option PyData → List Str
  | none => []
  | some d => ["NotATable", d.shown]
def dK (ks kt : List Str) (ct : List Cell) : List Str := if ks = kt then [] else ["OtherKinds", textOf kt (ct.map lineOf)]
def due33 (o1 o2 : Option PyData) (ks kt : List Str) (ct : List Cell) : List Str := match o1 with
  | some d => ["NotATable", d.shown]
  | none => match o2 with
    | some d => ["NotATable", d.shown]
    | none => dK ks kt ct
theorem gives_unlike {R : V → Hp → List Str → List Cell → List Cell → V} (hT : Tabs T H) (hv : HeadV K C p H v ks cs o1) (hu : HeadV K C p H u kt ct o2) (hk : ks ∈ kinds7) (hkt : kt ∈ kinds7) (hC : Cells ks cs) (hCt : Cells kt ct)
    (n1 : ∀ d, o1 = some d → NcV d) (n2 : ∀ d, o2 = some d → NcV d) (AN : AskC K CN) (FN : ErrF3 K c b CN 0) (AO : AskC K CO) (FO : ErrF3 K c b CO 1)
    (ht : ∀ (H1 : Hp) (E : XK) (Q : VK), ExtN H H1 → spUnlike K C CN CO R [v, u] H1 Q E → t E σ H1 Q) : GivesW K T (tLam T (TCaught3 K C c b) t) σ H (due33 o1 o2 ks kt ct) := by
  cases o1 with
  | some d =>
    refine gives3_err (j := 0) (D := CN) (v := v) hT (by decide) AN FN (fun G x => ⟨(fun z => by cases z), fun _ G2 x2 => shw_odd (Od.kp hv (Kp.ext (x.trans (xn_ex x2)))) (n1 d rfl)⟩) fun H1 x E Q k => ht H1 E Q x ?_
    exact ⟨p, v, u, ks, kt, cs, ct, some d, o2, rfl, headV_xn hv x, headV_xn hu x, hk, hkt, hC, hCt, (fun _ dd H' e hd => k dd H' e hd), (fun y => by cases y), (fun y => by cases y), (fun y => by cases y)⟩
  | none =>
    cases o2 with
    | some d =>
      refine gives3_err (j := 0) (D := CN) (v := u) hT (by decide) AN FN (fun G x => ⟨(fun z => by cases z), fun _ G2 x2 => shw_odd (Od.kp hu (Kp.ext (x.trans (xn_ex x2)))) (n2 d rfl)⟩) fun H1 x E Q k => ht H1 E Q x ?_
      exact ⟨p, v, u, ks, kt, cs, ct, none, some d, rfl, headV_xn hv x, headV_xn hu x, hk, hkt, hC, hCt, (fun y => absurd rfl y), (fun _ _ dd H' e hd => k dd H' e hd), (fun _ y => by cases y), (fun _ y => by cases y)⟩
    | none =>
      by_cases hh : ks = kt
      · have e : due33 none none ks kt ct = [] := if_pos hh
        rw [e]
        exact gives3_fine hT fun H1 x E Q k => ht H1 E Q x ⟨p, v, u, ks, kt, cs, ct, none, none, rfl, headV_xn hv x, headV_xn hu x, hk, hkt, hC, hCt, (fun y => absurd rfl y), (fun _ y => absurd rfl y), (fun _ _ y => absurd hh y), fun _ _ _ r H' e _ => k _ H' e⟩
      · have e : due33 none none ks kt ct = [("OtherKinds" : Str), textOf kt (ct.map lineOf)] := if_neg hh
        rw [e]
        refine gives3_err (j := 1) (D := CO) (v := u) hT (by decide) AO FO (fun G x => ⟨fun _ => ?_, fun n => absurd rfl n⟩) fun H1 x E Q k => ht H1 E Q x ?_
        · obtain ⟨y, rfl, ty⟩ := headV_xn hu x
          exact ⟨y, kt, ct, rfl, ty, hkt, hCt, rfl⟩
        · exact ⟨p, v, u, ks, kt, cs, ct, none, none, rfl, headV_xn hv x, headV_xn hu x, hk, hkt, hC, hCt, (fun y => absurd rfl y), (fun _ y => absurd rfl y), (fun _ _ _ dd H' e hd => k dd H' e hd), fun _ _ y => absurd y hh⟩
theorem okS_text (hk : kt ∈ kinds7) (hC : Cells kt ct) : OkS (textOf kt (ct.map lineOf)) := fun c m => Nat.lt_trans (lo_text hk hC c m) (by decide)
theorem okW_due33 (hv : HeadV K C p H v ks cs o1) (hu : HeadV K C p H u kt ct o2) (hkt : kt ∈ kinds7) (hCt : Cells kt ct) (n1 : ∀ d, o1 = some d → NcV d) (n2 : ∀ d, o2 = some d → NcV d) : OkW (due33 o1 o2 ks kt ct) := by
  have two : ∀ {x y : Str}, OkS x → OkS y → OkW [x, y] := fun h g z m => by
    simp only [List.mem_cons, List.not_mem_nil, or_false] at m
    rcases m with rfl | rfl
    · exact h
    · exact g
  cases o1 with
  | some d => exact two (okS_of _) (shw_odd (show Od K p H v d from hv) (n1 d rfl)).ok
  | none =>
    cases o2 with
    | some d => exact two (okS_of _) (shw_odd (show Od K p H u d from hu) (n2 d rfl)).ok
    | none =>
      show OkW (dK ks kt ct)
      unfold dK
      split
      · exact fun _ m => (List.not_mem_nil m).elim
      · exact two (okS_of _) (okS_text hkt hCt)
theorem dues_first (o1 o2 : Option PyData) (ks kt : List Str) (ct : List Cell) : ((([dW o1, dW o2, dK ks kt ct].filter fun r => !decide (r = [])) ++ [[]])[0]?) = some (due33 o1 o2 ks kt ct) := by
  cases o1 with
  | some d => rfl
  | none =>
    cases o2 with
    | some d => rfl
    | none =>
      show ((([[], [], dK ks kt ct] : List (List Str)).filter fun r => !decide (r = [])) ++ [[]])[0]? = some (dK ks kt ct)
      cases h : dK ks kt ct with
      | nil => rfl
      | cons x r => rfl
/-- a comprehension that makes a list of texts of each -/
theorem rows_lc {tl : TE} {j : Nat} {ws : List Nat} (fs : List (List Str)) (h : EvM tl σ H xs) (hl : fs.length = xs.length) (hz : xs.length ≤ 1000) (hw : ∀ x, wipe ((wipe σ ws).set j (some x)) ws = wipe σ ws)
    (he : ∀ (i : Nat) x r H1, Ex H H1 → xs[i]? = some x → fs[i]? = some r → EvL te ((wipe σ ws).set j (some x)) H1 (sl r)) : ∀ (Q : VK), (∀ L acc H2, H L = none → Ex H H2 → H2 L = some (.lst acc) → RowsL H2 acc fs → Q (.ref L) H2) → tLc (iList K tl) (gName j) tYes te ws σ H Q := fun Q q =>
  h H (Ex.refl H) _ fun a H1 e1 hx => ⟨a, rfl, ⟨_, SqL.of hx⟩, fun L hL =>
  lc_list (xs := xs) (fun i G => Ex H1 G ∧ ∃ acc, G L = some (.lst acc) ∧ RowsL G acc (fs.take i) ∧ ∀ b : Addr, V.ref b ∈ acc → b ≠ L) ⟨Ex.new hL, [], upd_same, ⟨rfl, fun i ws h => by cases h⟩, fun b m => by cases m⟩
   (fun i G _ p => SqL.of (p.1 _ _ hx)) (fun i x G hi pp => ⟨hw x, by
    obtain ⟨eG, acc, hG, R, nb⟩ := pp
    have hi2 := (List.getElem?_eq_some_iff.mp hi).1
    obtain ⟨r0, hr0⟩ : ∃ r, fs[i]? = some r := ⟨_, List.getElem?_eq_getElem (by omega)⟩
    have tk : fs.take (i + 1) = fs.take i ++ [r0] := by rw [List.take_succ, hr0]; rfl
    have al : acc.length = i := by rw [R.len, List.length_take]; omega
    refine tYes_go (he i x r0 G (e1.trans eG) hi hr0 G (Ex.refl G) _ fun r G3 nr g3 hr => ?_)
    have rL : r ≠ L := fun z => by rw [z, hG] at nr; cases nr
    refine ⟨acc, g3 _ _ hG, by rw [al, sizeLine_eq]; omega, Ex.mut (eG.trans g3) hL, acc ++ [.ref r], upd_same, ⟨by rw [List.length_append, R.len, tk, List.length_append]; rfl, fun k us hu => ?_⟩, fun b mb => ?_⟩
    · rw [tk] at hu
      by_cases hk : k < acc.length
      · rw [List.getElem?_append_left (by rw [← R.len]; exact hk)] at hu
        obtain ⟨l, h1, h2⟩ := R.at_ k us hu
        have lL : l ≠ L := nb l (List.mem_of_getElem? h1)
        exact ⟨l, by rw [List.getElem?_append_left hk]; exact h1, by rw [upd_ne lL]; exact g3 _ _ h2⟩
      · have kl := (List.getElem?_eq_some_iff.mp hu).1
        rw [List.length_append, ← R.len] at kl
        have ke : k = acc.length := by
          have : [r0].length = 1 := rfl
          omega
        subst ke
        rw [List.getElem?_append_right (by rw [R.len]; exact Nat.le_refl _), R.len, Nat.sub_self] at hu
        have hu : some r0 = some us := hu
        cases hu
        exact ⟨r, by rw [List.getElem?_append_right (Nat.le_refl _), Nat.sub_self]; rfl, by rw [upd_ne rL]; exact hr⟩
    · rcases List.mem_append.mp mb with z | z
      · exact nb b z
      · have := List.mem_singleton.mp z
        cases this
        exact rL⟩)
    (fun G ⟨eG, acc, hG, R, _⟩ => q L acc G (fresh_back e1 hL) (e1.trans eG) hG (by rw [← hl, List.take_length] at R; exact R))⟩
theorem RowsL.nil : RowsL H [] [] := ⟨rfl, fun i ws h => by cases h⟩
theorem q_rowsL {tz : TS} {DD : Ends} {i : Nat} {tl : TE} {j : Nat} {ws : List Nat} (fs : List (List Str)) (h : EvM tl σ H xs) (hl : fs.length = xs.length) (hz : xs.length ≤ 1000) (hw : ∀ x, wipe ((wipe σ ws).set j (some x)) ws = wipe σ ws)
    (he : ∀ (i : Nat) x r H1, Ex H H1 → xs[i]? = some x → fs[i]? = some r → EvL te ((wipe σ ws).set j (some x)) H1 (sl r)) (k : ∀ L acc H2, H L = none → Ex H H2 → H2 L = some (.lst acc) → RowsL H2 acc fs → tz DD (σ.set i (some (.ref L))) H2) : tSeq (tAsg (tLc (iList K tl) (gName j) tYes te ws) (gName i)) tz DD σ H :=
  rows_lc fs h hl hz hw he (fun x H1 => gName i x σ H1 (tz DD)) k
theorem RowsL.tail {v : V} {vs : List V} {f : List Str} {fs : List (List Str)} (R : RowsL H (v :: vs) (f :: fs)) : RowsL H vs fs := ⟨by have := R.len; simpa using this, fun i ws h => R.at_ (i + 1) ws h⟩
theorem RowsL.one {v : V} {vs : List V} {f : List Str} {fs : List (List Str)} (R : RowsL H (v :: vs) (f :: fs)) : ∃ l : Addr, v = .ref l ∧ H l = some (.lst (sl f)) := by
  obtain ⟨l, h1, h2⟩ := R.at_ 0 f rfl
  cases h1
  exact ⟨l, rfl, h2⟩
theorem RowsL.cons {l : Addr} {vs : List V} {f : List Str} {fs : List (List Str)} (h : H l = some (.lst (sl f))) (R : RowsL H vs fs) : RowsL H (.ref l :: vs) (f :: fs) := ⟨by rw [List.length_cons, List.length_cons, R.len], fun i ws hw => by
  cases i with
  | zero => cases hw; exact ⟨l, rfl, h⟩
  | succ i => exact R.at_ i ws hw⟩
theorem RowsL.app {vs us : List V} {fs gs : List (List Str)} (R : RowsL H vs fs) (S : RowsL H us gs) : RowsL H (vs ++ us) (fs ++ gs) := by
  induction fs generalizing vs with
  | nil =>
    have : vs = [] := List.eq_nil_of_length_eq_zero R.len
    subst this
    exact S
  | cons f fs ih =>
    cases vs with
    | nil => have := R.len; cases this
    | cons v vs =>
      obtain ⟨l, rfl, hl⟩ := R.one
      exact RowsL.cons hl (ih R.tail)
/-- [each for each in rows if each != []] -/
theorem flt_lc {tl : TE} {j : Nat} {ws : List Nat} {fs : List (List Str)} (h : EvM tl σ H xs) (R : RowsL H xs fs) (hz : xs.length ≤ 1000) (ok : ∀ f ∈ fs, OkW f) (hw : ∀ x, wipe ((wipe σ ws).set j (some x)) ws = wipe σ ws) (hj : ∀ x, ((wipe σ ws).set j (some x))[j]? = some (some x)) :
    ∀ (Q : VK), (∀ L acc H2, H L = none → Ex H H2 → H2 L = some (.lst acc) → RowsL H2 acc (fs.filter fun r => !decide (r = [])) → Q (.ref L) H2) → tLc (iList K tl) (gName j) (tTest (tOp (rNeD K) (tVar j) (tLst tNil))) (tVar j) ws σ H Q := fun Q q =>
  h H (Ex.refl H) _ fun a H1 e1 hx => ⟨a, rfl, ⟨_, SqL.of hx⟩, fun L hL =>
  lc_list (xs := xs) (fun i G => Ex H1 G ∧ ∃ acc, G L = some (.lst acc) ∧ RowsL H1 acc ((fs.take i).filter fun r => !decide (r = [])) ∧ acc.length ≤ i) ⟨Ex.new hL, [], upd_same, RowsL.nil, Nat.le_refl _⟩
   (fun i G _ p => SqL.of (p.1 _ _ hx)) (fun i x G hi pp => ⟨hw x, by
    obtain ⟨eG, acc, hG, RA, al⟩ := pp
    have hi2 := (List.getElem?_eq_some_iff.mp hi).1
    obtain ⟨r0, hr0⟩ : ∃ r, fs[i]? = some r := ⟨_, List.getElem?_eq_getElem (by rw [← R.len]; omega)⟩
    have tk : fs.take (i + 1) = fs.take i ++ [r0] := by rw [List.take_succ, hr0]; rfl
    obtain ⟨l, h1, h2⟩ := R.at_ i r0 hr0
    rw [hi] at h1
    cases h1
    have h3 := e1 _ _ h2
    have e2 : ∀ {G'}, Ex G G' → EvM (tVar j) ((wipe σ ws).set j (some (.ref l))) G' (sl r0) := fun e => em_at (ev_var (hj _)) (e _ _ (eG _ _ h3))
    refine (et_neL (e2 (Ex.refl _)) (em_of (el_lst (vs := []) ea_nil (Nat.zero_le _))) (ok r0 (List.mem_of_getElem? hr0))) G (Ex.refl _) _ fun G2 g2 => ?_
    cases hd : decide (r0 = []) with
    | true =>
      refine iteF ⟨eG.trans g2, acc, g2 _ _ hG, ?_, Nat.le_succ_of_le al⟩
      rw [tk, List.filter_append, List.filter_cons, if_neg (by rw [hd]; decide)]
      show RowsL H1 acc (_ ++ [])
      rw [List.append_nil]
      exact RA
    | false =>
      refine iteT ⟨_, hj _, acc, g2 _ _ hG, by rw [sizeLine_eq]; omega, Ex.mut (eG.trans g2) hL, acc ++ [.ref l], upd_same, ?_, by rw [List.length_append]; show acc.length + 1 ≤ _; omega⟩
      rw [tk, List.filter_append, List.filter_cons, if_pos (by rw [hd]; rfl)]
      exact RowsL.app RA (RowsL.cons h3 RowsL.nil)⟩)
    (fun G ⟨eG, acc, hG, RA, _⟩ => q L acc G (fresh_back e1 hL) (e1.trans eG) hG (by rw [R.len, List.take_length] at RA; exact RA.ex eG))⟩
/-- the first of the lists that are not empty, or the empty one -/
theorem q_due {tz : TS} {DD : Ends} {i : Nat} {tl : TE} {j : Nat} {ws : List Nat} {fs : List (List Str)} {d : List Str} (h : EvM tl σ H xs) (R : RowsL H xs fs) (hz : xs.length ≤ 1000) (ok : ∀ f ∈ fs, OkW f) (hw : ∀ x, wipe ((wipe σ ws).set j (some x)) ws = wipe σ ws) (hj : ∀ x, ((wipe σ ws).set j (some x))[j]? = some (some x))
    (hd : (((fs.filter fun r => !decide (r = [])) ++ [[]])[0]?) = some d) (k : ∀ l H2, Ex H H2 → H2 l = some (.lst (sl d)) → tz DD (σ.set i (some (.ref l))) H2) :
    tSeq (tAsg (tOp (rIxL K) (tOp rCat (tLc (iList K tl) (gName j) (tTest (tOp (rNeD K) (tVar j) (tLst tNil))) (tVar j) ws) (tLst (tCons (tLst tNil) tNil))) (tC (.int 0))) (gName i)) tz DD σ H := by
  refine flt_lc h R hz ok hw hj (fun x H1 => (tLst (tCons (tLst tNil) tNil)) σ H1 fun y H2 => rCat x y H2 fun z H3 => tC (.int 0) σ H3 fun n H4 => rIxL K z n H4 fun r H5 => gName i r σ H5 (tz DD)) fun L acc H2 nL e2 hL RA => ?_
  refine ⟨(Nat.zero_le _), fun m nm => ⟨(by show 1 ≤ sizeLine; decide), fun n nn => ?_⟩⟩
  have al : acc.length ≤ 1000 := by
    have := List.length_filter_le (fun r : List Str => !decide (r = [])) fs
    have := R.len
    rw [RA.len]
    omega
  have em : Ex H2 (upd (upd H2 m (.lst [])) n (.lst [.ref m])) := (Ex.new nm).trans (Ex.new nn)
  refine ⟨L, n, acc, [.ref m], rfl, rfl, em _ _ hL, upd_same, by show acc.length + 1 ≤ _; rw [sizeLine_eq]; omega, fun q nq => ?_⟩
  have S := RowsL.app (RA.ex (em.trans (Ex.new (o := .lst (acc ++ [.ref m])) nq))) (RowsL.cons (l := m) (f := []) (kp (kp upd_same nn) nq) RowsL.nil)
  obtain ⟨l, a1, a2⟩ := S.at_ 0 d hd
  exact ⟨q, _, 0, _, rfl, rfl, SqL.of upd_same, atI_nat a1, k l _ (e2.trans (em.trans (Ex.new nq))) a2⟩
end
end T
namespace T
open PySem PySem.Spec PyProof.Rows L2 Evl XB TL XS XI XC ClX XQ XSp LamX XO2
def Frs (H : Hp) (q : Addr) : Prop := ∀ b u, (∀ ps, u ≠ .tbl ps) → H b = some u → b ≠ q
theorem xn_mut {H H' : Hp} {q : Addr} {o : HO} (e : ExtN H H') (h : Frs H q) : ExtN H (upd H' q o) := fun b u hb t => by
  rw [upd_ne (h b u t hb)]
  exact e b u hb t
theorem frs_back {H H' : Hp} {q : Addr} (e : ExtN H H') (h : H' q = none) : Frs H q := fun b u t hb => ne_of_none (e b u hb t) h
theorem tabs_lst {T : List (Addr × Str)} {H : Hp} {q : Addr} {zs : List V} {o : HO} (t : Tabs T H) (h : H q = some (.lst zs)) : Tabs T (upd H q o) := fun r hr => by
  obtain ⟨ps, h1, h2, h3⟩ := t r hr
  refine ⟨ps, by rw [upd_ne (ne_of h1 h (fun z => by cases z))]; exact h1, h2, fun pos cv hc => ?_⟩
  obtain ⟨c', e1, e2⟩ := h3 pos cv hc
  exact ⟨c', e1, by rw [upd_ne (ne_of e2 h (fun z => by cases z))]; exact e2⟩
def spRightT (T : List (Addr × Str)) : Sp := fun vs H Q _ => ∃ p, vs = [.ref p] ∧ Purse H p ∧ Tabs T H ∧ ∀ H', Kp p H H' → Tabs T H' → Q (.bl true) H'
structure Ow33 (H0 : Hp) (T : List (Addr × Str)) (p : Addr) (G : Hp) : Prop where
  k : Kp p H0 G
  p : Purse G p
  t : Tabs T G
section
variable {P : Program} {w : World} {K : PySem.W.Frag} {mg : Str → Option Value} {base : Heap} {C CN CO : Addr} {c b : Nat → Addr} {T : List (Addr × Str)} {cR Pt : Addr} {cdc : Value}
variable {H0 G G' : Hp} {p : Addr}
theorem ncv_str {x : Str} (h : ∀ c ∈ x.cps.toList, c < 128) (hl : x.length ≤ 20000) : NcV (.str x) := .inl ((nc_str h hl).mono (by decide) (Nat.le_refl _))
theorem two_okW {x y : Str} (h : OkS x) (g : OkS y) : OkW [x, y] := fun z m => by
  simp only [List.mem_cons, List.not_mem_nil, or_false] at m
  rcases m with rfl | rfl
  · exact h
  · exact g
theorem okW_dW {v : V} {ks : List Str} {cs : List Cell} {o : Option PyData} (h : HeadV K C p G v ks cs o) (n : ∀ d, o = some d → NcV d) : OkW (dW o) := by
  cases o with
  | none => exact fun _ m => (List.not_mem_nil m).elim
  | some d => exact two_okW (okS_of _) (shw_odd (show Od K p G v d from h) (n d rfl)).ok
theorem okW_dK {ks kt : List Str} {ct : List Cell} (hk : kt ∈ kinds7) (hC : Cells kt ct) : OkW (dK ks kt ct) := by
  unfold dK
  split
  · exact fun _ m => (List.not_mem_nil m).elim
  · exact two_okW (okS_of _) (okS_text hk hC)
theorem okW_kinds {ks : List Str} (h : ks ∈ kinds7) : OkW ks := fun x hx => by
  have all : ∀ ks ∈ kinds7, ∀ x ∈ ks, ∀ c ∈ x.cps.toList, c < 128 := by decide +kernel
  exact fun c m => Nat.lt_trans (all ks h x hx c m) (by decide)
theorem Ow33.ex (o : Ow33 H0 T p G) (e : Ex G G') : Ow33 H0 T p G' := ⟨o.k.trans (Kp.ex e), purse_ex o.p e, tabs_ex o.t e⟩
theorem Ow33.chg (o : Ow33 H0 T p G) (hp : Purse G' p) (e : Chg p G G') : Ow33 H0 T p G' := ⟨o.k.trans (Kp.chg e), hp, tabs_chg o.t o.p e⟩
structure Told (T : List (Addr × Str)) (G0 : Hp) (W : Addr) (ws : List Str) (xs : List V) (G : Hp) : Prop where
  x : ExtN G0 G
  f : Frs G0 W
  t : Tabs T G
  w : G W = some (.lst xs)
  n : ∃ r0 t, xs = .ref r0 :: t
  r : ∀ v ∈ xs, ∃ r : Addr, v = .ref r ∧ G r = some (.lst (sl ws)) ∧ r ≠ W
theorem Told.ne {G0 G : Hp} {W r : Addr} {ws us : List Str} {xs : List V} (o : Told T G0 W ws xs G) (h : G r = some (.lst (sl us))) : r ≠ W := by
  obtain ⟨r0, t, e⟩ := o.n
  refine ne_of h o.w fun z => ?_
  rw [e] at z
  cases us with
  | nil => cases z
  | cons a b => cases z
theorem q_told {tz : TS} {D : Ends} {σ : L2.St} {te : TE} {W : Addr} {G0 G : Hp} {xs : List V} {ws : List Str} (h8 : σ[8]? = some (some (.ref W))) (o : Told T G0 W ws xs G) (hz : xs.length ≤ 1000) (g : GivesW K T te σ G ws)
    (k : ∀ r G', Told T G0 W ws (xs ++ [.ref r]) G' → tz D σ G') : tSeq (tDrop (tBM K "list" rAppend (tVar 8) (tCons te tNil))) tz D σ G :=
  ⟨_, h8, .inl ⟨rfl, _, SqL.of o.w⟩, g _ fun r G2 x T2 hr => ⟨W, xs, .ref r, rfl, rfl, x _ _ o.w (fun _ y => by cases y), by rw [sizeLine_eq]; omega, by
    have w2 := x _ _ o.w (fun _ y => by cases y)
    have o2 : Told T G0 W ws xs G2 := ⟨o.x.trans x, o.f, T2, w2, o.n, fun v m => by
      obtain ⟨r, e, h, n⟩ := o.r v m
      exact ⟨r, e, x _ _ h (fun _ y => by cases y), n⟩⟩
    have rW := o2.ne hr
    refine k r _ ⟨xn_mut o2.x o.f, o.f, tabs_lst T2 w2, upd_same, ?_, fun v m => ?_⟩
    · obtain ⟨r0, t, e⟩ := o.n
      exact ⟨r0, t ++ [.ref r], by rw [e]; rfl⟩
    · rcases List.mem_append.mp m with m | m
      · obtain ⟨r', e, h, n⟩ := o2.r v m
        exact ⟨r', e, by rw [upd_ne n]; exact h, n⟩
      · exact ⟨r, List.mem_singleton.mp m, by rw [upd_ne rW]; exact hr, rW⟩⟩⟩
theorem rep4 {v : V} : (List.replicate (4 : Int).toNat [v]).flatten = [v, v, v, v] := rfl
theorem dp_rows {G : Hp} {ws : List Str} : ∀ {xs : List V}, (∀ v ∈ xs, ∃ r : Addr, v = .ref r ∧ G r = some (.lst (sl ws))) → DpAll K G xs (List.replicate xs.length (.list (ws.map PyData.str)))
  | [], _ => .nil
  | v :: xs, h => by
    obtain ⟨r, rfl, e⟩ := h v List.mem_cons_self
    exact .cons (dp_slL (SqL.of e)) (dp_rows fun u m => h u (List.mem_cons_of_mem _ m))
theorem shp_rows {ws : List Str} (h : OkW ws) : SeqAt.shaped (.list (List.replicate 4 (.list (ws.map PyData.str)))) = true := by
  have a : PyData.canLay0 (.list (ws.map PyData.str)) = true ∧ decide (PyData.depthAll (ws.map PyData.str) + 1 ≤ 64) = true := by
    have := shp_ok h
    have := (Bool.and_eq_true _ _).mp this
    exact this
  have d : PyData.depth (.list (ws.map PyData.str)) = 1 := by
    show PyData.depthAll (ws.map PyData.str) + 1 = 1
    rw [dep_strs]
  show (PyData.canLayAll0 (List.replicate 4 (.list (ws.map PyData.str))) && decide (PyData.depthAll (List.replicate 4 (.list (ws.map PyData.str))) + 1 ≤ 64)) = true
  have e1 : PyData.canLayAll0 (List.replicate 4 (.list (ws.map PyData.str))) = true := by
    show (PyData.canLay0 (.list (ws.map PyData.str)) && (PyData.canLay0 (.list (ws.map PyData.str)) && (PyData.canLay0 (.list (ws.map PyData.str)) && (PyData.canLay0 (.list (ws.map PyData.str)) && true)))) = true
    rw [a.1]
    rfl
  have e2 : PyData.depthAll (List.replicate 4 (.list (ws.map PyData.str))) = 1 := by
    show max (PyData.depth (.list (ws.map PyData.str))) (max (PyData.depth (.list (ws.map PyData.str))) (max (PyData.depth (.list (ws.map PyData.str))) (max (PyData.depth (.list (ws.map PyData.str))) 0))) = 1
    rw [d]
    rfl
  rw [e1, e2]
  rfl
theorem eqv_rows {ws : List Str} : PyData.eqv (.list (List.replicate 4 (.list (ws.map PyData.str)))) (.list (List.replicate 4 (.list (ws.map PyData.str)))) = true := by
  have e : PyData.eqv (.list (ws.map PyData.str)) (.list (ws.map PyData.str)) = true := by
    rw [show PyData.eqv (.list (ws.map PyData.str)) (.list (ws.map PyData.str)) = decide (ws = ws) from eqv_strs _ _]
    exact decide_eq_true rfl
  show (PyData.eqv (.list (ws.map PyData.str)) (.list (ws.map PyData.str)) && (PyData.eqv (.list (ws.map PyData.str)) (.list (ws.map PyData.str)) && (PyData.eqv (.list (ws.map PyData.str)) (.list (ws.map PyData.str)) && (PyData.eqv (.list (ws.map PyData.str)) (.list (ws.map PyData.str)) && true)))) = true
  rw [e]
  rfl
theorem next_of {σ : L2.St} {H : Hp} {D : Ends} (h : D.nx σ H) : tNext D σ H := h
/-- the tables that were made so far -/
structure BothI (K : PySem.W.Frag) (C p B : Addr) (ks kt : List Str) (H0 : Hp) (j : Nat) (G : Hp) : Prop where
  c : Chg p H0 G
  p : Purse G p
  ac : ∃ acc, G B = some (.lst acc) ∧ acc.length = j ∧ (1 ≤ j → ∃ x cs, acc[0]? = some (.ref x) ∧ TabW K C G x ks cs ∧ Cells ks cs) ∧ (2 ≤ j → ∃ y ct, acc[1]? = some (.ref y) ∧ TabW K C G y kt ct ∧ Cells kt ct)
theorem both_step {ks kt ks' : List Str} {cs' : List Cell} {B x : Addr} {j : Nat} (hk : ks ∈ kinds7) (hkt : kt ∈ kinds7) (hn : H0 B = none) (Bp : B ≠ p) (I : BothI K C p B ks kt H0 j G) (c : Chg p G G') (hp : Purse G' p) (tx : TabW K C G' x ks' cs') (hC : Cells ks' cs') (hj : (j = 0 ∧ ks' = ks) ∨ (j = 1 ∧ ks' = kt)) :
    ∃ acc, G' B = some (.lst acc) ∧ acc.length < sizeLine ∧ BothI K C p B ks kt H0 (j + 1) (upd G' B (.lst (acc ++ [.ref x]))) := by
  obtain ⟨cG, pG, acc, hB, la, t0, t1⟩ := I
  have hB' := c _ _ Bp hB
  have cu : ∀ o, Chg B G' (upd G' B o) := fun o b u n e => by rw [upd_ne n]; exact e
  obtain ⟨q1, q2, q3, hpG⟩ := id pG
  refine ⟨acc, hB', by rw [la, sizeLine_eq]; omega, (cG.trans c).own hn, ?_, acc ++ [.ref x], upd_same, by rw [List.length_append, la]; rfl, ?_, ?_⟩
  · obtain ⟨y1, y2, y3, y⟩ := hp
    exact ⟨y1, y2, y3, by rw [upd_ne (Ne.symm Bp)]; exact y⟩
  · intro _
    rcases hj with ⟨rfl, rfl⟩ | ⟨rfl, rfl⟩
    · have : acc = [] := List.eq_nil_of_length_eq_zero la
      subst this
      exact ⟨x, cs', rfl, tx.chgU hk hB' (cu _), hC⟩
    · obtain ⟨x0, cs, e, tw, hc⟩ := t0 (Nat.le_refl _)
      refine ⟨x0, cs, ?_, (tw.chgU hk hpG c).chgU hk hB' (cu _), hc⟩
      rw [List.getElem?_append_left (by omega)]
      exact e
  · intro h2
    rcases hj with ⟨rfl, rfl⟩ | ⟨rfl, rfl⟩
    · exact absurd h2 (by decide)
    · refine ⟨x, cs', ?_, tx.chgU hkt hB' (cu _), hC⟩
      rw [List.getElem?_append_right (by omega), la]
      rfl
def RA : V → Hp → List Str → List Cell → List Cell → V := fun r _ _ _ _ => .bl (decide (r = .non))
def RU : V → Hp → List Str → List Cell → List Cell → V := fun r _ _ _ _ => r
def FnF (P : Program) (w : World) (K : PySem.W.Frag) (mg : Str → Option Value) (base : Heap) (k : Nat) (x : Str) (sp : Sp) : Prop := ∃ (f : Addr) (fd : FuncData), mg x = some (.ref f) ∧ PySem.W.keepIn K (.ref f) = true ∧ FnOk P w K mg base (L2.CX P w) k f fd ["one", "other"] sp ∧ Binds K fd ["one", "other"] [] ∧ KBn K fd ["one", "other"] 0 ["other", "one"] (fun us ws => us ++ ws.reverse) (fun vs zs => vs ++ zs.reverse)
structure RdM33 (P : Program) (w : World) (K : PySem.W.Frag) (mg : Str → Option Value) (base : Heap) (C CN CO : Addr) : Prop where
  rd : ∃ (g pm : Addr) (mc : Value) (fd : FuncData), CRead K C mc ∧ CMet K C mc "read" pm g ∧ FnOk P w K mg base CX0 7 g fd ["cls", "text"] (spRead K C) ∧ Binds K fd ["cls", "text"] []
  al : FnF P w K mg base 7 "alike" (spUnlike K C CN CO RA)
  un : FnF P w K mg base 7 "unlike" (spUnlike K C CN CO RU)
structure Err33 (K : PySem.W.Frag) (c b : Nat → Addr) (CN CO : Addr) : Prop where
  aN : AskC K CN
  fN : ErrF3 K c b CN 0
  aO : AskC K CO
  fO : ErrF3 K c b CO 1
theorem c_right (D : AtV K mg "_law_right" s__law_right ["purse"] (.ref cR)) (B : Bl mg) (Vc : AtV K mg "_law_caught" s__law_caught ["act"] cdc) (M : ErrM3 mg c b) (Os : OwnM P w K mg base 1 C "__str__" (spStrP K C)) (Os3 : OwnW P w K mg base 1 C "__str__" (spStrP K C))
    (TB : TabB base mg cR Pt) (eT : T = [(Pt, (("_law_right" : Str) ++ (".<locals>." : Str)) ++ ("<lambda>" : Str))]) (TC : TabC K mg C) (I : C8.InsC K C) (NK : NoKit K C) (RR : RdM33 P w K mg base C CN CO) (R : Err33 K c b CN CO)
    (Cso : C8.Cal P w K mg base 3 "_law_sorts" spSorts2 []) (Cce : C8.Cal P w K mg base 4 "_law_cells" (spCells2 K) []) (Ctx : C8.Cal P w K mg base 1 "_law_text" spText2 []) (Cdr : C8.Cal P w K mg base 1 "_law_draw" spDraw []) (Cp : C8.Cal P w K mg base 2 "_law_pick" (spPick K) []) :
    CalG P w K mg base 10 "_law_right" (spRightT T) := by
  obtain ⟨gr, pm, mc, fdg, CR, CM, Fr0, brd⟩ := RR.rd
  obtain ⟨fa, fda, ma, ka, Fa, ba, kba⟩ := RR.al
  obtain ⟨fu, fdu, mu, ku, Fu, bu, kbu⟩ := RR.un
  obtain ⟨fs, fds, Fs, os, bs⟩ := Os.ex
  have Fr := (FnOk.raw Fr0 brd .nil).imp (sp' := spRead K C) fun vs H Q E h => by rw [List.append_nil]; exact h
  refine calG_ofV D sc__law_right (fun vs H Q E h => ?_) (fun f A outer s H vs Q E hc hr h => ?_)
  · obtain ⟨p, rfl, _⟩ := h
    rfl
  · obtain ⟨p, rfl, hp, hT, q⟩ := h
    have hmT : (Pt, (("_law_right" : Str) ++ (".<locals>." : Str)) ++ ("<lambda>" : Str)) ∈ T := by rw [eT]; exact List.mem_singleton.mpr rfl
    have huT : ∀ p ∈ T, p.1 = Pt → p.2 = (("_law_right" : Str) ++ (".<locals>." : Str)) ++ ("<lambda>" : Str) := fun p hp _ => by rw [eT] at hp; rw [List.mem_singleton.mp hp]
    refine ⟨_, pss_cons (ps_for PassesOwn.never rfl (pi_range1 (by rfl) B.range (pa_cons pe_int pa_nil)) (pg_name (i := 1) sc__law_right.nd rfl (.inl rfl)) (pss_cons (ps_set (i := 2) sc__law_right.nd rfl (.inl rfl) (pe_lst (pa_cons (C8.pe_c Cso hr (by decide) (by rfl) (pa_cons (pv 0) (pa_cons pe_int pa_nil))) (pa_cons (C8.pe_c Cso hr (by decide) (by rfl) (pa_cons (pv 0) (pa_cons pe_int pa_nil))) pa_nil)))) (pss_cut (ps_set (i := 2) sc__law_right.nd rfl (.inl rfl) (pe_ifExp (pt_cmpR op_eq (C8.pe_c Cdr hr (by decide) (by rfl) (pa_cons (pv 0) (pa_cons pe_int pa_nil))) pe_int (nomark _)) (pe_lst (pa_cons (pe_ix ix_list (pv 2) pe_int (fun _ _ => rfl)) (pa_cons (pe_ix ix_list (pv 2) pe_int (fun _ _ => rfl)) pa_nil))) (pv 2))) (pss_cons (ps_setLc (i := 3) (own := [("row", 9)]) (g := gName 9) (tt := tYes) (te := tCMeth C (spRead K C) C8.E0 (tC (.ref C)) (tCons (tCall spText2 [] C8.E0 (tCons (tVar 9) (tCons (tCall (spCells2 K) [] C8.E0 (tCons (tVar 0) (tCons (tVar 9) (tCons (tCall spDraw [] C8.E0 (tCons (tVar 0) (tCons (tC (.int 3)) tNil))) (tCons (tC (.bl true)) tNil))))) tNil))) tNil)) rfl sc__law_right.nd rfl rfl (sw_true rfl rfl rfl (by decide +kernel)) (pi_list (pv 2)) (blkOk_by (own := [("row", 9)]) (N := N__law_right) (sc := defScope s__law_right) (by decide +kernel)) (fun _ _ _ _ _ => pg_name (i := 9) sc__law_right.nd rfl (Or.inl rfl)) (fun _ _ _ _ _ => pts_nil) (fun _ _ _ _ _ => pe_cmeth (pe_glob (v := .ref C) (by rfl) TC.mgT rfl) CR CM Fr (hr.mono (by decide)) pass0 (pa_cons (C8.pe_c Ctx hr (by decide) (by rfl) (pa_cons (pv 9) (pa_cons (C8.pe_c Cce hr (by decide) (by rfl) (pa_cons (pv 0) (pa_cons (pv 9) (pa_cons (C8.pe_c Cdr hr (by decide) (by rfl) (pa_cons (pv 0) (pa_cons pe_int pa_nil))) (pa_cons pe_bl pa_nil))))) pa_nil))) pa_nil)))
      (pss_cons (ps_set (i := 4) sc__law_right.nd rfl (.inr rfl) (C8.pe_c Cp hr (by decide) (by rfl) (pa_cons (pv 0) (pa_cons (pe_lst (pa_cons (pe_ix ix_list (pv 3) pe_int (fun _ _ => rfl)) (pa_cons (pe_ix ix_list (pv 3) pe_int (fun _ _ => rfl)) (pa_cons (pe_ix ix_list (pv 3) pe_int (fun _ _ => rfl)) (pa_cons pe_non (pa_cons (pe_callTy (XO.call_strO os Fs (hr.mono (by decide)) bs) (by rfl) B.str (by decide +kernel) (pa_cons (pe_ix ix_list (pv 3) pe_int (fun _ _ => rfl)) pa_nil)) (pa_cons (pe_tup pa_nil) pa_nil))))))) pa_nil))))
      (pss_cons (ps_set (i := 5) sc__law_right.nd rfl (.inr rfl) (C8.pe_c Cp hr (by decide) (by rfl) (pa_cons (pv 0) (pa_cons (pe_lst (pa_cons (pe_ix ix_list (pv 3) pe_int (fun _ _ => rfl)) (pa_cons (pe_ix ix_list (pv 3) pe_int (fun _ _ => rfl)) (pa_cons (pe_ix ix_list (pv 3) pe_int (fun _ _ => rfl)) (pa_cons pe_int (pa_cons (pe_callTy (XO.call_strO os Fs (hr.mono (by decide)) bs) (by rfl) B.str (by decide +kernel) (pa_cons (pe_ix ix_list (pv 3) pe_int (fun _ _ => rfl)) pa_nil)) (pa_cons (pe_lst pa_nil) pa_nil))))))) pa_nil))))
      (pss_cons (ps_setLc (i := 6) (own := [("each", 10)]) (g := gName 10) (tt := tYes) (te := tIf (tB (tCB (rIsi K) (tCons (tVar 10) (tCons (tC (.ref C)) tNil)))) (tLst tNil) (tLst (tCons (tC (.str "NotATable")) (tCons (tCB (XO2.rReprQ K) (tCons (tVar 10) tNil)) tNil)))) rfl sc__law_right.nd rfl rfl (sw_true rfl rfl rfl (by decide +kernel)) (pi_list (pe_lst (pa_cons (pv 4) (pa_cons (pv 5) pa_nil)))) (blkOk_by (own := [("each", 10)]) (N := N__law_right) (sc := defScope s__law_right) (by decide +kernel)) (fun _ _ _ _ _ => pg_name (i := 10) sc__law_right.nd rfl (Or.inl rfl)) (fun _ _ _ _ _ => pts_nil) (fun _ _ _ _ _ => pe_ifExp (pt_val (pe_callB call_isi (by rfl) B.isin (by decide +kernel) (pa_cons (pv 10) (pa_cons (pe_glob (v := .ref C) (by rfl) TC.mgT rfl) pa_nil)))) (pe_lst pa_nil) (pe_lst (pa_cons pe_str (pa_cons (pe_callB (XO2.call_reprQ hc hr.units) (by rfl) B.repr (by decide +kernel) (pa_cons (pv 10) pa_nil)) pa_nil)))))
      (pss_cons (ps_expr (pe_bm PySem.F.plainAttrs_list PySem.F.slot_list_append PySem.F.type_list_append mt_append (pv 6) (pa_cons (pe_ifExp (pt_cmpR (op_eqD hr.units) (pe_ix ix_list (pv 2) pe_int (fun _ _ => rfl)) (pe_ix ix_list (pv 2) pe_int (fun _ _ => rfl)) (nomark _)) (pe_lst pa_nil) (pe_lst (pa_cons pe_str (pa_cons (pe_callTy (XO.call_strO os Fs (hr.mono (by decide)) bs) (by rfl) B.str (by decide +kernel) (pa_cons (pe_ix ix_list (pv 3) pe_int (fun _ _ => rfl)) pa_nil)) pa_nil)))) pa_nil)))
      (pss_cons (ps_set (i := 7) sc__law_right.nd rfl (.inl rfl) (pe_ix ix_list (pe_op op_cat (pe_lc (own := [("each", 10)]) (g := gName 10) (tt := tTest (tOp (rNeD K) (tVar 10) (tLst tNil))) (te := tVar 10) rfl sc__law_right.nd (pi_list (pv 6)) (blkOk_by (own := [("each", 10)]) (N := N__law_right) (sc := defScope s__law_right) (by decide +kernel)) (fun _ _ _ _ _ => pg_name (i := 10) sc__law_right.nd rfl (Or.inl rfl)) (fun _ _ _ _ _ => pts_one (pt_cmpR (op_neD hr.units) (pv 10) (pe_lst pa_nil) (nomark _))) (fun _ _ _ _ _ => pv 10)) (pe_lst (pa_cons (pe_lst pa_nil) pa_nil))) pe_int (fun _ _ => rfl)))
      (pss_cons (ps_set (i := 8) sc__law_right.nd rfl (.inl rfl) (pe_lst (pa_cons (pe_caught3 (t := fun E => tCall (spUnlike K C CN CO RA) [] E (tCons (tVar 4) (tCons (tVar 5) tNil))) Vc M B Os3 hc (hr.mono (by decide)) (by decide) TB (by rfl) rfl hmT huT (by show lamSB (defScope s__law_right) _ = true; decide +kernel) rfl (fun _ _ _ _ _ => rfl) (fun A outer s H E f c' hr2 => pe_call Fa hr2 (by rfl) ma ka ba .nil pass_lam (pa_cons (pv 4) (pa_cons (pv 5) pa_nil)))) pa_nil)))
      (pss_cons (ps_expr (pe_bm PySem.F.plainAttrs_list PySem.F.slot_list_append PySem.F.type_list_append mt_append (pv 8) (pa_cons (pe_caught3 (t := fun E => tCallK0 2 (spUnlike K C CN CO RA) (fun vs zs => vs ++ zs.reverse) E (tCons (tVar 5) (tCons (tVar 4) tNil))) Vc M B Os3 hc (hr.mono (by decide)) (by decide) TB (by rfl) rfl hmT huT (by show lamSB (defScope s__law_right) _ = true; decide +kernel) rfl (fun _ _ _ _ _ => rfl) (fun A outer s H E f c' hr2 => XQ.pe_callK0 Fa hr2 (by rfl) ma ka kba pass_lam (pk_cons (pv 5) (pk_cons (pv 4) pk_nil)))) pa_nil)))
      (pss_cons (ps_expr (pe_bm PySem.F.plainAttrs_list PySem.F.slot_list_append PySem.F.type_list_append mt_append (pv 8) (pa_cons (pe_caught3 (t := fun E => tCall (spUnlike K C CN CO RU) [] E (tCons (tVar 4) (tCons (tVar 5) tNil))) Vc M B Os3 hc (hr.mono (by decide)) (by decide) TB (by rfl) rfl hmT huT (by show lamSB (defScope s__law_right) _ = true; decide +kernel) rfl (fun _ _ _ _ _ => rfl) (fun A outer s H E f c' hr2 => pe_call Fu hr2 (by rfl) mu ku bu .nil pass_lam (pa_cons (pv 4) (pa_cons (pv 5) pa_nil)))) pa_nil)))
      (pss_cons (ps_expr (pe_bm PySem.F.plainAttrs_list PySem.F.slot_list_append PySem.F.type_list_append mt_append (pv 8) (pa_cons (pe_caught3 (t := fun E => tCallK0 2 (spUnlike K C CN CO RU) (fun vs zs => vs ++ zs.reverse) E (tCons (tVar 5) (tCons (tVar 4) tNil))) Vc M B Os3 hc (hr.mono (by decide)) (by decide) TB (by rfl) rfl hmT huT (by show lamSB (defScope s__law_right) _ = true; decide +kernel) rfl (fun _ _ _ _ _ => rfl) (fun A outer s H E f c' hr2 => XQ.pe_callK0 Fu hr2 (by rfl) mu ku kbu pass_lam (pk_cons (pv 5) (pk_cons (pv 4) pk_nil)))) pa_nil)))
      (pss_one (ps_if (pt_cmpR (op_neD hr.units) (pv 8) (pe_op op_rep (pe_lst (pa_cons (pv 7) pa_nil)) pe_int) (nomark _)) (pss_one (ps_ret pe_bl)) pss_nil)))))))))))))))
      (pss_one (ps_ret pe_bl)), ?_⟩
    refine ⟨(8 : Int), rfl, by decide, by decide, for_range (lo := 0) (n := (8 : Int).toNat)
      (fun i σ G => ∃ y1 y2 y3 y4 y5 y6 y7 y8 y9 y10, σ = [some (.ref p), y1, y2, y3, y4, y5, y6, y7, y8, y9, y10] ∧ Ow33 H T p G)
      ⟨_, _, _, _, _, _, _, _, _, _, rfl, ⟨Kp.refl p H, hp, hT⟩⟩ ?_ ?_⟩
    · rintro i σ G hi ⟨y1, y2, y3, y4, y5, y6, y7, y8, y9, y10, rfl, o⟩
      refine ⟨_, rfl, p, 3, rfl, o.p, by decide, fun a ks G1 hk _ ha nap hp1 c1 => ⟨_, rfl, p, 3, rfl, hp1, by decide, fun a' kt G2 hkt _ hb nbp hp2 c2 => ⟨(by show 2 ≤ sizeLine; decide), fun L nL => ?_⟩⟩⟩
      have o3 : Ow33 H T p (upd G2 L (.lst [.ref a, .ref a'])) := o.chg (hp2.new nL) ((c1.trans c2).new nL)
      have haL := kp (u := .lst [.ref a, .ref a']) (c2 _ _ nap ha) nL
      have hbL := kp (u := .lst [.ref a, .ref a']) hb nL
      have hL : (upd G2 L (.lst [.ref a, .ref a'])) L = some (.lst [.ref a, .ref a']) := upd_same
      have Lp : L ≠ p := (hp2.ne nL).symm
      generalize (upd G2 L (.lst [.ref a, .ref a'])) = G3 at o3 haL hbL hL
      refine q_cut (M := fun σ' G => ∃ (y3 y4 y5 y6 y7 y8 y9 y10 : Option V) (L a a' : Addr) (ks kt : List Str), σ' = [some (.ref p), some (.int (0 + (i : Int))), some (.ref L), y3, y4, y5, y6, y7, y8, y9, y10] ∧ G L = some (.lst [.ref a, .ref a']) ∧ G a = some (.lst (sl ks)) ∧ G a' = some (.lst (sl kt)) ∧ a ≠ p ∧ a' ≠ p ∧ L ≠ p ∧ ks ∈ kinds7 ∧ kt ∈ kinds7 ∧ Ow33 H T p G) ?_ ?_
      · refine ⟨_, rfl, p, 3, rfl, o3.p, by decide, by decide, fun k5 G5 k0 k1 hp5 c5 => ?_⟩
        have hL5 := c5 _ _ Lp hL
        have ha5 := c5 _ _ nap haL
        have hb5 := c5 _ _ nbp hbL
        refine ⟨rfl, _, rfl, ite2 (fun _ => ?_) (fun _ => ?_)⟩
        · refine ⟨_, rfl, L, _, 0, _, rfl, rfl, SqL.of hL5, rfl, _, rfl, L, _, 0, _, rfl, rfl, SqL.of hL5, rfl, (by show 2 ≤ sizeLine; decide), fun L2 nL2 => ?_⟩
          exact ⟨_, _, _, _, _, _, _, _, L2, a, a, ks, ks, rfl, upd_same, kp ha5 nL2, kp ha5 nL2, nap, nap, (hp5.ne nL2).symm, hk, hk, o3.chg (hp5.new nL2) (c5.new nL2)⟩
        · exact ⟨_, rfl, _, _, _, _, _, _, _, _, L, a, a', ks, kt, rfl, hL5, ha5, hb5, nap, nbp, Lp, hk, hkt, o3.chg hp5 c5⟩
      clear o3 haL hbL hL Lp nap nbp hk hkt
      rintro σ' G3 ⟨y3, y4, y5, y6, y7, y8, y9, y10, L, a, a', ks, kt, rfl, hL, ha, hb, nap, nbp, Lp, hk, hkt, o3⟩
      refine ⟨_, rfl, L, rfl, ⟨_, SqL.of hL⟩, fun B nB => ?_⟩
      have Bp : B ≠ p := (o3.p.ne nB).symm
      refine lc_list (xs := [.ref a, .ref a']) (BothI K C p B ks kt G3) ⟨(Chg.refl p G3).new nB, o3.p.new nB, [], upd_same, rfl, (fun z => absurd z (by decide)), (fun z => absurd z (by decide))⟩ (fun j G _ pp => SqL.of (pp.c _ _ Lp hL)) ?_ ?_
      · intro j v G hj I
        obtain ⟨a', ks', rfl, ha', nap', hk', hj'⟩ : ∃ a' ks', v = .ref a' ∧ G a' = some (.lst (sl ks')) ∧ a' ≠ p ∧ ks' ∈ kinds7 ∧ ((j = 0 ∧ ks' = ks) ∨ (j = 1 ∧ ks' = kt)) := by
          match j, hj with
          | 0, hj => cases hj; exact ⟨a, ks, rfl, I.c _ _ nap ha, nap, hk, .inl ⟨rfl, rfl⟩⟩
          | 1, hj => cases hj; exact ⟨a', kt, rfl, I.c _ _ nbp hb, nbp, hkt, .inr ⟨rfl, rfl⟩⟩
        refine ⟨rfl, tYes_go ⟨rfl, _, rfl, _, rfl, _, rfl, _, rfl, p, 3, rfl, I.p, by decide, by decide, fun n G4 n0 n1 hp4 c4 => ?_⟩⟩
        obtain ⟨n, rfl⟩ := Int.eq_ofNat_of_zero_le n0
        refine ⟨p, a', n, true, ks', rfl, hp4, c4 _ _ nap' ha', nap', hk', by omega, fun Dd kvs G5 c5 hp5 dp nd hd hcs hl => ⟨a', Dd, ks', kvs, rfl, hk', (c4.trans c5) _ _ nap' ha', hd, hcs, hl, fun cs G6 e6 hC hLd => ⟨ks', cs, rfl, hk', hC, fun x G7 e7 tx => ?_⟩⟩⟩
        exact both_step hk hkt nB Bp I (((c4.trans c5).trans (Same.chg e6)).trans (Same.chg e7)) (purse_ex (purse_ex hp5 e6) e7) (tx.whole hk' hC) hC hj'
      rintro G4 ⟨c4, hp4, acc, hB, la, t0, t1⟩
      obtain ⟨x, cs, hx0, tx, hC⟩ := t0 (by show 1 ≤ 2; decide)
      obtain ⟨y, ct, hy0, ty, hCt⟩ := t1 (by show 2 ≤ 2; decide)
      obtain rfl : acc = [.ref x, .ref y] := by
        match acc, la with
        | [u, v], _ => cases hx0; cases hy0; rfl
      have o4 := o3.chg hp4 c4
      have hL4 := c4 _ _ Lp hL
      have ha4 := c4 _ _ nap ha
      have hb4 := c4 _ _ nbp hb
      clear hL ha hb o3 c4 t0 t1 hx0 hy0 la nB
      obtain ⟨_, _, _, hpo⟩ := id hp4
      -- head
      refine ⟨_, rfl, _, rfl, B, _, 0, _, rfl, rfl, SqL.of hB, rfl, _, rfl, B, _, 0, _, rfl, rfl, SqL.of hB, rfl, _, rfl, B, _, 0, _, rfl, rfl, SqL.of hB, rfl, (ev_strT (ta := tOp (rIxL K) (tVar 3) (tC (.int 0))) (ev_ixL (ev_var rfl) ev_c (SqL.of hB) rfl) tx.at hk (by rw [List.length_map]; exact hC.few) (fun y hy => by
        obtain ⟨c, hc, rfl⟩ := List.mem_map.mp hy
        exact line_len hk (hC.good c hc))) G4 (Ex.refl _) _ fun G5 e5 => ?_⟩
      refine ⟨(by show 0 ≤ sizeLine; decide), fun t nt => ⟨(by show 6 ≤ sizeLine; decide), fun l nl => ?_⟩⟩
      have e6 := (e5.trans (Ex.new (o := .tup []) nt))
      have e7 := e6.trans (Ex.new (o := .lst [.ref x, .ref x, .ref x, .non, .str (textOf ks (cs.map lineOf)), .ref t]) nl)
      have hp7 := purse_ex hp4 e7
      have ht : (upd (upd G5 t (.tup [])) l (.lst [.ref x, .ref x, .ref x, .non, .str (textOf ks (cs.map lineOf)), .ref t])) t = some (.tup []) := kp upd_same nl
      have tp : t ≠ p := ((purse_ex hp4 e5).ne nt).symm
      refine ⟨p, .ref l, rfl, hp7, .inl ⟨l, _, rfl, ((purse_ex hp4 e6).ne nl).symm, SqL.of upd_same, (by intro z; cases z), (by show 6 ≤ 1000; decide), fun v hv G8 hp8 c8 => ?_⟩⟩
      have hpo7 := e7 _ _ hpo
      obtain ⟨o1, hv1, n1⟩ : ∃ o1, HeadV K C p G8 v ks cs o1 ∧ ∀ d, o1 = some d → NcV d := by
        have tb : HeadV K C p G8 (.ref x) ks cs none := ⟨x, rfl, (tx.ex e7).chgU hk hpo7 c8⟩
        have nn : ∀ d, (none : Option PyData) = some d → NcV d := fun d z => by cases z
        simp only [List.mem_cons, List.not_mem_nil, or_false] at hv
        rcases hv with rfl | rfl | rfl | rfl | rfl | rfl
        · exact ⟨none, tb, nn⟩
        · exact ⟨none, tb, nn⟩
        · exact ⟨none, tb, nn⟩
        · exact ⟨some .none, Od.non, fun d z => by cases z; exact .inl (nc_b (by decide +kernel))⟩
        · exact ⟨some (.str _), Od.str _, fun d z => by cases z; exact ncv_str (lo_text hk hC) (by have := text_len hk hC; omega)⟩
        · exact ⟨some (.tuple []), Od.tup tp (SqT.of (c8 _ _ tp ht)) .nil, fun d z => by cases z; exact .inl (nc_b (by decide +kernel))⟩
      have c48 : Chg p G4 G8 := (Same.chg e7).trans c8
      have o8 := o4.chg hp8 c48
      have hB8 := c48 _ _ Bp hB
      have hL8 := c48 _ _ Lp hL4
      have ha8 := c48 _ _ nap ha4
      have hb8 := c48 _ _ nbp hb4
      have tx8 := tx.chgU hk hpo c48
      have ty8 := ty.chgU hkt hpo c48
      clear ht tp hv hpo7 hp7 e7 e6 e5 nl nt c8 o4 hL4 ha4 hb4 hB
      -- tail
      obtain ⟨_, _, _, hpo8⟩ := id hp8
      refine ⟨_, rfl, _, rfl, B, _, 1, _, rfl, rfl, SqL.of hB8, rfl, _, rfl, B, _, 1, _, rfl, rfl, SqL.of hB8, rfl, _, rfl, B, _, 1, _, rfl, rfl, SqL.of hB8, rfl, (ev_strT (ta := tOp (rIxL K) (tVar 3) (tC (.int 1))) (ev_ixL (ev_var rfl) ev_c (SqL.of hB8) rfl) ty8.at hkt (by rw [List.length_map]; exact hCt.few) (fun y hy => by
        obtain ⟨c, hc, rfl⟩ := List.mem_map.mp hy
        exact line_len hkt (hCt.good c hc))) G8 (Ex.refl _) _ fun G5 e5 => ?_⟩
      refine ⟨(by show 0 ≤ sizeLine; decide), fun t nt => ⟨(by show 6 ≤ sizeLine; decide), fun l nl => ?_⟩⟩
      have e6 := (e5.trans (Ex.new (o := .lst []) nt))
      have e7 := e6.trans (Ex.new (o := .lst [.ref y, .ref y, .ref y, .int 5, .str (textOf kt (ct.map lineOf)), .ref t]) nl)
      have hp7 := purse_ex hp8 e7
      have ht : (upd (upd G5 t (.lst [])) l (.lst [.ref y, .ref y, .ref y, .int 5, .str (textOf kt (ct.map lineOf)), .ref t])) t = some (.lst []) := kp upd_same nl
      have tp : t ≠ p := ((purse_ex hp8 e5).ne nt).symm
      refine ⟨p, .ref l, rfl, hp7, .inl ⟨l, _, rfl, ((purse_ex hp8 e6).ne nl).symm, SqL.of upd_same, (by intro z; cases z), (by show 6 ≤ 1000; decide), fun u hu G9 hp9 c9 => ?_⟩⟩
      have hpo7 := e7 _ _ hpo8
      obtain ⟨o2, hu2, n2⟩ : ∃ o2, HeadV K C p G9 u kt ct o2 ∧ ∀ d, o2 = some d → NcV d := by
        have tb : HeadV K C p G9 (.ref y) kt ct none := ⟨y, rfl, (ty8.ex e7).chgU hkt hpo7 c9⟩
        have nn : ∀ d, (none : Option PyData) = some d → NcV d := fun d z => by cases z
        simp only [List.mem_cons, List.not_mem_nil, or_false] at hu
        rcases hu with rfl | rfl | rfl | rfl | rfl | rfl
        · exact ⟨none, tb, nn⟩
        · exact ⟨none, tb, nn⟩
        · exact ⟨none, tb, nn⟩
        · exact ⟨some (.int 5), Od.int 5, fun d z => by cases z; exact .inl (nc_b (by decide +kernel))⟩
        · exact ⟨some (.str _), Od.str _, fun d z => by cases z; exact ncv_str (lo_text hkt hCt) (by have := text_len hkt hCt; omega)⟩
        · exact ⟨some (.list []), Od.lst tp (SqL.of (c9 _ _ tp ht)) .nil, fun d z => by cases z; exact .inl (nc_b (by decide +kernel))⟩
      have c89 : Chg p G8 G9 := (Same.chg e7).trans c9
      have o9 := o8.chg hp9 c89
      have hB9 := c89 _ _ Bp hB8
      have hL9 := c89 _ _ Lp hL8
      have ha9 := c89 _ _ nap ha8
      have hb9 := c89 _ _ nbp hb8
      have hv9 := headV_chg hv1 hk hp8 c89
      have ty9 := ty8.chgU hkt hpo8 c89
      clear ht tp hu hpo7 hp7 e7 e6 e5 nl nt c9 o8 hL8 ha8 hb8 hB8 c48 hv1 tx8 ty8 tx ty hpo hpo8 c89
      -- dues
      have ow : OkW (due33 o1 o2 ks kt ct) := okW_due33 hv9 hu2 hkt hCt n1 n2
      have owA : OkW (dW o1) := okW_dW hv9 n1
      have owB : OkW (dW o2) := okW_dW hu2 n2
      have owK : OkW (dK ks kt ct) := okW_dK hkt hCt
      refine q_rowsL (tl := tLst (tCons (tVar 4) (tCons (tVar 5) tNil))) (te := tIf (tB (tCB (rIsi K) (tCons (tVar 10) (tCons (tC (.ref C)) tNil)))) (tLst tNil) (tLst (tCons (tC (.str "NotATable")) (tCons (tCB (XO2.rReprQ K) (tCons (tVar 10) tNil)) tNil)))) (j := 10) (ws := [10]) (σ := [some (.ref p), some (.int (0 + (i : Int))), some (.ref L), some (.ref B), some v, some u, y6, y7, y8, y9, y10]) (xs := [v, u]) [dW o1, dW o2] (em_of (el_lst (ea_cons (ev_var rfl) (ea_cons (ev_var rfl) ea_nil)) (by show 2 ≤ 100000; decide))) rfl (by show 2 ≤ 1000; decide) (fun _ => rfl) (fun j z r H1 e hz hr => ?_) fun Ld acc G10 nLd e10 hLd Rd => ?_
      · have one : ∀ (z : V) (ks : List Str) (cs : List Cell) (o : Option PyData), HeadV K C p H1 z ks cs o → (∀ d, o = some d → NcV d) → EvL (tIf (tB (tCB (rIsi K) (tCons (tVar 10) (tCons (tC (.ref C)) tNil)))) (tLst tNil) (tLst (tCons (tC (.str "NotATable")) (tCons (tCB (XO2.rReprQ K) (tCons (tVar 10) tNil)) tNil)))) [some (.ref p), some (.int (0 + (i : Int))), some (.ref L), some (.ref B), some v, some u, y6, y7, y8, y9, some z] H1 (sl (dW o)) := fun z ks cs o hz n => by
          refine el_if (b := o.isNone) (et_B (ev_isiH I NK (ev_var rfl) hz)) (fun y => ?_) (fun y => ?_)
          · cases o with
            | none => exact el_lst ea_nil (Nat.zero_le _)
            | some d => cases y
          · cases o with
            | none => cases y
            | some d => exact el_lst (ea_str (ea_cons (ev_reprQ (ev_var rfl) (shw_odd (show Od K p H1 z d from hz) (n d rfl))) ea_nil)) (by show 2 ≤ 100000; decide)
        match j, hz with
        | 0, hz => cases hz; cases hr; exact one _ _ _ _ (hv9.ex e) n1
        | 1, hz => cases hz; cases hr; exact one _ _ _ _ (hu2.ex e) n2
      have e9 := e10
      have cdues : EvL (tIf (tTest (tOp (rEqD K) (tOp (rIxL K) (tVar 2) (tC (.int 0))) (tOp (rIxL K) (tVar 2) (tC (.int 1))))) (tLst tNil) (tLst (tCons (tC (.str "OtherKinds")) (tCons (tCB (XO.rStrO C (spStrP K C)) (tCons (tOp (rIxL K) (tVar 3) (tC (.int 1))) tNil)) tNil)))) [some (.ref p), some (.int (0 + (i : Int))), some (.ref L), some (.ref B), some v, some u, some (.ref Ld), y7, y8, y9, y10] G10 (sl (dK ks kt ct)) := by
        refine el_if (b := decide (ks = kt)) (et_eqN (em_at (ev_ixL (ev_var rfl) ev_c (SqL.of (e10 _ _ hL9)) rfl) (e10 _ _ ha9)) (em_at (ev_ixL (ev_var rfl) ev_c (SqL.of (e10 _ _ hL9)) rfl) (e10 _ _ hb9)) (okW_kinds hk) (okW_kinds hkt)) (fun y => ?_) (fun y => ?_)
        · rw [show dK ks kt ct = [] from if_pos (of_decide_eq_true y)]
          exact el_lst ea_nil (Nat.zero_le _)
        · rw [show dK ks kt ct = [("OtherKinds" : Str), textOf kt (ct.map lineOf)] from if_neg (of_decide_eq_false y)]
          exact el_lst (ea_str (ea_cons (ev_strT (ev_ixL (ev_var rfl) ev_c (SqL.of (e10 _ _ hB9)) rfl) (ty9.ex e10).at hkt (by rw [List.length_map]; exact hCt.few) (fun y hy => by
            obtain ⟨c, hc, rfl⟩ := List.mem_map.mp hy
            exact line_len hkt (hCt.good c hc))) ea_nil)) (by show 2 ≤ 100000; decide)
      refine ⟨_, rfl, .inl ⟨rfl, _, SqL.of hLd⟩, cdues G10 (Ex.refl _) _ fun r3 G11 n3 e11 h3 => ⟨Ld, acc, .ref r3, rfl, rfl, e11 _ _ hLd, by rw [Rd.len, sizeLine_eq]; show 2 < 16777216; decide, ?_⟩⟩
      obtain ⟨r1, r2, rfl, h1, h2⟩ : ∃ r1 r2, acc = [.ref r1, .ref r2] ∧ G10 r1 = some (.lst (sl (dW o1))) ∧ G10 r2 = some (.lst (sl (dW o2))) := by
        match acc, Rd.len with
        | [a1, a2], _ =>
          obtain ⟨r1, rfl, h1⟩ := Rd.one
          obtain ⟨r2, rfl, h2⟩ := Rd.tail.one
          exact ⟨r1, r2, rfl, h1, h2⟩
      have Ln : ∀ {r : Addr} {ws : List Str}, G10 r = some (.lst (sl ws)) → r ≠ Ld := fun {r ws} h => ne_of h hLd fun z => by
        cases ws with
        | nil => cases z
        | cons a b => cases z
      have hLd' : (upd G11 Ld (.lst [.ref r1, .ref r2, .ref r3])) Ld = some (.lst [.ref r1, .ref r2, .ref r3]) := upd_same
      have e12 : Ex G9 (upd G11 Ld (.lst [.ref r1, .ref r2, .ref r3])) := Ex.mut (e10.trans e11) nLd
      have k1 : (upd G11 Ld (.lst [.ref r1, .ref r2, .ref r3])) r1 = some (.lst (sl (dW o1))) := by rw [upd_ne (Ln h1)]; exact e11 _ _ h1
      have k2 : (upd G11 Ld (.lst [.ref r1, .ref r2, .ref r3])) r2 = some (.lst (sl (dW o2))) := by rw [upd_ne (Ln h2)]; exact e11 _ _ h2
      have k3 : (upd G11 Ld (.lst [.ref r1, .ref r2, .ref r3])) r3 = some (.lst (sl (dK ks kt ct))) := by rw [upd_ne (fun z => by rw [z, hLd] at n3; cases n3)]; exact h3
      show tSeq _ _ _ _ (upd G11 Ld (.lst [.ref r1, .ref r2, .ref r3]))
      generalize (upd G11 Ld (.lst [.ref r1, .ref r2, .ref r3])) = G12 at hLd' e12 k1 k2 k3
      have Rows : RowsL G12 [.ref r1, .ref r2, .ref r3] [dW o1, dW o2, dK ks kt ct] := RowsL.cons k1 (RowsL.cons k2 (RowsL.cons k3 RowsL.nil))
      have okR : ∀ f ∈ [dW o1, dW o2, dK ks kt ct], OkW f := fun f m => by
        simp only [List.mem_cons, List.not_mem_nil, or_false] at m
        rcases m with rfl | rfl | rfl
        · exact owA
        · exact owB
        · exact owK
      refine q_due (tl := tVar 6) (j := 10) (ws := [10]) (σ := [some (.ref p), some (.int (0 + (i : Int))), some (.ref L), some (.ref B), some v, some u, some (.ref Ld), y7, y8, y9, y10]) (em_at (ev_var rfl) hLd') Rows (by show 3 ≤ 1000; decide) okR (fun _ => rfl) (fun _ => rfl) (dues_first o1 o2 ks kt ct) fun rd G13 e13 hd => ?_
      have e := e12.trans e13
      have o13 := o9.ex e
      have hv13 := hv9.ex e
      have hu13 := hu2.ex e
      have ht : ∀ {V6 V7 V8 : Option V} (R : V → Hp → List Str → List Cell → List Cell → V) (H1 : Hp) (E : XK) (Q : VK), spUnlike K C CN CO R [v, u] H1 Q E → tCall (spUnlike K C CN CO R) [] E (tCons (tVar 4) (tCons (tVar 5) tNil)) [some (.ref p), some (.int (0 + (i : Int))), some (.ref L), some (.ref B), some v, some u, V6, V7, V8, y9, y10] H1 Q := fun R H1 E Q h => ⟨_, rfl, _, rfl, h⟩
      have hk_ : ∀ {V6 V7 V8 : Option V} (R : V → Hp → List Str → List Cell → List Cell → V) (H1 : Hp) (E : XK) (Q : VK), spUnlike K C CN CO R [v, u] H1 Q E → tCallK0 2 (spUnlike K C CN CO R) (fun vs zs => vs ++ zs.reverse) E (tCons (tVar 5) (tCons (tVar 4) tNil)) [some (.ref p), some (.int (0 + (i : Int))), some (.ref L), some (.ref B), some v, some u, V6, V7, V8, y9, y10] H1 Q := fun R H1 E Q h => ⟨_, rfl, _, rfl, rfl, h⟩
      refine (gives_unlike (R := RA) o13.t hv13 hu13 hk hkt hC hCt n1 n2 R.aN R.fN R.aO R.fO (fun H1 E Q x h => ht RA H1 E Q h)) _ fun t1 G14 x14 T14 g1 => ⟨(by show 1 ≤ sizeLine; decide), fun W nW => ?_⟩
      have x15 : ExtN G13 (upd G14 W (.lst [.ref t1])) := x14.trans (xn_ex (Ex.new nW))
      have d15 : Told T G13 W (due33 o1 o2 ks kt ct) [.ref t1] (upd G14 W (.lst [.ref t1])) := ⟨x15, frs_back x14 nW, tabs_ex T14 (Ex.new nW), upd_same, ⟨t1, [], rfl⟩, fun v m => ⟨t1, List.mem_singleton.mp m, kp g1 nW, ne_of_none g1 nW⟩⟩
      refine q_told rfl d15 (by show 1 ≤ 1000; decide) (gives_unlike (R := RA) d15.t (headV_xn hv13 d15.x) (headV_xn hu13 d15.x) hk hkt hC hCt n1 n2 R.aN R.fN R.aO R.fO (fun H1 E Q x h => hk_ RA H1 E Q h)) fun t2 G16 d16 => ?_
      refine q_told rfl d16 (by show 2 ≤ 1000; decide) (gives_unlike (R := RU) d16.t (headV_xn hv13 d16.x) (headV_xn hu13 d16.x) hk hkt hC hCt n1 n2 R.aN R.fN R.aO R.fO (fun H1 E Q x h => ht RU H1 E Q h)) fun t3 G17 d17 => ?_
      refine q_told rfl d17 (by show 3 ≤ 1000; decide) (gives_unlike (R := RU) d17.t (headV_xn hv13 d17.x) (headV_xn hu13 d17.x) hk hkt hC hCt n1 n2 R.aN R.fN R.aO R.fO (fun H1 E Q x h => hk_ RU H1 E Q h)) fun t4 G18 d18 => ?_
      have hd18 := d18.x _ _ hd (fun _ z => by cases z)
      have o18 : Ow33 H T p G18 := ⟨o13.k.trans (Kp.ext d18.x), purse_xn o13.p d18.x, d18.t⟩
      refine ⟨_, rfl, _, rfl, (by show 1 ≤ sizeLine; decide), fun m nm => ⟨m, 4, [.ref rd], rfl, rfl, upd_same, by decide, by decide, (by show 1 * 4 ≤ sizeLine; decide), fun m2 nm2 => ?_⟩⟩
      have em : Ex G18 (upd (upd G18 m (.lst [.ref rd])) m2 (.lst (List.replicate (4 : Int).toNat [V.ref rd]).flatten)) := (Ex.new nm).trans (Ex.new nm2)
      have dA : Dp K (upd (upd G18 m (.lst [.ref rd])) m2 (.lst (List.replicate (4 : Int).toNat [V.ref rd]).flatten)) (.ref W) (.list (List.replicate 4 (.list ((due33 o1 o2 ks kt ct).map PyData.str)))) := .lst (SqL.of (em _ _ d18.w)) (dp_rows fun v mv => by
        obtain ⟨r, e, h, _⟩ := d18.r v mv
        exact ⟨r, e, em _ _ h⟩)
      have dB : Dp K (upd (upd G18 m (.lst [.ref rd])) m2 (.lst (List.replicate (4 : Int).toNat [V.ref rd]).flatten)) (.ref m2) (.list (List.replicate 4 (.list ((due33 o1 o2 ks kt ct).map PyData.str)))) := .lst (SqL.of upd_same) (dp_rows (xs := [.ref rd, .ref rd, .ref rd, .ref rd]) fun v mv => by
        simp only [List.mem_cons, List.not_mem_nil, or_false] at mv
        rcases mv with rfl | rfl | rfl | rfl <;> exact ⟨rd, rfl, em _ _ hd18⟩)
      refine ⟨_, _, dA, dB, shp_rows ow, shp_rows ow, _, rfl, ?_⟩
      rw [eqv_rows]
      refine iteF ?_
      refine next_of ?_
      dsimp only
      exact ⟨_, _, _, _, _, _, _, _, _, _, rfl, o18.ex em⟩
    · rintro σ G ⟨y1, y2, y3, y4, y5, y6, y7, y8, y9, y10, rfl, o⟩
      exact q G o.k o.t
end
end T
namespace T
open PySem PySem.Spec PyProof.Rows L2 Evl XB TL XS XI XC ClX LamX
theorem vals_rev {vs : List V} {us : List Value} (r : Vals vs us) : Vals vs.reverse us.reverse := by
  induction r with
  | nil => exact .nil
  | cons a r ih =>
    rw [List.reverse_cons, List.reverse_cons]
    exact ih.append (.cons a .nil)
def cOf3 (a0 a1 a2 : Addr) : Nat → Addr
  | 0 => a0 | 1 => a1 | _ => a2
theorem errM3_mk {mg : Str → Option Value} {a0 a1 a2 b0 b1 b2 : Addr} (h0 : mg "NotATable" = some (.ref a0)) (h1 : mg "OtherKinds" = some (.ref a1)) (h2 : mg "InvalidKinds" = some (.ref a2)) (g0 : mg "BadValue" = some (.ref b0)) (g1 : mg "BadName" = some (.ref b1)) (g2 : mg "NoAnswer" = some (.ref b2)) : ErrM3 mg (cOf3 a0 a1 a2) (bOf b0 b1 b2) :=
  ⟨fun j n h => match j, h with
    | 0, h => by cases h; exact h0
    | 1, h => by cases h; exact h1
    | 2, h => by cases h; exact h2
    | _ + 3, h => (by cases h),
   fun j n h => match j, h with
    | 0, h => by cases h; exact g0
    | 1, h => by cases h; exact g1
    | 2, h => by cases h; exact g2
    | _ + 3, h => by cases h⟩
theorem errF3_mk {K : PySem.W.Frag} {a0 a1 a2 b0 b1 b2 D : Addr} {j : Nat} (no : PySem.W.findIn K (.ref D) "given" = some none) (ex : PySem.W.exmAny K (.ref D) [.ref b0, .ref b1, .ref b2] = some true)
    (k0 : PySem.W.kitOne K (.ref D) (.ref a0) = some (decide (0 = j))) (k1 : PySem.W.kitOne K (.ref D) (.ref a1) = some (decide (1 = j))) (k2 : PySem.W.kitOne K (.ref D) (.ref a2) = some (decide (2 = j))) (m0 : PySem.W.kitOne K (.ref D) (.ref b0) = some true) : ErrF3 K (cOf3 a0 a1 a2) (bOf b0 b1 b2) D j :=
  ⟨no, ex, fun i hi => match i, hi with
    | 0, _ => k0 | 1, _ => k1 | 2, _ => k2, m0⟩
theorem sqt_mk {K : PySem.W.Frag} {r n : Nat} {od : Option Addr} {its : Array Value} {sl' : Array (Option Value)} {xs : List V} (l : K.lookup r = some ⟨.type "tuple", od, .seq its n, sl'⟩) (hv : Vals xs its.toList) (hz : its.size ≤ sizeLine) : ∀ H, SqT K H r xs := fun H => .inr ⟨_, its, n, l, rfl, rfl, hz, hv⟩
theorem tupV_mk {K : PySem.W.Frag} {h : Heap} {mg : Str → Option Value} {x : Str} {a n : Nat} {od : Option Addr} {its : Array Value} {sl' : Array (Option Value)} {rs : List Addr} {xss : List (List V)} (X : K.In h) (G : h.Ns mainGlobals mg) (ha : PySem.W.nsIn K mainGlobals x = some (some (.ref a)))
    (l : K.lookup a = some ⟨.type "tuple", od, .seq its n, sl'⟩) (hv : Vals (rs.map V.ref) its.toList) (hz : its.size ≤ sizeLine) (e : rs.length = xss.length) (hr : ∀ (i : Nat) r xs, rs[i]? = some r → xss[i]? = some xs → ∀ H, SqT K H r xs) : TupV K mg x xss :=
  ⟨a, rs, PySem.W.mg_of X G ha, e, sqt_mk l hv hz, hr⟩
section
variable {P : Program} {w : World} {K : PySem.W.Frag} {mg : Str → Option Value} {base : Heap} {C : Addr}
def spLawT (K : PySem.W.Frag) (cs : List (Addr × Addr)) : Sp := fun vs H Q _ => ∃ (a : Addr) (ns : List Int), vs = [.ref a] ∧ SqL K H a (ns.map V.int) ∧ ns.length ≤ 1000 ∧ (∀ p ∈ cs, H p.2 = some (.tbl #[])) ∧ ∀ H', Q (.bl true) H'
theorem c_law {f : Addr} {fd : FuncData} {T : List (Addr × Str)} {cs : List (Addr × Addr)} (F : Fun K "law" "law" s_law f fd) (B : Bl mg) (hT : ∀ p ∈ T, p.1 ∈ cs.map (·.2)) (Cp : C8.Cal P w K mg base 1 "_law_purse" (spPurse K) []) (Cr : CalG P w K mg base 10 "_law_right" (spRightT T)) :
    XG.FnG P w K mg base CX0 11 f fd ["script"] (spLawT K cs) := by
  refine XG.okG F sc_law (fun vs H Q E h => ?_) (fun cdv A outer s H vs Q E hc hr h => ?_)
  · obtain ⟨a, ns, rfl, _⟩ := h
    rfl
  · obtain ⟨a, ns, rfl, hS, hl, hcs, q⟩ := h
    refine ⟨_, pss_cons (ps_for PassesOwn.never rfl (pi_range1 (by rfl) B.range (pa_cons (pe_callB (call_max2 (by rfl)) (by rfl) B.max_ (by decide +kernel) (pa_cons pe_int (pa_cons (pe_callB (call_min2 (by rfl)) (by rfl) B.min_ (by decide +kernel) (pa_cons (pe_callB call_len_seq (by rfl) B.len (by decide +kernel) (pa_cons (pv 0) pa_nil)) (pa_cons pe_int pa_nil))) pa_nil))) pa_nil)) (pg_name (i := 1) sc_law.nd rfl (.inl rfl))
        (pss_one (ps_if (pt_not (pt_val (pe_cG Cr hc hr (by decide) (by rfl) (pa_cons (C8.pe_c Cp hr (by decide) (by rfl) (pa_cons (pv 0) (pa_cons (pv 1) pa_nil))) pa_nil)))) (pss_one (ps_ret pe_bl)) pss_nil)))
      (pss_one (ps_ret pe_bl)), ?_⟩
    have T0 : Tabs T H := fun p hp => by
      obtain ⟨r, hr, e⟩ := List.mem_map.mp (hT p hp)
      exact TabS.nil (by rw [← e]; exact hcs r hr)
    refine ⟨_, rfl, a, _, rfl, .inl hS, _, _, rfl, _, _, rfl, ?_⟩
    have hm : ∀ n : Int, 0 ≤ n → 0 ≤ (if (if (6 : Int) < n then 6 else n) > 2 then (if (6 : Int) < n then 6 else n) else 2) ∧ (if (if (6 : Int) < n then 6 else n) > 2 then (if (6 : Int) < n then 6 else n) else 2) ≤ 6 := fun n h => by
      split <;> split <;> omega
    obtain ⟨m0, m5⟩ := hm (((ns.map V.int).length : Nat) : Int) (by omega)
    generalize (if (if (6 : Int) < (((ns.map V.int).length : Nat) : Int) then 6 else (((ns.map V.int).length : Nat) : Int)) > 2 then (if (6 : Int) < (((ns.map V.int).length : Nat) : Int) then 6 else (((ns.map V.int).length : Nat) : Int)) else 2) = n at m0 m5 ⊢
    refine ⟨n, rfl, by omega, by omega, for_range (lo := 0) (n := n.toNat) (fun i σ G => ∃ y1, σ = [some (.ref a), y1] ∧ SqL K G a (ns.map V.int) ∧ Tabs T G) ⟨none, rfl, hS, T0⟩ ?_ ?_⟩
    · rintro i σ G hi ⟨y1, rfl, sG, TG⟩
      have hi5 : i < 6 := by omega
      refine ⟨_, rfl, _, rfl, a, ns, 0 + (i : Int), rfl, sG, by omega, by omega, hl, fun p G1 s1 n1 hp1 => ⟨p, rfl, hp1, tabs_ex TG s1, fun G2 c2 T2 => ⟨true, rfl, ?_⟩⟩⟩
      refine iteF ⟨_, rfl, ?_, T2⟩
      -- the script is a list that stood before the purse
      rcases sG with (h | ⟨o, h⟩) | h
      · exact .inl (.inl (c2 _ _ (ne_of_none h n1) (fun _ z => by cases z) (s1 _ _ h)))
      · exact .inl (.inr ⟨o, c2 _ _ (ne_of_none h n1) (fun _ z => by cases z) (s1 _ _ h)⟩)
      · exact .inr h
    · rintro σ G ⟨y1, rfl, sG, _⟩
      exact q G
end
end T
namespace T
open PySem PySem.Spec PyProof.Rows L2 Evl XB TL XS XI XC ClX XSp LamX
section
variable {P : Program} {w : World} {K : PySem.W.Frag} {mg : Str → Option Value} {base : Heap} {C : Addr}
theorem vals_swp {vs : List V} {us : List Value} (r : Vals vs us) : Vals (swp vs) (swp us) := by
  cases r with
  | nil => exact .nil
  | cons a r => cases r with
    | nil => exact .nil
    | cons b r => cases r with
      | nil => exact .cons b (.cons a .nil)
      | cons c r => exact .nil
/-- how __init__ is bound -/
theorem init_binds {f : Addr} {fd : FuncData} {ae : Addr} (F : FunD K "__init__" "Table.__init__" (defArgs s_Table___init__) (defBody s_Table___init__) (defScope s_Table___init__) [.ref ae] [] f fd) :
    Binds K fd psI [] ∧ (∃ ds : List Value, Vals [.ref ae] ds ∧ Binds K fd psI ds) ∧
    (∃ its : List Value, KBn K fd psI 1 ["rows", "kinds"] (fun us ws => us ++ swp ws) (fun vs zs => vs ++ swp zs)) ∧ KBn K fd psI 1 ["kinds", "rows"] (fun us ws => us ++ ws) (fun vs zs => vs ++ zs) := by
  refine ⟨?_, ?_, ?_, ?_⟩
  · obtain ⟨ds, h1, h2⟩ := F.binds1 (ps := psI) 3 1 (by simp) rfl fun T kV doc pm an cdv ct us its e1 e2 => match us, its, e1, e2 with
      | [_, _, _], [_], _, _ => ⟨_, rfl, rfl⟩
    cases h1
    exact h2
  · exact F.binds1 (ps := psI) 2 0 (by simp) rfl fun T kV doc pm an cdv ct us its e1 e2 => match us, its, e1, e2 with
      | [_, _], [_], _, _ => ⟨_, rfl, rfl⟩
  · obtain ⟨its, h⟩ := F.kbinds1 (ps := psI) 1 ["rows", "kinds"] (fun us _ ws => us ++ swp ws) (fun vs _ zs => vs ++ swp zs) (by simp) (fun r1 _ r3 => r1.append (vals_swp r3)) fun T kV doc pm an cdv ct us its ws e1 e2 e3 => match us, its, ws, e1, e2, e3 with
      | [_], [_], [_, _], _, _, _ => ⟨_, rfl, rfl⟩
    exact ⟨its, h⟩
  · obtain ⟨its, h⟩ := F.kbinds1 (ps := psI) 1 ["kinds", "rows"] (fun us _ ws => us ++ ws) (fun vs _ zs => vs ++ zs) (by simp) (fun r1 _ r3 => r1.append r3) fun T kV doc pm an cdv ct us its ws e1 e2 e3 => match us, its, ws, e1, e2, e3 with
      | [_], [_], [_, _], _, _, _ => ⟨_, rfl, rfl⟩
    exact h
/-- the class of an error that is raised: how it is made, what isinstance says -/
def ErrK (P : Program) (K : PySem.W.Frag) (mg : Str → Option Value) (c b : Nat → Addr) (n F : Str) (j : Nat) : Prop := ∃ D : Addr, mg n = some (.ref D) ∧ XSp.SupC P K mg D F ∧ XSp.AskC K D ∧ ErrF3 K c b D j
/-- what the program's top has left -/
structure Top (P : Program) (K : PySem.W.Frag) (w : World) (mg : Str → Option Value) (C : Addr) : Prop where
  B : Bl mg
  purse : At K mg "_law_purse" s__law_purse ["script", "k"]
  draw : At K mg "_law_draw" s__law_draw ["purse", "size"]
  pick : At K mg "_law_pick" s__law_pick ["purse", "menu"]
  word : At K mg "is_word" s_is_word ["value", "words"]
  kinds : At K mg "are_kinds" s_are_kinds ["value"]
  cell : At K mg "is_cell" s_is_cell ["value", "kinds"]
  cellOf : At K mg "cell_of" s_cell_of ["row"]
  optsOf : At K mg "options_of" s_options_of ["row"]
  conds : At K mg "conditions_for" s_conditions_for ["mine", "its"]
  res : At K mg "results_for" s_results_for ["mine", "kinds"]
  row : At K mg "is_row" s_is_row ["value", "kinds"]
  first : At K mg "first_wrong_row" s_first_wrong_row ["rows", "kinds"]
  kr : At K mg "kinds_and_rows" s_kinds_and_rows ["text"]
  isText : At K mg "is_table_text" s_is_table_text ["value"]
  cmp : At K mg "compared" s_compared ["mine", "its", "words"]
  met : At K mg "conditions_met" s_conditions_met ["edit", "past", "first"]
  chosen : At K mg "chosen" s_chosen ["options", "met"]
  formed : At K mg "formed" s_formed ["edit", "result"]
  turned : At K mg "turned" s_turned ["table", "edit", "past", "first"]
  sorts2 : At K mg "_law_sorts" s__law_sorts ["purse", "most_here"]
  opts2 : At K mg "_law_options" s__law_options ["purse", "mine", "its", "sorts", "is_asked"]
  cells2 : At K mg "_law_cells" s__law_cells ["purse", "sorts", "bends", "is_asked"]
  text2 : At K mg "_law_text" s__law_text ["sorts", "cells"]
  good : At K mg "_law_good" s__law_good []
  mk_ : At K mg "made" s_made ["kind", "place", "sign"]
  pairs : At K mg "pairs" s_pairs ["kinds"]
  tK : TupC K mg "KINDS" KINDSc
  tR : TupC K mg "RELATIONS" rels
  tS : TupC K mg "KINDS_WITH_SIGN" ["put", "set"]
  tC : TupC K mg "SIGN_CONDITIONS" ["less", "same", "more"]
  tE : TupC K mg "RESULTS" ["keep", "up", "down", "stay"]
  most : ∃ t, mg "MOST_OPTIONS" = some (.int 5 t)
  step : StepC K w mg
  T : TabC K mg C
  I : C8.InsC K C
  init : ∃ (f : Addr) (fd : FuncData) (ae : Addr), Mk K C f ∧ FunD K "__init__" "Table.__init__" (defArgs s_Table___init__) (defBody s_Table___init__) (defScope s_Table___init__) [.ref ae] [] f fd ∧ ∀ H, SqT K H ae []
  pkinds : ProD K C "kinds" "Table.kinds" s_Table_kinds
  mstr : MetD K C "__str__" "Table.__str__" s_Table___str__
  get : ∃ (f : Addr) (fd : FuncData), XGt.GetC K C f ∧ Fun K "__getitem__" "Table.__getitem__" s_Table___getitem__ f fd ∧ Binds K fd ["self", "at"] []
  read : ∃ (g pm : Addr) (mc : Value) (fd : FuncData), CRead K C mc ∧ CMet K C mc "read" pm g ∧ Fun K "read" "Table.read" s_Table_read g fd ∧ Binds K fd ["cls", "text"] [] ∧ KBn K fd ["cls", "text"] 1 ["text"] (fun us ws => us ++ ws) (fun vs zs => vs ++ zs)
  noKit : NoKit K C
  askF : ∃ (f : Addr) (fd : FuncData), mg "ask_for_table" = some (.ref f) ∧ PySem.W.keepIn K (.ref f) = true ∧ Fun K "ask_for_table" "ask_for_table" s_ask_for_table f fd ∧ Binds K fd ["value"] []
  unl : ∃ (f : Addr) (fd : FuncData), mg "unlike" = some (.ref f) ∧ PySem.W.keepIn K (.ref f) = true ∧ Fun K "unlike" "unlike" s_unlike f fd ∧ Binds K fd ["one", "other"] [] ∧ KBn K fd ["one", "other"] 0 ["other", "one"] (fun us ws => us ++ ws.reverse) (fun vs zs => vs ++ zs.reverse)
  alk : ∃ (f : Addr) (fd : FuncData), mg "alike" = some (.ref f) ∧ PySem.W.keepIn K (.ref f) = true ∧ Fun K "alike" "alike" s_alike f fd ∧ Binds K fd ["one", "other"] [] ∧ KBn K fd ["one", "other"] 0 ["other", "one"] (fun us ws => us ++ ws.reverse) (fun vs zs => vs ++ zs.reverse)
  TD : TupV K mg "DIFFERENT_SIGNS" diffV
  TS : TupV K mg "SAME_SIGNS" sameV
  TP : TupV K mg "PLACES_BY_RELATION" placeV
  caughtV : ∃ cd, AtV K mg "_law_caught" s__law_caught ["act"] cd
  er : ∃ (c b : Nat → Addr), ErrM3 mg c b ∧ ErrK P K mg c b "NotATable" "given" 0 ∧ ErrK P K mg c b "OtherKinds" "given" 1
theorem law_all {f : Addr} {fd : FuncData} (F : Fun K "law" "law" s_law f fd) {tc_right tp_right : Addr} (V_right : AtV K mg "_law_right" s__law_right ["purse"] (.ref tc_right)) (TB_right : LamX.TabB base mg tc_right tp_right) (t : Top P K w mg C) : XG.FnG P w K mg base CX0 11 f fd ["script"] (spLawT K [(tc_right, tp_right)]) := by
  obtain ⟨tk, mo⟩ := t.most
  have Cdraw := c_draw (P := P) (w := w) (base := base) t.draw t.B
  have Cpick := c_pick t.pick t.B Cdraw
  have Cword := c_word (P := P) (w := w) (base := base) t.word t.B
  have Ckinds := c_kinds t.kinds t.B t.tK Cword
  have Ccell := c_isCell t.cell t.B t.tR Cword
  have CcellOf := c_cellOf (P := P) (w := w) (base := base) t.cellOf t.B
  have CoptsOf := c_optsOf (P := P) (w := w) (base := base) t.optsOf t.B
  have Cconds := c_conds (P := P) (w := w) (base := base) t.conds t.tS t.tC
  have Cres := c_res (P := P) (w := w) (base := base) t.res t.tE
  have Crow := c_isRow t.row t.B mo Ccell CcellOf CoptsOf Cconds Cres
  have Cfirst := c_first t.first t.B Crow CcellOf
  obtain ⟨fi, fdi, ae, Mi, Fi, he⟩ := t.init
  have Ci := c_init Fi t.B t.T Ckinds Cfirst CcellOf CoptsOf
  obtain ⟨b1, ⟨ds, v2, b2⟩, b3, b4⟩ := init_binds Fi
  have M : TabM P w K mg base C := ⟨t.T, t.I, fi, fdi, Mi, Ci, b1, ⟨ae, ds, v2, b2, he⟩, b3, b4⟩
  have Ckr := c_kr (P := P) (w := w) (base := base) t.kr t.B
  have CisText := c_isText t.isText t.B Ckr Ckinds Cfirst
  have C6 := c_cmp (P := P) (w := w) (base := base) t.cmp
  have C7 := c_met t.met t.B t.tC C6
  have C8' := c_chosen (P := P) (w := w) (base := base) t.chosen
  have C9 := c_formed (P := P) (base := base) t.formed t.step
  obtain ⟨fg, fdg2, GC, Fgt, bgt⟩ := t.get
  have Cg := c_get (P := P) (w := w) (base := base) Fgt t.T Ccell
  have C10 := c_turned t.turned t.tR GC Cg bgt C6 C7 C8' C9
  obtain ⟨cdc, Vc⟩ := t.caughtV
  have Be : BlE mg := ⟨t.B.isin, t.B.repr⟩
  obtain ⟨c, b, Me, EK_NotATable, EK_OtherKinds⟩ := t.er
  obtain ⟨CX_NotATable, gX_NotATable, SC_NotATable, AC_NotATable, EF_NotATable⟩ := EK_NotATable
  obtain ⟨CX_OtherKinds, gX_OtherKinds, SC_OtherKinds, AC_OtherKinds, EF_OtherKinds⟩ := EK_OtherKinds
  obtain ⟨g, pm, mc, fdg, cr, cm, Fg, bgr, kg⟩ := t.read
  obtain ⟨fa, fda, ma, ka, Faa, ba⟩ := t.askF
  obtain ⟨ful, fdul, mul, kul, Ful, bul, kbul⟩ := t.unl
  obtain ⟨fal, fdal, mal, kal, Fal, bal, kbal⟩ := t.alk
  have Pk := p_kinds (P := P) (w := w) (base := base) t.pkinds t.T
  have Cgood := c_good (P := P) (w := w) (base := base) t.good
  have Copts2 := c_opts2 t.opts2 t.B Cpick
  have Ccells2 := c_cells2 t.cells2 t.B Cgood Cdraw Cpick Copts2
  have Ctext2 := c_text2 (P := P) (w := w) (base := base) t.text2 t.B
  have Csorts2 := c_sorts2 t.sorts2 t.B Cpick
  have Cmk := c_mk (P := P) (w := w) (base := base) t.mk_
  have Cpairs := c_pairs t.pairs t.TD t.TS t.TP Cmk
  have Fa := c_askO (P := P) (w := w) (base := base) Faa t.B t.T t.I t.noKit SC_NotATable gX_NotATable
  have Fu := c_unlike Ful t.B M Pk ma ka ba Fa SC_OtherKinds gX_OtherKinds Cpairs C10
  have Fl := c_alike Fal mul kul bul Fu
  have RR : RdM33 P w K mg base C CX_NotATable CX_OtherKinds := ⟨⟨g, pm, mc, fdg, cr, cm, c_read Fg M Ckr CisText, bgr⟩, ⟨fal, fdal, mal, kal, Fl, bal, kbal⟩, ⟨ful, fdul, mul, kul, Fu.mono (by decide), bul, kbul⟩⟩
  have R : Err33 K c b CX_NotATable CX_OtherKinds := ⟨AC_NotATable, EF_NotATable, AC_OtherKinds, EF_OtherKinds⟩
  have hcs : ∀ p ∈ ([(tp_right, (("_law_right" : Str) ++ (".<locals>." : Str)) ++ ("<lambda>" : Str))] : List (Addr × Str)), p.1 ∈ [(tc_right, tp_right)].map (·.2) := fun p hp => by rw [List.mem_singleton.mp hp]; exact List.mem_singleton.mpr rfl
  have Cright := c_right V_right t.B Vc Me (p_str t.mstr t.T) (p_strW t.mstr t.T) TB_right rfl t.T t.I t.noKit RR R Csorts2 Ccells2 Ctext2 Cdraw Cpick
  exact c_law F t.B hcs (c_purse (P := P) (w := w) (base := base) t.purse t.B) Cright
end
end T
namespace T
open PySem PySem.Spec PyProof.Rows L2 Evl XB TL XS XI XC ClX XSp LamX
theorem tupC_mk {K : PySem.W.Frag} {h : Heap} {mg : Str → Option Value} {x : Str} {ws : List Str} {a n : Nat} {od : Option Addr} {its : Array Value} {sl' : Array (Option Value)} (X : K.In h) (G : h.Ns mainGlobals mg) (ha : PySem.W.nsIn K mainGlobals x = some (some (.ref a)))
    (l : K.lookup a = some ⟨.type "tuple", od, .seq its n, sl'⟩) (hv : Vals (sl ws) its.toList) (hz : its.size ≤ sizeLine) : TupC K mg x ws := ⟨a, PySem.W.mg_of X G ha, fun H => .inr ⟨_, its, n, l, rfl, rfl, hz, hv⟩⟩
theorem me_self {K : PySem.W.Frag} {C : Addr} : PySem.W.kitOne K (.ref C) (.ref C) = some true := by
  unfold PySem.W.kitOne
  rw [if_pos (beq_self_eq_true _)]
abbrev sINotATable : Stmt := inClass (topS 5) 0
theorem sINotATable_A : defArgs sINotATable = XSp.supArgs "given" ⟨19, 17, 19, 21⟩ ⟨19, 23, 19, 28⟩ := rfl
theorem sINotATable_B : defBody sINotATable = XSp.supBody "given" "given" "no table" ⟨20, 8, 20, 13⟩ ⟨20, 8, 20, 15⟩ ⟨20, 8, 20, 24⟩ ⟨20, 25, 20, 35⟩ ⟨20, 8, 20, 36⟩ ⟨20, 8, 20, 36⟩ ⟨21, 8, 21, 12⟩ ⟨21, 8, 21, 18⟩ ⟨21, 21, 21, 26⟩ ⟨21, 8, 21, 26⟩ := rfl
theorem sINotATable_S : defScope sINotATable = XSp.supScope "given" := rfl
abbrev sIOtherKinds : Stmt := inClass (topS 6) 0
theorem sIOtherKinds_A : defArgs sIOtherKinds = XSp.supArgs "given" ⟨24, 17, 24, 21⟩ ⟨24, 23, 24, 28⟩ := rfl
theorem sIOtherKinds_B : defBody sIOtherKinds = XSp.supBody "given" "given" "a table for other kinds" ⟨25, 8, 25, 13⟩ ⟨25, 8, 25, 15⟩ ⟨25, 8, 25, 24⟩ ⟨25, 25, 25, 50⟩ ⟨25, 8, 25, 51⟩ ⟨25, 8, 25, 51⟩ ⟨26, 8, 26, 12⟩ ⟨26, 8, 26, 18⟩ ⟨26, 21, 26, 26⟩ ⟨26, 8, 26, 26⟩ := rfl
theorem sIOtherKinds_S : defScope sIOtherKinds = XSp.supScope "given" := rfl
theorem top_mk {P : Program} {w : World} {K : PySem.W.Frag} {h : Heap} {mg : Str → Option Value} {fa : Addr} (X : K.In h) (G : h.Ns mainGlobals mg) (hfa : mg "law" = some (.ref fa))
    {f_law : Addr} {od_law an_law : Option Addr} {sl_law : Array (Option Value)} {oc_law kV_law dc_law pm_law cd_law ct_law : Value}
    {f_purse : Addr} {od_purse an_purse : Option Addr} {sl_purse : Array (Option Value)} {oc_purse kV_purse dc_purse pm_purse cd_purse ct_purse : Value}
    {f_draw : Addr} {od_draw an_draw : Option Addr} {sl_draw : Array (Option Value)} {oc_draw kV_draw dc_draw pm_draw cd_draw ct_draw : Value}
    {f_pick : Addr} {od_pick an_pick : Option Addr} {sl_pick : Array (Option Value)} {oc_pick kV_pick dc_pick pm_pick cd_pick ct_pick : Value}
    {f_word : Addr} {od_word an_word : Option Addr} {sl_word : Array (Option Value)} {oc_word kV_word dc_word pm_word cd_word ct_word : Value}
    {f_kinds : Addr} {od_kinds an_kinds : Option Addr} {sl_kinds : Array (Option Value)} {oc_kinds kV_kinds dc_kinds pm_kinds cd_kinds ct_kinds : Value}
    {f_cell : Addr} {od_cell an_cell : Option Addr} {sl_cell : Array (Option Value)} {oc_cell kV_cell dc_cell pm_cell cd_cell ct_cell : Value}
    {f_cellOf : Addr} {od_cellOf an_cellOf : Option Addr} {sl_cellOf : Array (Option Value)} {oc_cellOf kV_cellOf dc_cellOf pm_cellOf cd_cellOf ct_cellOf : Value}
    {f_optsOf : Addr} {od_optsOf an_optsOf : Option Addr} {sl_optsOf : Array (Option Value)} {oc_optsOf kV_optsOf dc_optsOf pm_optsOf cd_optsOf ct_optsOf : Value}
    {f_conds : Addr} {od_conds an_conds : Option Addr} {sl_conds : Array (Option Value)} {oc_conds kV_conds dc_conds pm_conds cd_conds ct_conds : Value}
    {f_res : Addr} {od_res an_res : Option Addr} {sl_res : Array (Option Value)} {oc_res kV_res dc_res pm_res cd_res ct_res : Value}
    {f_row : Addr} {od_row an_row : Option Addr} {sl_row : Array (Option Value)} {oc_row kV_row dc_row pm_row cd_row ct_row : Value}
    {f_first : Addr} {od_first an_first : Option Addr} {sl_first : Array (Option Value)} {oc_first kV_first dc_first pm_first cd_first ct_first : Value}
    {f_kr : Addr} {od_kr an_kr : Option Addr} {sl_kr : Array (Option Value)} {oc_kr kV_kr dc_kr pm_kr cd_kr ct_kr : Value}
    {f_isText : Addr} {od_isText an_isText : Option Addr} {sl_isText : Array (Option Value)} {oc_isText kV_isText dc_isText pm_isText cd_isText ct_isText : Value}
    {f_cmp : Addr} {od_cmp an_cmp : Option Addr} {sl_cmp : Array (Option Value)} {oc_cmp kV_cmp dc_cmp pm_cmp cd_cmp ct_cmp : Value}
    {f_met : Addr} {od_met an_met : Option Addr} {sl_met : Array (Option Value)} {oc_met kV_met dc_met pm_met cd_met ct_met : Value}
    {f_chosen : Addr} {od_chosen an_chosen : Option Addr} {sl_chosen : Array (Option Value)} {oc_chosen kV_chosen dc_chosen pm_chosen cd_chosen ct_chosen : Value}
    {f_formed : Addr} {od_formed an_formed : Option Addr} {sl_formed : Array (Option Value)} {oc_formed kV_formed dc_formed pm_formed cd_formed ct_formed : Value}
    {f_turned : Addr} {od_turned an_turned : Option Addr} {sl_turned : Array (Option Value)} {oc_turned kV_turned dc_turned pm_turned cd_turned ct_turned : Value}
    {f_sorts2 : Addr} {od_sorts2 an_sorts2 : Option Addr} {sl_sorts2 : Array (Option Value)} {oc_sorts2 kV_sorts2 dc_sorts2 pm_sorts2 cd_sorts2 ct_sorts2 : Value}
    {f_opts2 : Addr} {od_opts2 an_opts2 : Option Addr} {sl_opts2 : Array (Option Value)} {oc_opts2 kV_opts2 dc_opts2 pm_opts2 cd_opts2 ct_opts2 : Value}
    {f_cells2 : Addr} {od_cells2 an_cells2 : Option Addr} {sl_cells2 : Array (Option Value)} {oc_cells2 kV_cells2 dc_cells2 pm_cells2 cd_cells2 ct_cells2 : Value}
    {f_text2 : Addr} {od_text2 an_text2 : Option Addr} {sl_text2 : Array (Option Value)} {oc_text2 kV_text2 dc_text2 pm_text2 cd_text2 ct_text2 : Value}
    {f_good : Addr} {od_good an_good : Option Addr} {sl_good : Array (Option Value)} {oc_good kV_good dc_good pm_good cd_good ct_good : Value}
    {f_mk_ : Addr} {od_mk_ an_mk_ : Option Addr} {sl_mk_ : Array (Option Value)} {oc_mk_ kV_mk_ dc_mk_ pm_mk_ cd_mk_ ct_mk_ : Value}
    {f_pairs : Addr} {od_pairs an_pairs : Option Addr} {sl_pairs : Array (Option Value)} {oc_pairs kV_pairs dc_pairs pm_pairs cd_pairs ct_pairs : Value}
    {a_tK n_tK : Nat} {od_tK : Option Addr} {sl_tK : Array (Option Value)} {t_tK0 t_tK1 t_tK2 : Tok}
    {a_tR n_tR : Nat} {od_tR : Option Addr} {sl_tR : Array (Option Value)} {t_tR0 t_tR1 t_tR2 : Tok}
    {a_tS n_tS : Nat} {od_tS : Option Addr} {sl_tS : Array (Option Value)} {t_tS0 t_tS1 : Tok}
    {a_tC n_tC : Nat} {od_tC : Option Addr} {sl_tC : Array (Option Value)} {t_tC0 t_tC1 t_tC2 : Tok}
    {a_tE n_tE : Nat} {od_tE : Option Addr} {sl_tE : Array (Option Value)} {t_tE0 t_tE1 t_tE2 t_tE3 : Tok}
    {t_most : Tok}
    {a_st n_st : Nat} {es_st : Array DictEntry} {t_st0 t_st1 t_st2 : Tok}
    {C : Addr}
    {f_init : Addr} {od_init an_init : Option Addr} {sl_init : Array (Option Value)} {oc_init kV_init dc_init pm_init cd_init ct_init : Value}
    {T0 ae n_T n_e : Nat} {od_T od_e : Option Addr} {sl_T sl_e : Array (Option Value)} {oc_T : Value}
    {f_pkinds : Addr} {od_pkinds an_pkinds : Option Addr} {sl_pkinds : Array (Option Value)} {oc_pkinds kV_pkinds dc_pkinds pm_pkinds cd_pkinds ct_pkinds : Value}
    {p_pkinds : Addr} {rest_pkinds : List Value}
    {f_mstr : Addr} {od_mstr an_mstr : Option Addr} {sl_mstr : Array (Option Value)} {oc_mstr kV_mstr dc_mstr pm_mstr cd_mstr ct_mstr : Value}
    {f_gt : Addr} {od_gt an_gt : Option Addr} {sl_gt : Array (Option Value)} {oc_gt kV_gt dc_gt pm_gt cd_gt ct_gt : Value}
    {f_rd : Addr} {od_rd an_rd : Option Addr} {sl_rd : Array (Option Value)} {oc_rd kV_rd dc_rd pm_rd cd_rd ct_rd : Value}
    {pm_rd_ : Addr} {rest_rd : List Value}
    {f_askT : Addr} {od_askT an_askT : Option Addr} {sl_askT : Array (Option Value)} {oc_askT kV_askT dc_askT pm_askT cd_askT ct_askT : Value}
    {f_unl : Addr} {od_unl an_unl : Option Addr} {sl_unl : Array (Option Value)} {oc_unl kV_unl dc_unl pm_unl cd_unl ct_unl : Value}
    {f_alk : Addr} {od_alk an_alk : Option Addr} {sl_alk : Array (Option Value)} {oc_alk kV_alk dc_alk pm_alk cd_alk ct_alk : Value}
    {a_TD n_TD : Nat} {od_TD : Option Addr} {sl_TD : Array (Option Value)}
    {a_TD0 n_TD0 : Nat} {od_TD0 : Option Addr} {sl_TD0 : Array (Option Value)} {t_TD0_0 : Tok}
    {a_TD1 n_TD1 : Nat} {od_TD1 : Option Addr} {sl_TD1 : Array (Option Value)} {t_TD1_0 : Tok}
    {a_TD2 n_TD2 : Nat} {od_TD2 : Option Addr} {sl_TD2 : Array (Option Value)} {t_TD2_0 t_TD2_1 : Tok}
    {a_TD3 n_TD3 : Nat} {od_TD3 : Option Addr} {sl_TD3 : Array (Option Value)} {t_TD3_0 t_TD3_1 t_TD3_2 t_TD3_3 t_TD3_4 t_TD3_5 : Tok}
    {a_TS n_TS : Nat} {od_TS : Option Addr} {sl_TS : Array (Option Value)}
    {a_TS0 n_TS0 : Nat} {od_TS0 : Option Addr} {sl_TS0 : Array (Option Value)}
    {a_TS1 n_TS1 : Nat} {od_TS1 : Option Addr} {sl_TS1 : Array (Option Value)}
    {a_TS2 n_TS2 : Nat} {od_TS2 : Option Addr} {sl_TS2 : Array (Option Value)} {t_TS2_0 : Tok}
    {a_TS3 n_TS3 : Nat} {od_TS3 : Option Addr} {sl_TS3 : Array (Option Value)} {t_TS3_0 t_TS3_1 t_TS3_2 t_TS3_3 t_TS3_4 t_TS3_5 t_TS3_6 : Tok}
    {a_TP n_TP : Nat} {od_TP : Option Addr} {sl_TP : Array (Option Value)}
    {a_TP0 n_TP0 : Nat} {od_TP0 : Option Addr} {sl_TP0 : Array (Option Value)} {t_TP0_0 t_TP0_1 : Tok}
    {a_TP1 n_TP1 : Nat} {od_TP1 : Option Addr} {sl_TP1 : Array (Option Value)} {t_TP1_0 t_TP1_1 : Tok}
    {a_TP2 n_TP2 : Nat} {od_TP2 : Option Addr} {sl_TP2 : Array (Option Value)} {t_TP2_0 t_TP2_1 : Tok}
    {f_caught : Addr} {od_caught an_caught : Option Addr} {sl_caught : Array (Option Value)} {oc_caught kV_caught dc_caught pm_caught cd_caught ct_caught : Value}
    {f_right : Addr} {od_right an_right : Option Addr} {sl_right : Array (Option Value)} {oc_right kV_right dc_right pm_right  ct_right : Value}
    {tc_right tp_right : Addr} {tcl_right : Value} {tcd_right : Option Addr} {tvs_right : Array Value} {tcs_right : Array (Option Value)}
    {C_InvalidKinds : Addr}
    {C_BadValue : Addr}
    {C_BadName : Addr}
    {C_NoAnswer : Addr}
    {C_NotATable fI_NotATable cc_NotATable cda_NotATable N_NotATable : Addr} {kV_NotATable doc_NotATable pm_NotATable ct_NotATable oc_NotATable ccl_NotATable cl_NotATable : Value} {an_NotATable od_NotATable cdd_NotATable cld_NotATable dd_NotATable : Option Addr} {osl_NotATable ccs_NotATable csl_NotATable : Array (Option Value)} {vs_NotATable : Array Value} {file_NotATable nm_NotATable q_NotATable : Str} {tf_NotATable : Tok} {bs_NotATable bm_NotATable : List Value} {sn_NotATable : List Str} {sub_NotATable : List Value} {ab_NotATable : Bool} {col_NotATable : Option Bool} {m0_NotATable m1_NotATable m2_NotATable m3_NotATable m5_NotATable : Option Value}
    {C_OtherKinds fI_OtherKinds cc_OtherKinds cda_OtherKinds N_OtherKinds : Addr} {kV_OtherKinds doc_OtherKinds pm_OtherKinds ct_OtherKinds oc_OtherKinds ccl_OtherKinds cl_OtherKinds : Value} {an_OtherKinds od_OtherKinds cdd_OtherKinds cld_OtherKinds dd_OtherKinds : Option Addr} {osl_OtherKinds ccs_OtherKinds csl_OtherKinds : Array (Option Value)} {vs_OtherKinds : Array Value} {file_OtherKinds nm_OtherKinds q_OtherKinds : Str} {tf_OtherKinds : Tok} {bs_OtherKinds bm_OtherKinds : List Value} {sn_OtherKinds : List Str} {sub_OtherKinds : List Value} {ab_OtherKinds : Bool} {col_OtherKinds : Option Bool} {m0_OtherKinds m1_OtherKinds m2_OtherKinds m3_OtherKinds m5_OtherKinds : Option Value}
    (a_law : PySem.W.nsIn K mainGlobals "law" = some (some (.ref f_law)))
    (l_law : K.lookup f_law = some ⟨oc_law, od_law, .func (PySem.W.fnOf "law" "law" (defArgs s_law) (defBody s_law) (defScope s_law) .none kV_law dc_law pm_law an_law cd_law ct_law), sl_law⟩)
    (c_law : PySem.W.codeIn K cd_law "law" = true)
    (k_law : PySem.W.keepIn K (.ref f_law) = true)
    (a_purse : PySem.W.nsIn K mainGlobals "_law_purse" = some (some (.ref f_purse)))
    (l_purse : K.lookup f_purse = some ⟨oc_purse, od_purse, .func (PySem.W.fnOf "_law_purse" "_law_purse" (defArgs s__law_purse) (defBody s__law_purse) (defScope s__law_purse) .none kV_purse dc_purse pm_purse an_purse cd_purse ct_purse), sl_purse⟩)
    (c_purse : PySem.W.codeIn K cd_purse "_law_purse" = true)
    (k_purse : PySem.W.keepIn K (.ref f_purse) = true)
    (a_draw : PySem.W.nsIn K mainGlobals "_law_draw" = some (some (.ref f_draw)))
    (l_draw : K.lookup f_draw = some ⟨oc_draw, od_draw, .func (PySem.W.fnOf "_law_draw" "_law_draw" (defArgs s__law_draw) (defBody s__law_draw) (defScope s__law_draw) .none kV_draw dc_draw pm_draw an_draw cd_draw ct_draw), sl_draw⟩)
    (c_draw : PySem.W.codeIn K cd_draw "_law_draw" = true)
    (k_draw : PySem.W.keepIn K (.ref f_draw) = true)
    (a_pick : PySem.W.nsIn K mainGlobals "_law_pick" = some (some (.ref f_pick)))
    (l_pick : K.lookup f_pick = some ⟨oc_pick, od_pick, .func (PySem.W.fnOf "_law_pick" "_law_pick" (defArgs s__law_pick) (defBody s__law_pick) (defScope s__law_pick) .none kV_pick dc_pick pm_pick an_pick cd_pick ct_pick), sl_pick⟩)
    (c_pick : PySem.W.codeIn K cd_pick "_law_pick" = true)
    (k_pick : PySem.W.keepIn K (.ref f_pick) = true)
    (a_word : PySem.W.nsIn K mainGlobals "is_word" = some (some (.ref f_word)))
    (l_word : K.lookup f_word = some ⟨oc_word, od_word, .func (PySem.W.fnOf "is_word" "is_word" (defArgs s_is_word) (defBody s_is_word) (defScope s_is_word) .none kV_word dc_word pm_word an_word cd_word ct_word), sl_word⟩)
    (c_word : PySem.W.codeIn K cd_word "is_word" = true)
    (k_word : PySem.W.keepIn K (.ref f_word) = true)
    (a_kinds : PySem.W.nsIn K mainGlobals "are_kinds" = some (some (.ref f_kinds)))
    (l_kinds : K.lookup f_kinds = some ⟨oc_kinds, od_kinds, .func (PySem.W.fnOf "are_kinds" "are_kinds" (defArgs s_are_kinds) (defBody s_are_kinds) (defScope s_are_kinds) .none kV_kinds dc_kinds pm_kinds an_kinds cd_kinds ct_kinds), sl_kinds⟩)
    (c_kinds : PySem.W.codeIn K cd_kinds "are_kinds" = true)
    (k_kinds : PySem.W.keepIn K (.ref f_kinds) = true)
    (a_cell : PySem.W.nsIn K mainGlobals "is_cell" = some (some (.ref f_cell)))
    (l_cell : K.lookup f_cell = some ⟨oc_cell, od_cell, .func (PySem.W.fnOf "is_cell" "is_cell" (defArgs s_is_cell) (defBody s_is_cell) (defScope s_is_cell) .none kV_cell dc_cell pm_cell an_cell cd_cell ct_cell), sl_cell⟩)
    (c_cell : PySem.W.codeIn K cd_cell "is_cell" = true)
    (k_cell : PySem.W.keepIn K (.ref f_cell) = true)
    (a_cellOf : PySem.W.nsIn K mainGlobals "cell_of" = some (some (.ref f_cellOf)))
    (l_cellOf : K.lookup f_cellOf = some ⟨oc_cellOf, od_cellOf, .func (PySem.W.fnOf "cell_of" "cell_of" (defArgs s_cell_of) (defBody s_cell_of) (defScope s_cell_of) .none kV_cellOf dc_cellOf pm_cellOf an_cellOf cd_cellOf ct_cellOf), sl_cellOf⟩)
    (c_cellOf : PySem.W.codeIn K cd_cellOf "cell_of" = true)
    (k_cellOf : PySem.W.keepIn K (.ref f_cellOf) = true)
    (a_optsOf : PySem.W.nsIn K mainGlobals "options_of" = some (some (.ref f_optsOf)))
    (l_optsOf : K.lookup f_optsOf = some ⟨oc_optsOf, od_optsOf, .func (PySem.W.fnOf "options_of" "options_of" (defArgs s_options_of) (defBody s_options_of) (defScope s_options_of) .none kV_optsOf dc_optsOf pm_optsOf an_optsOf cd_optsOf ct_optsOf), sl_optsOf⟩)
    (c_optsOf : PySem.W.codeIn K cd_optsOf "options_of" = true)
    (k_optsOf : PySem.W.keepIn K (.ref f_optsOf) = true)
    (a_conds : PySem.W.nsIn K mainGlobals "conditions_for" = some (some (.ref f_conds)))
    (l_conds : K.lookup f_conds = some ⟨oc_conds, od_conds, .func (PySem.W.fnOf "conditions_for" "conditions_for" (defArgs s_conditions_for) (defBody s_conditions_for) (defScope s_conditions_for) .none kV_conds dc_conds pm_conds an_conds cd_conds ct_conds), sl_conds⟩)
    (c_conds : PySem.W.codeIn K cd_conds "conditions_for" = true)
    (k_conds : PySem.W.keepIn K (.ref f_conds) = true)
    (a_res : PySem.W.nsIn K mainGlobals "results_for" = some (some (.ref f_res)))
    (l_res : K.lookup f_res = some ⟨oc_res, od_res, .func (PySem.W.fnOf "results_for" "results_for" (defArgs s_results_for) (defBody s_results_for) (defScope s_results_for) .none kV_res dc_res pm_res an_res cd_res ct_res), sl_res⟩)
    (c_res : PySem.W.codeIn K cd_res "results_for" = true)
    (k_res : PySem.W.keepIn K (.ref f_res) = true)
    (a_row : PySem.W.nsIn K mainGlobals "is_row" = some (some (.ref f_row)))
    (l_row : K.lookup f_row = some ⟨oc_row, od_row, .func (PySem.W.fnOf "is_row" "is_row" (defArgs s_is_row) (defBody s_is_row) (defScope s_is_row) .none kV_row dc_row pm_row an_row cd_row ct_row), sl_row⟩)
    (c_row : PySem.W.codeIn K cd_row "is_row" = true)
    (k_row : PySem.W.keepIn K (.ref f_row) = true)
    (a_first : PySem.W.nsIn K mainGlobals "first_wrong_row" = some (some (.ref f_first)))
    (l_first : K.lookup f_first = some ⟨oc_first, od_first, .func (PySem.W.fnOf "first_wrong_row" "first_wrong_row" (defArgs s_first_wrong_row) (defBody s_first_wrong_row) (defScope s_first_wrong_row) .none kV_first dc_first pm_first an_first cd_first ct_first), sl_first⟩)
    (c_first : PySem.W.codeIn K cd_first "first_wrong_row" = true)
    (k_first : PySem.W.keepIn K (.ref f_first) = true)
    (a_kr : PySem.W.nsIn K mainGlobals "kinds_and_rows" = some (some (.ref f_kr)))
    (l_kr : K.lookup f_kr = some ⟨oc_kr, od_kr, .func (PySem.W.fnOf "kinds_and_rows" "kinds_and_rows" (defArgs s_kinds_and_rows) (defBody s_kinds_and_rows) (defScope s_kinds_and_rows) .none kV_kr dc_kr pm_kr an_kr cd_kr ct_kr), sl_kr⟩)
    (c_kr : PySem.W.codeIn K cd_kr "kinds_and_rows" = true)
    (k_kr : PySem.W.keepIn K (.ref f_kr) = true)
    (a_isText : PySem.W.nsIn K mainGlobals "is_table_text" = some (some (.ref f_isText)))
    (l_isText : K.lookup f_isText = some ⟨oc_isText, od_isText, .func (PySem.W.fnOf "is_table_text" "is_table_text" (defArgs s_is_table_text) (defBody s_is_table_text) (defScope s_is_table_text) .none kV_isText dc_isText pm_isText an_isText cd_isText ct_isText), sl_isText⟩)
    (c_isText : PySem.W.codeIn K cd_isText "is_table_text" = true)
    (k_isText : PySem.W.keepIn K (.ref f_isText) = true)
    (a_cmp : PySem.W.nsIn K mainGlobals "compared" = some (some (.ref f_cmp)))
    (l_cmp : K.lookup f_cmp = some ⟨oc_cmp, od_cmp, .func (PySem.W.fnOf "compared" "compared" (defArgs s_compared) (defBody s_compared) (defScope s_compared) .none kV_cmp dc_cmp pm_cmp an_cmp cd_cmp ct_cmp), sl_cmp⟩)
    (c_cmp : PySem.W.codeIn K cd_cmp "compared" = true)
    (k_cmp : PySem.W.keepIn K (.ref f_cmp) = true)
    (a_met : PySem.W.nsIn K mainGlobals "conditions_met" = some (some (.ref f_met)))
    (l_met : K.lookup f_met = some ⟨oc_met, od_met, .func (PySem.W.fnOf "conditions_met" "conditions_met" (defArgs s_conditions_met) (defBody s_conditions_met) (defScope s_conditions_met) .none kV_met dc_met pm_met an_met cd_met ct_met), sl_met⟩)
    (c_met : PySem.W.codeIn K cd_met "conditions_met" = true)
    (k_met : PySem.W.keepIn K (.ref f_met) = true)
    (a_chosen : PySem.W.nsIn K mainGlobals "chosen" = some (some (.ref f_chosen)))
    (l_chosen : K.lookup f_chosen = some ⟨oc_chosen, od_chosen, .func (PySem.W.fnOf "chosen" "chosen" (defArgs s_chosen) (defBody s_chosen) (defScope s_chosen) .none kV_chosen dc_chosen pm_chosen an_chosen cd_chosen ct_chosen), sl_chosen⟩)
    (c_chosen : PySem.W.codeIn K cd_chosen "chosen" = true)
    (k_chosen : PySem.W.keepIn K (.ref f_chosen) = true)
    (a_formed : PySem.W.nsIn K mainGlobals "formed" = some (some (.ref f_formed)))
    (l_formed : K.lookup f_formed = some ⟨oc_formed, od_formed, .func (PySem.W.fnOf "formed" "formed" (defArgs s_formed) (defBody s_formed) (defScope s_formed) .none kV_formed dc_formed pm_formed an_formed cd_formed ct_formed), sl_formed⟩)
    (c_formed : PySem.W.codeIn K cd_formed "formed" = true)
    (k_formed : PySem.W.keepIn K (.ref f_formed) = true)
    (a_turned : PySem.W.nsIn K mainGlobals "turned" = some (some (.ref f_turned)))
    (l_turned : K.lookup f_turned = some ⟨oc_turned, od_turned, .func (PySem.W.fnOf "turned" "turned" (defArgs s_turned) (defBody s_turned) (defScope s_turned) .none kV_turned dc_turned pm_turned an_turned cd_turned ct_turned), sl_turned⟩)
    (c_turned : PySem.W.codeIn K cd_turned "turned" = true)
    (k_turned : PySem.W.keepIn K (.ref f_turned) = true)
    (a_sorts2 : PySem.W.nsIn K mainGlobals "_law_sorts" = some (some (.ref f_sorts2)))
    (l_sorts2 : K.lookup f_sorts2 = some ⟨oc_sorts2, od_sorts2, .func (PySem.W.fnOf "_law_sorts" "_law_sorts" (defArgs s__law_sorts) (defBody s__law_sorts) (defScope s__law_sorts) .none kV_sorts2 dc_sorts2 pm_sorts2 an_sorts2 cd_sorts2 ct_sorts2), sl_sorts2⟩)
    (c_sorts2 : PySem.W.codeIn K cd_sorts2 "_law_sorts" = true)
    (k_sorts2 : PySem.W.keepIn K (.ref f_sorts2) = true)
    (a_opts2 : PySem.W.nsIn K mainGlobals "_law_options" = some (some (.ref f_opts2)))
    (l_opts2 : K.lookup f_opts2 = some ⟨oc_opts2, od_opts2, .func (PySem.W.fnOf "_law_options" "_law_options" (defArgs s__law_options) (defBody s__law_options) (defScope s__law_options) .none kV_opts2 dc_opts2 pm_opts2 an_opts2 cd_opts2 ct_opts2), sl_opts2⟩)
    (c_opts2 : PySem.W.codeIn K cd_opts2 "_law_options" = true)
    (k_opts2 : PySem.W.keepIn K (.ref f_opts2) = true)
    (a_cells2 : PySem.W.nsIn K mainGlobals "_law_cells" = some (some (.ref f_cells2)))
    (l_cells2 : K.lookup f_cells2 = some ⟨oc_cells2, od_cells2, .func (PySem.W.fnOf "_law_cells" "_law_cells" (defArgs s__law_cells) (defBody s__law_cells) (defScope s__law_cells) .none kV_cells2 dc_cells2 pm_cells2 an_cells2 cd_cells2 ct_cells2), sl_cells2⟩)
    (c_cells2 : PySem.W.codeIn K cd_cells2 "_law_cells" = true)
    (k_cells2 : PySem.W.keepIn K (.ref f_cells2) = true)
    (a_text2 : PySem.W.nsIn K mainGlobals "_law_text" = some (some (.ref f_text2)))
    (l_text2 : K.lookup f_text2 = some ⟨oc_text2, od_text2, .func (PySem.W.fnOf "_law_text" "_law_text" (defArgs s__law_text) (defBody s__law_text) (defScope s__law_text) .none kV_text2 dc_text2 pm_text2 an_text2 cd_text2 ct_text2), sl_text2⟩)
    (c_text2 : PySem.W.codeIn K cd_text2 "_law_text" = true)
    (k_text2 : PySem.W.keepIn K (.ref f_text2) = true)
    (a_good : PySem.W.nsIn K mainGlobals "_law_good" = some (some (.ref f_good)))
    (l_good : K.lookup f_good = some ⟨oc_good, od_good, .func (PySem.W.fnOf "_law_good" "_law_good" (defArgs s__law_good) (defBody s__law_good) (defScope s__law_good) .none kV_good dc_good pm_good an_good cd_good ct_good), sl_good⟩)
    (c_good : PySem.W.codeIn K cd_good "_law_good" = true)
    (k_good : PySem.W.keepIn K (.ref f_good) = true)
    (a_mk_ : PySem.W.nsIn K mainGlobals "made" = some (some (.ref f_mk_)))
    (l_mk_ : K.lookup f_mk_ = some ⟨oc_mk_, od_mk_, .func (PySem.W.fnOf "made" "made" (defArgs s_made) (defBody s_made) (defScope s_made) .none kV_mk_ dc_mk_ pm_mk_ an_mk_ cd_mk_ ct_mk_), sl_mk_⟩)
    (c_mk_ : PySem.W.codeIn K cd_mk_ "made" = true)
    (k_mk_ : PySem.W.keepIn K (.ref f_mk_) = true)
    (a_pairs : PySem.W.nsIn K mainGlobals "pairs" = some (some (.ref f_pairs)))
    (l_pairs : K.lookup f_pairs = some ⟨oc_pairs, od_pairs, .func (PySem.W.fnOf "pairs" "pairs" (defArgs s_pairs) (defBody s_pairs) (defScope s_pairs) .none kV_pairs dc_pairs pm_pairs an_pairs cd_pairs ct_pairs), sl_pairs⟩)
    (c_pairs : PySem.W.codeIn K cd_pairs "pairs" = true)
    (k_pairs : PySem.W.keepIn K (.ref f_pairs) = true)
    (a_tKh : PySem.W.nsIn K mainGlobals "KINDS" = some (some (.ref a_tK)))
    (l_tK : K.lookup a_tK = some ⟨.type "tuple", od_tK, .seq #[.str "put" t_tK0, .str "out" t_tK1, .str "set" t_tK2] n_tK, sl_tK⟩)
    (a_tRh : PySem.W.nsIn K mainGlobals "RELATIONS" = some (some (.ref a_tR)))
    (l_tR : K.lookup a_tR = some ⟨.type "tuple", od_tR, .seq #[.str "<" t_tR0, .str "=" t_tR1, .str ">" t_tR2] n_tR, sl_tR⟩)
    (a_tSh : PySem.W.nsIn K mainGlobals "KINDS_WITH_SIGN" = some (some (.ref a_tS)))
    (l_tS : K.lookup a_tS = some ⟨.type "tuple", od_tS, .seq #[.str "put" t_tS0, .str "set" t_tS1] n_tS, sl_tS⟩)
    (a_tCh : PySem.W.nsIn K mainGlobals "SIGN_CONDITIONS" = some (some (.ref a_tC)))
    (l_tC : K.lookup a_tC = some ⟨.type "tuple", od_tC, .seq #[.str "less" t_tC0, .str "same" t_tC1, .str "more" t_tC2] n_tC, sl_tC⟩)
    (a_tEh : PySem.W.nsIn K mainGlobals "RESULTS" = some (some (.ref a_tE)))
    (l_tE : K.lookup a_tE = some ⟨.type "tuple", od_tE, .seq #[.str "keep" t_tE0, .str "up" t_tE1, .str "down" t_tE2, .str "stay" t_tE3] n_tE, sl_tE⟩)
    (a_most : PySem.W.nsIn K mainGlobals "MOST_OPTIONS" = some (some (.int 5 t_most)))
    (a_sth : PySem.W.nsIn K mainGlobals "STEPS" = some (some (.ref a_st)))
    (l_st : K.lookup a_st = some ⟨.type "dict", none, .dict es_st n_st, #[]⟩)
    (q_st : PySem.W.KeysLit w.params es_st.toList)
    (v_st0 : PySem.W.nsIn K a_st "keep" = some (some (.int 0 t_st0)))
    (v_st1 : PySem.W.nsIn K a_st "up" = some (some (.int 1 t_st1)))
    (v_st2 : PySem.W.nsIn K a_st "down" = some (some (.int (-1) t_st2)))
    (aC : PySem.W.nsIn K mainGlobals "Table" = some (some (.ref C)))
    (pg : PySem.W.plainGet K C Str.empty = true)
    (hd : PySem.W.hasDictIn K C = true)
    (po : PySem.W.plainOver K C = true)
    (sa : PySem.W.findIn K (.ref C) "__setattr__" = some (some (.builtin "object.__setattr__")))
    (nk : PySem.W.findIn K (.ref C) "_kinds" = some none)
    (nr : PySem.W.findIn K (.ref C) "_rows" = some none)
    (nc : PySem.W.findIn K (.ref C) "_cells" = some none)
    (ha : PySem.W.findIn K (.ref C) "__class__" = some (some (.builtin "object.__class__")))
    (hn : PySem.W.specialIn K (.builtin "object.__class__") "__get__" = some (some (.builtin "getset_descriptor.__get__")))
    (htk : PySem.W.takesIn K (.builtin "object.__class__") = some true)
    (hm : PySem.W.mroIn K C (.type "object") = some true)
    (mkI : PySem.W.makesIn K C = true)
    (kC : PySem.W.keepIn K (.ref C) = true)
    (a_init : PySem.W.findIn K (.ref C) "__init__" = some (some (.ref f_init)))
    (i_init : PySem.W.isFn K (.ref f_init) = true)
    (l_init : K.lookup f_init = some ⟨oc_init, od_init, .func (PySem.W.fnOf "__init__" "Table.__init__" (defArgs s_Table___init__) (defBody s_Table___init__) (defScope s_Table___init__) (.ref T0) kV_init dc_init pm_init an_init cd_init ct_init), sl_init⟩)
    (c_init : PySem.W.codeIn K cd_init "Table.__init__" = true)
    (k_init : PySem.W.keepIn K (.ref f_init) = true)
    (lT : K.lookup T0 = some ⟨oc_T, od_T, .seq #[.ref ae] n_T, sl_T⟩)
    (lEmp : K.lookup ae = some ⟨.type "tuple", od_e, .seq #[] n_e, sl_e⟩)
    (a_pkinds : PySem.W.findIn K (.ref C) "kinds" = some (some (.ref p_pkinds)))
    (g_pkinds : PySem.W.specialIn K (.ref p_pkinds) "__get__" = some (some (.builtin "property.__get__")))
    (t_pkinds : PySem.W.takesIn K (.ref p_pkinds) = some true)
    (r_pkinds : PySem.W.recIn K p_pkinds "property" = some (.ref f_pkinds :: rest_pkinds))
    (l_pkinds : K.lookup f_pkinds = some ⟨oc_pkinds, od_pkinds, .func (PySem.W.fnOf "kinds" "Table.kinds" (defArgs s_Table_kinds) (defBody s_Table_kinds) (defScope s_Table_kinds) .none kV_pkinds dc_pkinds pm_pkinds an_pkinds cd_pkinds ct_pkinds), sl_pkinds⟩)
    (c_pkinds : PySem.W.codeIn K cd_pkinds "Table.kinds" = true)
    (k_pkinds : PySem.W.keepIn K (.ref f_pkinds) = true)
    (a_mstr : PySem.W.findIn K (.ref C) "__str__" = some (some (.ref f_mstr)))
    (i_mstr : PySem.W.isFn K (.ref f_mstr) = true)
    (l_mstr : K.lookup f_mstr = some ⟨oc_mstr, od_mstr, .func (PySem.W.fnOf "__str__" "Table.__str__" (defArgs s_Table___str__) (defBody s_Table___str__) (defScope s_Table___str__) .none kV_mstr dc_mstr pm_mstr an_mstr cd_mstr ct_mstr), sl_mstr⟩)
    (c_mstr : PySem.W.codeIn K cd_mstr "Table.__str__" = true)
    (k_mstr : PySem.W.keepIn K (.ref f_mstr) = true)
    (a_gt : PySem.W.findIn K (.ref C) "__getitem__" = some (some (.ref f_gt)))
    (i_gt : PySem.W.isFn K (.ref f_gt) = true)
    (f_gti : PySem.W.fnIn K f_gt = true)
    (l_gt : K.lookup f_gt = some ⟨oc_gt, od_gt, .func (PySem.W.fnOf "__getitem__" "Table.__getitem__" (defArgs s_Table___getitem__) (defBody s_Table___getitem__) (defScope s_Table___getitem__) .none kV_gt dc_gt pm_gt an_gt cd_gt ct_gt), sl_gt⟩)
    (c_gt : PySem.W.codeIn K cd_gt "Table.__getitem__" = true)
    (k_gt : PySem.W.keepIn K (.ref f_gt) = true)
    (rdIn : PySem.W.readsIn K C (.type "type") = true)
    (ga : PySem.W.specialIn K (.ref C) "__getattribute__" = some (some (.builtin "type.__getattribute__")))
    (fcl : PySem.W.findCls K (.ref C) (.type "type") "read" = some (.get (.builtin "classmethod.__get__") (.ref pm_rd_) .none (.ref C)))
    (rrc : PySem.W.recIn K pm_rd_ "classmethod" = some (.ref f_rd :: rest_rd))
    (rfi : PySem.W.fnIn K f_rd = true)
    (l_rd : K.lookup f_rd = some ⟨oc_rd, od_rd, .func (PySem.W.fnOf "read" "Table.read" (defArgs s_Table_read) (defBody s_Table_read) (defScope s_Table_read) .none kV_rd dc_rd pm_rd an_rd cd_rd ct_rd), sl_rd⟩)
    (c_rd : PySem.W.codeIn K cd_rd "Table.read" = true)
    (k_rd : PySem.W.keepIn K (.ref f_rd) = true)
    (a_askT : PySem.W.nsIn K mainGlobals "ask_for_table" = some (some (.ref f_askT)))
    (l_askT : K.lookup f_askT = some ⟨oc_askT, od_askT, .func (PySem.W.fnOf "ask_for_table" "ask_for_table" (defArgs s_ask_for_table) (defBody s_ask_for_table) (defScope s_ask_for_table) .none kV_askT dc_askT pm_askT an_askT cd_askT ct_askT), sl_askT⟩)
    (c_askT : PySem.W.codeIn K cd_askT "ask_for_table" = true)
    (k_askT : PySem.W.keepIn K (.ref f_askT) = true)
    (a_unl : PySem.W.nsIn K mainGlobals "unlike" = some (some (.ref f_unl)))
    (l_unl : K.lookup f_unl = some ⟨oc_unl, od_unl, .func (PySem.W.fnOf "unlike" "unlike" (defArgs s_unlike) (defBody s_unlike) (defScope s_unlike) .none kV_unl dc_unl pm_unl an_unl cd_unl ct_unl), sl_unl⟩)
    (c_unl : PySem.W.codeIn K cd_unl "unlike" = true)
    (k_unl : PySem.W.keepIn K (.ref f_unl) = true)
    (a_alk : PySem.W.nsIn K mainGlobals "alike" = some (some (.ref f_alk)))
    (l_alk : K.lookup f_alk = some ⟨oc_alk, od_alk, .func (PySem.W.fnOf "alike" "alike" (defArgs s_alike) (defBody s_alike) (defScope s_alike) .none kV_alk dc_alk pm_alk an_alk cd_alk ct_alk), sl_alk⟩)
    (c_alk : PySem.W.codeIn K cd_alk "alike" = true)
    (k_alk : PySem.W.keepIn K (.ref f_alk) = true)
    (kt_NoneType : PySem.W.kitOne K (.type "NoneType") (.ref C) = some false)
    (kt_bool : PySem.W.kitOne K (.type "bool") (.ref C) = some false)
    (kt_int : PySem.W.kitOne K (.type "int") (.ref C) = some false)
    (kt_str : PySem.W.kitOne K (.type "str") (.ref C) = some false)
    (kt_list : PySem.W.kitOne K (.type "list") (.ref C) = some false)
    (kt_tuple : PySem.W.kitOne K (.type "tuple") (.ref C) = some false)
    (kt_dict : PySem.W.kitOne K (.type "dict") (.ref C) = some false)
    (a_TDh : PySem.W.nsIn K mainGlobals "DIFFERENT_SIGNS" = some (some (.ref a_TD)))
    (l_TD : K.lookup a_TD = some ⟨.type "tuple", od_TD, .seq #[.ref a_TD0, .ref a_TD1, .ref a_TD2, .ref a_TD3] n_TD, sl_TD⟩)
    (l_TD0 : K.lookup a_TD0 = some ⟨.type "tuple", od_TD0, .seq #[.str "" t_TD0_0] n_TD0, sl_TD0⟩)
    (l_TD1 : K.lookup a_TD1 = some ⟨.type "tuple", od_TD1, .seq #[.str "x" t_TD1_0] n_TD1, sl_TD1⟩)
    (l_TD2 : K.lookup a_TD2 = some ⟨.type "tuple", od_TD2, .seq #[.str "xy" t_TD2_0, .str "yx" t_TD2_1] n_TD2, sl_TD2⟩)
    (l_TD3 : K.lookup a_TD3 = some ⟨.type "tuple", od_TD3, .seq #[.str "xyz" t_TD3_0, .str "xzy" t_TD3_1, .str "yxz" t_TD3_2, .str "yzx" t_TD3_3, .str "zxy" t_TD3_4, .str "zyx" t_TD3_5] n_TD3, sl_TD3⟩)
    (a_TSh : PySem.W.nsIn K mainGlobals "SAME_SIGNS" = some (some (.ref a_TS)))
    (l_TS : K.lookup a_TS = some ⟨.type "tuple", od_TS, .seq #[.ref a_TS0, .ref a_TS1, .ref a_TS2, .ref a_TS3] n_TS, sl_TS⟩)
    (l_TS0 : K.lookup a_TS0 = some ⟨.type "tuple", od_TS0, .seq #[] n_TS0, sl_TS0⟩)
    (l_TS1 : K.lookup a_TS1 = some ⟨.type "tuple", od_TS1, .seq #[] n_TS1, sl_TS1⟩)
    (l_TS2 : K.lookup a_TS2 = some ⟨.type "tuple", od_TS2, .seq #[.str "xx" t_TS2_0] n_TS2, sl_TS2⟩)
    (l_TS3 : K.lookup a_TS3 = some ⟨.type "tuple", od_TS3, .seq #[.str "xxx" t_TS3_0, .str "xxy" t_TS3_1, .str "xyx" t_TS3_2, .str "yxx" t_TS3_3, .str "xyy" t_TS3_4, .str "yxy" t_TS3_5, .str "yyx" t_TS3_6] n_TS3, sl_TS3⟩)
    (a_TPh : PySem.W.nsIn K mainGlobals "PLACES_BY_RELATION" = some (some (.ref a_TP)))
    (l_TP : K.lookup a_TP = some ⟨.type "tuple", od_TP, .seq #[.ref a_TP0, .ref a_TP1, .ref a_TP2] n_TP, sl_TP⟩)
    (l_TP0 : K.lookup a_TP0 = some ⟨.type "tuple", od_TP0, .seq #[.int 0 t_TP0_0, .int 1 t_TP0_1] n_TP0, sl_TP0⟩)
    (l_TP1 : K.lookup a_TP1 = some ⟨.type "tuple", od_TP1, .seq #[.int 0 t_TP1_0, .int 0 t_TP1_1] n_TP1, sl_TP1⟩)
    (l_TP2 : K.lookup a_TP2 = some ⟨.type "tuple", od_TP2, .seq #[.int 1 t_TP2_0, .int 0 t_TP2_1] n_TP2, sl_TP2⟩)
    (a_caught : PySem.W.nsIn K mainGlobals "_law_caught" = some (some (.ref f_caught)))
    (l_caught : K.lookup f_caught = some ⟨oc_caught, od_caught, .func (PySem.W.fnOf "_law_caught" "_law_caught" (defArgs s__law_caught) (defBody s__law_caught) (defScope s__law_caught) .none kV_caught dc_caught pm_caught an_caught cd_caught ct_caught), sl_caught⟩)
    (c_caught : PySem.W.codeIn K cd_caught "_law_caught" = true)
    (k_caught : PySem.W.keepIn K (.ref f_caught) = true)
    (a_right : PySem.W.nsIn K mainGlobals "_law_right" = some (some (.ref f_right)))
    (l_right : K.lookup f_right = some ⟨oc_right, od_right, .func (PySem.W.fnOf "_law_right" "_law_right" (defArgs s__law_right) (defBody s__law_right) (defScope s__law_right) .none kV_right dc_right pm_right an_right (.ref tc_right) ct_right), sl_right⟩)
    (c_right : PySem.W.codeIn K (.ref tc_right) "_law_right" = true)
    (k_right : PySem.W.keepIn K (.ref f_right) = true)
    (o_right : K.lookup tc_right = some ⟨tcl_right, tcd_right, .fields tvs_right, tcs_right⟩)
    (rfl_tright : tvs_right[11]? = some (.ref tp_right))
    (aX_InvalidKinds : PySem.W.nsIn K mainGlobals "InvalidKinds" = some (some (.ref C_InvalidKinds)))
    (aX_BadValue : PySem.W.nsIn K mainGlobals "BadValue" = some (some (.ref C_BadValue)))
    (aX_BadName : PySem.W.nsIn K mainGlobals "BadName" = some (some (.ref C_BadName)))
    (aX_NoAnswer : PySem.W.nsIn K mainGlobals "NoAnswer" = some (some (.ref C_NoAnswer)))
    (z_super : PySem.W.nsIn K mainGlobals "super" = some none)
    (rfl_top : (P.main.scope.names.lookup ("super" : Str)).isSome = false)
    (any_z : PySem.W.nsIn K cStatics "thirdparty.any" = some none)
    (aX_NotATable : PySem.W.nsIn K mainGlobals "NotATable" = some (some (.ref C_NotATable)))
    (iX_NotATable : PySem.W.findIn K (.ref C_NotATable) "__init__" = some (some (.ref fI_NotATable)))
    (tX_NotATable : PySem.W.typeIn K (.ref fI_NotATable) = some (.type "function"))
    (fX_NotATable : K.lookup fI_NotATable = some ⟨oc_NotATable, od_NotATable, .func (PySem.W.ksFn "__init__" "NotATable.__init__" (defArgs sINotATable) (defBody sINotATable) (defScope sINotATable) .none kV_NotATable doc_NotATable pm_NotATable an_NotATable (.ref cda_NotATable) ct_NotATable cc_NotATable), osl_NotATable⟩)
    (cX_NotATable : PySem.W.codeIn K (.ref cda_NotATable) "NotATable.__init__" = true)
    (oX_NotATable : K.lookup cda_NotATable = some ⟨ccl_NotATable, cdd_NotATable, .fields vs_NotATable, ccs_NotATable⟩)
    (rfl_v_NotATable : vs_NotATable[2]? = some (.str file_NotATable tf_NotATable))
    (rfl_f_NotATable : ((P.main.file : Str) == file_NotATable) = true)
    (lX_NotATable : K.lookup cc_NotATable = some ⟨cl_NotATable, cld_NotATable, .cell (some (.ref C_NotATable)), csl_NotATable⟩)
    (xX_NotATable : K.lookup C_NotATable = some (excClassObj nm_NotATable q_NotATable C_NotATable N_NotATable bs_NotATable bm_NotATable true sn_NotATable sub_NotATable ab_NotATable col_NotATable dd_NotATable m0_NotATable m1_NotATable m2_NotATable m3_NotATable m5_NotATable "ValueError.__new__"))
    (rfl_t_NotATable : PySem.W.excTail [.type "ValueError", .type "Exception", .type "BaseException", .type "object"] bm_NotATable = true)
    (mX_NotATable : PySem.W.mroIn K C_NotATable (.ref C_NotATable) = some true)
    (ks_h_NotATable : PySem.W.ks_superIn K C_NotATable C_NotATable "__init__" = some (some (.builtin "ValueError.__init__")))
    (bX_NotATable : PySem.W.subIn K (.ref C_NotATable) (.type "ValueError") = some true)
    (saX_NotATable : PySem.W.findIn K (.ref C_NotATable) "__setattr__" = some (some (.builtin "object.__setattr__")))
    (noX_NotATable : PySem.W.findIn K (.ref C_NotATable) "given" = some none)
    (eX_NotATable : PySem.W.subIn K (.ref C_NotATable) (.type "BaseException") = some true)
    (yX_NotATable : PySem.W.typeIn K (.ref C_NotATable) = some (.type "type"))
    (kX_NotATable : PySem.W.keepIn K (.ref C_NotATable) = true)
    (ga_NotATable : PySem.W.findIn K (.ref C_NotATable) "__getattribute__" = some (some (.builtin "BaseException.__getattribute__")))
    (gg_NotATable : PySem.W.findIn K (.ref C_NotATable) "__getattr__" = some none)
    (hd_NotATable : PySem.W.hasDictIn K C_NotATable = true)
    (ha_NotATable : PySem.W.findIn K (.ref C_NotATable) "__class__" = some (some (.builtin "object.__class__")))
    (ho_NotATable : PySem.W.mroIn K C_NotATable (.type "object") = some true)
    (ex_NotATable : PySem.W.exmAny K (.ref C_NotATable) [.ref C_BadValue, .ref C_BadName, .ref C_NoAnswer] = some true)
    (k0_NotATable : PySem.W.kitOne K (.ref C_NotATable) (.ref C_NotATable) = some true)
    (k1_NotATable : PySem.W.kitOne K (.ref C_NotATable) (.ref C_OtherKinds) = some false)
    (k2_NotATable : PySem.W.kitOne K (.ref C_NotATable) (.ref C_InvalidKinds) = some false)
    (m0_NotATable : PySem.W.kitOne K (.ref C_NotATable) (.ref C_BadValue) = some true)
    (aX_OtherKinds : PySem.W.nsIn K mainGlobals "OtherKinds" = some (some (.ref C_OtherKinds)))
    (iX_OtherKinds : PySem.W.findIn K (.ref C_OtherKinds) "__init__" = some (some (.ref fI_OtherKinds)))
    (tX_OtherKinds : PySem.W.typeIn K (.ref fI_OtherKinds) = some (.type "function"))
    (fX_OtherKinds : K.lookup fI_OtherKinds = some ⟨oc_OtherKinds, od_OtherKinds, .func (PySem.W.ksFn "__init__" "OtherKinds.__init__" (defArgs sIOtherKinds) (defBody sIOtherKinds) (defScope sIOtherKinds) .none kV_OtherKinds doc_OtherKinds pm_OtherKinds an_OtherKinds (.ref cda_OtherKinds) ct_OtherKinds cc_OtherKinds), osl_OtherKinds⟩)
    (cX_OtherKinds : PySem.W.codeIn K (.ref cda_OtherKinds) "OtherKinds.__init__" = true)
    (oX_OtherKinds : K.lookup cda_OtherKinds = some ⟨ccl_OtherKinds, cdd_OtherKinds, .fields vs_OtherKinds, ccs_OtherKinds⟩)
    (rfl_v_OtherKinds : vs_OtherKinds[2]? = some (.str file_OtherKinds tf_OtherKinds))
    (rfl_f_OtherKinds : ((P.main.file : Str) == file_OtherKinds) = true)
    (lX_OtherKinds : K.lookup cc_OtherKinds = some ⟨cl_OtherKinds, cld_OtherKinds, .cell (some (.ref C_OtherKinds)), csl_OtherKinds⟩)
    (xX_OtherKinds : K.lookup C_OtherKinds = some (excClassObj nm_OtherKinds q_OtherKinds C_OtherKinds N_OtherKinds bs_OtherKinds bm_OtherKinds true sn_OtherKinds sub_OtherKinds ab_OtherKinds col_OtherKinds dd_OtherKinds m0_OtherKinds m1_OtherKinds m2_OtherKinds m3_OtherKinds m5_OtherKinds "ValueError.__new__"))
    (rfl_t_OtherKinds : PySem.W.excTail [.type "ValueError", .type "Exception", .type "BaseException", .type "object"] bm_OtherKinds = true)
    (mX_OtherKinds : PySem.W.mroIn K C_OtherKinds (.ref C_OtherKinds) = some true)
    (ks_h_OtherKinds : PySem.W.ks_superIn K C_OtherKinds C_OtherKinds "__init__" = some (some (.builtin "ValueError.__init__")))
    (bX_OtherKinds : PySem.W.subIn K (.ref C_OtherKinds) (.type "ValueError") = some true)
    (saX_OtherKinds : PySem.W.findIn K (.ref C_OtherKinds) "__setattr__" = some (some (.builtin "object.__setattr__")))
    (noX_OtherKinds : PySem.W.findIn K (.ref C_OtherKinds) "given" = some none)
    (eX_OtherKinds : PySem.W.subIn K (.ref C_OtherKinds) (.type "BaseException") = some true)
    (yX_OtherKinds : PySem.W.typeIn K (.ref C_OtherKinds) = some (.type "type"))
    (kX_OtherKinds : PySem.W.keepIn K (.ref C_OtherKinds) = true)
    (ga_OtherKinds : PySem.W.findIn K (.ref C_OtherKinds) "__getattribute__" = some (some (.builtin "BaseException.__getattribute__")))
    (gg_OtherKinds : PySem.W.findIn K (.ref C_OtherKinds) "__getattr__" = some none)
    (hd_OtherKinds : PySem.W.hasDictIn K C_OtherKinds = true)
    (ha_OtherKinds : PySem.W.findIn K (.ref C_OtherKinds) "__class__" = some (some (.builtin "object.__class__")))
    (ho_OtherKinds : PySem.W.mroIn K C_OtherKinds (.type "object") = some true)
    (ex_OtherKinds : PySem.W.exmAny K (.ref C_OtherKinds) [.ref C_BadValue, .ref C_BadName, .ref C_NoAnswer] = some true)
    (k0_OtherKinds : PySem.W.kitOne K (.ref C_OtherKinds) (.ref C_NotATable) = some false)
    (k1_OtherKinds : PySem.W.kitOne K (.ref C_OtherKinds) (.ref C_OtherKinds) = some true)
    (k2_OtherKinds : PySem.W.kitOne K (.ref C_OtherKinds) (.ref C_InvalidKinds) = some false)
    (m0_OtherKinds : PySem.W.kitOne K (.ref C_OtherKinds) (.ref C_BadValue) = some true)
    (hn_class : PySem.W.specialIn K (.builtin "object.__class__") "__get__" = some (some (.builtin "getset_descriptor.__get__")))
    (ht_class : PySem.W.takesIn K (.builtin "object.__class__") = some true)
    (z_len : PySem.W.nsIn K mainGlobals "len" = some none)
    (z_int_ : PySem.W.nsIn K mainGlobals "int" = some none)
    (z_abs_ : PySem.W.nsIn K mainGlobals "abs" = some none)
    (z_divmod : PySem.W.nsIn K mainGlobals "divmod" = some none)
    (z_range : PySem.W.nsIn K mainGlobals "range" = some none)
    (z_list : PySem.W.nsIn K mainGlobals "list" = some none)
    (z_tuple : PySem.W.nsIn K mainGlobals "tuple" = some none)
    (z_repr : PySem.W.nsIn K mainGlobals "repr" = some none)
    (z_min_ : PySem.W.nsIn K mainGlobals "min" = some none)
    (z_max_ : PySem.W.nsIn K mainGlobals "max" = some none)
    (z_isin : PySem.W.nsIn K mainGlobals "isinstance" = some none)
    (z_str : PySem.W.nsIn K mainGlobals "str" = some none)
    (z_bool : PySem.W.nsIn K mainGlobals "bool" = some none)
    (z_set_ : PySem.W.nsIn K mainGlobals "set" = some none)
    (z_enum : PySem.W.nsIn K mainGlobals "enumerate" = some none)
    (z_all_ : PySem.W.nsIn K mainGlobals "all" = some none) :
    ∃ (fd : FuncData) (cs : List (Addr × Addr)), XG.tabsIn K ["_law_right"] cs ∧ (∀ (s : Shared) (v : Value), BindsTo s fd ⟨[v], []⟩ [("script", v)]) ∧ ∀ base : Heap, K.In base → base.Ns mainGlobals mg → (∀ p ∈ cs, LamX.TabB base mg p.1 p.2) → XG.FnG P w K mg base CX0 11 fa fd ["script"] (spLawT K cs) := by
  have e := hfa.symm.trans (PySem.W.mg_of X G a_law)
  cases e
  have t : Top P K w mg C := {
    B := ⟨PySem.W.mg_none_of X G z_len, PySem.W.mg_none_of X G z_int_, PySem.W.mg_none_of X G z_abs_, PySem.W.mg_none_of X G z_divmod, PySem.W.mg_none_of X G z_range, PySem.W.mg_none_of X G z_list, PySem.W.mg_none_of X G z_tuple, PySem.W.mg_none_of X G z_repr, PySem.W.mg_none_of X G z_min_, PySem.W.mg_none_of X G z_max_, PySem.W.mg_none_of X G z_isin, PySem.W.mg_none_of X G z_str, PySem.W.mg_none_of X G z_bool, PySem.W.mg_none_of X G z_set_, PySem.W.mg_none_of X G z_enum, PySem.W.mg_none_of X G z_all_⟩
    purse := at_mk X G a_purse l_purse c_purse k_purse (fun _ _ _ _ _ _ us hl => match us, hl with | [_, _], _ => rfl)
    draw := at_mk X G a_draw l_draw c_draw k_draw (fun _ _ _ _ _ _ us hl => match us, hl with | [_, _], _ => rfl)
    pick := at_mk X G a_pick l_pick c_pick k_pick (fun _ _ _ _ _ _ us hl => match us, hl with | [_, _], _ => rfl)
    word := at_mk X G a_word l_word c_word k_word (fun _ _ _ _ _ _ us hl => match us, hl with | [_, _], _ => rfl)
    kinds := at_mk X G a_kinds l_kinds c_kinds k_kinds (fun _ _ _ _ _ _ us hl => match us, hl with | [_], _ => rfl)
    cell := at_mk X G a_cell l_cell c_cell k_cell (fun _ _ _ _ _ _ us hl => match us, hl with | [_, _], _ => rfl)
    cellOf := at_mk X G a_cellOf l_cellOf c_cellOf k_cellOf (fun _ _ _ _ _ _ us hl => match us, hl with | [_], _ => rfl)
    optsOf := at_mk X G a_optsOf l_optsOf c_optsOf k_optsOf (fun _ _ _ _ _ _ us hl => match us, hl with | [_], _ => rfl)
    conds := at_mk X G a_conds l_conds c_conds k_conds (fun _ _ _ _ _ _ us hl => match us, hl with | [_, _], _ => rfl)
    res := at_mk X G a_res l_res c_res k_res (fun _ _ _ _ _ _ us hl => match us, hl with | [_, _], _ => rfl)
    row := at_mk X G a_row l_row c_row k_row (fun _ _ _ _ _ _ us hl => match us, hl with | [_, _], _ => rfl)
    first := at_mk X G a_first l_first c_first k_first (fun _ _ _ _ _ _ us hl => match us, hl with | [_, _], _ => rfl)
    kr := at_mk X G a_kr l_kr c_kr k_kr (fun _ _ _ _ _ _ us hl => match us, hl with | [_], _ => rfl)
    isText := at_mk X G a_isText l_isText c_isText k_isText (fun _ _ _ _ _ _ us hl => match us, hl with | [_], _ => rfl)
    cmp := at_mk X G a_cmp l_cmp c_cmp k_cmp (fun _ _ _ _ _ _ us hl => match us, hl with | [_, _, _], _ => rfl)
    met := at_mk X G a_met l_met c_met k_met (fun _ _ _ _ _ _ us hl => match us, hl with | [_, _, _], _ => rfl)
    chosen := at_mk X G a_chosen l_chosen c_chosen k_chosen (fun _ _ _ _ _ _ us hl => match us, hl with | [_, _], _ => rfl)
    formed := at_mk X G a_formed l_formed c_formed k_formed (fun _ _ _ _ _ _ us hl => match us, hl with | [_, _], _ => rfl)
    turned := at_mk X G a_turned l_turned c_turned k_turned (fun _ _ _ _ _ _ us hl => match us, hl with | [_, _, _, _], _ => rfl)
    sorts2 := at_mk X G a_sorts2 l_sorts2 c_sorts2 k_sorts2 (fun _ _ _ _ _ _ us hl => match us, hl with | [_, _], _ => rfl)
    opts2 := at_mk X G a_opts2 l_opts2 c_opts2 k_opts2 (fun _ _ _ _ _ _ us hl => match us, hl with | [_, _, _, _, _], _ => rfl)
    cells2 := at_mk X G a_cells2 l_cells2 c_cells2 k_cells2 (fun _ _ _ _ _ _ us hl => match us, hl with | [_, _, _, _], _ => rfl)
    text2 := at_mk X G a_text2 l_text2 c_text2 k_text2 (fun _ _ _ _ _ _ us hl => match us, hl with | [_, _], _ => rfl)
    good := at_mk X G a_good l_good c_good k_good (fun _ _ _ _ _ _ us hl => match us, hl with | [], _ => rfl)
    mk_ := at_mk X G a_mk_ l_mk_ c_mk_ k_mk_ (fun _ _ _ _ _ _ us hl => match us, hl with | [_, _, _], _ => rfl)
    pairs := at_mk X G a_pairs l_pairs c_pairs k_pairs (fun _ _ _ _ _ _ us hl => match us, hl with | [_], _ => rfl)
    tK := tupC_mk X G a_tKh l_tK (.cons ⟨_, rfl⟩ (.cons ⟨_, rfl⟩ (.cons ⟨_, rfl⟩ (.nil)))) (by show 3 ≤ sizeLine; decide)
    tR := tupC_mk X G a_tRh l_tR (.cons ⟨_, rfl⟩ (.cons ⟨_, rfl⟩ (.cons ⟨_, rfl⟩ (.nil)))) (by show 3 ≤ sizeLine; decide)
    tS := tupC_mk X G a_tSh l_tS (.cons ⟨_, rfl⟩ (.cons ⟨_, rfl⟩ (.nil))) (by show 2 ≤ sizeLine; decide)
    tC := tupC_mk X G a_tCh l_tC (.cons ⟨_, rfl⟩ (.cons ⟨_, rfl⟩ (.cons ⟨_, rfl⟩ (.nil)))) (by show 3 ≤ sizeLine; decide)
    tE := tupC_mk X G a_tEh l_tE (.cons ⟨_, rfl⟩ (.cons ⟨_, rfl⟩ (.cons ⟨_, rfl⟩ (.cons ⟨_, rfl⟩ (.nil))))) (by show 4 ≤ sizeLine; decide)
    most := ⟨t_most, PySem.W.mg_of X G a_most⟩
    step := ⟨a_st, PySem.W.mg_of X G a_sth, ⟨_, _, _, l_st, q_st, v_st0, ⟨_, rfl⟩⟩, ⟨_, _, _, l_st, q_st, v_st1, ⟨_, rfl⟩⟩, ⟨_, _, _, l_st, q_st, v_st2, ⟨_, rfl⟩⟩⟩
    T := ⟨PySem.W.mg_of X G aC, ⟨pg, hd, po, sa⟩, nk, nr, nc⟩
    I := ⟨⟨pg, hd, po, sa⟩, ha, hn, htk, hm, me_self⟩
    init := ⟨f_init, _, ae, ⟨mkI, a_init, i_init, kC⟩, ⟨⟨_, _, _, _, _, _, _, _, _, _, rfl, l_init, c_init, .inr ⟨by simp, T0, _, [.ref ae], n_T, rfl, lT, rfl, .cons rfl .nil⟩, .inl rfl⟩, k_init⟩, fun H => .inr ⟨_, #[], n_e, lEmp, rfl, rfl, Nat.zero_le _, .nil⟩⟩
    pkinds := by
      have F := fun_mk (st := s_Table_kinds) l_pkinds c_pkinds k_pkinds
      exact ⟨f_pkinds, _, p_pkinds, F, ⟨a_pkinds, g_pkinds, t_pkinds, rest_pkinds, r_pkinds⟩, F.binds (ps := ["self"]) (fun _ _ _ _ _ _ us hl => match us, hl with | [_], _ => rfl)⟩
    mstr := by
      have F := fun_mk (st := s_Table___str__) l_mstr c_mstr k_mstr
      exact ⟨f_mstr, _, F, ⟨a_mstr, i_mstr⟩, F.binds (ps := ["self"]) (fun _ _ _ _ _ _ us hl => match us, hl with | [_], _ => rfl)⟩
    get := by
      have F := fun_mk (st := s_Table___getitem__) l_gt c_gt k_gt
      exact ⟨f_gt, _, ⟨a_gt, f_gti, i_gt⟩, F, F.binds (ps := ["self", "at"]) (fun _ _ _ _ _ _ us hl => match us, hl with | [_, _], _ => rfl)⟩
    read := ⟨f_rd, pm_rd_, .type "type", _, ⟨rdIn, ga⟩, ⟨fcl, ⟨rest_rd, rrc⟩, rfi⟩, fun_mk (st := s_Table_read) l_rd c_rd k_rd, (fun_mk (st := s_Table_read) l_rd c_rd k_rd).binds (ps := ["cls", "text"]) (fun _ _ _ _ _ _ us hl => match us, hl with | [_, _], _ => rfl), ⟨fun s us ws _ h1 h2 => match us, ws, h1, h2 with | [_], [_], _, _ => .of_eq rfl, fun r1 r2 => r1.append r2⟩⟩
    noKit := fun T hT => by
      simp only [List.mem_cons, List.not_mem_nil, or_false] at hT
      rcases hT with rfl | rfl | rfl | rfl | rfl | rfl | rfl
      · exact kt_NoneType
      · exact kt_bool
      · exact kt_int
      · exact kt_str
      · exact kt_list
      · exact kt_tuple
      · exact kt_dict
    askF := by
      have F := fun_mk (st := s_ask_for_table) l_askT c_askT k_askT
      exact ⟨f_askT, _, PySem.W.mg_of X G a_askT, k_askT, F, F.binds (ps := ["value"]) (fun _ _ _ _ _ _ us hl => match us, hl with | [_], _ => rfl)⟩
    unl := by
      have F := fun_mk (st := s_unlike) l_unl c_unl k_unl
      exact ⟨f_unl, _, PySem.W.mg_of X G a_unl, k_unl, F, F.binds (ps := ["one", "other"]) (fun _ _ _ _ _ _ us hl => match us, hl with | [_, _], _ => rfl), ⟨fun s us ws _ h1 h2 => match us, ws, h1, h2 with | [], [_, _], _, _ => .of_eq rfl, fun r1 r2 => r1.append (vals_rev r2)⟩⟩
    alk := by
      have F := fun_mk (st := s_alike) l_alk c_alk k_alk
      exact ⟨f_alk, _, PySem.W.mg_of X G a_alk, k_alk, F, F.binds (ps := ["one", "other"]) (fun _ _ _ _ _ _ us hl => match us, hl with | [_, _], _ => rfl), ⟨fun s us ws _ h1 h2 => match us, ws, h1, h2 with | [], [_, _], _, _ => .of_eq rfl, fun r1 r2 => r1.append (vals_rev r2)⟩⟩
    TD := tupV_mk (rs := [a_TD0, a_TD1, a_TD2, a_TD3]) X G a_TDh l_TD (.cons rfl (.cons rfl (.cons rfl (.cons rfl (.nil))))) (by show 4 ≤ sizeLine; decide) rfl (fun i r xs h1 h2 => match i, h1, h2 with
        | 0, h1, h2 => by cases h1; cases h2; exact sqt_mk l_TD0 (.cons ⟨_, rfl⟩ (.nil)) (by show 1 ≤ sizeLine; decide)
        | 1, h1, h2 => by cases h1; cases h2; exact sqt_mk l_TD1 (.cons ⟨_, rfl⟩ (.nil)) (by show 1 ≤ sizeLine; decide)
        | 2, h1, h2 => by cases h1; cases h2; exact sqt_mk l_TD2 (.cons ⟨_, rfl⟩ (.cons ⟨_, rfl⟩ (.nil))) (by show 2 ≤ sizeLine; decide)
        | 3, h1, h2 => by cases h1; cases h2; exact sqt_mk l_TD3 (.cons ⟨_, rfl⟩ (.cons ⟨_, rfl⟩ (.cons ⟨_, rfl⟩ (.cons ⟨_, rfl⟩ (.cons ⟨_, rfl⟩ (.cons ⟨_, rfl⟩ (.nil))))))) (by show 6 ≤ sizeLine; decide)
        | _ + 4, h1, h2 => by cases h1)
    TS := tupV_mk (rs := [a_TS0, a_TS1, a_TS2, a_TS3]) X G a_TSh l_TS (.cons rfl (.cons rfl (.cons rfl (.cons rfl (.nil))))) (by show 4 ≤ sizeLine; decide) rfl (fun i r xs h1 h2 => match i, h1, h2 with
        | 0, h1, h2 => by cases h1; cases h2; exact sqt_mk l_TS0 (.nil) (by show 0 ≤ sizeLine; decide)
        | 1, h1, h2 => by cases h1; cases h2; exact sqt_mk l_TS1 (.nil) (by show 0 ≤ sizeLine; decide)
        | 2, h1, h2 => by cases h1; cases h2; exact sqt_mk l_TS2 (.cons ⟨_, rfl⟩ (.nil)) (by show 1 ≤ sizeLine; decide)
        | 3, h1, h2 => by cases h1; cases h2; exact sqt_mk l_TS3 (.cons ⟨_, rfl⟩ (.cons ⟨_, rfl⟩ (.cons ⟨_, rfl⟩ (.cons ⟨_, rfl⟩ (.cons ⟨_, rfl⟩ (.cons ⟨_, rfl⟩ (.cons ⟨_, rfl⟩ (.nil)))))))) (by show 7 ≤ sizeLine; decide)
        | _ + 4, h1, h2 => by cases h1)
    TP := tupV_mk (rs := [a_TP0, a_TP1, a_TP2]) X G a_TPh l_TP (.cons rfl (.cons rfl (.cons rfl (.nil)))) (by show 3 ≤ sizeLine; decide) rfl (fun i r xs h1 h2 => match i, h1, h2 with
        | 0, h1, h2 => by cases h1; cases h2; exact sqt_mk l_TP0 (.cons ⟨_, rfl⟩ (.cons ⟨_, rfl⟩ (.nil))) (by show 2 ≤ sizeLine; decide)
        | 1, h1, h2 => by cases h1; cases h2; exact sqt_mk l_TP1 (.cons ⟨_, rfl⟩ (.cons ⟨_, rfl⟩ (.nil))) (by show 2 ≤ sizeLine; decide)
        | 2, h1, h2 => by cases h1; cases h2; exact sqt_mk l_TP2 (.cons ⟨_, rfl⟩ (.cons ⟨_, rfl⟩ (.nil))) (by show 2 ≤ sizeLine; decide)
        | _ + 3, h1, h2 => by cases h1)
    caughtV := ⟨_, atV_mk X G a_caught l_caught c_caught k_caught (fun _ _ _ _ _ _ us hl => match us, hl with | [_], _ => rfl)⟩
    er := ⟨(cOf3 C_NotATable C_OtherKinds C_InvalidKinds), (bOf C_BadValue C_BadName C_NoAnswer), errM3_mk (PySem.W.mg_of X G aX_NotATable) (PySem.W.mg_of X G aX_OtherKinds) (PySem.W.mg_of X G aX_InvalidKinds) (PySem.W.mg_of X G aX_BadValue) (PySem.W.mg_of X G aX_BadName) (PySem.W.mg_of X G aX_NoAnswer), ⟨C_NotATable, PySem.W.mg_of X G aX_NotATable, XSp.supC_mk X G sINotATable_A sINotATable_B sINotATable_S XSp.pn_given iX_NotATable tX_NotATable fX_NotATable cX_NotATable oX_NotATable rfl_v_NotATable rfl_f_NotATable lX_NotATable xX_NotATable rfl_t_NotATable mX_NotATable z_super rfl_top any_z PySem.W.kxs_ValueError ks_h_NotATable bX_NotATable (fun env => ⟨_, rfl⟩) PySem.F.excBase_ValueError PySem.F.store_ValueError saX_NotATable noX_NotATable (fun env => rfl) (fun s e u => .of_eq rfl) eX_NotATable yX_NotATable kX_NotATable, ⟨ga_NotATable, gg_NotATable, eX_NotATable, hd_NotATable, ha_NotATable, hn_class, ht_class, ho_NotATable⟩, errF3_mk noX_NotATable ex_NotATable k0_NotATable k1_NotATable k2_NotATable m0_NotATable⟩, ⟨C_OtherKinds, PySem.W.mg_of X G aX_OtherKinds, XSp.supC_mk X G sIOtherKinds_A sIOtherKinds_B sIOtherKinds_S XSp.pn_given iX_OtherKinds tX_OtherKinds fX_OtherKinds cX_OtherKinds oX_OtherKinds rfl_v_OtherKinds rfl_f_OtherKinds lX_OtherKinds xX_OtherKinds rfl_t_OtherKinds mX_OtherKinds z_super rfl_top any_z PySem.W.kxs_ValueError ks_h_OtherKinds bX_OtherKinds (fun env => ⟨_, rfl⟩) PySem.F.excBase_ValueError PySem.F.store_ValueError saX_OtherKinds noX_OtherKinds (fun env => rfl) (fun s e u => .of_eq rfl) eX_OtherKinds yX_OtherKinds kX_OtherKinds, ⟨ga_OtherKinds, gg_OtherKinds, eX_OtherKinds, hd_OtherKinds, ha_OtherKinds, hn_class, ht_class, ho_OtherKinds⟩, errF3_mk noX_OtherKinds ex_OtherKinds k0_OtherKinds k1_OtherKinds k2_OtherKinds m0_OtherKinds⟩⟩ }
  exact ⟨_, [(tc_right, tp_right)], ⟨tab_mk a_right l_right rfl o_right rfl_tright, trivial⟩, fun s v => .of_eq rfl, fun base _ _ hT => law_all (fun_mk (st := s_law) l_law c_law k_law) (atV_mk X G a_right l_right c_right k_right (fun _ _ _ _ _ _ us hl => match us, hl with | [_], _ => rfl)) (hT (tc_right, tp_right) (by simp)) t⟩
theorem walk {l : PySem.W.OpenLaw} {q : Program} {loose : List Str} {XP : (Str → Option Value) → Heap → Prop} {YP : World → Heap → Prop} {d : DefRec} {K : Params → PySem.W.Frag} (hn : l.most = some 63) (hdf : d.params.defaults = [])
    (hxs : ∀ y ∈ (["_law_right"] : List Str), ((recsOf q).find? (fun e => e.name == y)).isSome = true) (hY : ∀ (w : World) (h : Heap), YP w h → (K w.params).In h) (hK : ∀ w : World, PySem.W.noTabs (K w.params) = true)
    (F : ∀ (w : World) (mg : Str → Option Value) (fa : Addr) (h : Heap), (K w.params).In h → h.Ns mainGlobals mg → mg d.name = some (.ref fa) →
      ∃ (fd : FuncData) (cs : List (Addr × Addr)), XG.tabsIn (K w.params) ["_law_right"] cs ∧ (∀ (s : Shared) (u : Value), BindsTo s fd ⟨[u], []⟩ [("script", u)]) ∧ ∀ base : Heap, (K w.params).In base → base.Ns mainGlobals mg → (∀ p ∈ cs, LamX.TabB base mg p.1 p.2) → XG.FnG l.prog w (K w.params) mg base CX0 11 fa fd ["script"] (spLawT (K w.params) cs)) :
    PySem.W.WalkO q loose XP YP l.row.toRowW d [] (fun f vs => PySem.call f vs) :=
  XG.walk_tab (n := 63) (k := 11) (x := "script") (sp := fun w cs => spLawT (K w.params) cs) hn (by decide) hdf ⟨rfl, by decide, by decide⟩ hxs hY hK F (fun _ _ _ a ns hl _ hT hS => ⟨a, ns, rfl, hS, Nat.le_trans hl (by decide), hT, fun _ => rfl⟩)
end T

open PySem PySem.W PyProof.Rows in
set_option maxRecDepth 100000 in
set_option maxHeartbeats 0 in
theorem PySem.Challenge.cw_passedits_k33_errors_of_likeness_holds : PySem.Challenge.rw_passedits_k33_errors_of_likeness.Holds := by
  w_on; o_law; k_head; (case hw => w_witness2)
  k_fill
  refine T.walk (l := PySem.Challenge.rw_passedits_k33_errors_of_likeness) rfl rfl ?seen (fun w h Y => PySem.W.km_in_of Y) ?noTabs ?F
  case seen => decide +kernel
  case noTabs => intro w; rfl
  case F =>
    intro w mg fa h KX G hmg
    refine' T.top_mk KX G hmg ?a_law ?l_law ?c_law ?k_law ?a_purse ?l_purse ?c_purse ?k_purse ?a_draw ?l_draw ?c_draw ?k_draw ?a_pick ?l_pick ?c_pick ?k_pick ?a_word ?l_word ?c_word ?k_word ?a_kinds ?l_kinds ?c_kinds ?k_kinds ?a_cell ?l_cell ?c_cell ?k_cell ?a_cellOf ?l_cellOf ?c_cellOf ?k_cellOf ?a_optsOf ?l_optsOf ?c_optsOf ?k_optsOf ?a_conds ?l_conds ?c_conds ?k_conds ?a_res ?l_res ?c_res ?k_res ?a_row ?l_row ?c_row ?k_row ?a_first ?l_first ?c_first ?k_first ?a_kr ?l_kr ?c_kr ?k_kr ?a_isText ?l_isText ?c_isText ?k_isText ?a_cmp ?l_cmp ?c_cmp ?k_cmp ?a_met ?l_met ?c_met ?k_met ?a_chosen ?l_chosen ?c_chosen ?k_chosen ?a_formed ?l_formed ?c_formed ?k_formed ?a_turned ?l_turned ?c_turned ?k_turned ?a_sorts2 ?l_sorts2 ?c_sorts2 ?k_sorts2 ?a_opts2 ?l_opts2 ?c_opts2 ?k_opts2 ?a_cells2 ?l_cells2 ?c_cells2 ?k_cells2 ?a_text2 ?l_text2 ?c_text2 ?k_text2 ?a_good ?l_good ?c_good ?k_good ?a_mk_ ?l_mk_ ?c_mk_ ?k_mk_ ?a_pairs ?l_pairs ?c_pairs ?k_pairs ?a_tKh ?l_tK ?a_tRh ?l_tR ?a_tSh ?l_tS ?a_tCh ?l_tC ?a_tEh ?l_tE ?a_most ?a_sth ?l_st ?q_st ?v_st0 ?v_st1 ?v_st2 ?aC ?pg ?hd ?po ?sa ?nk ?nr ?nc ?ha ?hn ?htk ?hm ?mkI ?kC ?a_init ?i_init ?l_init ?c_init ?k_init ?lT ?lEmp ?a_pkinds ?g_pkinds ?t_pkinds ?r_pkinds ?l_pkinds ?c_pkinds ?k_pkinds ?a_mstr ?i_mstr ?l_mstr ?c_mstr ?k_mstr ?a_gt ?i_gt ?f_gti ?l_gt ?c_gt ?k_gt ?rdIn ?ga ?fcl ?rrc ?rfi ?l_rd ?c_rd ?k_rd ?a_askT ?l_askT ?c_askT ?k_askT ?a_unl ?l_unl ?c_unl ?k_unl ?a_alk ?l_alk ?c_alk ?k_alk ?kt_NoneType ?kt_bool ?kt_int ?kt_str ?kt_list ?kt_tuple ?kt_dict ?a_TDh ?l_TD ?l_TD0 ?l_TD1 ?l_TD2 ?l_TD3 ?a_TSh ?l_TS ?l_TS0 ?l_TS1 ?l_TS2 ?l_TS3 ?a_TPh ?l_TP ?l_TP0 ?l_TP1 ?l_TP2 ?a_caught ?l_caught ?c_caught ?k_caught ?a_right ?l_right ?c_right ?k_right ?o_right ?rfl_tright ?aX_InvalidKinds ?aX_BadValue ?aX_BadName ?aX_NoAnswer ?z_super ?rfl_top ?any_z ?aX_NotATable ?iX_NotATable ?tX_NotATable ?fX_NotATable ?cX_NotATable ?oX_NotATable ?rfl_v_NotATable ?rfl_f_NotATable ?lX_NotATable ?xX_NotATable ?rfl_t_NotATable ?mX_NotATable ?ks_h_NotATable ?bX_NotATable ?saX_NotATable ?noX_NotATable ?eX_NotATable ?yX_NotATable ?kX_NotATable ?ga_NotATable ?gg_NotATable ?hd_NotATable ?ha_NotATable ?ho_NotATable ?ex_NotATable ?k0_NotATable ?k1_NotATable ?k2_NotATable ?m0_NotATable ?aX_OtherKinds ?iX_OtherKinds ?tX_OtherKinds ?fX_OtherKinds ?cX_OtherKinds ?oX_OtherKinds ?rfl_v_OtherKinds ?rfl_f_OtherKinds ?lX_OtherKinds ?xX_OtherKinds ?rfl_t_OtherKinds ?mX_OtherKinds ?ks_h_OtherKinds ?bX_OtherKinds ?saX_OtherKinds ?noX_OtherKinds ?eX_OtherKinds ?yX_OtherKinds ?kX_OtherKinds ?ga_OtherKinds ?gg_OtherKinds ?hd_OtherKinds ?ha_OtherKinds ?ho_OtherKinds ?ex_OtherKinds ?k0_OtherKinds ?k1_OtherKinds ?k2_OtherKinds ?m0_OtherKinds ?hn_class ?ht_class ?z_len ?z_int_ ?z_abs_ ?z_divmod ?z_range ?z_list ?z_tuple ?z_repr ?z_min_ ?z_max_ ?z_isin ?z_str ?z_bool ?z_set_ ?z_enum ?z_all_
    (case a_law => k_is); (case l_law => k_is); (case c_law => k_is); (case k_law => k_is); (case a_purse => k_is); (case l_purse => k_is)
    (case c_purse => k_is); (case k_purse => k_is); (case a_draw => k_is); (case l_draw => k_is); (case c_draw => k_is); (case k_draw => k_is)
    (case a_pick => k_is); (case l_pick => k_is); (case c_pick => k_is); (case k_pick => k_is); (case a_word => k_is); (case l_word => k_is)
    (case c_word => k_is); (case k_word => k_is); (case a_kinds => k_is); (case l_kinds => k_is); (case c_kinds => k_is); (case k_kinds => k_is)
    (case a_cell => k_is); (case l_cell => k_is); (case c_cell => k_is); (case k_cell => k_is); (case a_cellOf => k_is); (case l_cellOf => k_is)
    (case c_cellOf => k_is); (case k_cellOf => k_is); (case a_optsOf => k_is); (case l_optsOf => k_is); (case c_optsOf => k_is); (case k_optsOf => k_is)
    (case a_conds => k_is); (case l_conds => k_is); (case c_conds => k_is); (case k_conds => k_is); (case a_res => k_is); (case l_res => k_is)
    (case c_res => k_is); (case k_res => k_is); (case a_row => k_is); (case l_row => k_is); (case c_row => k_is); (case k_row => k_is)
    (case a_first => k_is); (case l_first => k_is); (case c_first => k_is); (case k_first => k_is); (case a_kr => k_is); (case l_kr => k_is)
    (case c_kr => k_is); (case k_kr => k_is); (case a_isText => k_is); (case l_isText => k_is); (case c_isText => k_is); (case k_isText => k_is)
    (case a_cmp => k_is); (case l_cmp => k_is); (case c_cmp => k_is); (case k_cmp => k_is); (case a_met => k_is); (case l_met => k_is)
    (case c_met => k_is); (case k_met => k_is); (case a_chosen => k_is); (case l_chosen => k_is); (case c_chosen => k_is); (case k_chosen => k_is)
    (case a_formed => k_is); (case l_formed => k_is); (case c_formed => k_is); (case k_formed => k_is); (case a_turned => k_is); (case l_turned => k_is)
    (case c_turned => k_is); (case k_turned => k_is); (case a_sorts2 => k_is); (case l_sorts2 => k_is); (case c_sorts2 => k_is); (case k_sorts2 => k_is)
    (case a_opts2 => k_is); (case l_opts2 => k_is); (case c_opts2 => k_is); (case k_opts2 => k_is); (case a_cells2 => k_is); (case l_cells2 => k_is)
    (case c_cells2 => k_is); (case k_cells2 => k_is); (case a_text2 => k_is); (case l_text2 => k_is); (case c_text2 => k_is); (case k_text2 => k_is)
    (case a_good => k_is); (case l_good => k_is); (case c_good => k_is); (case k_good => k_is); (case a_mk_ => k_is); (case l_mk_ => k_is)
    (case c_mk_ => k_is); (case k_mk_ => k_is); (case a_pairs => k_is); (case l_pairs => k_is); (case c_pairs => k_is); (case k_pairs => k_is)
    (case a_tKh => k_is); (case l_tK => k_is); (case a_tRh => k_is); (case l_tR => k_is); (case a_tSh => k_is); (case l_tS => k_is)
    (case a_tCh => k_is); (case l_tC => k_is); (case a_tEh => k_is); (case l_tE => k_is); (case a_most => k_is); (case a_sth => k_is)
    (case l_st => k_is); (case q_st => k_keys); (case v_st0 => k_is); (case v_st1 => k_is); (case v_st2 => k_is); (case aC => k_is)
    (case pg => k_is); (case hd => k_is); (case po => k_is); (case sa => k_is); (case nk => k_is); (case nr => k_is)
    (case nc => k_is); (case ha => k_is); (case hn => k_is); (case htk => k_is); (case hm => k_is); (case mkI => k_is)
    (case kC => k_is); (case a_init => k_is); (case i_init => k_is); (case l_init => k_is); (case c_init => k_is); (case k_init => k_is)
    (case lT => k_is); (case lEmp => k_is); (case a_pkinds => k_is); (case g_pkinds => k_is); (case t_pkinds => k_is); (case r_pkinds => k_is)
    (case l_pkinds => k_is); (case c_pkinds => k_is); (case k_pkinds => k_is); (case a_mstr => k_is); (case i_mstr => k_is); (case l_mstr => k_is)
    (case c_mstr => k_is); (case k_mstr => k_is); (case a_gt => k_is); (case i_gt => k_is); (case f_gti => k_is); (case l_gt => k_is)
    (case c_gt => k_is); (case k_gt => k_is); (case rdIn => k_is); (case ga => k_is); (case fcl => k_is); (case rrc => k_is)
    (case rfi => k_is); (case l_rd => k_is); (case c_rd => k_is); (case k_rd => k_is); (case a_askT => k_is); (case l_askT => k_is)
    (case c_askT => k_is); (case k_askT => k_is); (case a_unl => k_is); (case l_unl => k_is); (case c_unl => k_is); (case k_unl => k_is)
    (case a_alk => k_is); (case l_alk => k_is); (case c_alk => k_is); (case k_alk => k_is); (case kt_NoneType => first | k_is | kernel_rfl); (case kt_bool => first | k_is | kernel_rfl)
    (case kt_int => first | k_is | kernel_rfl); (case kt_str => first | k_is | kernel_rfl); (case kt_list => first | k_is | kernel_rfl); (case kt_tuple => first | k_is | kernel_rfl); (case kt_dict => first | k_is | kernel_rfl); (case a_TDh => k_is)
    (case l_TD => k_is); (case l_TD0 => k_is); (case l_TD1 => k_is); (case l_TD2 => k_is); (case l_TD3 => k_is); (case a_TSh => k_is)
    (case l_TS => k_is); (case l_TS0 => k_is); (case l_TS1 => k_is); (case l_TS2 => k_is); (case l_TS3 => k_is); (case a_TPh => k_is)
    (case l_TP => k_is); (case l_TP0 => k_is); (case l_TP1 => k_is); (case l_TP2 => k_is); (case a_caught => k_is); (case l_caught => k_is)
    (case c_caught => k_is); (case k_caught => k_is); (case a_right => k_is); (case l_right => k_is); (case c_right => k_is); (case k_right => k_is)
    (case o_right => k_is); (case rfl_tright => first | rfl | decide +kernel | kernel_rfl); (case aX_InvalidKinds => k_is); (case aX_BadValue => k_is); (case aX_BadName => k_is); (case aX_NoAnswer => k_is)
    (case z_super => k_is); (case rfl_top => first | rfl | decide +kernel | kernel_rfl); (case any_z => k_is); (case aX_NotATable => k_is); (case iX_NotATable => k_is); (case tX_NotATable => k_is)
    (case fX_NotATable => k_is); (case cX_NotATable => k_is); (case oX_NotATable => k_is); (case rfl_v_NotATable => first | rfl | decide +kernel | kernel_rfl); (case rfl_f_NotATable => first | rfl | decide +kernel | kernel_rfl); (case lX_NotATable => k_is)
    (case xX_NotATable => k_is); (case rfl_t_NotATable => first | rfl | decide +kernel | kernel_rfl); (case mX_NotATable => k_is); (case ks_h_NotATable => ks_is); (case bX_NotATable => k_is); (case saX_NotATable => k_is)
    (case noX_NotATable => k_is); (case eX_NotATable => k_is); (case yX_NotATable => k_is); (case kX_NotATable => k_is); (case ga_NotATable => k_is); (case gg_NotATable => k_is)
    (case hd_NotATable => k_is); (case ha_NotATable => k_is); (case ho_NotATable => k_is); (case ex_NotATable => kernel_rfl); (case k0_NotATable => kernel_rfl); (case k1_NotATable => kernel_rfl)
    (case k2_NotATable => kernel_rfl); (case m0_NotATable => kernel_rfl); (case aX_OtherKinds => k_is); (case iX_OtherKinds => k_is); (case tX_OtherKinds => k_is); (case fX_OtherKinds => k_is)
    (case cX_OtherKinds => k_is); (case oX_OtherKinds => k_is); (case rfl_v_OtherKinds => first | rfl | decide +kernel | kernel_rfl); (case rfl_f_OtherKinds => first | rfl | decide +kernel | kernel_rfl); (case lX_OtherKinds => k_is); (case xX_OtherKinds => k_is)
    (case rfl_t_OtherKinds => first | rfl | decide +kernel | kernel_rfl); (case mX_OtherKinds => k_is); (case ks_h_OtherKinds => ks_is); (case bX_OtherKinds => k_is); (case saX_OtherKinds => k_is); (case noX_OtherKinds => k_is)
    (case eX_OtherKinds => k_is); (case yX_OtherKinds => k_is); (case kX_OtherKinds => k_is); (case ga_OtherKinds => k_is); (case gg_OtherKinds => k_is); (case hd_OtherKinds => k_is)
    (case ha_OtherKinds => k_is); (case ho_OtherKinds => k_is); (case ex_OtherKinds => kernel_rfl); (case k0_OtherKinds => kernel_rfl); (case k1_OtherKinds => kernel_rfl); (case k2_OtherKinds => kernel_rfl)
    (case m0_OtherKinds => kernel_rfl); (case hn_class => k_is); (case ht_class => k_is); (case z_len => k_is); (case z_int_ => k_is); (case z_abs_ => k_is)
    (case z_divmod => k_is); (case z_range => k_is); (case z_list => k_is); (case z_tuple => k_is); (case z_repr => k_is); (case z_min_ => k_is)
    (case z_max_ => k_is); (case z_isin => k_is); (case z_str => k_is); (case z_bool => k_is); (case z_set_ => k_is); (case z_enum => k_is)
    (case z_all_ => k_is)
