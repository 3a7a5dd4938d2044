import PyProof.Rows.All
import Wide.All
import OpenK.AllK
import Wide.FinOn
import HandS.ForMost
import HandS.Codes
import HandS.WideBits
import HandS.IsInst
import HandS.Defaults
import HandS.EndBits
import PyProof.ReprRoads
import HandS.TupSets
import HandS.DictComp
import HandS.Star
import KE.GoesMore
import HandS.MakeKwOnly
import HandS.Property
import KE.KCallOwn
import PySem.Challenge.RW_passedits_k04_kinds_refused
import HandS.Evl
import HandS.WordsDict
import HandS.DictSub
import HandS.Walk
import PyProof.ReprLen
import KE.KxAffix
import OpenK.KMake
import OpenK.KMore
import HandS.OwnEq
import HandS.ClsMeth
import PyProof.InstEq
import PyProof.Rows.CallKw2
import OpenK.KMeth
import HandS.TupAny
import HandS.TupLe
import HandS.TryOnly
import HandS.SortInts
import HandS.Conv
import KE.KExcSuper
import HandS.ExcInit
import HandS.ExcSuper
import HandS.WordsExc
import HandS.ExcOwn
import KE.KExcIs
import KE.KIsAll
import HandS.ExcIs
import KE.KTryMore
import HandS.List
import HandS.Lambda
import HandS.EndTab
import PyProof.StrLawsChain
import HandS.Deep
set_option Elab.async false
set_option linter.all false
set_option maxRecDepth 100000
set_option maxHeartbeats 4000000
/-! Own: defs that are called where no repr runs, repr of data, the end of a law for such a def. -/
namespace XG
open PySem PySem.Spec PyProof.Rows L2
/-- no repr runs around -/
def Calm (A : Around) : Prop := A.guards = some []
theorem Calm.deeper {A : Around} (h : Calm A) (e : Env) : Calm (A.deeper e) := h
/-- what a def promises where no repr runs around -/
structure FnG (P : Program) (w : World) (K : PySem.W.Frag) (mg : Str → Option Value) (base : Heap) (CX : CXT) (k : Nat) (f : Addr) (fd : FuncData) (ps : List Str) (sp : Sp) : Prop where
  len : ∀ vs H Q E, sp vs H Q E → vs.length = ps.length
  run : ∀ (A : Around) (outer : List Env) (s : Shared) (H : Hp) (args : Args) (us : List Value) (vs : List V) (Q : VK) (E : XK), Calm A → Room k A → Env0 P w K mg base A outer s H → BindsTo s fd args (ps.zip us) → Vals vs us → sp vs H Q E →
    codeAny (model P w) A (.call (.ref f) args) (CR CX outer P w H s Q E) s
section
variable {CX : CXT} {P : Program} {w : World} {K : PySem.W.Frag} {mg : Str → Option Value} {base : Heap} {k : Nat}
theorem fn_calm {f : Addr} {name qual : Str} {params : Arguments} {body : List Stmt} {scope : Scope} {dV kV doc pm cdv ct oc : Value} {an od : Option Addr}
    {osl : Array (Option Value)} {N ps : List Str} {sp : Sp} (lk : K.lookup f = some ⟨oc, od, .func (PySem.W.fnOf name qual params body scope dV kV doc pm an cdv ct), osl⟩) (hcd : PySem.W.codeIn K cdv qual = true) (S : FnScope N ps scope)
    (len : ∀ vs H Q E, sp vs H Q E → vs.length = ps.length)
    (hbody : ∀ (A : Around) (outer : List Env) (s : Shared) (H : Hp) (vs : List V) (Q : VK) (E : XK), Calm (A.deeper (envOfC qual scope s.heap.objs.size f cdv)) → Room k (A.deeper (envOfC qual scope s.heap.objs.size f cdv)) → sp vs H Q E →
      ∃ t, PSs (cxOf CX P w K mg base N qual scope f cdv A outer s H E) body t ∧ t { nx := fun _ H' => Q .non H', rt := Q } (start N vs) H) :
    FnG P w K mg base CX (k + 1) f (PySem.W.fnOf name qual params body scope dV kV doc pm an cdv ct) ps sp := by
  refine ⟨len, fun A outer s H args us vs Q E hc hr e0 hb r hsp => ?_⟩
  -- the rule for a def, at this one call: another promise that holds here alone
  have hl := len _ _ _ _ hsp
  have KX : K.In s.heap := e0.mod.kin.keeps fun b o e => (e0.bs b o e).1
  have lim : s.heap.NoLimit := e0.mod.nolimit.keeps fun b o e => (e0.bs b o e).1
  refine codeAny_call_function hr.depth (KX _ _ lk) rfl S.co S.gen rfl (PySem.W.codeRec_of KX hcd) (hb _ _ _ _ ?_)
  have hkind : ∀ y ∈ ps.zip us, scope.names.lookup y.1 = some .local ∨ (scope.names.lookup y.1 = some .cell ∧ ((cellsFrom (s.heap.objs.size + 1) scope.names []).lookup y.1).isSome = true) := by
    rintro ⟨n, v⟩ hy
    rcases S.par n (List.of_mem_zip hy).1 with q | q
    · exact .inl q
    · exact .inr ⟨q, PySem.W.cellsFrom_some _ _ _ (.inl q)⟩
  refine wpAny_newFunctionEnv_cells S.kind hkind fun env he s1 x => ?_
  subst he
  refine ⟨lim.keeps x.toInCall.keep, codeAny_func ?_⟩
  obtain ⟨t, ht, hq⟩ := hbody A outer s H vs Q E (hc.deeper _) (hr.deeper _) hsp
  have I := inv_start (CX := CX) (E := E) S hr.hd e0 hl r x
  refine wpAny_mono (ht.run [] s1 (start N vs) H _ I hq) (fun fl s' hs => ?_) fun e s' hs => hs
  cases fl with
  | ret u =>
    obtain ⟨v, σ', H', J, rv, q⟩ := hs
    exact ⟨v, H', J.os, J.bare, J.base, J.hok, rv, q⟩
  | next =>
    obtain ⟨σ', H', J, q⟩ := hs
    exact ⟨.non, H', J.os, J.bare, J.base, J.hok, rfl, q⟩
  | brk => obtain ⟨_, _, _, q⟩ := hs; exact False.elim q
  | cont => obtain ⟨_, _, _, q⟩ := hs; exact False.elim q
theorem okG {x qual : Str} {st : Stmt} {f : Addr} {fd : FuncData} {N ps : List Str} {sp : Sp} (F : Fun K x qual st f fd) (S : FnScope N ps (defScope st)) (len : ∀ vs H Q E, sp vs H Q E → vs.length = ps.length)
    (hbody : ∀ (cdv : Value) (A : Around) (outer : List Env) (s : Shared) (H : Hp) (vs : List V) (Q : VK) (E : XK), Calm (A.deeper (envOfC qual (defScope st) s.heap.objs.size f cdv)) → Room k (A.deeper (envOfC qual (defScope st) s.heap.objs.size f cdv)) → sp vs H Q E →
      ∃ t, PSs (cxOf CX0 P w K mg base N qual (defScope st) f cdv A outer s H E).nox (defBody st) t ∧ t { nx := fun _ H' => Q .non H', rt := Q } (start N vs) H) : FnG P w K mg base CX0 (k + 1) f fd ps sp := by
  obtain ⟨oc, od, kV, doc, pm, an, cdv, ct, osl, rfl, lk, hcd⟩ := F.ex
  refine fn_calm lk hcd S len fun A outer s H vs Q E hc hr hsp => ?_
  obtain ⟨t, h, q⟩ := hbody cdv A outer s H vs Q E hc hr hsp
  exact ⟨t, h.nox, q⟩
end
section
variable {X : Cx} {CX : CXT} {k : Nat} {f : Addr} {fd : FuncData} {ps : List Str} {sp : Sp} {dvs : List V} {ds : List Value} {E : XK} {x : Str} {p pos : Pos} {e : Expr} {es : List Expr} {t : TA}
/-- f(e, ..) of such a def -/
theorem pe_callG (F : FnG X.prog X.w X.K X.mg X.base CX k f fd ps sp) (hc : Calm X.A) (hr : Room k X.A) (hg : Gl X x) (hm : X.mg x = some (.ref f)) (hk : PySem.W.keepIn X.K (.ref f) = true) (hb : Binds X.K fd ps ds) (hd : Vals dvs ds) (hx : Passes CX X E)
    (ha : PA X (e :: es) t) (hdb : (x == ("__debug__" : Str)) = false := by decide) (he : starEach (e :: es) X.env = (false, eval e X.env) :: starEach es X.env := by rfl) (hpl : (backTo pos (starEach es X.env)).any (·.1) = false := by rfl) :
    PE X (.Call (.Name x p) (e :: es) [] pos) (tCall sp dvs E t) := by
  refine ⟨fun pins s σ H Q I h => wpAny_Call_Name_kw (ld_glob I hg hm ?_ hdb)⟩
  refine PySem.W.callWith_K (h₀ := X.base) I.ok.mod.kin hk (thn (ha.run pos pins s σ H _ I h) fun us s1 ⟨vs, H1, I1, r, q⟩ => ⟨I1.kIn, ?_⟩) he hpl
  have r2 : Vals (vs ++ dvs) (us ++ ds) := r.append hd
  have hl : (us ++ ds).length = ps.length := by rw [← r2.length]; exact F.len _ _ _ _ q
  refine wpAny_call (codeAny_mono (F.run X.A X.stack s1 H1 ⟨us, []⟩ (us ++ ds) (vs ++ dvs) Q E hc hr I1.env0 (hb s1 us I1.kIn hl) r2 q) fun r s' hq => ?_)
  cases r with
  | error er => exact hx pins σ H1 s1 er s' I1 hq
  | ok fl =>
    cases fl with
    | ret u => exact I1.after hq
    | _ => exact False.elim hq

/-! ### repr of data -/
def rRepr (K : PySem.W.Frag) : List V → Hp → VK → Prop := fun xs H Q => ∃ v d, xs = [v] ∧ Dp K H v d ∧ d.showable = true ∧ d.hasDict = false ∧ d.depth ≤ 32 ∧ d.shown.length ≤ sizeLine ∧ Q (.str d.shown) H
theorem call_repr (hc : Calm X.A) (hu : X.A.units + 64 < cLine) : CallR X (.builtin "repr") (rRepr X.K) := by
  intro pins s σ H xs us Q I r h
  obtain ⟨v, d, rfl, hd, hs, hn, hdp, hz, q⟩ := h
  obtain ⟨u, rfl, ru⟩ := Vals.one r
  obtain ⟨as, rd⟩ := Dp.reads I d v u hd ru
  have onHeap : ∀ a, u = Value.ref a → wpAny (model X.prog X.w) X.A (call (.builtin "repr") [u]) (EP X pins σ Q) X.xe s := fun a e => by
    subst e
    refine repr_of_reads' rd hs (PyData.noDict_hsm hn) hc (by omega) (fun _ _ z => z) (fun h' u tk hk => ?_) hz
    exact ⟨.str d.shown, H, I.kept hk, ⟨u, rfl⟩, q⟩
  cases hd with
  | non =>
    cases ru
    exact PySem.P.repr_of_none ⟨.str _, H, I.tok _, ⟨_, rfl⟩, by simpa only [PyData.shown] using q⟩
  | bl b =>
    cases ru
    exact PySem.P.repr_of_bool ⟨.str _, H, I.tok _, ⟨_, rfl⟩, by simpa only [PyData.shown] using q⟩
  | int i =>
    obtain ⟨t, rfl⟩ := ru
    exact PySem.P.repr_of_int (by simpa [PyData.showable] using hs) ⟨.str _, H, I.tok _, ⟨_, rfl⟩, by simpa only [PyData.shown] using q⟩
  | str x =>
    obtain ⟨t, rfl⟩ := ru
    exact PySem.P.repr_of_str ⟨.str _, H, I.tok _, ⟨_, rfl⟩, by simpa only [PyData.shown] using q⟩ (by simpa only [PyData.shown] using hz)
  | lst _ _ => exact onHeap _ ru
  | tup _ _ => exact onHeap _ ru
end

/-! ### the end of a law whose def wants that no repr runs around -/
theorem end_calm {P : Program} {w : World} {K : PySem.W.Frag} {mg mb : Str → Option Value} {k : Nat} {fa a : Addr} {fd : FuncData} {x : Str} {sp : Sp} {z : Shared} {vs : List Value} {ns : List Int}
    (KX : K.In z.heap) (hns : z.heap.Ns mainGlobals mg) (hb : z.heap.Ns builtinsNs mb) (hbb : ∀ x : Str, x ≠ "__name__" → mb x = bootBuiltins x) (hlim : z.heap.NoLimit) (hg : z.gens = #[])
    (ha : z.heap.get? a = some { cls := .type "list", data := .seq vs.toArray }) (hi : IntsAre vs ns) (hl : ns.length ≤ sizeLine) (hr : Room k callerA)
    (F : ∀ base : Heap, K.In base → base.Ns mainGlobals mg → FnG P w K mg base CX0 k fa fd [x] sp) (hbind : ∀ (s : Shared) (u : Value), BindsTo s fd ⟨[u], []⟩ [(x, u)])
    (hsp : ∀ H : Hp, Only H → SqL K H a (ns.map V.int) → sp [.ref a] H (fun v _ => v = .bl true) fun _ _ _ => False) :
    codeAny (model P w) callerA (.call (.ref fa) ⟨[.ref a], []⟩) (fun r s' => r = .ok (.ret (.bool true)) ∧ OldK z.heap s'.heap ∧ s'.os = z.os ∧ AllBare s'.gens) z := by
  have go : ∀ H : Hp, Only H → SqL K H a (ns.map V.int) → HOk P w H z.heap → (∀ b, H b ≠ none → b = a ∧ K.lookup a = none) →
      codeAny (model P w) callerA (.call (.ref fa) ⟨[.ref a], []⟩) (fun r s' => r = .ok (.ret (.bool true)) ∧ OldK z.heap s'.heap ∧ s'.os = z.os ∧ AllBare s'.gens) z := by
    intro H hO hS hok hA
    have free : ∀ {b : Addr} {o : Obj}, z.heap.get? b = some o → o.data ≠ .seq vs.toArray 0 → H b = none := fun {b o} e d => by
      cases q : H b with
      | none => rfl
      | some u =>
        have e1 := (hA b (by rw [q]; simp)).1
        rw [e1, ha] at e
        exact absurd (by rw [← Option.some.inj e]) d
    have ns_of : ∀ {b : Addr} {m : Str → Option Value}, z.heap.Ns b m → (hidT z.heap H).Ns b m := fun {b m} n => by
      obtain ⟨o, es, ep, e, d, r⟩ := n
      exact ⟨o, es, ep, hidT_get e (free e fun q => by rw [d] at q; cases q), d, r⟩
    have kb : K.In (hidT z.heap H) := fun b o e => by
      refine hidT_get (KX b o e) ?_
      cases q : H b with
      | none => rfl
      | some u =>
        obtain ⟨e1, e2⟩ := hA b (by rw [q]; simp)
        rw [e1, e2] at e
        cases e
    obtain ⟨mc, c1, c2⟩ := hlim
    have M : Mod K mg (hidT z.heap H) := ⟨kb, ns_of hns, ⟨mb, ns_of hb, hbb⟩, mc, ns_of c1, c2⟩
    have e0 : Env0 P w K mg (hidT z.heap H) callerA [] z H := ⟨rfl, M, fun b o e => of_hidT e, Nat.le_of_eq (hidT_size _ _), trivial, fun b hb => absurd (show b ∈ ([] : List Addr) from hb) (by simp), hok, .of_eq hg⟩
    refine codeAny_mono ((F _ kb (ns_of hns)).run callerA [] z H ⟨[.ref a], []⟩ [.ref a] [.ref a] _ _ rfl hr e0 (hbind z (.ref a)) (.cons rfl .nil) (hsp H hO hS)) fun r s' h => ?_
    cases r with
    | error e => exact h.elim
    | ok fl =>
      cases fl with
      | ret u =>
        obtain ⟨v, H', os, bare, un, hok', r', q⟩ := h
        obtain rfl : v = .bl true := q
        obtain rfl : u = Value.bool true := r'
        refine ⟨rfl, OldK.of_keep fun b o e => ?_, os, bare⟩
        rcases hO b with q | ⟨ob, xs, q⟩
        · exact un.keep b o e q (fun i => absurd (show b ∈ ([] : List Addr) from i) (by simp)) (by simp)
        · have e1 := (hok b _ q).1
          rw [e] at e1
          rw [Option.some.inj e1]
          exact (hok' b _ (un.frzs b ob _ q)).1
      | _ => exact False.elim h
  have rv := vals_ints hi
  cases hk : K.lookup a with
  | some o =>
    have e := KX a o hk
    rw [ha] at e
    cases e
    exact go (fun _ => none) (fun _ => .inl rfl) (.inr ⟨_, vs.toArray, _, hk, rfl, rfl, rfl, by rw [List.size_toArray, hi.length]; exact hl, by simpa using rv⟩) (fun b u q => by cases (show (none : Option HO) = some u from q)) fun b q => absurd rfl q
  | none =>
    refine go (fun b => if b = a then some (.frz { cls := .type "list", data := .seq vs.toArray } (.lst (ns.map V.int))) else none) (fun b => ?_) (.inl (.inr ⟨{ cls := .type "list", data := .seq vs.toArray }, if_pos rfl⟩)) (fun b u q => ?_) fun b q => ?_
    · by_cases hb : b = a
      · exact .inr ⟨_, _, if_pos hb⟩
      · exact .inl (if_neg hb)
    · by_cases hb : b = a
      · have q' := (if_pos hb).symm.trans q
        cases q'
        subst hb
        exact ⟨ha, by rw [List.length_map]; exact hl, vs, _, rv, ha⟩
      · have q' := (if_neg hb).symm.trans q
        cases q'
    · by_cases hb : b = a
      · exact ⟨hb, hk⟩
      · exact absurd (if_neg hb) q
theorem walk_calm {l : PySem.W.OpenLaw} {n k : Nat} {q : Program} {loose : List Str} {XP : (Str → Option Value) → Heap → Prop} {YP : World → Heap → Prop} {d : DefRec} {K : Params → PySem.W.Frag} {sp : World → Sp} {x : Str}
    (hn : l.most = some n) (hn2 : n ≤ sizeLine) (hdf : d.params.defaults = []) (hr : Room k callerA)
    (hY : ∀ (w : World) (h : Heap), YP w h → (K w.params).In h)
    (F : ∀ (w : World) (mg : Str → Option Value) (fa : Addr) (h : Heap), (K w.params).In h → h.Ns mainGlobals mg → mg d.name = some (.ref fa) →
      ∃ fd : FuncData, (∀ (s : Shared) (u : Value), BindsTo s fd ⟨[u], []⟩ [(x, u)]) ∧
        ∀ base : Heap, (K w.params).In base → base.Ns mainGlobals mg → FnG l.prog w (K w.params) mg base CX0 k fa fd [x] (sp w))
    (hsp : ∀ (w : World) (H : Hp) (a : Addr) (ns : List Int), ns.length ≤ n → (∀ z ∈ ns, Builtin.Int.intBits z ≤ 1048576) → Only H → SqL (K w.params) H a (ns.map V.int) → sp w [.ref a] H (fun v _ => v = .bl true) fun _ _ _ => False) :
    PySem.W.WalkO q loose XP YP l.row.toRowW d [] (fun f vs => PySem.call f vs) := by
  refine Att.attach_callB hn hdf fun w s₀ s₁ mg mb fa o pm cd doc a vs ns G Y ho hd hcd hmg hobj hints hlen hbits hg => ?_
  have KX := hY w _ Y
  obtain ⟨fd, hb, hF⟩ := F w mg fa _ KX G.T.g hmg
  exact end_calm KX G.T.g G.T.b G.T.builtins G.T.nolimit hg hobj hints (Nat.le_trans hlen hn2) hr hF hb fun H hO hS => hsp w H a ns hlen hbits hO hS
end XG
/-! Own: sets whose members are tuples of ints and texts; made, grown, asked. -/
namespace XS
open PySem PySem.Spec PyProof.Rows L2
abbrev Nm := List Key
abbrev kh (P : Program) (w : World) (k : Nm) : Int := tupleKeyHash (mixKind P w) k
abbrev At (P : Program) (w : World) (h : Heap) (k : Nm) (b : Addr) : Prop := IsTupleKey (mixKind P w) h k b

section
variable {P : Program} {w : World} {A : Around} {E : Value → Shared → Prop} {s : Shared}
theorem stmt_val (n : Nat) {v : Value} (h : carriedByValue v = true) : ofAClassStatement n v = pure false := by
  cases v with
  | ref a => exact absurd h (by simp [carriedByValue])
  | _ => cases n <;> rfl
theorem stmt_tup {k : Nm} {b : Addr} {Q : Bool → Shared → Prop} (hk : At P w s.heap k b) (h : Q false s) : wpAny (model P w) A (ofAClassStatement 8 (.ref b)) Q E s := by
  have ty := hk.typeIs
  obtain ⟨o, its, n, ho, _, hd, hi⟩ := hk
  unfold ofAClassStatement
  refine wpAny_bind (wpAny_typeOf ty ?_)
  dsimp only
  simp only [show (("tuple" : String) == "tuple") = true from by decide, if_true, Bool.not_true, Bool.false_eq_true, if_false]
  try refine wpAny_bind (wpAny_pure ?_)
  try simp only [Bool.not_true, Bool.false_eq_true, if_false]
  show wpAny _ _ (seqItems? (.ref b) >>= _) _ _ s
  refine wpAny_bind (wpAny_seqItems ho hd ?_)
  dsimp only
  refine wpAny_bind ?_
  show wpAny _ _ (forIn its _ _) _ _ s
  rw [← Array.forIn_toList]
  refine wpAny_forIn_list _ (fun rest r t => r.1 = none ∧ t = s ∧ ∀ v ∈ rest, carriedByValue v = true) _ ?_ ?_ _ _ ⟨rfl, rfl, hi.byValue⟩
  · rintro v rest r t ⟨hr, rfl, al⟩
    rw [stmt_val _ (al v List.mem_cons_self)]
    refine wpAny_bind (wpAny_pure ?_)
    simp only [Bool.false_eq_true, if_false]
    exact wpAny_pure ⟨rfl, rfl, fun u hu => al u (List.mem_cons_of_mem _ hu)⟩
  · rintro ⟨r1, r2⟩ t ⟨hr, rfl, _⟩
    simp only at hr
    subst hr
    exact wpAny_pure h
/-- whatever is said of the hash, some truth comes out -/
theorem byval_some (n : Nat) {k : Key} {v : Value} (h : keyIs k v = true) : ∃ r : Bool, hashByValue n v = pure r := by
  rcases keyIs_shape h with ⟨i, t, rfl, rfl⟩ | ⟨x, t, rfl, rfl⟩
  · exact ⟨true, by cases n <;> rfl⟩
  · exact ⟨false, by cases n <;> rfl⟩
theorem items_some {k : Nm} {vs : List Value} (h : ItemsAre (mixKind P w) k vs) : ∀ v ∈ vs, ∃ q : Key, keyIs q v = true := by
  induction h with
  | nil => intro v hv; cases hv
  | @cons q v' ks vs h1 _ ih =>
    intro v hv
    rcases List.mem_cons.mp hv with e | hv
    · exact ⟨q, by rw [e]; exact h1⟩
    · exact ih v hv
theorem byval_tup {k : Nm} {b : Addr} {Q : Bool → Shared → Prop} (hk : At P w s.heap k b) (h : ∀ r, Q r s) : wpAny (model P w) A (hashByValue 8 (.ref b)) Q E s := by
  have ty := hk.typeIs
  obtain ⟨o, its, n, ho, _, hd, hi⟩ := hk
  unfold hashByValue
  refine wpAny_bind (wpAny_specialOf ty F.slot_tuple_hash.lookup ?_)
  show wpAny _ _ (seqItems? (.ref b) >>= _) _ _ s
  refine wpAny_bind (wpAny_seqItems ho hd ?_)
  refine wpAny_bind ?_
  show wpAny _ _ (forIn its _ _) _ _ s
  rw [← Array.forIn_toList]
  refine wpAny_forIn_list _ (fun rest r t => t = s ∧ ∀ v ∈ rest, ∃ q : Key, keyIs q v = true) _ ?_ ?_ _ _ ⟨rfl, items_some hi⟩
  · rintro v rest r t ⟨rfl, al⟩
    obtain ⟨q, hq⟩ := al v List.mem_cons_self
    obtain ⟨y, ey⟩ := byval_some 7 hq
    rw [ey]
    refine wpAny_bind (wpAny_pure ?_)
    cases y with
    | true =>
      simp only [Bool.not_true, Bool.false_eq_true, if_false]
      exact wpAny_pure ⟨rfl, fun u hu => al u (List.mem_cons_of_mem _ hu)⟩
    | false =>
      simp only [Bool.not_false, if_true]
      refine wpAny_pure ?_
      exact wpAny_pure (h _)
  · rintro ⟨r1, r2⟩ t ⟨rfl, _⟩
    cases r1 with
    | none => exact wpAny_pure (h _)
    | some y => exact wpAny_pure (h _)
theorem seen_keys {k : Nm} {b : Addr} {Q : Bool → Shared → Prop} (hk : At P w s.heap k b) {ys : List Value} (hy : ∀ y ∈ ys, ∃ k' c, y = Value.ref c ∧ At P w s.heap k' c) (h : Q false s) :
    wpAny (model P w) A (searchCouldBeSeen (.ref b) ys) Q E s := by
  unfold searchCouldBeSeen
  refine wpAny_bind ?_
  refine wpAny_forIn_list _ (fun rest r t => r.1 = none ∧ t = s ∧ ∀ y ∈ rest, ∃ k' c, y = Value.ref c ∧ At P w s.heap k' c) _ ?_ ?_ _ _ ⟨rfl, rfl, hy⟩
  · rintro v rest r t ⟨hr, rfl, al⟩
    obtain ⟨k', c, rfl, hc⟩ := al v List.mem_cons_self
    have more : ∀ y ∈ rest, ∃ k' c, y = Value.ref c ∧ At P w t.heap k' c := fun u hu => al u (List.mem_cons_of_mem _ hu)
    dsimp only
    by_cases hv : (b == c || (carriedByValue (.ref b) && carriedByValue (.ref c))) = true
    · exact wp_if_pos hv (wpAny_pure ⟨rfl, rfl, more⟩)
    · refine wp_if_neg hv ?_
      refine wpAny_bind (wpAny_eqIsQuiet_tuple hk ?_)
      simp only [Bool.not_true, Bool.false_eq_true, if_false]
      refine wpAny_bind (wpAny_eqIsQuiet_tuple hc ?_)
      simp only [Bool.not_true, Bool.false_eq_true, if_false]
      refine wpAny_bind (stmt_tup hk ?_)
      simp only [Bool.false_eq_true, if_false]
      refine wpAny_bind (stmt_tup hc ?_)
      simp only [Bool.false_eq_true, if_false]
      exact wpAny_pure ⟨rfl, rfl, more⟩
  · rintro ⟨r1, r2⟩ t ⟨hr, rfl, _⟩
    simp only at hr
    subst hr
    exact wpAny_pure h

abbrev names (L : List (Addr × Nm)) : List Nm := L.map Prod.snd
def hasN (L : List (Addr × Nm)) (k : Nm) : Bool := (names L).any fun j => decide (j = k)
theorem hasN_pos {L : List (Addr × Nm)} {k : Nm} (h : k ∈ names L) : hasN L k = true := List.any_eq_true.mpr ⟨k, h, decide_eq_true rfl⟩
theorem hasN_neg {L : List (Addr × Nm)} {k : Nm} (h : k ∉ names L) : hasN L k = false := by
  cases e : hasN L k with
  | false => rfl
  | true =>
    obtain ⟨j, hj, ej⟩ := List.any_eq_true.mp e
    exact absurd (of_decide_eq_true ej ▸ hj) h
theorem hasN_iff {L : List (Addr × Nm)} {k : Nm} : hasN L k = true ↔ k ∈ names L :=
  ⟨fun h => Classical.byContradiction fun n => (by rw [hasN_neg n] at h; cases h), hasN_pos⟩
/-- the entries of the set's table for the rows L -/
def ents (P : Program) (w : World) (L : List (Addr × Nm)) : List (Int × Value) := L.map fun p => (kh P w p.2, Value.ref p.1)
theorem ents_len (L : List (Addr × Nm)) : (ents P w L).length = L.length := by
  unfold ents
  exact List.length_map ..
/-- the set at a has the rows L, its table being laid as it should -/
structure Tab (P : Program) (w : World) (h : Heap) (a : Addr) (L : List (Addr × Nm)) (es : Array (Int × Value)) (ep : Nat) (t : SetTable) : Prop where
  obj : ∃ o, h.get? a = some o ∧ o.ExactSet ∧ o.data = .set es ep t
  rows : es.toList = ents P w L
  tab : TabOk t (L.map fun p => kh P w p.2)
  once : (names L).Nodup
  mem : ∀ p ∈ L, At P w h p.2 p.1
  room : L.length * 5 < t.mask * 3
variable {a : Addr} {L : List (Addr × Nm)} {es : Array (Int × Value)} {ep : Nat} {t : SetTable}
theorem Tab.size (R : Tab P w s.heap a L es ep t) : es.size = L.length := by
  have q := congrArg List.length R.rows
  rw [ents_len, Array.length_toList] at q
  exact q
theorem Tab.fits (R : Tab P w s.heap a L es ep t) : t.fits es.size = true := by
  have q1 := R.tab.sz
  rw [List.length_map] at q1
  have q2 := R.size
  have q3 := R.room
  unfold SetTable.fits SetTable.fill
  rw [R.tab.dm, Bool.and_eq_true, beq_iff_eq, decide_eq_true_eq]
  refine ⟨by omega, ?_⟩
  show t.place.size + 0 ≤ t.mask
  omega
theorem Tab.entry (R : Tab P w s.heap a L es ep t) {i : Nat} {p : Addr × Nm} (h : L[i]? = some p) : es[i]? = some (kh P w p.2, Value.ref p.1) := by
  rw [← Array.getElem?_toList, R.rows, ents, List.getElem?_map, h]
  rfl
theorem Tab.stays (R : Tab P w s.heap a L es ep t) : ¬ t.gaveWay = true := by
  unfold SetTable.gaveWay
  rw [mask_odd R.tab.mok]
  decide
theorem dummy_nth (m : Nat) : ∀ (n : Nat) (p : SetTable.Probe), p.dummy = none → (nth m p n).dummy = none
  | 0, _, h => h
  | n + 1, p, h => dummy_nth m n (adv m p) (by
      unfold adv
      split <;> exact h)

/-- the c-th probe on the way of the hash -/
abbrev onWay (t : SetTable) (h : Int) (c : Nat) : SetTable.Probe := nth t.mask (runAt t.mask (SetTable.bits h % (t.mask + 1)) (SetTable.bits h)) c
theorem find_from (adding : Bool) (R : Tab P w s.heap a L es ep t) {x : Addr} {k : Nm} (hx : At P w s.heap k x) (hu : A.units < cLine) {K : Nat} (hKf : K < 10 * SetTable.turns t.mask)
    (hK : way t.mask (kh P w k) K ∉ t.place.toList) (hKb : ∀ c, c < K → way t.mask (kh P w k) c ∈ t.place.toList) {Q : SetFound → Shared → Prop}
    (hin : k ∈ names L → ∀ r : Option Nat, (adding = false → r.isSome = true) → Q (.there r) s) (hout : k ∉ names L → Q (.free (way t.mask (kh P w k) K) false) s) :
    ∀ (f c : Nat) (stand : Option SetTable.Probe), stand.getD (t.probeStart (kh P w k)) = onWay t (kh P w k) c → c ≤ K → K - c < f →
      (∀ (i : Nat) p, L[i]? = some p → p.2 = k → ∃ c', c ≤ c' ∧ c' < K ∧ t.place.toList[i]? = some (way t.mask (kh P w k) c')) →
      wpAny (model P w) A (setSearchFrom a (.ref x) (kh P w k) adding f stand) Q E s
  | 0, c, stand, _, _, hf, _ => absurd hf (Nat.not_lt_zero _)
  | f + 1, c, stand, hst, hc, hf, hre => by
    obtain ⟨o, ho, hex, hd⟩ := R.obj
    rw [setSearchFrom_succ]
    refine wpAny_bind (wpAny_setState_of ho hd R.fits ?_)
    dsimp only
    refine wp_if_neg R.stays ?_
    try refine wpAny_bind (wpAny_pure ?_)
    have sh : ∀ q, nth t.mask (onWay t (kh P w k) c) q = onWay t (kh P w k) (c + q) := fun q => (nth_add t.mask c _ q).symm
    have e1 : ∀ q, (nth t.mask (onWay t (kh P w k) c) q).j = way t.mask (kh P w k) (c + q) := fun q => congrArg SetTable.Probe.j (sh q)
    have spec := go_spec t R.tab.ris R.tab.dm (fun i => (es[i]?.map (·.1)).getD 0) (kh P w k) (10 * SetTable.turns t.mask) (K - c) (onWay t (kh P w k) c) (dummy_nth _ c _ rfl) (by omega)
      (fun q hq => by rw [e1]; exact hKb (c + q) (by omega)) (by rw [e1, show c + (K - c) = K by omega]; exact hK)
    have hashAt : ∀ (i : Nat) p, L[i]? = some p → (fun i => (es[i]?.map (·.1)).getD 0) i = kh P w p.2 := fun i p hp => by
      show (es[i]?.map (·.1)).getD 0 = _
      rw [R.entry hp]
      rfl
    rcases spec with ⟨q, i, hq, hi, hh, hno, hpr⟩ | ⟨hno, hpr⟩
    · have hpr' : t.probe (fun i => (es[i]?.map (·.1)).getD 0) (kh P w k) (stand.getD (t.probeStart (kh P w k))) = some (.candidate (way t.mask (kh P w k) (c + q)) i (onWay t (kh P w k) (c + (q + 1)))) := by
        rw [hst, ← e1, ← sh]
        exact hpr
      rw [hpr']
      dsimp only
      rw [e1] at hi
      have hil : i < L.length := by
        have z1 : i < t.place.toList.length := (List.getElem?_eq_some_iff.mp hi).1
        have z2 := R.tab.sz
        rw [List.length_map] at z2
        rw [Array.length_toList] at z1
        omega
      obtain ⟨p, hp⟩ : ∃ p, L[i]? = some p := ⟨_, List.getElem?_eq_getElem hil⟩
      have hmem : p ∈ L := List.mem_of_getElem? hp
      have hpt := R.mem p hmem
      have hsl : t.slot (way t.mask (kh P w k) (c + q)) = .live i := slot_live R.tab.ris hi
      have rest : wpAny (model P w) A (searchRest a (.ref x) (kh P w k) adding f es t (way t.mask (kh P w k) (c + q)) i (onWay t (kh P w k) (c + (q + 1)))) Q E s := by
        unfold searchRest
        rw [R.entry hp]
        dsimp only
        refine wpAny_bind (wpAny_holding (wpAny_eqBool_tuple hu hpt hx ?_))
        refine wpAny_bind (wpAny_setState_of ho hd R.fits ?_)
        dsimp only
        by_cases hkk : p.2 = k
        · have hm : k ∈ names L := List.mem_map.mpr ⟨p, hmem, hkk⟩
          cases adding with
          | true =>
            refine wp_if_pos (by simp [hkk]) ?_
            exact wpAny_pure (hin hm none fun z => nomatch z)
          | false =>
            refine wp_if_neg (by simp) ?_
            try refine wpAny_bind (wpAny_pure ?_)
            rw [sameMem]
            dsimp only
            simp only [if_true, hsl, R.entry hp]
            refine wpAny_bind (wpAny_isSame_ref_self (wpAny_bind (wpAny_pure ?_)))
            simp only [if_true]
            refine wp_if_pos (by simp [hkk]) ?_
            exact wpAny_pure (hin hm (some i) fun _ => rfl)
        · refine wp_if_neg (by simp [hkk]) ?_
          try refine wpAny_bind (wpAny_pure ?_)
          rw [sameMem]
          dsimp only
          simp only [if_true, hsl, R.entry hp]
          refine wpAny_bind (wpAny_isSame_ref_self (wpAny_bind (wpAny_pure ?_)))
          simp only [if_true]
          refine wp_if_neg (by simp [hkk]) ?_
          refine find_from adding R hx hu hKf hK hKb hin hout f (c + (q + 1)) _ rfl (by omega) (by omega) fun i0 p0 h0 hk0 => ?_
          obtain ⟨c', a1, a2, a3⟩ := hre i0 p0 h0 hk0
          refine ⟨c', ?_, a2, a3⟩
          have hne : c' ≠ c + q := fun z => by
            rw [z] at a3
            have s0 := slot_live R.tab.ris a3
            rw [hsl] at s0
            injection s0 with s0
            rw [← s0, hp] at h0
            exact hkk ((congrArg Prod.snd (Option.some.inj h0)).trans hk0)
          have hge : ¬ c' < c + q := fun z => by
            refine hno (c' - c) i0 (by omega) (by rw [e1, show c + (c' - c) = c' by omega]; exact a3) ?_
            exact (hashAt i0 p0 h0).trans (congrArg (kh P w) hk0)
          omega
      by_cases hl : t.led = true
      · refine wp_if_neg (by simp [hl]) ?_
        try refine wpAny_bind (wpAny_pure ?_)
        exact rest
      · refine wp_if_pos (by simp [hl]) ?_
        refine wpAny_bind (seen_keys hx (fun y hy => ?_) ?_)
        · obtain ⟨e, he, ee⟩ := List.mem_map.mp hy
          have he1 : e ∈ es ∧ e.1 = kh P w k := by simpa using he
          have he2 : e ∈ es.toList := by simpa using he1.1
          rw [R.rows] at he2
          obtain ⟨p2, hp2, e2⟩ := List.mem_map.mp he2
          exact ⟨p2.2, p2.1, by rw [← ee, ← e2], R.mem p2 hp2⟩
        · refine wp_if_neg (by decide) ?_
          try refine wpAny_bind (wpAny_pure ?_)
          exact rest
    · have hpr' : t.probe (fun i => (es[i]?.map (·.1)).getD 0) (kh P w k) (stand.getD (t.probeStart (kh P w k))) = some (.empty (way t.mask (kh P w k) K) none) := by
        have e2 : way t.mask (kh P w k) K = (nth t.mask (onWay t (kh P w k) c) (K - c)).j := by
          rw [e1, show c + (K - c) = K by omega]
        rw [hst, e2]
        exact hpr
      rw [hpr']
      dsimp only
      refine wpAny_pure (hout fun hm => ?_)
      obtain ⟨p0, h0, hk0⟩ := List.mem_map.mp hm
      obtain ⟨i0, hi0, e0⟩ := List.getElem_of_mem h0
      have h00 : L[i0]? = some p0 := by rw [List.getElem?_eq_getElem hi0, e0]
      obtain ⟨c', a1, a2, a3⟩ := hre i0 p0 h00 hk0
      refine hno (c' - c) i0 (by omega) (by rw [e1, show c + (c' - c) = c' by omega]; exact a3) ?_
      exact (hashAt i0 p0 h00).trans (congrArg (kh P w) hk0)
theorem find_at (adding : Bool) (R : Tab P w s.heap a L es ep t) {x : Addr} {k : Nm} (hx : At P w s.heap k x) (hu : A.units < cLine) {Q : SetFound → Shared → Prop}
    (hin : k ∈ names L → ∀ r : Option Nat, (adding = false → r.isSome = true) → Q (.there r) s)
    (hout : ∀ K, k ∉ names L → way t.mask (kh P w k) K ∉ t.place.toList → (∀ c, c < K → way t.mask (kh P w k) c ∈ t.place.toList) → Q (.free (way t.mask (kh P w k) K) false) s) :
    wpAny (model P w) A (setSearch a (.ref x) (kh P w k) adding) Q E s := by
  have hroom := R.room
  obtain ⟨K, hKf, hK, hKb⟩ := R.tab.first (by rw [List.length_map]; omega) (kh P w k)
  have hbig : K < 100000 := by
    have : 10 * SetTable.turns t.mask ≤ 1420 := by
      unfold SetTable.turns
      rcases R.tab.mok with e | e | e <;> omega
    omega
  unfold setSearch
  refine find_from adding R hx hu hKf hK hKb hin (fun hn => hout K hn hK hKb) 100000 0 none rfl (Nat.zero_le _) (by omega) fun i p hp hk => ?_
  have hi : (L.map fun p => kh P w p.2)[i]? = some (kh P w k) := by
    rw [List.getElem?_map, hp, ← hk]
    rfl
  have hil : i < t.place.toList.length := by
    have z1 : i < L.length := (List.getElem?_eq_some_iff.mp hp).1
    have z2 := R.tab.sz
    rw [List.length_map] at z2
    rw [Array.length_toList]
    omega
  have hj := List.getElem?_eq_getElem hil
  obtain ⟨c, hc, e⟩ := R.tab.before hK hi hj
  exact ⟨c, Nat.zero_le _, hc, by rw [hj, e]⟩

/-! ### asking -/
theorem has_tup {x : Addr} {k : Nm} {Q : Value → Shared → Prop} (R : Tab P w s.heap a L es ep t) (hx : At P w s.heap k x) (hu : A.units + 1 < cLine) (h : ∀ tk, Q (.bool (hasN L k)) { s with toks := tk }) :
    wpAny (model P w) A (compareOp .In (.ref x) (.ref a)) Q E s := by
  obtain ⟨o, ho, hex, hd⟩ := R.obj
  have ty : s.TypeIs (.ref a) "set" := ⟨o, ho, hex.1⟩
  show wpAny _ _ (do return .bool (← contains (.ref a) (.ref x))) Q E s
  refine wpAny_bind ?_
  unfold contains
  try with_reducible refine wpAny_holding ?_
  refine wpAny_bind (wpAny_specialOf ty F.slot_set_contains.lookup ?_)
  show wpAny _ _ (if (some (Value.builtin "set.__contains__") == some Value.none) = true then _ else _) _ E s
  rw [if_neg (by rw [beq_builtin_none]; exact Bool.false_ne_true)]
  refine wpAny_bind (wpAny_callSpecialUnlessNone?_slot (name := Str.ofString "__contains__") ty F.slot_set_contains
    (wpAny_call_entry F.slot_set_contains ty entry_set_contains ?_ (F.args_set_contains_2 _ _)))
  unfold Builtin.«frozenset.__contains__» Builtin.Frozenset.oneOther
  simp only [List.isEmpty_nil, bind_assoc]
  unfold Builtin.Frozenset.addrOf Builtin.Frozenset.withSetAsKey setContains
  refine wpAny_bind (wpAny_pure ?_)
  try dsimp only
  refine wpAny_bind (wpAny_pure ?_)
  try dsimp only
  refine wpAny_bind (wpAny_tryCatch ?_)
  refine wpAny_holding ?_
  have hu1 : A.in1.units < cLine := hu
  refine wpAny_bind ((tupleKind (mixKind P w)).pyHash hu1 hx ?_)
  have hR : Tab P w ({ s with toks := s.toks + (tupleKind (mixKind P w)).draws k } : Shared).heap a L es ep t := R
  unfold setFind
  rw [show (100000 : Nat) = 99999 + 1 from rfl]
  unfold setFindIn
  refine wpAny_bind ?_
  refine wpAny_bind (wpAny_setState_of ho hd R.fits ?_)
  dsimp only
  refine wp_if_neg (by simp [byScan, Value.scannable]) ?_
  try refine wpAny_bind (wpAny_pure ?_)
  refine wpAny_bind (find_at false hR hx hu1 (fun hm r hr => ?_) fun K hm _ _ => ?_)
  · dsimp only
    refine wpAny_pure ?_
    refine wpAny_pure ?_
    rw [hr rfl]
    refine wpAny_pure ⟨_, rfl, wpAny_truthy_bool (wpAny_pure ?_)⟩
    have q := h (s.toks + (tupleKind (mixKind P w)).draws k)
    rw [hasN_pos hm] at q
    exact q
  · dsimp only
    refine wpAny_pure ?_
    refine wpAny_pure ?_
    refine wpAny_pure ⟨_, rfl, wpAny_truthy_bool (wpAny_pure ?_)⟩
    have q := h (s.toks + (tupleKind (mixKind P w)).draws k)
    rw [hasN_neg hm] at q
    exact q

/-! ### growing -/
theorem at_set {h h' : Heap} {k : Nm} {a b : Addr} {o : Obj} {es : Array (Int × Value)} {ep : Nat} {t : SetTable} (hb : At P w h k b) (ho : h.get? a = some o) (hd : o.data = .set es ep t) (hs : Heap.SameBut a h h') : At P w h' k b := by
  obtain ⟨o', its, n, ho', hc, hd', hi⟩ := hb
  have hne : b ≠ a := fun z => by
    rw [z, ho] at ho'
    rw [← Option.some.inj ho', hd] at hd'
    exact nomatch hd'
  exact ⟨o', its, n, (hs.2 b hne).trans ho', hc, hd', hi⟩
theorem at_keep {h h' : Heap} {k : Nm} {b : Addr} (x : At P w h k b) (hk : ∀ c o, h.get? c = some o → h'.get? c = some o) : At P w h' k b := by
  obtain ⟨o, its, n, ho, r⟩ := x
  exact ⟨o, its, n, hk b o ho, r⟩
theorem ents_put (L : List (Addr × Nm)) (p : Nat) (x : Addr) (k : Nm) : ents P w (L.take p ++ (x, k) :: L.drop p) = (ents P w L).take p ++ (kh P w k, Value.ref x) :: (ents P w L).drop p := by
  unfold ents
  rw [List.map_append, List.map_cons, List.map_take, List.map_drop]
theorem mid_perm {α : Type} (L : List α) (p : Nat) (x : α) : (L.take p ++ x :: L.drop p).Perm (x :: L) := by
  have q : (L.take p ++ x :: L.drop p).Perm (x :: (L.take p ++ L.drop p)) := List.perm_middle
  rwa [List.take_append_drop] at q
theorem pick_all {α : Type} (L : List α) : (List.range L.length).filterMap (fun i => L[i]?) = L := by
  have key : ∀ n, n ≤ L.length → (List.range n).filterMap (fun i => L[i]?) = L.take n := by
    intro n
    induction n with
    | zero => intro _; rfl
    | succ n ih =>
      intro hn
      have hlt : n < L.length := hn
      rw [List.range_succ, List.filterMap_append, ih (Nat.le_of_lt hlt), List.take_succ, List.getElem?_eq_getElem hlt, List.filterMap_cons_some (List.getElem?_eq_getElem hlt)]
      rfl
  rw [key L.length (Nat.le_refl _), List.take_length]
/-- rows laid in another order -/
theorem reorder (L : List (Addr × Nm)) (es : Array (Int × Value)) (order : Array Nat) (hr : es.toList = ents P w L) (hp : order.toList.Perm (List.range L.length)) :
    ∃ L2, (order.filterMap (es[·]?)).toList = ents P w L2 ∧ L2.Perm L ∧ (L2.map fun p => kh P w p.2) = order.toList.map fun i => (es.map (·.1)).getD i 0 := by
  have ent : ∀ i (h : i < L.length), es[i]? = some (kh P w (L[i]).2, Value.ref (L[i]).1) := fun i h => by
    rw [← Array.getElem?_toList, hr, ents, List.getElem?_map, List.getElem?_eq_getElem h]
    rfl
  have hsz : es.size = L.length := by
    have q := congrArg List.length hr
    rw [ents_len, Array.length_toList] at q
    exact q
  have key : ∀ l : List Nat, (∀ i ∈ l, i < L.length) → l.filterMap (fun i => es[i]?) = ents P w (l.filterMap fun i => L[i]?) ∧ ((l.filterMap fun i => L[i]?).map fun p => kh P w p.2) = l.map fun i => (es.map (·.1)).getD i 0 := by
    intro l
    induction l with
    | nil => intro _; exact ⟨rfl, rfl⟩
    | cons i l ih =>
      intro hl
      have hi := hl i List.mem_cons_self
      obtain ⟨e1, e3⟩ := ih fun j hj => hl j (List.mem_cons_of_mem _ hj)
      have e4 : (es.map (·.1)).getD i 0 = kh P w (L[i]).2 := by
        have e5 : (es.map (·.1))[i]? = some (kh P w (L[i]).2) := by
          rw [Array.getElem?_map, ent i hi]
          rfl
        simp [Array.getD_eq_getD_getElem?, e5]
      rw [List.filterMap_cons_some (ent i hi), List.filterMap_cons_some (List.getElem?_eq_getElem hi), e1, List.map_cons, List.map_cons, e3, e4]
      exact ⟨rfl, rfl⟩
  obtain ⟨e1, e3⟩ := key order.toList fun i hi => List.mem_range.mp (hp.mem_iff.mp hi)
  refine ⟨_, by first | (rw [Array.toList_filterMap]; exact e1) | simpa using e1, ?_, e3⟩
  have q := hp.filterMap (fun i => L[i]?)
  rwa [pick_all L] at q
theorem relay_tab {o : Obj} (ho : s.heap.get? a = some o) (hex : o.ExactSet) (hd : o.data = .set es ep t) (hrows : es.toList = ents P w L) (hsz : t.place.size = es.size) (hdm : t.dummies = #[]) (hfl : es.size ≤ t.mask)
    (once : (names L).Nodup) (mem : ∀ p ∈ L, At P w s.heap p.2 p.1) {wanted M : Nat} (few : L.length < 64)
    (hw : SetTable.sizeAbove wanted - 1 = M) (hM : MaskOk M) (hw2 : SetTable.sizeAbove wanted ≤ 128) (hn : L.length * 5 < M * 3) {Q : Unit → Shared → Prop}
    (hQ : ∀ h' L' es' ep' t', Heap.SameBut a s.heap h' → Tab P w h' a L' es' ep' t' → L'.Perm L → Q () { s with heap := h' }) : wpAny (model P w) A (setRelay a wanted) Q E s := by
  have hsl : es.size = L.length := by
    have q := congrArg List.length hrows
    rw [ents_len, Array.length_toList] at q
    exact q
  have hfits : t.fits es.size = true := by
    unfold SetTable.fits SetTable.fill
    rw [hdm, Bool.and_eq_true, beq_iff_eq, decide_eq_true_eq]
    refine ⟨hsz, ?_⟩
    show t.place.size + 0 ≤ t.mask
    omega
  obtain ⟨t', order, e, hp, T, em, el, ep', ed⟩ := relaid_ok t (hs := es.map (·.1)) (wanted := wanted) hw hM (by rw [Array.size_map, hsl]; omega)
  rw [Array.size_map, hsl] at hp
  obtain ⟨L2, r1, r2, r3⟩ := reorder L es order hrows hp
  rw [← r3] at T
  have hs2 : (order.filterMap (es[·]?)).size = es.size := by
    have q := congrArg List.length r1
    rw [ents_len, Array.length_toList, r2.length_eq] at q
    rw [q, hsl]
  rw [setRelay_eq]
  refine wpAny_bind (wpAny_setState_of ho hd hfits ?_)
  dsimp only
  refine wp_if_neg (by rw [sizeLine_eq]; omega) ?_
  try refine wpAny_bind (wpAny_pure ?_)
  rw [e]
  dsimp only
  refine wpAny_bind ?_
  refine wp_if_neg (by rw [hs2]; simp) ?_
  try refine wpAny_bind (wpAny_pure ?_)
  refine wpAny_pure ?_
  dsimp only
  refine wpAny_storeSet_of ho hd ?_ (by rw [hs2, hsl, sizeLine_eq]; omega)
  have sb : Heap.SameBut a s.heap (s.heap.update a (Obj.putSet (order.filterMap (es[·]?)) t')) := Heap.SameBut.update ..
  refine hQ _ L2 (order.filterMap (es[·]?)) (ep + 1) t' sb ?_ r2
  exact ⟨⟨_, store_at ho hd, ⟨hex.1, hex.2.1, hex.2.2⟩, rfl⟩, r1, T, (r2.map Prod.snd).nodup_iff.mpr once, fun p hpm => at_set (mem p (r2.mem_iff.mp hpm)) ho hd sb, by rw [r2.length_eq, em]; exact hn⟩
theorem TabOk.unplain {t : SetTable} {hs : List Int} (T : TabOk t hs) : TabOk { t with plain := false } hs := ⟨T.ris, T.dm, T.sz, T.mok, T.bd, T.reach⟩
theorem add_tab (R : Tab P w s.heap a L es ep t) {x : Addr} {k : Nm} (hx : At P w s.heap k x) (hu : A.units < cLine) (hfew : L.length + 1 < 64) {Q : Bool → Shared → Prop}
    (hQ : ∀ b h' L' es' ep' t', Heap.SameBut a s.heap h' → Tab P w h' a L' es' ep' t' → (k ∈ names L → L' = L) → (k ∉ names L → L'.Perm ((x, k) :: L)) → Q b { s with heap := h' }) :
    wpAny (model P w) A (setAddHashed a (.ref x) (kh P w k)) Q E s := by
  obtain ⟨o, ho, hex, hd⟩ := R.obj
  have hsl := R.size
  have hroom := R.room
  unfold setAddHashed
  refine wpAny_holding ?_
  rw [show (100000 : Nat) = 99999 + 1 from rfl, setAddHashedIn_succ]
  refine wpAny_bind (wpAny_setState_of ho hd R.fits ?_)
  dsimp only
  refine wp_if_neg (by simp [byScan, Value.scannable]) ?_
  try refine wpAny_bind (wpAny_pure ?_)
  refine wpAny_bind (find_at true R hx hu (fun hm r _ => ?_) fun K hm hK hb => ?_)
  · dsimp only
    exact wpAny_pure (hQ false s.heap L es ep t (Heap.SameBut.refl a s.heap) R (fun _ => rfl) fun z => absurd hm z)
  · dsimp only
    refine wpAny_bind (wpAny_setState_of ho hd R.fits ?_)
    dsimp only
    obtain ⟨q1, q2, q3, q4, q5, q6, q7, q8, q9⟩ := R.tab.put hK hb
    generalize hpt : t.put (way t.mask (kh P w k) K) = pt at q1 q3 q4 q5 q6 q7 q8 q9 ⊢
    obtain ⟨t0, p⟩ := pt
    dsimp only at q1 q3 q4 q5 q6 q7 q8 q9 ⊢
    subst q1
    have hin : (SetTable.insertAt es (SetTable.below t.place (way t.mask (kh P w k) K)) (kh P w k, Value.ref x)).toList = ents P w (L.take (SetTable.below t.place (way t.mask (kh P w k) K)) ++ (x, k) :: L.drop (SetTable.below t.place (way t.mask (kh P w k) K))) := by
      rw [SetTable.toList_insertAt, ents_put, R.rows]
    generalize hpp : SetTable.below t.place (way t.mask (kh P w k) K) = p at q2 q3 hin ⊢
    have pm := mid_perm L p (x, k)
    have hlen : (L.take p ++ (x, k) :: L.drop p).length = L.length + 1 := pm.length_eq
    have hhs : (L.take p ++ (x, k) :: L.drop p).map (fun p => kh P w p.2) = (L.map fun p => kh P w p.2).take p ++ kh P w k :: (L.map fun p => kh P w p.2).drop p := by
      rw [List.map_append, List.map_cons, List.map_take, List.map_drop]
    rw [← hhs] at q3
    have nd1 : (names (L.take p ++ (x, k) :: L.drop p)).Nodup := by
      refine (pm.map Prod.snd).nodup_iff.mpr ?_
      rw [List.map_cons]
      exact List.nodup_cons.mpr ⟨hm, R.once⟩
    have hes : (SetTable.insertAt es p (kh P w k, Value.ref x)).size = L.length + 1 := by
      have q := congrArg List.length hin
      rw [ents_len, Array.length_toList, hlen] at q
      exact q
    generalize SetTable.insertAt es p (kh P w k, Value.ref x) = es1 at hin hes ⊢
    generalize L.take p ++ (x, k) :: L.drop p = L1 at pm hlen q3 nd1 hin
    -- the table, plain or not
    have main : ∀ t1 : SetTable, TabOk t1 (L1.map fun p => kh P w p.2) → t1.mask = t.mask → t1.fill = L.length + 1 →
        wpAny (model P w) A (storeSet a es1 t1 >>= fun _ => (if (!false && t1.tooFull) = true then (setRelay a (SetTable.grown (es.size + 1)) >>= fun _ => pure true) else pure true)) Q E s := fun t1 T1 em1 ef1 => by
      refine wpAny_bind (wpAny_storeSet_of ho hd ?_ (by rw [hes, sizeLine_eq]; omega))
      have sb : Heap.SameBut a s.heap (s.heap.update a (Obj.putSet es1 t1)) := Heap.SameBut.update ..
      have ho1 := store_at (es' := es1) (t' := t1) ho hd
      generalize s.heap.update a (Obj.putSet es1 t1) = h1 at sb ho1 ⊢
      have mem1 : ∀ p ∈ L1, At P w h1 p.2 p.1 := fun p hp => by
        rcases List.mem_cons.mp (pm.mem_iff.mp hp) with e | hp
        · rw [e]; exact at_set hx ho hd sb
        · exact at_set (R.mem p hp) ho hd sb
      by_cases hf : t1.tooFull = true
      · refine wp_if_pos (by simp [hf]) ?_
        have hfull : (L.length + 1) * 5 ≥ t1.mask * 3 := by
          have q := hf
          unfold SetTable.tooFull at q
          rw [decide_eq_true_eq, ef1] at q
          exact q
        rw [hsl]
        have hsz1 : t1.place.size = es1.size := by
          have q := T1.sz
          rw [List.length_map, hlen] at q
          rw [q, hes]
        have two : (t.mask = 7 ∧ L.length = 4) ∨ (t.mask = 31 ∧ L.length = 18) := by
          rcases R.tab.mok with e | e | e
          · left; rw [em1, e] at hfull; rw [e] at hroom; exact ⟨e, by omega⟩
          · right; rw [em1, e] at hfull; rw [e] at hroom; exact ⟨e, by omega⟩
          · exfalso; rw [em1, e] at hfull; omega
        have go : ∀ M, SetTable.sizeAbove (SetTable.grown (L.length + 1)) - 1 = M → MaskOk M → SetTable.sizeAbove (SetTable.grown (L.length + 1)) ≤ 128 → (L.length + 1) * 5 < M * 3 →
            wpAny (model P w) A (setRelay a (SetTable.grown (L.length + 1)) >>= fun _ => pure true) Q E { s with heap := h1 } := fun M h1' h2' h3' h4' => by
          refine wpAny_bind (relay_tab (s := { s with heap := h1 }) ho1 ⟨hex.1, hex.2.1, hex.2.2⟩ rfl hin hsz1 T1.dm (by rw [hes, em1]; rcases two with ⟨e, e2⟩ | ⟨e, e2⟩ <;> omega) nd1 mem1 (by rw [hlen]; exact hfew) h1' h2' h3' (by rw [hlen]; exact h4') ?_)
          intro h2 L2 es2 ep2 t2 sb2 R2 pm2
          exact wpAny_pure (hQ true h2 L2 es2 ep2 t2 (sb.trans sb2) R2 (fun z => absurd z hm) fun _ => pm2.trans pm)
        rcases two with ⟨_, e2⟩ | ⟨_, e2⟩
        · exact go 31 (by rw [e2, size_20]) (.inr (.inl rfl)) (by rw [e2, size_20]; decide) (by omega)
        · exact go 127 (by rw [e2, size_76]) (.inr (.inr rfl)) (by rw [e2, size_76]; decide) (by omega)
      · refine wp_if_neg (by simp [hf]) ?_
        refine wpAny_pure (hQ true h1 L1 es1 (ep + 1) t1 sb ⟨⟨_, ho1, ⟨hex.1, hex.2.1, hex.2.2⟩, rfl⟩, hin, T1, nd1, mem1, ?_⟩ (fun z => absurd z hm) fun _ => pm)
        have q := hf
        unfold SetTable.tooFull at q
        rw [decide_eq_true_eq, ef1] at q
        rw [hlen]
        omega
    have q9' : t0.fill = L.length + 1 := by rw [q9, List.length_map]
    have both : ∀ y : Bool, TabOk (if y = true then t0 else { t0 with plain := false }) (L1.map fun p => kh P w p.2) ∧ (if y = true then t0 else { t0 with plain := false }).mask = t.mask ∧ (if y = true then t0 else { t0 with plain := false }).fill = L.length + 1 := fun y => by
      cases y with
      | true => exact ⟨q3, q4, q9'⟩
      | false => exact ⟨TabOk.unplain q3, q4, q9'⟩
    by_cases hpl : t0.plain = true
    · refine wp_if_pos hpl ?_
      refine wpAny_bind (byval_tup hx fun y => ?_)
      exact main _ (both y).1 (both y).2.1 (both y).2.2
    · refine wp_if_neg hpl ?_
      refine wpAny_bind (wpAny_pure ?_)
      exact main _ (both true).1 (both true).2.1 (both true).2.2
theorem Tab.keep {h h' : Heap} {a : Addr} {L : List (Addr × Nm)} {es : Array (Int × Value)} {ep : Nat} {t : SetTable} (R : Tab P w h a L es ep t) (ha : ∀ o, h.get? a = some o → h'.get? a = some o) (hm : ∀ p ∈ L, At P w h' p.2 p.1) : Tab P w h' a L es ep t := by
  obtain ⟨o, ho, r⟩ := R.obj
  exact ⟨⟨o, ha o ho, r⟩, R.rows, R.tab, R.once, hm, R.room⟩
theorem Tab.fresh {h : Heap} {a : Addr} (ho : h.get? a = some { cls := .type "set", dict := none, data := .set #[] 0 (.fresh 0 0 (!w.params.followText "set-order")) }) : Tab P w h a [] #[] 0 (.fresh 0 0 (!w.params.followText "set-order")) where
  obj := ⟨_, ho, ⟨rfl, rfl, rfl⟩, rfl⟩
  rows := rfl
  tab := ⟨List.Pairwise.nil, rfl, rfl, .inl rfl, fun x hx => (by cases hx), fun i h j hi => (by simp at hi)⟩
  once := List.nodup_nil
  mem := fun p hp => (by cases hp)
  room := (by show 0 * 5 < 7 * 3; decide)
theorem add_call {x : Addr} {k : Nm} {Q : Value → Shared → Prop} (R : Tab P w s.heap a L es ep t) (hx : At P w s.heap k x) (hu : A.units + 1 < cLine) (hfew : L.length + 1 < 64)
    (hQ : ∀ h' L' es' ep' t' tk, Heap.SameBut a s.heap h' → Tab P w h' a L' es' ep' t' → (k ∈ names L → L' = L) → (k ∉ names L → L'.Perm ((x, k) :: L)) → Q .none { s with heap := h', toks := tk }) :
    wpAny (model P w) A (call (.builtin "set.add") [.ref a, .ref x]) Q E s := by
  obtain ⟨o, ho, hex, hd⟩ := id R.obj
  have ty : s.TypeIs (.ref a) "set" := ⟨o, ho, hex.1⟩
  refine wpAny_call_entry F.slot_set_add ty F.entry_set_add ?_ (F.args_set_add_2 _ _)
  unfold Builtin.«set.add» Builtin.Frozenset.oneOther
  simp only [List.isEmpty_nil, bind_assoc]
  unfold Builtin.Frozenset.addrOf setAdd
  refine wpAny_bind (wpAny_pure ?_)
  try dsimp only
  refine wpAny_bind (wpAny_pure ?_)
  try dsimp only
  refine wpAny_bind ?_
  refine wpAny_holding ?_
  have hu1 : A.in1.units < cLine := hu
  refine wpAny_bind ((tupleKind (mixKind P w)).pyHash hu1 hx ?_)
  have hR : Tab P w ({ s with toks := s.toks + (tupleKind (mixKind P w)).draws k } : Shared).heap a L es ep t := R
  refine add_tab hR hx hu1 hfew fun b h' L' es' ep' t' hs R' h1 h2 => ?_
  show wpAny _ _ (ret Value.none) _ _ _
  exact wpAny_pure ⟨_, rfl, hQ h' L' es' ep' t' _ hs R' h1 h2⟩
end

/-! ### over the layer -/
/-- the set of tuples at a, by its rows (the tuples' addresses and names); the tuples themselves are tracked beside it -/
structure Held (P : Program) (w : World) (h : Heap) (a : Addr) (L : List (Addr × Nm)) : Prop where
  ex : ∃ (es : Array (Int × Value)) (ep : Nat) (t : SetTable), (∃ o, h.get? a = some o ∧ o.ExactSet ∧ o.data = .set es ep t) ∧ es.toList = ents P w L ∧ TabOk t (L.map fun p => kh P w p.2) ∧ (names L).Nodup ∧ L.length * 5 < t.mask * 3
def SetN (P : Program) (w : World) (a : Addr) (L : List (Addr × Nm)) : HO := .ext fun h => Held P w h a L
section
variable {P : Program} {w : World} {H : Hp} {h : Heap} {a : Addr} {L : List (Addr × Nm)}
theorem Tab.held {es : Array (Int × Value)} {ep : Nat} {t : SetTable} (R : Tab P w h a L es ep t) : Held P w h a L := ⟨⟨es, ep, t, R.obj, R.rows, R.tab, R.once, R.room⟩⟩
theorem setN_ok (R : Held P w h a L) : ObjOk P w H h a (SetN P w a L) := by
  obtain ⟨es, ep, t, ⟨o, ho, r⟩, q⟩ := R.ex
  exact ⟨R, ⟨o, ho⟩, fun h1 h2 p k => by
    obtain ⟨es, ep, t, ⟨o, ho, r⟩, q⟩ := p.ex
    exact ⟨⟨es, ep, t, ⟨o, k o ho, r⟩, q⟩⟩⟩
/-- the rows' tuples stand in the heap -/
def Rows (H : Hp) (L : List (Addr × Nm)) : Prop := ∀ p ∈ L, H p.1 = some (.tup (p.2.map kV))
theorem setN_tab {X : Cx} {pins : List (Addr × Obj)} {σ : L2.St} {s : Shared} (I : Inv X pins σ H s) (ha : H a = some (SetN X.prog X.w a L)) (hr : Rows H L) : ∃ es ep t, Tab X.prog X.w s.heap a L es ep t := by
  obtain ⟨es, ep, t, ob, e, T, nd, rm⟩ := ((I.hok a _ ha).1 : Held X.prog X.w s.heap a L).ex
  exact ⟨es, ep, t, ob, e, T, nd, fun p hp => key_of I.hok (hr p hp), rm⟩
end
section
variable {X : Cx} {o e : Expr} {es : List Expr} {to : TE} {t : TA} {apos cpos : Pos}
/-- set() -/
def rSetNew (P : Program) (w : World) : List V → Hp → VK → Prop := fun xs H Q => xs = [] ∧ ∀ p, H p = none → Q (.ref p) (upd H p (SetN P w p []))
theorem cr_setNew : CallR X (.type "set") (rSetNew X.prog X.w) := by
  intro pins s σ H xs us Q I r h
  obtain ⟨rfl, q⟩ := h
  cases r
  refine setR_new fun _ => ?_
  exact ⟨.ref _, upd H s.heap.objs.size (SetN X.prog X.w s.heap.objs.size []), I.laid (t' := s.toks) (fun b u e => Heap.get?_push_of_some _ e) (Nat.le_refl _) (setN_ok (Tab.fresh (Heap.get?_push_size _ rfl)).held), rfl, q _ (I.hok.fresh (Nat.le_refl _))⟩
/-- found.add(t), t a tuple of names -/
def rSetAdd (P : Program) (w : World) : V → List V → Hp → VK → Prop := fun x xs H Q => ∃ (a b : Addr) (k : Nm) (L : List (Addr × Nm)), x = V.ref a ∧ xs = [V.ref b] ∧ H a = some (SetN P w a L) ∧ Rows H L ∧ H b = some (.tup (k.map kV)) ∧ L.length + 1 < 64 ∧
  ∀ L', (k ∈ names L → L' = L) → (k ∉ names L → L'.Perm ((b, k) :: L)) → Q .non (upd H a (SetN P w a L'))
theorem mt_setAdd (hu : X.A.units + 1 < cLine) : MtR X "set.add" (rSetAdd X.prog X.w) := by
  intro pins s σ H x xs v us Q I rx rxs h
  obtain ⟨a, b, k, L, rfl, rfl, ha, hr, hb, few, q⟩ := h
  cases rx
  cases rxs with
  | cons ry rt =>
    cases rt
    obtain rfl : _ = Value.ref b := ry
    obtain ⟨es, ep, t, R⟩ := setN_tab I ha hr
    refine add_call R (key_of I.hok hb) hu few fun h' L' es' ep' t' tk hs R' h1 h2 => ?_
    obtain ⟨o', ho', _⟩ := R'.obj
    exact ⟨.non, upd H a (SetN X.prog X.w a L'), I.write (e := a) (t' := tk) (by rw [ha]; trivial) (.inl rfl) (fun b u hb hu => (hs.2 b hb).trans hu) ⟨o', ho'⟩ (setN_ok R'.held), rfl, q L' h1 h2⟩
def tSetAdd (P : Program) (w : World) (to : TE) (t : TA) : TE := fun σ H Q => to σ H fun x H1 => (∃ a L, x = V.ref a ∧ H1 a = some (SetN P w a L) ∧ Rows H1 L) ∧ t σ H1 fun xs H2 => rSetAdd P w x xs H2 Q
theorem pe_setAdd (hu : X.A.units + 1 < cLine) (ho : PE X o to) (ha : PA X (e :: es) t)
    (hbase : attributeBase o "add" X.env (eval o X.env) = eval o X.env := by rfl)
    (hfew : ((backTo cpos (starEach (e :: es) X.env)).all (fun x => !x.1) && (backToKw cpos (keywordEach [] X.env)).all (fun x => x.1.isSome)
      && decide ((e :: es).length + ([] : List Keyword).length + (if ([] : List Keyword).isEmpty then 0 else 1) < 30)) = true := by rfl)
    (hline : (apos.endLine == cpos.line) = true := by rfl) (hs : starEach (e :: es) X.env = (false, eval e X.env) :: starEach es X.env := by rfl) (hplain : (backTo cpos (starEach es X.env)).any (·.1) = false := by rfl) :
    PE X (.Call (.Attribute o "add" apos) (e :: es) [] cpos) (tSetAdd X.prog X.w to t) := by
  refine ⟨fun pins s σ H Q I h => ?_⟩
  refine wpAny_Call_method_late hbase hfew hline rfl (thn (ho.run pins s σ H _ I h) fun v s1 ⟨x, H1, I1, r1, ty, q1⟩ => ?_)
  obtain ⟨a, L, rfl, hka, hkr⟩ := ty
  obtain ⟨es0, ep0, t0, R⟩ := setN_tab I1 hka hkr
  obtain ⟨o0, ho0, hex0, hd0⟩ := R.obj
  cases r1
  refine ⟨"set", "set.add", F.plainAttrs_set, F.slot_set_add, F.type_set_add, ⟨o0, ho0, hex0.1⟩, fun b eb => by injection eb with eb; subst eb; exact ⟨o0, ho0, hex0.2.1⟩, ?_⟩
  have hA := ha.run cpos pins s1 σ H1 _ I1 q1
  rw [hs] at hA ⊢
  refine Calls.callWith_builtin (by show (false || (backTo cpos (starEach es X.env)).any (·.1)) = false; rw [hplain] <;> rfl) (Calls.evalArgs_plain ?_)
  exact thn hA fun us s2 ⟨vs, H2, I2, r2, q2⟩ => mt_setAdd hu pins s2 σ H2 (.ref a) vs (.ref a) us Q I2 rfl r2 q2
/-- t in found -/
def rSetIn (P : Program) (w : World) : V → V → Hp → VK → Prop := fun x y H Q => ∃ (a b : Addr) (k : Nm) (L : List (Addr × Nm)), x = V.ref b ∧ y = V.ref a ∧ H a = some (SetN P w a L) ∧ Rows H L ∧ H b = some (.tup (k.map kV)) ∧ Q (.bl (hasN L k)) H
theorem op_setIn (hu : X.A.units + 1 < cLine) : OpR X (compareOp .In) (rSetIn X.prog X.w) := by
  intro pins s σ H x y v u Q I rx ry h
  obtain ⟨a, b, k, L, rfl, rfl, ha, hr, hb, q⟩ := h
  obtain rfl : v = Value.ref b := rx
  obtain rfl : u = Value.ref a := ry
  obtain ⟨es, ep, t, R⟩ := setN_tab I ha hr
  exact has_tup R (key_of I.hok hb) hu fun tk => ⟨.bl (hasN L k), H, I.tok tk, rfl, q⟩
end
end XS
/-! Own: enumerate over a tuple; a dict comprehension whose keys are tuples. -/
namespace XI
open PySem PySem.Spec PyProof.Rows L2
open AutoSeq1 (wpAny_loadPart')
theorem enum_new_tup (l : Addr) (items : Array Value) (o : Obj) (hc : o.cls = .type "tuple") (n : Nat) (hd : o.data = .seq items n) :
    Meets (Builtin.«enumerate.__new__» ⟨[.type "enumerate", .ref l], []⟩) (fun _ R s => s.heap.get? l = some o ∧
      R (.ok (.ret (.ref (s.heap.push { cls := .type "tuple_iterator", data := .fields #[.ref l, .int 0 0] }).objs.size)))
        { s with heap := (s.heap.push { cls := .type "tuple_iterator", data := .fields #[.ref l, .int 0 0] }).push { cls := .type "enumerate", data := .fields #[.none, .bool false, .ref s.heap.objs.size, rawInt 0, .none, .none] } }) :=
  .of_wp fun prog w A R s h => by
    obtain ⟨hp, g, d, tk, os⟩ := s
    obtain ⟨hl, h⟩ := h
    have hsub := sub_enumerate
    have hL : Heap.IsTuple (Shared.heap ⟨hp, g, d, tk, os⟩) l items := ⟨o, hl, hc, n, hd⟩
    wp_walk using wpAny_loadPart' hl
    refine wpAny_stack_any fun st => wpAny_pure ?_
    split
    · rename_i c _ _ _ _ _
      cases (c == Value.type "enumerate")
      · wp_walk using wpAny_loadPart' hl, wpAny_pyIter_tuple hL
        exact ⟨_, rfl, h⟩
      · wp_walk using wpAny_loadPart' hl, wpAny_pyIter_tuple hL
        exact ⟨_, rfl, h⟩
    · wp_walk using wpAny_loadPart' hl, wpAny_pyIter_tuple hL
      exact ⟨_, rfl, h⟩
theorem enum_call {prog : Program} {w : World} {A : Around} {E : Value → Shared → Prop} {s : Shared} {l : Addr} {items : Array Value} {Q : Value → Shared → Prop} (hL : s.heap.IsTuple l items)
    (h : ∀ h', IsEnum h' (s.heap.objs.size + 1) s.heap.objs.size 0 .none → h'.IsTupleIter s.heap.objs.size l 0 → h'.objs.size = s.heap.objs.size + 2 →
      (∀ b o, s.heap.get? b = some o → h'.get? b = some o) → Q (.ref (s.heap.objs.size + 1)) { s with heap := h' }) :
    wpAny (model prog w) A (call (.type "enumerate") [.ref l]) Q E s := by
  obtain ⟨o, hl, hc, n, hd⟩ := hL
  refine callType_new F.called_enumerate (by decide) (F.typeCall_enumerate_1 _) (F.newCall_enumerate_1 _) (fun obj => F.args_object_init_2 obj _) F.entry_enumerate_new
    (enum_new_tup l items o hc n hd) ⟨hl, ?_⟩
  have hz : (s.heap.push { cls := .type "tuple_iterator", data := .fields #[.ref l, .int 0 0] }).objs.size = s.heap.objs.size + 1 := Heap.size_push ..
  show _ ∧ _
  rw [hz]
  have he : IsEnum ((s.heap.push { cls := .type "tuple_iterator", data := .fields #[.ref l, .int 0 0] }).push
      { cls := .type "enumerate", data := .fields #[.none, .bool false, .ref s.heap.objs.size, rawInt 0, .none, .none] }) (s.heap.objs.size + 1) s.heap.objs.size 0 .none := by
    have q := Heap.get?_push_size (s.heap.push { cls := .type "tuple_iterator", data := .fields #[.ref l, .int 0 0] })
      (o := { cls := .type "enumerate", data := .fields #[.none, .bool false, .ref s.heap.objs.size, rawInt 0, .none, .none] }) rfl
    rw [hz] at q
    exact q
  exact ⟨⟨_, he, rfl⟩, h _ he ⟨_, Heap.get?_push_of_some _ (Heap.get?_push_size _ rfl), rfl, rfl⟩ (by rw [Heap.size_push, hz]) fun b o x => Heap.get?_push_of_some _ (Heap.get?_push_of_some _ x)⟩
theorem enum_endT {prog : Program} {w : World} {A : Around} {E : Value → Shared → Prop} {s : Shared} {e it l : Addr} {i : Nat} {k : Int} {items : Array Value} {old : Value} {Q : Option Value → Shared → Prop} (hh : A.handled = none)
    (he : IsEnum s.heap e it k old) (hit : s.heap.IsTupleIter it l i) (hl : s.heap.IsTuple l items) (hx : items[i]? = none) (hQ : ∀ h', Heap.ExtBut it s.heap h' → Q none { s with heap := h' }) : wpAny (model prog w) A (pyNext (.ref e)) Q E s := by
  have ty : s.TypeIs (.ref e) "enumerate" := ⟨_, he, rfl⟩
  unfold pyNext
  refine wpAny_bind (wpAny_attempt (wpAny_callSpecial?_slot (name := Str.ofString "__next__") ty F.slot_enumerate_next
    (wpAny_call_entry F.slot_enumerate_next ty F.entry_enumerate_next ?_ (F.args_enumerate_next_1 _))))
  show wpAny _ _ (field (.ref e) 2 >>= _) _ _ _
  refine wpAny_bind (wpAny_field he rfl (x := .ref it) rfl ?_)
  refine wpAny_bind (wpAny_nextOf_tuple_end hh hit hl hx fun h' x he' hx' => ?_)
  obtain ⟨o, ho, hc⟩ := hx'
  refine wpAny_bind (wpAny_isInstance (T := "StopIteration") (b := true) ⟨o, ho, hc⟩ isSubtype_stop ?_)
  exact wpAny_pure (hQ _ he')
/-- the tuple at a, each item in a new pair with its place -/
def Itet (K : PySem.W.Frag) (a : Addr) : It :=
  ⟨fun i H => ∃ (xs : List V) (x : V), SqT K H a xs ∧ xs[i]? = some x, fun i H v H' => ∃ T x, v = .ref T ∧ H T = none ∧ H' = upd H T (.tup [.int (i : Nat), x]) ∧ ∀ xs, SqT K H a xs → xs[i]? = some x, fun i H => ∃ xs : List V, SqT K H a xs ∧ xs.length ≤ i⟩
theorem turn_enumT {P : Program} {w : World} {K : PySem.W.Frag} {elts : List Expr} {kk : Nat} {tpos : Pos} (a e it : Addr) :
    Turn P w K (.Tuple elts kk tpos) (Itet K a) [e, it] e (fun i h => (∃ old, IsEnum h e it ((i : Nat) : Int) old) ∧ h.IsTupleIter it a i ∧ e ≠ it ∧ a ≠ it ∧ a ≠ e) where
  mem := by simp
  obj := fun i h st b hb => by
    obtain ⟨⟨old, he⟩, ⟨o, ho, hc, hd⟩, _⟩ := st
    have e' : b = e ∨ b = it := by simpa using hb
    rcases e' with z | z
    · rw [z]; exact ⟨_, he, fun v q => nomatch q⟩
    · rw [z]; exact ⟨o, ho, fun v q => by rw [hd] at q; cases q⟩
  keep := fun i h h' st k => by
    obtain ⟨⟨old, he⟩, hi, hne⟩ := st
    exact ⟨⟨old, k e (by simp) _ he⟩, hi.at fun o q => k it (by simp) o q, hne⟩
  item := by
    intro X hP hw hK hc i pins s σ H E I hf st hg
    subst hP hw hK
    obtain ⟨⟨old, he⟩, hit, hne, hai, hae⟩ := st
    obtain ⟨xs, x, hq, hx⟩ := hg
    obtain ⟨its, rv, p, hz⟩ := I.tuple hq
    obtain ⟨u, hu, ru⟩ := rv.get hx
    have hel : e < s.heap.objs.size := Heap.lt_size he
    have hil : it < s.heap.objs.size := by obtain ⟨_, q, _⟩ := hit; exact Heap.lt_size q
    have hT : s.heap.IsTuple a its.toArray := p
    have hlt : i < its.toArray.size := by
      have z1 := (List.getElem?_eq_some_iff.mp hu).1
      simpa using z1
    refine wpAny_pyNext_enum_itemD (Draws.tuple (A := X.A.in1) (I.ok.hd hc) it a hai its.toArray) he ⟨hit, hT⟩ hlt hne (by simp [hne, Ne.symm hae]) fun y h' tk hy ho hit' hT' hsz hk => ?_
    obtain rfl : y = u := by
      have z1 : its.toArray[i]? = some u := by simpa using hu
      exact Option.some.inj (hy.symm.trans z1)
    refine ⟨_, rfl, wpAny_letOwnedTupleGo_enum (s := { s with heap := h', toks := tk + 1 }) ho fun h'' he' sb => ?_⟩
    have hT2 : h''.get? s.heap.objs.size = some { cls := .type "tuple", data := .seq #[.int i tk, y] } := (sb.2 _ (Nat.ne_of_gt hel)).trans hT'
    have new : ObjOk X.prog X.w (upd H s.heap.objs.size (.tup [.int (i : Nat), x])) h'' s.heap.objs.size (.tup [.int (i : Nat), x]) :=
      ⟨by show 2 ≤ sizeLine; decide, [.int i tk, y], .cons ⟨_, rfl⟩ (.cons ru .nil), ⟨_, hT2, rfl, _, rfl⟩⟩
    have I1 : L2.Inv X pins σ (upd H s.heap.objs.size (.tup [.int (i : Nat), x])) { s with heap := h'', toks := tk + 1 } :=
      I.turnedNew (ch := [e, it]) (fun b ob hb q => (sb.2 b (fun z => hb (by simp [z]))).trans (hk b ob (fun z => hb (by simp [z])) (fun z => hb (by simp [z])) q)) hf (Nat.le_refl _) new
    refine ⟨.ref s.heap.objs.size, _, I1, rfl, ⟨_, x, rfl, I.hok.fresh (Nat.le_refl _), rfl, fun ys hy => by rw [I.tuple_inj hy hq]; exact hx⟩, ⟨⟨y, ?_⟩, hit'.1.at fun o q => (sb.2 it (Ne.symm hne)).trans q, hne, hai, hae⟩, fun b hb => ?_⟩
    · have e1 : ((i + 1 : Nat) : Int) = (i : Int) + 1 := by omega
      rw [e1]; exact he'
    · have hb' : b < s.heap.objs.size := by
        have e' : b = e ∨ b = it := by simpa using hb
        rcases e' with z | z
        · rw [z]; exact hel
        · rw [z]; exact hil
      rw [upd_ne (Nat.ne_of_lt hb')]
      exact (hf b hb).1
  done := by
    intro X hP hw hK hc i pins s σ H E I hf st hg
    subst hP hw hK
    obtain ⟨⟨old, he⟩, hit, hne, hai, hae⟩ := st
    obtain ⟨xs, hq, hx⟩ := hg
    obtain ⟨its, rv, p, hz⟩ := I.tuple hq
    obtain ⟨f0, f1, f2, f3, f4, f5⟩ := hf it (by simp)
    have hl := rv.length
    exact enum_endT (I.ok.hd hc) he hit (show s.heap.IsTuple a its.toArray from p) (by simp; omega) fun h' eb => ⟨rfl, I.turned (t' := s.toks) (fun b o hb q => eb b o hb q) f0 f1 f3 f4 f5⟩
  self := fun A i s Q E st h => by
    obtain ⟨⟨_, he⟩, _⟩ := st
    exact wpAny_pyIter_enum he h
def iEnumT (K : PySem.W.Frag) (ta : TA) : TI := fun σ H R => ta σ H fun vs H1 => ∃ a xs, vs = [.ref a] ∧ SqT K H1 a xs ∧ R (Itet K a) H1
theorem pi_enumT {X : Cx} {e : Expr} {ta : TA} {p pos tpos : Pos} {elts : List Expr} {kk : Nat} (hg : Gl X "enumerate") (hm : X.mg "enumerate" = none) (ha : PA X [e] ta) (hs : starEach [e] X.env = [(false, eval e X.env)] := by rfl) :
    PI X (.Tuple elts kk tpos) (.Call (.Name "enumerate" p) [e] [] pos) (iEnumT X.K ta) := by
  refine ⟨fun pins s σ H R I h => ?_⟩
  refine Call_ (ld_blt I hg hm boot_enumerate (PyProof.Rows.callWith_type1 (thn (ha.run pos pins s σ H _ I h) fun us s1 ⟨vs, H1, I1, r1, q1⟩ => ?_) hs rfl))
  obtain ⟨a, xs, ex, hq, q⟩ := q1
  subst ex
  obtain ⟨u, rfl, r⟩ := Vals.one r1
  obtain rfl : u = Value.ref a := r
  obtain ⟨its, rv, p', hz⟩ := I1.tuple hq
  have hal : a < s1.heap.objs.size := by obtain ⟨_, z, _⟩ := p'; exact Heap.lt_size z
  refine enum_call p' fun h' he hit hsz hk => wpAny_pyIter_enum he ?_
  have I2 : L2.Inv X pins σ H1 { s1 with heap := h' } := I1.kept (t' := s1.toks) hk
  refine ⟨s1.heap.objs.size + 1, [s1.heap.objs.size + 1, s1.heap.objs.size], _, _, H1, rfl, I2, turn_enumT a (s1.heap.objs.size + 1) s1.heap.objs.size, ⟨⟨.none, he⟩, hit, Nat.succ_ne_self _, Nat.ne_of_lt hal, Nat.ne_of_lt (Nat.lt_succ_of_lt hal)⟩, fun b hb => ?_, q⟩
  have e' : b = s1.heap.objs.size + 1 ∨ b = s1.heap.objs.size := by simpa using hb
  have hle : s1.heap.objs.size ≤ b := by
    rcases e' with z | z
    · rw [z]; exact Nat.le_add_right _ _
    · rw [z]; exact Nat.le_refl _
  exact I1.fpOk hle (I1.hok.fresh hle)

/-! ### {k: v for x in t}, the keys tuples of names -/
theorem dt_put {X : Cx} {pins : List (Addr × Obj)} {σ : L2.St} {H : Hp} {s : Shared} {E : Value → Shared → Prop} {D b : Addr} {kvs : List (List Key × V)} {k : List Key} {v : V} {r : Value} {Q : Unit → Shared → Prop} (hu : X.A.units + 1 < cLine) (I : L2.Inv X pins σ H s) (hD : H D = some (.dT kvs)) (hz : kvs.length < sizeLine)
    (hb : H b = some (.tup (k.map kV))) (rv : L2.RelV v r) (h : ∀ s', L2.Inv X pins σ (upd H D (.dT (putK kvs k v))) s' → Q () s') : wpAny (model X.prog X.w) X.A (dictSet D (.ref b) r) Q E s := by
  obtain ⟨z, hd, xs, rel, dd⟩ := dt_of I.hok hD
  have hzx : xs.length ≤ sizeLine := by rw [← Paired.length rel]; exact z
  have hl : (putK kvs k v).length ≤ sizeLine := by
    have := length_putK kvs k v
    omega
  refine wpAny_dictSet_heap (hsz := hzx) (knd := tupleKind (mixKind X.prog X.w)) (show X.A.units < cLine by omega) (key_of I.hok hb) dd fun h' dd' hs => h _ ?_
  obtain ⟨q, es, ep, hq, h2, h3, h4, _, h5⟩ := dd'
  refine d_write I (by rw [hD]; exact True.intro) hs ⟨q, hq⟩ ⟨hl, hd, _, (rel.put k hb rv).keeps fun c ys ec => ?_, q, es, ep, hq, h2, h3, h4, h5⟩
  rw [upd_ne (ne_of ec hD (fun z => nomatch z))]
  exact ec
section
variable {X : Cx}
def tDcT (wi : TI) (g : TG) (tt : TT) (tk tv : TE) (vs : List Nat) : TE := fun σ H Q => wi σ H fun J H1 => ∀ D, H1 D = none → ∃ W : Nat → Nat → Hp → Prop, (∃ m, W 0 m (upd H1 D (.dT []))) ∧ ∀ i m H, W i m H →
  (J.stop i H ∧ Q (.ref D) H) ∨ (J.go i H ∧ ∃ Nx : Hp → Prop, (∀ H', Nx H' → ∃ m', m' < m ∧ W (i + 1) m' H') ∧ ∀ x H', J.yld i H x H' → g x (wipe σ vs) H' fun σ2 H2 => wipe σ2 vs = wipe σ vs ∧ tt σ2 H2 fun b H3 =>
    if b = true then tk σ2 H3 fun y H4 => tv σ2 H4 fun z H5 => ∃ kvs k a, y = .ref a ∧ H5 a = some (.tup (List.map kV k)) ∧ H5 D = some (.dT kvs) ∧ kvs.length < sizeLine ∧ Nx (upd H5 D (.dT (putK kvs k z))) else Nx H3)
theorem pe_dcT {kx vx tg iter : Expr} {ifs : List Expr} {scope : Scope} {own : List (Str × Nat)} {pos : Pos} {wi : TI} {g : TG} {tt : TT} {tk tv : TE} (hu : X.A.units + 1 < cLine) (hc : X.calm = true) (hN : X.N.Nodup) (hi : PI X tg iter wi) (ok : BlkOk X.N X.env.scope scope own)
    (hg : ∀ (s : Shared) (H : Hp) (C : Addr) (cl : List (Str × Addr)) (fp : List Addr), PG (X.blk s H scope (compEnvC scope cl C X.env) fp) tg g) (ht : ∀ (s : Shared) (H : Hp) (C : Addr) (cl : List (Str × Addr)) (fp : List Addr), PTs (X.blk s H scope (compEnvC scope cl C X.env) fp) ifs tt)
    (hk : ∀ (s : Shared) (H : Hp) (C : Addr) (cl : List (Str × Addr)) (fp : List Addr), PE (X.blk s H scope (compEnvC scope cl C X.env) fp) kx tk)
    (he : ∀ (s : Shared) (H : Hp) (C : Addr) (cl : List (Str × Addr)) (fp : List Addr), PE (X.blk s H scope (compEnvC scope cl C X.env) fp) vx tv) (hs : ∀ x, foldedSetIterable iter X.env x = pure x := by intro _; rfl) :
    PE X (.DictComp kx vx [⟨tg, iter, ifs, 0⟩] scope pos) (tDcT wi g tt tk tv (own.map (·.2))) := by
  refine ⟨fun pins s σ H Q I h => ?_⟩
  rw [arm_eval_DictComp]
  have hfree : ∀ y ∈ scope.names, y.2 = .free → ∃ c, X.env.cells.lookup y.1 = some c := fun y hy e => by
    rcases ok.free y hy e with k | k
    · exact I.ok.has _ (.inl k)
    · exact I.ok.has _ (.inr k)
  refine wpAny_comprehension_free (use := none) rfl hs (closure_ok hfree) ok.kind (fun y hy e => by rw [ok.uniq y hy, e])
    (thn (hi.run pins s σ H _ I h) fun xv s1 hx => thn hx fun itv s2 h2 => ?_)
  obtain ⟨it, fp, tn, J, H2, e, I2, T, st2, f2, q⟩ := h2
  subst e
  refine wpAny_newObj_type (newEnv_comp ?_)
  generalize hD : s2.heap.objs.size = D
  have hDn : H2 D = none := I2.hok.fresh (Nat.le_of_eq hD)
  obtain ⟨W, ⟨m0, w0⟩, turn⟩ := q D hDn
  generalize hs3 : ({ s2 with heap := s2.heap.push { cls := .type "dict", data := .dict #[] } } : Shared) = s3
  have I3 : L2.Inv X pins σ (upd H2 D (.dT [])) s3 := by
    rw [← hs3]
    refine I2.laid (t' := s2.toks) (fun b o e => Heap.get?_push_of_some _ e) (Nat.le_of_eq hD) ?_
    rw [← hD]
    exact dt_empty s2.heap I2.big
  have h3 : s3.heap = s2.heap.push { cls := .type "dict", data := .dict #[] } := by rw [← hs3]
  have sz : ∀ b ∈ fp, b < s2.heap.objs.size := fun b hb => by
    obtain ⟨o, e, _⟩ := T.obj _ _ st2 b hb
    exact Heap.lt_size e
  have f3 : ∀ b ∈ fp, FpOk X pins (upd H2 D (.dT [])) b ∧ b < s3.heap.objs.size := fun b hb => by
    have hlt := sz b hb
    refine ⟨⟨?_, (f2 b hb).2⟩, by rw [h3, Heap.size_push]; exact Nat.lt_succ_of_lt hlt⟩
    rw [upd_ne (by rw [← hD]; exact Nat.ne_of_lt hlt)]
    exact (f2 b hb).1
  have st3 : tn 0 s3.heap := T.keep _ _ _ st2 fun b _ o e => by rw [h3]; exact Heap.get?_push_of_some _ e
  have I4 := block_start I3 ok hN f3
  have pg := hg s3 (upd H2 D (.dT [])) s3.heap.objs.size (cellsFrom (s3.heap.objs.size + 1) scope.names (cloFrom X.env.cells scope.names [])) fp
  have pt := ht s3 (upd H2 D (.dT [])) s3.heap.objs.size (cellsFrom (s3.heap.objs.size + 1) scope.names (cloFrom X.env.cells scope.names [])) fp
  have pk := hk s3 (upd H2 D (.dT [])) s3.heap.objs.size (cellsFrom (s3.heap.objs.size + 1) scope.names (cloFrom X.env.cells scope.names [])) fp
  have pe := he s3 (upd H2 D (.dT [])) s3.heap.objs.size (cellsFrom (s3.heap.objs.size + 1) scope.names (cloFrom X.env.cells scope.names [])) fp
  have nfp : ∀ b ∈ fp, (upd H2 D (.dT [])) b = none := fun b hb => (f3 b hb).1.1
  -- where the block ends
  have back : ∀ (s' : Shared) (H' : Hp), L2.Inv X pins σ H' s' → Q (.ref D) H' → (∃ m, s'.heap.Ns s3.heap.objs.size m) → FpOk X pins H' s3.heap.objs.size → compPost (model X.prog X.w) X.A X.xe none (EP X pins σ Q) (.ref D) s3.heap.objs.size (.ok .next) s' := fun s' H' I' q ⟨m, hn⟩ f => by
    refine ⟨m, hn, fun h'' sb => ?_⟩
    obtain ⟨f0, f1, f2, f3, f4, f5⟩ := f
    exact ⟨.ref D, H', I'.turned (t' := s'.toks) (fun b o hb e => (sb.2 b hb).trans e) f0 f1 f3 f4 f5, rfl, q⟩
  show codeAny _ _ (.compStart (.DictComp kx vx [⟨tg, iter, ifs, 0⟩] scope pos) 0 (.ref it) (.ref D) (compEnvC scope (cellsFrom (s3.heap.objs.size + 1) scope.names (cloFrom X.env.cells scope.names [])) s3.heap.objs.size X.env)) (compPost (model X.prog X.w) X.A X.xe none (EP X pins σ Q) (.ref D) s3.heap.objs.size) { s3 with heap := pushCells (s3.heap.push { cls := .type "dict", data := .dict #[] }) scope.names }
  generalize hce : compEnvC scope (cellsFrom (s3.heap.objs.size + 1) scope.names (cloFrom X.env.cells scope.names [])) s3.heap.objs.size X.env = ce at I4 pg pt pk pe ⊢
  have cL : ce.locals = s3.heap.objs.size := by subst hce; rfl
  generalize hH3 : upd H2 D (.dT []) = H3 at I3 I4 pg pt pk pe w0 nfp f3
  generalize hs4 : ({ s3 with heap := pushCells (s3.heap.push { cls := .type "dict", data := .dict #[] }) scope.names } : Shared) = s4 at I4 ⊢
  have st4 : tn 0 s4.heap := T.keep _ _ _ st3 fun b _ o e => by rw [← hs4]; exact pushCells_keeps _ _ _ _ (Heap.get?_push_of_some _ e)
  have stat : ∀ {σ' : L2.St} {H' : Hp} {s' : Shared}, L2.Inv (X.blk s3 H3 scope ce fp) [] σ' H' s' → (∀ b ∈ fp, H' b = none) → ∀ b ∈ fp, FpOk (X.blk s3 H3 scope ce fp) [] H' b := fun {σ' H' s'} I' hn b hb =>
    ⟨hn b hb, (I'.ok.exf b hb).1, I'.ok.exfs b hb, .inl hb, fun x c e => (I'.ok.exf b hb).2 x c e, fun p hp => absurd (show p ∈ ([] : List (Addr × Obj)) ++ [] from hp) (by simp)⟩
  have loop : codeAny (model X.prog X.w) X.A (.compLoop (.DictComp kx vx [⟨tg, iter, ifs, 0⟩] scope pos) 0 (.ref it) (.ref D) ce) (compPost (model X.prog X.w) X.A X.xe none (EP X pins σ Q) (.ref D) s3.heap.objs.size) s4 := by
    refine compLoop_anyD (fun n s' => ∃ i H', L2.Inv (X.blk s3 H3 scope ce fp) [] (wipe σ (own.map (·.2))) H' s' ∧ tn i s'.heap ∧ (∀ b ∈ fp, H' b = none) ∧ W i n H') ?_ m0 ⟨0, H3, I4, st4, nfp, w0⟩
    rintro n s5 ⟨i, H5, I5, st5, n5, w5⟩
    rcases turn i n H5 w5 with ⟨stop, qq⟩ | ⟨go, Nx, hNx, step⟩
    · have td := T.done (X.blk s3 H3 scope ce fp) rfl rfl rfl hc i [] s5 _ H5 (fun _ _ => False) I5 (stat I5 n5) st5 stop
      refine thnF td fun r s6 ⟨hr, I6⟩ => ?_
      subst hr
      have I7 : L2.Inv X pins σ H5 s6 := I3.call' (ch := fp) I6.os I6.base I6.hok I6.bare fun b hb => ⟨(f3 b hb).1.2.2.2.1, (f3 b hb).1.2.1, (f3 b hb).1.2.2.2.2.1, (f3 b hb).1.2.2.2.2.2⟩
      have nC : H5 s3.heap.objs.size = none := by
        have z : H5 ce.locals = none := I6.free
        rw [cL] at z
        exact z
      obtain ⟨m, hn, _⟩ := I6.loc
      have hn : s6.heap.Ns ce.locals m := hn
      rw [cL] at hn
      exact back s6 H5 I7 qq ⟨m, hn⟩ (I3.fpOk (Nat.le_refl _) nC)
    · have ti := T.item (X.blk s3 H3 scope ce fp) rfl rfl rfl hc i [] s5 _ H5 (fun _ _ => False) I5 (stat I5 n5) st5 go
      refine thnF ti fun r s6 ⟨u, hr, h6⟩ => ?_
      subst hr
      refine thnF h6 fun _ s7 ⟨x, H7, I7, r7, y7, st7, n7⟩ => ?_
      have I7' := I7.pinned (stat I7 n7) (T.obj _ _ st7)
      refine thnF (pg.run _ s7 _ H7 x u _ I7' r7 (step x H7 y7)) fun _ s8 ⟨σ8, H8, I8, hw8, q8⟩ => ?_
      refine thnF (pt.run _ s8 σ8 H8 _ I8 q8) fun b s9 ⟨H9, I9, q9⟩ => ?_
      have fin : ∀ {s' : Shared} {H' : Hp}, L2.Inv (X.blk s3 H3 scope ce fp) ([] ++ pinsAt fp s7.heap) σ8 H' s' → Nx H' → ∃ m, m < n ∧ ∃ i H', L2.Inv (X.blk s3 H3 scope ce fp) [] (wipe σ (own.map (·.2))) H' s' ∧ tn i s'.heap ∧ (∀ b ∈ fp, H' b = none) ∧ W i m H' := fun {s' H'} I' nx => by
        obtain ⟨m', hm, w'⟩ := hNx H' nx
        have pin' : ∀ b ∈ fp, ∀ o, s7.heap.get? b = some o → s'.heap.get? b = some o ∧ H' b = none := fun b hb o e =>
          let z := I'.pin (b, o) (List.mem_append_right _ (List.mem_append_right _ (mem_pinsAt hb e)))
          ⟨z.1, z.2.1⟩
        have hl : (wipe σ (own.map (·.2))).length = σ8.length := by rw [← hw8, wipe_length]
        refine ⟨m', hm, i + 1, H', (I'.unpinned (pins := [])).weak hl (fun j v e => ?_), T.keep _ _ _ st7 fun b hb o e => (pin' b hb o e).1, fun b hb => ?_, w'⟩
        · rw [← hw8] at e
          exact (wipe_some e).1
        · obtain ⟨o, e, _⟩ := T.obj _ _ st7 b hb
          exact (pin' b hb o e).2
      cases b with
      | false =>
        simp only [Bool.false_eq_true, if_false] at q9 ⊢
        exact fin I9 q9
      | true =>
        simp only [if_true] at q9 ⊢
        refine thnF (pk.run _ s9 σ8 H9 _ I9 q9) fun z s10 ⟨yk, H10, I10, r10, q10⟩ => ?_
        refine thnF (pe.run _ s10 σ8 H10 _ I10 q10) fun z2 s11 ⟨yv, H11, I11, r11, kvs, k, ka, ek, hka, hD11, hz11, nx⟩ => ?_
        subst ek
        obtain rfl : z = Value.ref ka := r10
        exact dt_put (X := X.blk s3 H3 scope ce fp) hu I11 hD11 hz11 hka r11 fun s12 I12 => fin I12 nx
  exact codeAny_compStart_dict loop (T.self X.A 0 _ _ _ st4 loop)
/-- over a tuple that stays -/
theorem dcT_tup {K : PySem.W.Frag} {a : Addr} {xs : List V} {g : TG} {tt : TT} {tk tv : TE} {vs : List Nat} {σ : L2.St} {H1 : Hp} {D : Addr} {Qd : Hp → Prop} (Pv : Nat → Hp → Prop) (h0 : Pv 0 (upd H1 D (.dT []))) (hl : ∀ i H, i ≤ xs.length → Pv i H → SqT K H a xs)
    (hs : ∀ i x H, xs[i]? = some x → Pv i H → g x (wipe σ vs) H fun σ2 H2 => wipe σ2 vs = wipe σ vs ∧ tt σ2 H2 fun b H3 =>
      if b = true then tk σ2 H3 fun y H4 => tv σ2 H4 fun z H5 => ∃ kvs k c, y = .ref c ∧ H5 c = some (.tup (List.map kV k)) ∧ H5 D = some (.dT kvs) ∧ kvs.length < sizeLine ∧ Pv (i + 1) (upd H5 D (.dT (putK kvs k z))) else Pv (i + 1) H3) (hd : ∀ H, Pv xs.length H → Qd H) :
    ∃ W : Nat → Nat → Hp → Prop, (∃ m, W 0 m (upd H1 D (.dT []))) ∧ ∀ i m H, W i m H →
      ((Itt K a).stop i H ∧ Qd H) ∨ ((Itt K a).go i H ∧ ∃ Nx : Hp → Prop, (∀ H', Nx H' → ∃ m', m' < m ∧ W (i + 1) m' H') ∧ ∀ x H', (Itt K a).yld i H x H' → g x (wipe σ vs) H' fun σ2 H2 => wipe σ2 vs = wipe σ vs ∧ tt σ2 H2 fun b H3 =>
        if b = true then tk σ2 H3 fun y H4 => tv σ2 H4 fun z H5 => ∃ kvs k c, y = .ref c ∧ H5 c = some (.tup (List.map kV k)) ∧ H5 D = some (.dT kvs) ∧ kvs.length < sizeLine ∧ Nx (upd H5 D (.dT (putK kvs k z))) else Nx H3) := by
  refine ⟨fun i m H => m = xs.length - i ∧ i ≤ xs.length ∧ Pv i H, ⟨xs.length, by simp, Nat.zero_le _, h0⟩, ?_⟩
  rintro i m H ⟨rfl, hi, p⟩
  have q := hl i H hi p
  rcases Nat.lt_or_ge i xs.length with hlt | hge
  · refine .inr ⟨⟨xs, xs[i], q, List.getElem?_eq_getElem hlt⟩, Pv (i + 1), fun H' p' => ⟨xs.length - (i + 1), by omega, rfl, hlt, p'⟩, fun x H' y => ?_⟩
    obtain ⟨e, y⟩ := y
    subst e
    exact hs i x _ (y xs q) p
  · obtain rfl : i = xs.length := Nat.le_antisymm hi hge
    exact .inl ⟨⟨xs, q, Nat.le_refl _⟩, hd H p⟩
end
end XI
/-! Own: len, bool, str of an instance by its class's own methods. -/
namespace XO
open PySem PySem.Spec PyProof.Rows L2
/-- the class has the method under this name, for itself -/
structure Own (K : PySem.W.Frag) (C : Addr) (m : Str) (f : Addr) : Prop where
  at_ : PySem.W.findIn K (.ref C) m = some (some (.ref f))
  fn : PySem.W.isFn K (.ref f) = true
theorem Room.in2 {k : Nat} {A : Around} (r : Room (k + 1) A) : Room k A.in1.in1 :=
  ⟨r.hd, by have := r.dp; show A.depth + 3 * k + 5 < _; omega, by have := r.un; show A.units + 1 + 1 + 16 * k + 200 < _; omega⟩
section
variable {X : Cx} {k : Nat} {C f a dx : Addr} {fs : List (Str × V)} {fd : FuncData} {sp : Sp} {E : XK}
/-- the def at f called of the object, around A -/
theorem run_own {pins : List (Addr × Obj)} {σ : L2.St} {H : Hp} {s : Shared} {Q : VK} {A : Around} {G : Value → Shared → Prop} (F : FnOk X.prog X.w X.K X.mg X.base CX0 k f fd ["self"] sp) (hr : Room k A) (he : Env0 X.prog X.w X.K X.mg X.base A X.stack s H)
    (hb : Binds X.K fd ["self"] []) (I : L2.Inv X pins σ H s) (h : sp [.ref a] H Q E0) : wpAny (model X.prog X.w) A (call (.ref f) [.ref a]) (EP X pins σ Q) G s := by
  refine wpAny_call (codeAny_mono (F.run A X.stack s H ⟨[.ref a], []⟩ [.ref a] [.ref a] Q E0 hr he (hb s [.ref a] I.kIn rfl) (.cons rfl .nil) h) fun r s' hq => ?_)
  cases r with
  | error er => exact hq.elim
  | ok fl =>
    cases fl with
    | ret u => exact I.after hq
    | _ => exact False.elim hq
theorem inst_look {pins : List (Addr × Obj)} {σ : L2.St} {H : Hp} {s : Shared} (I : L2.Inv X pins σ H s) (ea : H a = some (.ins C dx fs)) : ∃ od, PySem.W.InstAt s.heap a (PySem.W.instObj C dx) C od := by
  obtain ⟨mA, O, _, _, _, _⟩ := ins_get I.hok ea
  obtain ⟨od, J, _⟩ := O.look
  exact ⟨od, J⟩
/-- len(o) -/
def rLenO (C : Addr) (sp : Sp) : List V → Hp → VK → Prop := fun xs H Q => ∃ a dx fs, xs = [.ref a] ∧ H a = some (.ins C dx fs) ∧ sp [.ref a] H (fun v H' => ∃ n : Int, v = .int n ∧ 0 ≤ n ∧ n < 2 ^ 63 ∧ Q (.int n) H') E0
theorem call_lenO (O : Own X.K C "__len__" f) (F : FnOk X.prog X.w X.K X.mg X.base CX0 k f fd ["self"] sp) (hr : Room (k + 1) X.A) (hb : Binds X.K fd ["self"] []) : CallR X (.builtin "len") (rLenO C sp) := by
  intro pins s σ H xs us Q I r h
  obtain ⟨a, dx, fs, rfl, ea, q⟩ := h
  obtain rfl := Vals.ref1 r
  obtain ⟨od, J⟩ := inst_look I ea
  obtain ⟨m, hF⟩ := I.fr
  refine PySem.W.len_K hF I.ok.mod.kin J O.at_ O.fn (thn (run_own F hr.in1 I.env0.in1 hb I q) fun u s1 ⟨v, H1, I1, rv, n, ev, n0, n1, q1⟩ => ?_)
  subst ev
  obtain ⟨t, rfl⟩ := rv
  exact ⟨⟨n0, n1⟩, .int n, H1, I1.tok _, ⟨_, rfl⟩, q1⟩
/-- str(o) -/
def rStrO (C : Addr) (sp : Sp) : List V → Hp → VK → Prop := fun xs H Q => ∃ a dx fs, xs = [.ref a] ∧ H a = some (.ins C dx fs) ∧ sp [.ref a] H (fun v H' => ∃ z : Str, v = .str z ∧ Q (.str z) H') E0
theorem call_strO (O : Own X.K C "__str__" f) (F : FnOk X.prog X.w X.K X.mg X.base CX0 k f fd ["self"] sp) (hr : Room (k + 1) X.A) (hb : Binds X.K fd ["self"] []) : CallR X (.type "str") (rStrO C sp) := by
  intro pins s σ H xs us Q I r h
  obtain ⟨a, dx, fs, rfl, ea, q⟩ := h
  obtain rfl := Vals.ref1 r
  obtain ⟨od, J⟩ := inst_look I ea
  refine PySem.W.kso_call (Room.in2 hr).units0 I.kIn J O.at_ O.fn (thn (run_own F (Room.in2 hr) I.env0.in1.in1 hb I q) fun u s1 ⟨v, H1, I1, rv, z, ev, q1⟩ => ?_)
  subst ev
  obtain ⟨t, rfl⟩ := rv
  exact ⟨.str z, H1, I1, ⟨_, rfl⟩, q1⟩
/-- bool(o) -/
def rBoolO (C : Addr) (sp : Sp) : List V → Hp → VK → Prop := fun xs H Q => ∃ a dx fs, xs = [.ref a] ∧ H a = some (.ins C dx fs) ∧ sp [.ref a] H (fun v H' => ∃ b : Bool, v = .bl b ∧ Q (.bl b) H') E0
theorem call_boolO (O : Own X.K C "__bool__" f) (F : FnOk X.prog X.w X.K X.mg X.base CX0 k f fd ["self"] sp) (hr : Room (k + 1) X.A) (hb : Binds X.K fd ["self"] []) : CallR X (.type "bool") (rBoolO C sp) := by
  intro pins s σ H xs us Q I r h
  obtain ⟨a, dx, fs, rfl, ea, q⟩ := h
  obtain rfl := Vals.ref1 r
  obtain ⟨od, J⟩ := inst_look I ea
  obtain ⟨m, hF⟩ := I.fr
  have tr : ∀ (R : Bool → Shared → Prop) (G : Value → Shared → Prop), (∀ (b : Bool) (s' : Shared), EP X pins σ Q (.bool b) s' → R b s') → wpAny (model X.prog X.w) X.A.in1.in1 (truthy (.ref a)) R G s := fun R G hR => by
    refine PySem.W.truthy_K hF I.ok.mod.kin J O.at_ O.fn (thn (run_own F (Room.in2 hr) I.env0.in1.in1 hb I q) fun u s1 ⟨v, H1, I1, rv, b, ev, q1⟩ => ?_)
    subst ev
    cases rv
    exact hR b s1 ⟨.bl b, H1, I1, rfl, q1⟩
  refine callType_codes (T := "bool") (Bi := Builtin.«object.__init__») (Q₁ := fun r s₁ => ∃ b, r = .bool b ∧ EP X pins σ Q (.bool b) s₁) PySem.F.called_bool (PySem.F.typeCall_bool_1 _) PySem.F.entry_object_init ?_ ?_
  · refine codeAny_of_tree ?_
    show wpAny _ X.A.in1.in1 (do checkBuiltinCall "bool.__new__" ⟨[.type "bool", .ref a], []⟩; again (.builtin "bool.__new__" ⟨[.type "bool", .ref a], []⟩)) _ _ s
    refine wpAny_bind (wpAny_of_eq (PySem.F.newCall_bool_1 _) (wpAny_pure ⟨plainId_quiet (by decide +kernel) _, codeAny_builtin PySem.F.entry_bool_new ?_⟩))
    rw [Around.under_plainId (by decide +kernel) _]
    have f1 := PySem.F.conv_sub_bool
    obtain ⟨hp, g, d, tk, os⟩ := s
    repeat (any_goals (first | assumption | (with_reducible refine tr _ _ ?_) | wp_step))
    intro b s' hb'
    exact wpAny_pure ⟨b, rfl, hb'⟩
  · rintro obj s₁ ⟨b, rfl, hq⟩
    exact ⟨rfl, PySem.F.args_object_init_2 _ _, object_init_meets PySem.F.called_bool.init.lookup PySem.F.called_bool.made (by decide) X.prog X.w X.A.in1 _ s₁ ⟨rfl, rfl, hq⟩⟩
end
end XO
/-! Own: how the defs of a program stand, heaps that change at one place. -/
namespace XB
open PySem PySem.Spec PyProof.Rows L2
/-- the def st stands under its name x, its parameters ps -/
structure At (K : PySem.W.Frag) (mg : Str → Option Value) (x : Str) (st : Stmt) (ps : List Str) : Prop where
  ex : ∃ (f : Addr) (fd : FuncData), Fun K x x st f fd ∧ mg x = some (.ref f) ∧ Binds K fd ps []
theorem at_mk {K : PySem.W.Frag} {h : Heap} {mg : Str → Option Value} {x : Str} {st : Stmt} {ps : List Str} {f : Addr} {oc : Value} {od an : Option Addr} {osl : Array (Option Value)} {kV doc pm cdv ct : Value} (X : K.In h) (G : h.Ns mainGlobals mg)
    (a : PySem.W.nsIn K mainGlobals x = some (some (.ref f))) (l : K.lookup f = some ⟨oc, od, .func (PySem.W.fnOf x x (defArgs st) (defBody st) (defScope st) .none kV doc pm an cdv ct), osl⟩) (c : PySem.W.codeIn K cdv x = true) (k : PySem.W.keepIn K (.ref f) = true)
    (hb : ∀ (kV doc pm : Value) (an : Option Addr) (cdv ct : Value) (us : List Value), us.length = ps.length → bindArgs (PySem.W.fnOf x x (defArgs st) (defBody st) (defScope st) .none kV doc pm an cdv ct) ⟨us, []⟩ = pure (ps.zip us)) : At K mg x st ps := by
  have F := fun_mk (st := st) l c k
  exact ⟨f, _, F, PySem.W.mg_of X G a, F.binds hb⟩
section
variable {P : Program} {w : World} {K : PySem.W.Frag} {mg : Str → Option Value} {base : Heap} {k : Nat}
theorem cal_of {x : Str} {st : Stmt} {N ps : List Str} {sp : Sp} (D : At K mg x st ps) (S : FnScope N ps (defScope st)) (len : ∀ vs H Q E, sp vs H Q E → vs.length = ps.length)
    (hbody : ∀ (f : Addr) (cdv : Value) (A : Around) (outer : List Env) (s : Shared) (H : Hp) (vs : List V) (Q : VK) (E : XK), Room k (A.deeper (envOfC x (defScope st) s.heap.objs.size f cdv)) → sp vs H Q E →
      ∃ t, PSs (cxOf CX0 P w K mg base N x (defScope st) f cdv A outer s H E).nox (defBody st) t ∧ t { nx := fun _ H' => Q .non H', rt := Q } (start N vs) H) : C8.Cal P w K mg base (k + 1) x sp [] := by
  obtain ⟨f, fd, F, hm, b⟩ := D.ex
  exact ⟨f, fd, ps, [], F.ok S len (hbody f), hm, F.kp, b, .nil⟩
/-- .. of a def that wants that no repr runs around -/
structure CalG (P : Program) (w : World) (K : PySem.W.Frag) (mg : Str → Option Value) (base : Heap) (k : Nat) (x : Str) (sp : Sp) : Prop where
  ex : ∃ (f : Addr) (fd : FuncData) (ps : List Str), XG.FnG P w K mg base CX0 k f fd ps sp ∧ mg x = some (.ref f) ∧ PySem.W.keepIn K (.ref f) = true ∧ Binds K fd ps []
theorem calG_of {x : Str} {st : Stmt} {N ps : List Str} {sp : Sp} (D : At K mg x st ps) (S : FnScope N ps (defScope st)) (len : ∀ vs H Q E, sp vs H Q E → vs.length = ps.length)
    (hbody : ∀ (f : Addr) (cdv : Value) (A : Around) (outer : List Env) (s : Shared) (H : Hp) (vs : List V) (Q : VK) (E : XK), XG.Calm (A.deeper (envOfC x (defScope st) s.heap.objs.size f cdv)) → Room k (A.deeper (envOfC x (defScope st) s.heap.objs.size f cdv)) → sp vs H Q E →
      ∃ t, PSs (cxOf CX0 P w K mg base N x (defScope st) f cdv A outer s H E).nox (defBody st) t ∧ t { nx := fun _ H' => Q .non H', rt := Q } (start N vs) H) : CalG P w K mg base (k + 1) x sp := by
  obtain ⟨f, fd, F, hm, b⟩ := D.ex
  exact ⟨f, fd, ps, XG.okG F S len (hbody f), hm, F.kp, b⟩
theorem C8mono {x : Str} {sp : Sp} {dvs : List V} {j : Nat} (c : C8.Cal P w K mg base j x sp dvs) (h : j ≤ k) : C8.Cal P w K mg base k x sp dvs := by
  obtain ⟨f, fd, ps, ds, F, hm, kp, b, d⟩ := c.ex
  exact ⟨f, fd, ps, ds, F.mono h, hm, kp, b, d⟩
end
section
variable {X : Cx} {k j : Nat} {x : Str} {sp : Sp} {p pos : Pos} {e : Expr} {es : List Expr} {t : TA}
theorem pe_cG (c : CalG X.prog X.w X.K X.mg X.base k x sp) (hc : XG.Calm X.A) (hr : Room j X.A) (hk : k ≤ j) (hg : Gl X x) (ha : PA X (e :: es) t)
    (hdb : (x == ("__debug__" : Str)) = false := by decide) (he : starEach (e :: es) X.env = (false, eval e X.env) :: starEach es X.env := by rfl) (hpl : (backTo pos (starEach es X.env)).any (·.1) = false := by rfl) :
    PE X (.Call (.Name x p) (e :: es) [] pos) (tCall sp [] E0 t) := by
  obtain ⟨f, fd, ps, F, hm, kp, b⟩ := c.ex
  exact XG.pe_callG F hc (hr.mono hk) hg hm kp b .nil pass0 ha hdb he hpl
end

/-! ### heaps -/
/-- all that was tracked but at p is as it was -/
def Chg (p : Addr) (H H' : Hp) : Prop := ∀ b o, b ≠ p → H b = some o → H' b = some o
theorem Chg.refl (p : Addr) (H : Hp) : Chg p H H := fun _ _ _ h => h
theorem Chg.trans {p : Addr} {H H1 H2 : Hp} (a : Chg p H H1) (b : Chg p H1 H2) : Chg p H H2 := fun c o n h => b c o n (a c o n h)
theorem Same.chg {p : Addr} {H H' : Hp} (a : Same H H') : Chg p H H' := fun c o _ h => a c o h
theorem Chg.new {p q : Addr} {H H' : Hp} {o : HO} (a : Chg p H H') (h : H' q = none) : Chg p H (upd H' q o) := fun c u n e => by
  have z := a c u n e
  rw [upd_ne (ne_of_none z h)]
  exact z
theorem Chg.at {p : Addr} {H H' : Hp} {o : HO} (a : Chg p H H') : Chg p H (upd H' p o) := fun c u n e => by
  rw [upd_ne n]
  exact a c u n e
theorem Same.new {q : Addr} {H H' : Hp} {o : HO} (a : Same H H') (h : H' q = none) : Same H (upd H' q o) := fun c u e => by
  have z := a c u e
  rw [upd_ne (ne_of_none z h)]
  exact z
/-- a store to what was free at the start -/
theorem Same.own {q : Addr} {H H' : Hp} {o : HO} (a : Same H H') (h : H q = none) : Same H (upd H' q o) := fun c u e => by
  rw [upd_ne (ne_of_none e h)]
  exact a c u e
theorem Chg.own {p q : Addr} {H H' : Hp} {o : HO} (a : Chg p H H') (h : H q = none) : Chg p H (upd H' q o) := fun c u n e => by
  rw [upd_ne (ne_of_none e h)]
  exact a c u n e
theorem Chg.seq {p : Addr} {K : PySem.W.Frag} {H H' : Hp} {a : Addr} {xs : List V} (c : Chg p H H') (n : a ≠ p) (h : SqL K H a xs) : SqL K H' a xs := by
  rcases h with (h | ⟨o, h⟩) | h
  · exact .inl (.inl (c _ _ n h))
  · exact .inl (.inr ⟨o, c _ _ n h⟩)
  · exact .inr h
theorem Same.tup {K : PySem.W.Frag} {H H' : Hp} {a : Addr} {xs : List V} (c : Same H H') (h : SqT K H a xs) : SqT K H' a xs := by
  rcases h with (h | ⟨o, h⟩) | h
  · exact .inl (.inl (c _ _ h))
  · exact .inl (.inr ⟨o, c _ _ h⟩)
  · exact .inr h
theorem Chg.tup {p : Addr} {K : PySem.W.Frag} {H H' : Hp} {a : Addr} {xs : List V} (c : Chg p H H') (n : a ≠ p) (h : SqT K H a xs) : SqT K H' a xs := by
  rcases h with (h | ⟨o, h⟩) | h
  · exact .inl (.inl (c _ _ n h))
  · exact .inl (.inr ⟨o, c _ _ n h⟩)
  · exact .inr h
theorem Chg.free {p q : Addr} {H H' : Hp} (a : Chg p H H') (n : q ≠ p) (h : H' q = none) : H q = none := by
  cases e : H q with
  | none => rfl
  | some o => rw [a q o n e] at h; cases h
/-- what stood before a new object -/
theorem kp {H : Hp} {b q : Addr} {o u : HO} (e : H b = some o) (n : H q = none) : upd H q u b = some o := by
  rw [upd_ne (ne_of_none e n)]
  exact e
/-- what stands elsewhere -/
theorem kpm {H : Hp} {b q : Addr} {o u : HO} (e : H b = some o) (n : b ≠ q) : upd H q u b = some o := by
  rw [upd_ne n]
  exact e
theorem kpL {K : PySem.W.Frag} {H : Hp} {a q : Addr} {xs : List V} {u : HO} (h : SqL K H a xs) (n : H q = none) : SqL K (upd H q u) a xs := (Same.new (Same.refl H) n).seq h
theorem kpT {K : PySem.W.Frag} {H : Hp} {a q : Addr} {xs : List V} {u : HO} (h : SqT K H a xs) (n : H q = none) : SqT K (upd H q u) a xs := Same.tup (Same.new (Same.refl H) n) h
/-- texts as values -/
abbrev sl (xs : List Str) : List V := xs.map V.str
/-- the drawer: three numbers -/
def Purse (H : Hp) (p : Addr) : Prop := ∃ d s c : Int, H p = some (.lst [.int d, .int s, .int c])
theorem Purse.ne {H : Hp} {p q : Addr} (h : Purse H p) (n : H q = none) : p ≠ q := by
  obtain ⟨d, s, c, e⟩ := h
  exact ne_of_none e n
theorem Purse.new {H : Hp} {p q : Addr} {o : HO} (h : Purse H p) (n : H q = none) : Purse (upd H q o) p := by
  have z := h.ne n
  obtain ⟨d, s, c, e⟩ := h
  exact ⟨d, s, c, by rw [upd_ne z]; exact e⟩
/-- which built-ins the program leaves as they are -/
structure Bl (mg : Str → Option Value) : Prop where
  len : mg "len" = none
  int_ : mg "int" = none
  abs_ : mg "abs" = none
  divmod : mg "divmod" = none
  range : mg "range" = none
  list : mg "list" = none
  tuple : mg "tuple" = none
  repr : mg "repr" = none
  min_ : mg "min" = none
  max_ : mg "max" = none
  isin : mg "isinstance" = none
  str : mg "str" = none
  bool : mg "bool" = none
  set_ : mg "set" = none
  enum : mg "enumerate" = none
  all_ : mg "all" = none
end XB
namespace T
open PySem PySem.Spec PyProof.Rows L2 XB
def topS (i : Nat) : Stmt := PySem.Challenge.pw_passedits_k04_kinds_refused.main.body.getD i (.Pass ⟨0, 0, 0, 0⟩)
abbrev s_is_word : Stmt := topS 23
abbrev N_is_word : List Str := ["value", "words"]
theorem sc_is_word : FnScope N_is_word ["value", "words"] (defScope s_is_word) := ⟨rfl, rfl, rfl, by decide +kernel, rfl, by decide +kernel, by decide +kernel⟩
abbrev s_are_kinds : Stmt := topS 24
abbrev N_are_kinds : List Str := ["value", "kind"]
theorem sc_are_kinds : FnScope N_are_kinds ["value"] (defScope s_are_kinds) := ⟨rfl, rfl, rfl, by decide +kernel, rfl, by decide +kernel, by decide +kernel⟩
abbrev s_is_cell : Stmt := topS 25
abbrev N_is_cell : List Str := ["value", "kinds", "mine", "its", "relation"]
theorem sc_is_cell : FnScope N_is_cell ["value", "kinds"] (defScope s_is_cell) := ⟨rfl, rfl, rfl, by decide +kernel, rfl, by decide +kernel, by decide +kernel⟩
abbrev s_cell_of : Stmt := topS 26
abbrev N_cell_of : List Str := ["row"]
theorem sc_cell_of : FnScope N_cell_of ["row"] (defScope s_cell_of) := ⟨rfl, rfl, rfl, by decide +kernel, rfl, by decide +kernel, by decide +kernel⟩
abbrev s_options_of : Stmt := topS 27
abbrev N_options_of : List Str := ["row"]
theorem sc_options_of : FnScope N_options_of ["row"] (defScope s_options_of) := ⟨rfl, rfl, rfl, by decide +kernel, rfl, by decide +kernel, by decide +kernel⟩
abbrev s_conditions_for : Stmt := topS 28
abbrev N_conditions_for : List Str := ["mine", "its"]
theorem sc_conditions_for : FnScope N_conditions_for ["mine", "its"] (defScope s_conditions_for) := ⟨rfl, rfl, rfl, by decide +kernel, rfl, by decide +kernel, by decide +kernel⟩
abbrev s_results_for : Stmt := topS 29
abbrev N_results_for : List Str := ["mine", "kinds"]
theorem sc_results_for : FnScope N_results_for ["mine", "kinds"] (defScope s_results_for) := ⟨rfl, rfl, rfl, by decide +kernel, rfl, by decide +kernel, by decide +kernel⟩
abbrev s_is_row : Stmt := topS 30
abbrev N_is_row : List Str := ["value", "kinds", "mine", "its", "_", "options", "results", "tested", "condition", "result", "option"]
theorem sc_is_row : FnScope N_is_row ["value", "kinds"] (defScope s_is_row) := ⟨rfl, rfl, rfl, by decide +kernel, rfl, by decide +kernel, by decide +kernel⟩
abbrev s_first_wrong_row : Stmt := topS 31
abbrev N_first_wrong_row : List Str := ["rows", "kinds", "cells", "index", "row"]
theorem sc_first_wrong_row : FnScope N_first_wrong_row ["rows", "kinds"] (defScope s_first_wrong_row) := ⟨rfl, rfl, rfl, by decide +kernel, rfl, by decide +kernel, by decide +kernel⟩
abbrev s_kinds_and_rows : Stmt := topS 32
abbrev N_kinds_and_rows : List Str := ["text", "lines"]
theorem sc_kinds_and_rows : FnScope N_kinds_and_rows ["text"] (defScope s_kinds_and_rows) := ⟨rfl, rfl, rfl, by decide +kernel, rfl, by decide +kernel, by decide +kernel⟩
abbrev s_is_table_text : Stmt := topS 33
abbrev N_is_table_text : List Str := ["value", "kinds", "rows"]
theorem sc_is_table_text : FnScope N_is_table_text ["value"] (defScope s_is_table_text) := ⟨rfl, rfl, rfl, by decide +kernel, rfl, by decide +kernel, by decide +kernel⟩
abbrev s_Table___init__ : Stmt := inClass (topS 35) 0
abbrev N_Table___init__ : List Str := ["self", "kinds", "rows", "wrong", "row"]
theorem sc_Table___init__ : FnScope N_Table___init__ ["self", "kinds", "rows"] (defScope s_Table___init__) := ⟨rfl, rfl, rfl, by decide +kernel, rfl, by decide +kernel, by decide +kernel⟩
abbrev s_Table_read : Stmt := inClass (topS 35) 1
abbrev N_Table_read : List Str := ["cls", "text", "kinds", "rows"]
theorem sc_Table_read : FnScope N_Table_read ["cls", "text"] (defScope s_Table_read) := ⟨rfl, rfl, rfl, by decide +kernel, rfl, by decide +kernel, by decide +kernel⟩
abbrev s_Table_kinds : Stmt := inClass (topS 35) 2
abbrev N_Table_kinds : List Str := ["self"]
theorem sc_Table_kinds : FnScope N_Table_kinds ["self"] (defScope s_Table_kinds) := ⟨rfl, rfl, rfl, by decide +kernel, rfl, by decide +kernel, by decide +kernel⟩
abbrev s_Table_rows : Stmt := inClass (topS 35) 3
abbrev N_Table_rows : List Str := ["self"]
theorem sc_Table_rows : FnScope N_Table_rows ["self"] (defScope s_Table_rows) := ⟨rfl, rfl, rfl, by decide +kernel, rfl, by decide +kernel, by decide +kernel⟩
abbrev s_Table_passed : Stmt := inClass (topS 35) 4
abbrev N_Table_passed : List Str := ["self", "edit", "past", "first"]
theorem sc_Table_passed : FnScope N_Table_passed ["self", "edit", "past", "first"] (defScope s_Table_passed) := ⟨rfl, rfl, rfl, by decide +kernel, rfl, by decide +kernel, by decide +kernel⟩
abbrev s_Table_changed : Stmt := inClass (topS 35) 5
abbrev N_Table_changed : List Str := ["self", "change"]
theorem sc_Table_changed : FnScope N_Table_changed ["self", "change"] (defScope s_Table_changed) := ⟨rfl, rfl, rfl, by decide +kernel, rfl, by decide +kernel, by decide +kernel⟩
abbrev s_Table___getitem__ : Stmt := inClass (topS 35) 6
abbrev N_Table___getitem__ : List Str := ["self", "at"]
theorem sc_Table___getitem__ : FnScope N_Table___getitem__ ["self", "at"] (defScope s_Table___getitem__) := ⟨rfl, rfl, rfl, by decide +kernel, rfl, by decide +kernel, by decide +kernel⟩
abbrev s_Table___iter__ : Stmt := inClass (topS 35) 7
abbrev N_Table___iter__ : List Str := ["self"]
theorem sc_Table___iter__ : FnScope N_Table___iter__ ["self"] (defScope s_Table___iter__) := ⟨rfl, rfl, rfl, by decide +kernel, rfl, by decide +kernel, by decide +kernel⟩
abbrev s_Table___len__ : Stmt := inClass (topS 35) 8
abbrev N_Table___len__ : List Str := ["self"]
theorem sc_Table___len__ : FnScope N_Table___len__ ["self"] (defScope s_Table___len__) := ⟨rfl, rfl, rfl, by decide +kernel, rfl, by decide +kernel, by decide +kernel⟩
abbrev s_Table___bool__ : Stmt := inClass (topS 35) 9
abbrev N_Table___bool__ : List Str := ["self"]
theorem sc_Table___bool__ : FnScope N_Table___bool__ ["self"] (defScope s_Table___bool__) := ⟨rfl, rfl, rfl, by decide +kernel, rfl, by decide +kernel, by decide +kernel⟩
abbrev s_Table___str__ : Stmt := inClass (topS 35) 10
abbrev N_Table___str__ : List Str := ["self"]
theorem sc_Table___str__ : FnScope N_Table___str__ ["self"] (defScope s_Table___str__) := ⟨rfl, rfl, rfl, by decide +kernel, rfl, by decide +kernel, by decide +kernel⟩
abbrev s_Table___eq__ : Stmt := inClass (topS 35) 11
abbrev N_Table___eq__ : List Str := ["self", "other"]
theorem sc_Table___eq__ : FnScope N_Table___eq__ ["self", "other"] (defScope s_Table___eq__) := ⟨rfl, rfl, rfl, by decide +kernel, rfl, by decide +kernel, by decide +kernel⟩
abbrev s__law_purse : Stmt := topS 37
abbrev N__law_purse : List Str := ["script", "k", "cell", "digits", "seed"]
theorem sc__law_purse : FnScope N__law_purse ["script", "k"] (defScope s__law_purse) := ⟨rfl, rfl, rfl, by decide +kernel, rfl, by decide +kernel, by decide +kernel⟩
abbrev s__law_draw : Stmt := topS 38
abbrev N__law_draw : List Str := ["purse", "size", "seed", "by", "digit"]
theorem sc__law_draw : FnScope N__law_draw ["purse", "size"] (defScope s__law_draw) := ⟨rfl, rfl, rfl, by decide +kernel, rfl, by decide +kernel, by decide +kernel⟩
abbrev s__law_pick : Stmt := topS 39
abbrev N__law_pick : List Str := ["purse", "menu"]
theorem sc__law_pick : FnScope N__law_pick ["purse", "menu"] (defScope s__law_pick) := ⟨rfl, rfl, rfl, by decide +kernel, rfl, by decide +kernel, by decide +kernel⟩
abbrev s__law_sorts : Stmt := topS 40
abbrev N__law_sorts : List Str := ["purse", "menu"]
theorem sc__law_sorts : FnScope N__law_sorts ["purse"] (defScope s__law_sorts) := ⟨rfl, rfl, rfl, by decide +kernel, rfl, by decide +kernel, by decide +kernel⟩
abbrev s__law_caught : Stmt := topS 41
abbrev N__law_caught : List Str := ["act", "e", "some", "bases", "at", "words"]
theorem sc__law_caught : FnScope N__law_caught ["act"] (defScope s__law_caught) := ⟨rfl, rfl, rfl, by decide +kernel, rfl, by decide +kernel, by decide +kernel⟩
abbrev s__law_value : Stmt := topS 42
abbrev N__law_value : List Str := ["purse", "way", "menu", "found", "k"]
theorem sc__law_value : FnScope N__law_value ["purse"] (defScope s__law_value) := ⟨rfl, rfl, rfl, by decide +kernel, rfl, by decide +kernel, by decide +kernel⟩
abbrev s__law_right : Stmt := topS 43
abbrev N__law_right : List Str := ["purse", "good", "turn", "value", "wrong", "due", "lost", "mine"]
theorem sc__law_right : FnScope N__law_right ["purse"] (defScope s__law_right) := ⟨rfl, rfl, rfl, by decide +kernel, rfl, by decide +kernel, by decide +kernel⟩
abbrev s_law : Stmt := topS 44
abbrev N_law : List Str := ["script", "k"]
theorem sc_law : FnScope N_law ["script"] (defScope s_law) := ⟨rfl, rfl, rfl, by decide +kernel, rfl, by decide +kernel, by decide +kernel⟩
end T
namespace T
open PySem PySem.Spec PyProof.Rows L2 XB
section
variable {P : Program} {w : World} {K : PySem.W.Frag} {mg : Str → Option Value} {base : Heap}
/-! ### _law_purse -/
def spPurse (K : PySem.W.Frag) : Sp := fun vs H Q _ => ∃ (a : Addr) (ns : List Int) (k : Int), vs = [.ref a, .int k] ∧ SqL K H a (ns.map V.int) ∧ 0 ≤ k ∧ k < 2 ^ 20 ∧ ns.length ≤ 1000 ∧ ∀ p H', Same H H' → H p = none → Purse H' p → Q (.ref p) H'
theorem c_purse (D : At K mg "_law_purse" s__law_purse ["script", "k"]) (B : Bl mg) : C8.Cal P w K mg base 1 "_law_purse" (spPurse K) [] := by
  refine cal_of D sc__law_purse (fun vs H Q E h => ?_) (fun f cdv A outer s H vs Q E hr h => ?_)
  · obtain ⟨a, ns, k, rfl, _⟩ := h
    rfl
  · obtain ⟨a, ns, k, rfl, hS, k0, k1, hl, q⟩ := h
    refine ⟨_, pss_cons (ps_if (pt_cmpR op_lt (pv 1) (pe_callB call_len_seq (by rfl) B.len PySem.boot_len (pa_cons (pv 0) pa_nil)) (nomark _))
        (pss_cons (ps_set (i := 2) sc__law_purse.nd rfl (.inl rfl) (pe_ix ix_list (pv 0) (pv 1) (fun _ _ => rfl)))
        (pss_cons (ps_set (i := 3) sc__law_purse.nd rfl (.inl rfl) (pe_ifExp (PW.pt (pw_or (pt_cmpR op_lt (pv 2) pe_int (nomark _)) (pw_or1 (pt_cmpR op_ge (pv 2) (pe_op op_pow pe_int pe_int) (nomark _))))) (pe_callB call_abs (by rfl) B.abs_ (by decide +kernel) (pa_cons (pv 2) pa_nil)) pe_int))
        (pss_one (ps_ret (pe_lst (pa_cons (pv 3) (pa_cons (pe_op op_mod (pe_callTy call_int1 (by rfl) B.int_ (by decide +kernel) (pa_cons (pe_op op_add (pe_op op_add (pe_op op_mul (pv 2) pe_int) (pe_op op_mul pe_int (pv 1))) pe_int) pa_nil)) pe_int) (pa_cons pe_int pa_nil)))))))) pss_nil)
      (pss_cons (ps_set (i := 4) sc__law_purse.nd rfl (.inl rfl) (pe_op op_add (pe_op op_mul pe_int (pv 1)) pe_int))
      (pss_cons (ps_for PassesOwn.never rfl (pi_list (pe_slice sl_list (pv 0) po_none (po_some pe_int))) (pg_name (i := 2) sc__law_purse.nd rfl (.inl rfl))
        (pss_one (ps_set (i := 4) sc__law_purse.nd rfl (.inl rfl) (pe_op op_mod (pe_callTy call_int1 (by rfl) B.int_ (by decide +kernel) (pa_cons (pe_op op_add (pe_op op_mul (pv 4) pe_int) (pv 2)) pa_nil)) pe_int))))
      (pss_one (ps_ret (pe_lst (pa_cons pe_int (pa_cons (pv 4) (pa_cons pe_int pa_nil)))))))), ?_⟩
    refine ⟨_, rfl, _, rfl, a, _, rfl, .inl hS, k, _, rfl, rfl, _, rfl, ite2 (fun e => ?_) (fun e => ?_)⟩
    · have hk : k.toNat < ns.length := by
        have z := of_decide_eq_true e
        rw [List.length_map] at z
        omega
      have g : (ns.map V.int)[k.toNat]? = some (.int ns[k.toNat]) := by
        rw [List.getElem?_map, List.getElem?_eq_getElem hk]
        rfl
      refine ⟨_, rfl, _, rfl, a, _, k, _, rfl, rfl, hS, at_of (by omega) g, ?_⟩
      generalize ns[k.toNat] = c
      have last : ∀ dg : Int, (tRet (tLst (tCons (tVar 3) (tCons (tOp (rI (fun _ j => 0 < j) fun i j => .int (i % j)) (tCB (fun xs H Q => (∃ i, xs = [V.int i] ∧ Q (V.int i) H) ∨ ∃ k, xs = [V.bl k] ∧ Q (V.int (if k = true then 1 else 0)) H)
          (tCons (tOp (rI0 fun i j => V.int (i + j)) (tOp (rI0 fun i j => V.int (i + j)) (tOp (rI CMul fun i j => V.int (i * j)) (tVar 2) (tC (V.int 39373))) (tOp (rI CMul fun i j => V.int (i * j)) (tC (V.int 104723)) (tVar 1))) (tC (V.int 17))) tNil)) (tC (V.int 2147483629))) (tCons (tC (V.int 0)) tNil)))))
          { nx := fun _ _ => True, rt := Q } [some (.ref a), some (.int k), some (.int c), some (.int dg), none] H := fun dg => by
        refine ⟨_, rfl, _, rfl, _, _, rfl, rfl, .inr ⟨by decide, by decide⟩, _, rfl, _, _, rfl, rfl, .inl ⟨by decide, by decide⟩, _, _, rfl, rfl, _, _, rfl, rfl, .inl ⟨_, rfl, _, _, rfl, rfl, (by show (0 : Int) < 2147483629; decide), (by show 3 ≤ sizeLine; decide), fun p hp => ?_⟩⟩
        exact q p _ (Same.new (Same.refl H) hp) hp ⟨_, _, _, upd_same⟩
      refine ⟨_, rfl, _, _, rfl, rfl, _, rfl, ite2 (fun e1 => ?_) (fun e1 => ?_)⟩
      · exact ⟨_, rfl, _, rfl, last _⟩
      · refine ⟨_, rfl, _, _, rfl, rfl, ⟨by decide, by decide, by decide⟩, _, _, rfl, rfl, _, rfl, ite2 (fun e2 => ?_) (fun e2 => ?_)⟩
        · exact ⟨_, rfl, _, rfl, last _⟩
        · exact last _
    · refine ⟨_, rfl, _, _, rfl, rfl, .inl ⟨by decide, by decide⟩, _, _, rfl, rfl, ?_⟩
      refine ⟨_, rfl, 4, rfl, a, _, rfl, hS, fun c nc => ?_⟩
      have sm : Same H (upd H c (.lst (cutV (ns.map V.int) none (some 4)))) := Same.new (Same.refl H) nc
      refine ⟨c, rfl, ⟨_, .inl (.inl upd_same)⟩, for_list (K := K) (a := c) (xs := cutV (ns.map V.int) none (some 4))
        (fun i σ H' => ∃ (z : Int) (v : Option V), σ = [some (.ref a), some (.int k), v, none, some (.int z)] ∧ H' = upd H c (.lst (cutV (ns.map V.int) none (some 4)))) ⟨_, none, rfl, rfl⟩ (fun i σ H' _ ⟨_, _, _, e⟩ => by rw [e]; exact .inl (.inl upd_same)) ?_ ?_⟩
      · rintro i y σ H' hi ⟨z, v, rfl, rfl⟩
        obtain ⟨u, rfl⟩ : ∃ u, y = V.int u := by
          have m : y ∈ ns.map V.int := List.mem_of_mem_drop (List.mem_of_mem_take (List.mem_of_getElem? hi))
          obtain ⟨u, _, e⟩ := List.mem_map.mp m
          exact ⟨u, e.symm⟩
        exact ⟨_, rfl, _, _, rfl, rfl, .inr ⟨by decide, by decide⟩, _, rfl, _, _, rfl, rfl, .inl ⟨_, rfl, _, _, rfl, rfl, (by show (0 : Int) < 2147483587; decide), _, _, rfl, rfl⟩⟩
      · rintro σ H' ⟨z, v, rfl, rfl⟩
        exact ⟨_, rfl, (by show 3 ≤ sizeLine; decide), fun p hp => q p _ (Same.new sm hp) (sm.free hp) ⟨_, _, _, upd_same⟩⟩
/-! ### _law_draw -/
theorem short_div {d n : Int} (h0 : 0 < n) (h1 : n < 2 ^ 62) : Builtin.divisionGoesByPylong d n = false := by
  have a : n.natAbs < 2 ^ 62 := by omega
  have b : n.natAbs ≠ 0 := by omega
  have l : n.natAbs.log2 < 62 := (Nat.log2_lt b).mpr a
  show (decide ((if n == 0 then 0 else n.natAbs.log2 / 30 + 1) > 300) && decide ((if d == 0 then 0 else d.natAbs.log2 / 30 + 1) > (if n == 0 then 0 else n.natAbs.log2 / 30 + 1) + 150)) = false
  rw [if_neg (show ¬ (n == 0) = true by simpa using (show n ≠ 0 by omega)), decide_eq_false (show ¬ (n.natAbs.log2 / 30 + 1 > 300) by omega), Bool.false_and]
def spDraw : Sp := fun vs H Q _ => ∃ (p : Addr) (n : Int), vs = [.ref p, .int n] ∧ Purse H p ∧ 0 < n ∧ n < 2 ^ 62 ∧ ∀ i H', 0 ≤ i → i < n → Purse H' p → Chg p H H' → Q (.int i) H'
theorem c_draw (D : At K mg "_law_draw" s__law_draw ["purse", "size"]) (B : Bl mg) : C8.Cal P w K mg base 1 "_law_draw" spDraw [] := by
  refine cal_of D sc__law_draw (fun vs H Q E h => ?_) (fun f cdv A outer s H vs Q E hr h => ?_)
  · obtain ⟨a, k, rfl, _⟩ := h
    rfl
  · obtain ⟨p, n, rfl, ⟨d, z, c, hp⟩, n0, n1, q⟩ := h
    refine ⟨_, pss_cons (ps_par (i := 2) (j := 3) (by rfl) sc__law_draw.nd rfl rfl (by decide) rfl rfl (pa_cons (pe_ix ix_list (pv 0) pe_int (fun _ _ => rfl)) (pa_cons (pe_op op_add (pe_op op_mod (pe_callTy call_int1 (by rfl) B.int_ (by decide +kernel) (pa_cons (pe_ix ix_list (pv 0) pe_int (fun _ _ => rfl)) pa_nil)) pe_int) pe_int) pa_nil)) (by rfl))
      (pss_cons (ps_asg (pe_op op_add (pe_ix ix_list (pv 0) pe_int (fun _ _ => rfl)) pe_int) (pg_sub (pv 0) pe_int set_list))
      (pss_cons (ps_asg (pe_op op_mod (pe_callTy call_int1 (by rfl) B.int_ (by decide +kernel) (pa_cons (pe_op op_add (pe_op op_add (pe_op op_mul (pv 2) (pv 3)) (pe_op op_mul pe_int (pe_ix ix_list (pv 0) pe_int (fun _ _ => rfl)))) pe_int) pa_nil)) pe_int) (pg_sub (pv 0) pe_int set_list))
      (pss_cons (ps_if (pt_cmpR op_gt (pe_ix ix_list (pv 0) pe_int (fun _ _ => rfl)) pe_int (nomark _))
        (pss_cons (ps_asg (pe_callB call_divmodW (by rfl) B.divmod (by decide +kernel) (pa_cons (pe_ix ix_list (pv 0) pe_int (fun _ _ => rfl)) (pa_cons (pv 1) pa_nil))) (pg_tup (by rfl) (pgs_cons (pg_sub (pv 0) pe_int set_list) (pgs_cons (pg_name (i := 4) sc__law_draw.nd rfl (.inl rfl)) pgs_nil))))
          (pss_one (ps_ret (pv 4)))) pss_nil)
      (pss_one (ps_ret (pe_op op_modN (pe_callTy call_int1 (by rfl) B.int_ (by decide +kernel) (pa_cons (pe_op op_fdiv (pe_ix ix_list (pv 0) pe_int (fun _ _ => rfl)) pe_int) pa_nil)) (pv 1))))))), ?_⟩
    refine ⟨_, rfl, p, _, 1, _, rfl, rfl, SqL.of hp, atI_nat (j := 1) rfl, _, rfl, p, _, 1, _, rfl, rfl, SqL.of hp, atI_nat (j := 1) rfl, .inl ⟨_, rfl, _, _, rfl, rfl, (by show (0 : Int) < 40009; decide), _, _, rfl, rfl, _, _, rfl, ?_⟩⟩
    have b0 : 0 ≤ z % 40009 := Int.emod_nonneg _ (by decide)
    have b1 : z % 40009 < 40009 := Int.emod_lt_of_pos _ (by decide)
    refine ⟨_, rfl, p, _, 2, _, rfl, rfl, SqL.of hp, atI_nat (j := 2) rfl, _, _, rfl, rfl, _, rfl, p, _, 2, 2, rfl, rfl, hp, rfl, ?_⟩
    refine ⟨_, rfl, _, rfl, _, _, rfl, rfl, .inr ⟨by omega, by omega⟩, _, rfl, p, _, 2, _, rfl, rfl, SqL.of upd_same, atI_nat (j := 2) rfl, _, _, rfl, rfl, .inl ⟨by decide, by decide⟩, _, _, rfl, rfl, _, _, rfl, rfl, .inl ⟨_, rfl, _, _, rfl, rfl, (by show (0 : Int) < 2147483629; decide), _, rfl, p, _, 1, 1, rfl, rfl, upd_same, rfl, ?_⟩⟩
    have ch : ∀ o u, Chg p H (upd (upd H p o) p u) := fun o u => (Chg.refl p H).at.at
    refine ⟨_, rfl, p, _, 0, _, rfl, rfl, SqL.of upd_same, atI_nat (j := 0) rfl, _, _, rfl, rfl, _, rfl, ite2 (fun _ => ?_) (fun _ => ?_)⟩
    · refine ⟨_, rfl, p, _, 0, _, rfl, rfl, SqL.of upd_same, atI_nat (j := 0) rfl, _, rfl, _, n, rfl, ⟨n0, ?_⟩, fun t ht => ?_⟩
      · exact short_div n0 n1
      · have nt : p ≠ t := ne_of_none upd_same ht
        refine ⟨t, _, rfl, .inl (.inl upd_same), rfl, _, _, rfl, _, rfl, p, _, 0, 0, rfl, rfl, (by rw [upd_ne nt]; exact upd_same), rfl, _, _, rfl, rfl, ?_⟩
        refine ⟨_, rfl, q _ _ (Int.emod_nonneg _ (by omega)) (Int.emod_lt_of_pos _ n0) ⟨_, _, _, upd_same⟩ ?_⟩
        exact (Chg.new (ch _ _) ht).at
    · refine ⟨_, rfl, p, _, 1, _, rfl, rfl, SqL.of upd_same, atI_nat (j := 1) rfl, _, _, rfl, rfl, ⟨by decide, by decide⟩, .inl ⟨_, rfl, _, rfl, _, _, rfl, rfl, (by omega), ?_⟩⟩
      refine q _ _ ?_ ?_ ⟨_, _, _, upd_same⟩ (ch _ _)
      · rw [Int.fmod_eq_emod_of_nonneg _ (by omega)]
        exact Int.emod_nonneg _ (by omega)
      · rw [Int.fmod_eq_emod_of_nonneg _ (by omega)]
        exact Int.emod_lt_of_pos _ n0
/-! ### _law_pick -/
def spPick (K : PySem.W.Frag) : Sp := fun vs H Q _ => ∃ (p : Addr) (m : V), vs = [.ref p, m] ∧ Purse H p ∧
  ((∃ (a : Addr) (xs : List V), m = .ref a ∧ a ≠ p ∧ SqL K H a xs ∧ xs ≠ [] ∧ xs.length ≤ 1000 ∧ ∀ x ∈ xs, ∀ H', Purse H' p → Chg p H H' → Q x H') ∨
   ∃ z : Str, m = .str z ∧ 0 < z.length ∧ z.length ≤ 1000 ∧ ∀ c ∈ z.cps.toList, ∀ H', Purse H' p → Chg p H H' → Q (.str ⟨#[c]⟩) H')
theorem c_pick (D : At K mg "_law_pick" s__law_pick ["purse", "menu"]) (B : Bl mg) (Cd : C8.Cal P w K mg base 1 "_law_draw" spDraw []) : C8.Cal P w K mg base 2 "_law_pick" (spPick K) [] := by
  refine cal_of D sc__law_pick (fun vs H Q E h => ?_) (fun f cdv A outer s H vs Q E hr h => ?_)
  · obtain ⟨a, k, rfl, _⟩ := h
    rfl
  · obtain ⟨p, m, rfl, hp, h⟩ := h
    refine ⟨_, pss_one (ps_ret (pe_ix ix_seq (pv 1) (C8.pe_c Cd hr (by decide) (by rfl) (pa_cons (pv 0) (pa_cons (pe_callB call_len (by rfl) B.len (by decide +kernel) (pa_cons (pv 1) pa_nil)) pa_nil))) (fun _ _ => rfl))), ?_⟩
    rcases h with ⟨a, xs, rfl, ne, hS, hne, hl, q⟩ | ⟨z, rfl, z0, z1, q⟩
    · have l0 : 0 < xs.length := List.length_pos_iff.mpr hne
      refine ⟨_, rfl, _, rfl, _, rfl, _, xs.length, rfl, .inl ⟨_, hS, rfl⟩, p, _, rfl, hp, by omega, by omega, fun i H' i0 i1 hp' ch => ?_⟩
      have hi : i.toNat < xs.length := by omega
      exact .inl ⟨a, xs, i, xs[i.toNat], rfl, rfl, ch.seq ne hS, at_of (j := i.toNat) (by omega) (List.getElem?_eq_getElem hi), q _ (List.getElem_mem hi) H' hp' ch⟩
    · refine ⟨_, rfl, _, rfl, _, rfl, _, z.length, rfl, ⟨Nat.le_trans z1 (by rw [sizeLine_eq]; omega), rfl⟩, p, _, rfl, hp, by omega, by omega, fun i H' i0 i1 hp' ch => ?_⟩
      have hz : z.cps.toList.length = z.length := Array.length_toList
      have hi : i.toNat < z.cps.toList.length := by omega
      exact .inr (.inr ⟨z, i, z.cps.toList[i.toNat], rfl, rfl, Nat.le_trans z1 (by rw [sizeLine_eq]; omega), (by have e := atI_nat (xs := z.cps.toList) (j := i.toNat) (List.getElem?_eq_getElem hi); rwa [show ((i.toNat : Nat) : Int) = i by omega] at e), q _ (List.getElem_mem hi) H' hp' ch⟩)
/-! ### _law_sorts -/
def kinds7 : List (List Str) := [["put"], ["out"], ["set"], ["put", "out"], ["put", "set"], ["out", "set"], ["put", "out", "set"]]
/-- one of the seven lists of kinds stands at l -/
def KL (H : Hp) (p l : Addr) : Prop := ∃ ks, ks ∈ kinds7 ∧ H l = some (.lst (sl ks)) ∧ l ≠ p
theorem KL.new {H : Hp} {p l q : Addr} {o : HO} (h : KL H p l) (n : H q = none) : KL (upd H q o) p l := by
  obtain ⟨ks, a, b, c⟩ := h
  exact ⟨ks, a, by rw [upd_ne (ne_of_none b n)]; exact b, c⟩
theorem KL.chg {H H' : Hp} {p l : Addr} (h : KL H p l) (c : Chg p H H') : KL H' p l := by
  obtain ⟨ks, a, b, n⟩ := h
  exact ⟨ks, a, c _ _ n b, n⟩
theorem KL.mk {H : Hp} {p l : Addr} (ks : List Str) (m : ks ∈ kinds7) (hp : Purse H p) (n : H l = none) : KL (upd H l (.lst (sl ks))) p l := ⟨ks, m, upd_same, (hp.ne n).symm⟩
def spSorts : Sp := fun vs H Q _ => ∃ p, vs = [.ref p] ∧ Purse H p ∧ ∀ l ks H', ks ∈ kinds7 → H' l = some (.lst (sl ks)) → l ≠ p → Purse H' p → Chg p H H' → Q (.ref l) H'
theorem c_sorts (D : At K mg "_law_sorts" s__law_sorts ["purse"]) (B : Bl mg) (Cp : C8.Cal P w K mg base 2 "_law_pick" (spPick K) []) : C8.Cal P w K mg base 3 "_law_sorts" spSorts [] := by
  refine cal_of D sc__law_sorts (fun vs H Q E h => ?_) (fun f cdv A outer s H vs Q E hr h => ?_)
  · obtain ⟨a, rfl, _⟩ := h
    rfl
  · obtain ⟨p, rfl, hp, q⟩ := h
    refine ⟨_, pss_cons (ps_set (i := 1) sc__law_sorts.nd rfl (.inl rfl) (pe_lst (pa_cons (pe_lst (pa_cons pe_str pa_nil)) (pa_cons (pe_lst (pa_cons pe_str pa_nil)) (pa_cons (pe_lst (pa_cons pe_str pa_nil)) (pa_cons (pe_lst (pa_cons pe_str (pa_cons pe_str pa_nil)))
        (pa_cons (pe_lst (pa_cons pe_str (pa_cons pe_str pa_nil))) (pa_cons (pe_lst (pa_cons pe_str (pa_cons pe_str pa_nil))) (pa_cons (pe_lst (pa_cons pe_str (pa_cons pe_str (pa_cons pe_str pa_nil)))) pa_nil)))))))))
      (pss_one (ps_ret (C8.pe_c Cp hr (by decide) (by rfl) (pa_cons (pv 0) (pa_cons (pe_op op_cat (pv 1) (pe_op op_rep (pe_lst (pa_cons (pe_ix ix_list (pv 1) pe_int (fun _ _ => rfl)) pa_nil)) pe_int)) pa_nil))))), ?_⟩
    have step : ∀ {H1 : Hp} {ls : List Addr} (ks : List Str) {l : Addr}, ks ∈ kinds7 → (Purse H1 p ∧ Chg p H H1 ∧ ∀ a ∈ ls, KL H1 p a) → H1 l = none → Purse (upd H1 l (.lst (sl ks))) p ∧ Chg p H (upd H1 l (.lst (sl ks))) ∧ ∀ a ∈ ls ++ [l], KL (upd H1 l (.lst (sl ks))) p a := fun {H1 ls} ks {l} m ⟨h1, h2, h3⟩ n => by
      refine ⟨h1.new n, h2.new n, fun a ha => ?_⟩
      rcases List.mem_append.mp ha with z | z
      · exact (h3 a z).new n
      · rw [List.mem_singleton.mp z]
        exact KL.mk ks m h1 n
    refine ⟨by decide, fun l0 n0 => ?_⟩
    have s1 := step (ls := []) ["put"] (by decide) ⟨hp, Chg.refl p H, fun _ z => by cases z⟩ n0
    refine ⟨by decide, fun l1 n1 => ?_⟩
    have s2 := step ["out"] (by decide) s1 n1
    refine ⟨by decide, fun l2 n2 => ?_⟩
    have s3 := step ["set"] (by decide) s2 n2
    refine ⟨by decide, fun l3 n3 => ?_⟩
    have s4 := step ["put", "out"] (by decide) s3 n3
    refine ⟨by decide, fun l4 n4 => ?_⟩
    have s5 := step ["put", "set"] (by decide) s4 n4
    refine ⟨by decide, fun l5 n5 => ?_⟩
    have s6 := step ["out", "set"] (by decide) s5 n5
    refine ⟨by decide, fun l6 n6 => ?_⟩
    have s7 := step ["put", "out", "set"] (by decide) s6 n6
    refine ⟨by show 7 ≤ sizeLine; decide, fun m nm => ?_⟩
    clear s1 s2 s3 s4 s5 s6
    simp only [sl, List.map_cons, List.map_nil] at s7
    generalize upd (upd (upd (upd (upd (upd (upd H l0 _) l1 _) l2 _) l3 _) l4 _) l5 _) l6 _ = G at s7 nm ⊢
    obtain ⟨hpG, chG, kl⟩ := s7
    have np := (hpG.ne nm).symm
    have hpM := hpG.new (o := .lst [.ref l0, .ref l1, .ref l2, .ref l3, .ref l4, .ref l5, .ref l6]) nm
    have chM := chG.new (o := .lst [.ref l0, .ref l1, .ref l2, .ref l3, .ref l4, .ref l5, .ref l6]) nm
    have klM : ∀ a ∈ [l0, l1, l2, l3, l4, l5, l6], KL (upd G m (.lst [.ref l0, .ref l1, .ref l2, .ref l3, .ref l4, .ref l5, .ref l6])) p a := fun a ha => (kl a ha).new nm
    have em : (upd G m (.lst [.ref l0, .ref l1, .ref l2, .ref l3, .ref l4, .ref l5, .ref l6])) m = some (.lst [.ref l0, .ref l1, .ref l2, .ref l3, .ref l4, .ref l5, .ref l6]) := upd_same
    generalize upd G m _ = M at hpM chM klM em ⊢
    -- menu + [menu[6]] * 4
    refine ⟨_, rfl, _, rfl, _, rfl, m, _, 6, _, rfl, rfl, SqL.of em, atI_nat (j := 6) rfl, (by show 1 ≤ sizeLine; decide), fun u nu => ?_⟩
    refine ⟨u, 4, _, rfl, rfl, upd_same, by decide, by decide, (by show 4 ≤ sizeLine; decide), fun v nv => ?_⟩
    change upd M u (.lst [.ref l6]) v = none at nv
    show ∃ l b xs zs, _ = V.ref l ∧ _ = V.ref b ∧ (upd (upd M u (.lst [.ref l6])) v (.lst [.ref l6, .ref l6, .ref l6, .ref l6])) l = some (.lst xs) ∧ _
    have emu := kp (u := .lst [.ref l6, .ref l6, .ref l6, .ref l6]) (kp (u := .lst [.ref l6]) em nu) nv
    refine ⟨m, v, _, _, rfl, rfl, emu, upd_same, (by show 11 ≤ sizeLine; decide), fun x nx => ?_⟩
    have hpV := (hpM.new (o := .lst [.ref l6]) nu).new (o := .lst [.ref l6, .ref l6, .ref l6, .ref l6]) nv
    have chV := (chM.new (o := .lst [.ref l6]) nu).new (o := .lst [.ref l6, .ref l6, .ref l6, .ref l6]) nv
    have klV : ∀ a ∈ [l0, l1, l2, l3, l4, l5, l6], KL (upd (upd M u (.lst [.ref l6])) v (.lst [.ref l6, .ref l6, .ref l6, .ref l6])) p a := fun a ha => ((klM a ha).new nu).new nv
    refine ⟨p, _, rfl, hpV.new nx, .inl ⟨x, _, rfl, (hpV.ne nx).symm, SqL.of upd_same, by simp, (by show 11 ≤ 1000; decide), fun y hy H' hp' ch' => ?_⟩⟩
    obtain ⟨a, ha, rfl⟩ : ∃ a ∈ [l0, l1, l2, l3, l4, l5, l6], y = V.ref a := by
      change y ∈ ([.ref l0, .ref l1, .ref l2, .ref l3, .ref l4, .ref l5, .ref l6] ++ [.ref l6, .ref l6, .ref l6, .ref l6] : List V) at hy
      simp only [List.mem_append, List.mem_cons, List.not_mem_nil, or_false] at hy
      rcases hy with (rfl | rfl | rfl | rfl | rfl | rfl | rfl) | (rfl | rfl | rfl | rfl) <;> exact ⟨_, by simp, rfl⟩
    obtain ⟨ks, k1, k2, k3⟩ := ((klV a ha).new nx).chg ch'
    exact q a ks H' k1 k2 k3 hp' ((chV.new nx).trans ch')
end
end T
/-! Own: more rules for terms whose heap only grows. -/
namespace XB
open PySem PySem.Spec PyProof.Rows L2 Evl
section
variable {K : PySem.W.Frag} {σ : L2.St} {H : Hp} {t : TT} {ta tb : TE} {xs ys : List V}
theorem el_if {b : Bool} (h : EvT t σ H b) (h1 : b = true → EvL ta σ H xs) (h2 : b = false → EvL tb σ H xs) : EvL (tIf t ta tb) σ H xs := fun H1 e Q q => h H1 e _ fun H2 e2 => by
  cases b with
  | true => exact iteT ((h1 rfl) H2 (e.trans e2) Q fun p H3 n3 e3 h3 => q p H3 (fresh_back e2 n3) (e2.trans e3) h3)
  | false => exact iteF ((h2 rfl) H2 (e.trans e2) Q fun p H3 n3 e3 h3 => q p H3 (fresh_back e2 n3) (e2.trans e3) h3)
theorem el_cat (ha : EvL ta σ H xs) (hb : EvL tb σ H ys) (hz : xs.length + ys.length ≤ 100000) : EvL (tOp rCat ta tb) σ H (xs ++ ys) := fun H1 e Q q =>
  ha H1 e _ fun p H2 n2 e2 h2 => hb H2 (e.trans e2) _ fun r H3 n3 e3 h3 =>
    ⟨p, r, xs, ys, rfl, rfl, e3 _ _ h2, h3, sz_of hz, fun l nl => q l _ (fresh_back (e2.trans e3) nl) ((e2.trans e3).trans (Ex.new nl)) upd_same⟩
theorem el_is {zs : List V} (h : EvL ta σ H xs) (e : xs = zs) : EvL ta σ H zs := e ▸ h
theorem el_at {p : Addr} (h : Ev ta σ H (.ref p)) : Ev ta σ H (.ref p) := h
theorem flat_sl (xs : List Str) : (sl xs).all flatV = true := by
  induction xs with
  | nil => rfl
  | cons x r ih => exact ih
theorem eqV_str (x y : Str) : eqV (.str y) (.str x) = decide (y = x) := by
  show (y == x) = decide (y = x)
  by_cases h : y = x
  · rw [decide_eq_true h]; exact beq_iff_eq.mpr h
  · rw [decide_eq_false h]; exact Bool.eq_false_iff.mpr fun z => h (beq_iff_eq.mp z)
theorem inV_sl (x : Str) (xs : List Str) : inV (.str x) (sl xs) = decide (x ∈ xs) := by
  induction xs with
  | nil => rfl
  | cons y r ih =>
    show (eqV (.str y) (.str x) || inV (.str x) (sl r)) = _
    rw [ih, eqV_str]
    by_cases h : y = x
    · rw [decide_eq_true h, Bool.true_or, h]
      exact (decide_eq_true (List.mem_cons_self)).symm
    · rw [decide_eq_false h, Bool.false_or]
      exact decide_eq_decide.mpr ⟨fun m => List.mem_cons_of_mem _ m, fun m => (List.mem_cons.mp m).elim (fun z => absurd z.symm h) id⟩
/-- a text in a list, in a tuple, of texts -/
theorem ev_inL {x : Str} {a : Addr} {ws : List Str} (hx : Ev ta σ H (.str x)) (ha : Ev tb σ H (.ref a)) (h : SqL K H a (sl ws)) : Ev (tOp (rIn K false) ta tb) σ H (.bl (decide (x ∈ ws))) :=
  ev_is (ev_op hx ha (rv_isL h rfl (flat_sl ws))) (by rw [inV_sl])
theorem ev_inT {x : Str} {a : Addr} {ws : List Str} (hx : Ev ta σ H (.str x)) (ha : Ev tb σ H (.ref a)) (h : SqT K H a (sl ws)) : Ev (tOp (rIn K false) ta tb) σ H (.bl (decide (x ∈ ws))) :=
  ev_is (ev_op hx ha (rv_isT h rfl (flat_sl ws))) (by rw [inV_sl])
theorem ev_eqS {x y : Str} (hx : Ev ta σ H (.str x)) (hy : Ev tb σ H (.str y)) : Ev (tOp rEq ta tb) σ H (.bl (decide (x = y))) :=
  ev_is (ev_op hx hy (rv_eq rfl)) (by
    by_cases h : x = y
    · rw [decide_eq_true h, h, decide_eq_true rfl]
    · rw [decide_eq_false h, decide_eq_false fun z => h (by injection z)])
theorem len_sl (xs : List Str) : (sl xs).length = xs.length := List.length_map _
theorem sl_cat (xs ys : List Str) : sl xs ++ sl ys = sl (xs ++ ys) := (List.map_append).symm
theorem at_sl {H : Hp} {a : Addr} {xs ys zs : List Str} (h : H a = some (.lst (sl xs ++ sl ys))) (e : xs ++ ys = zs) : H a = some (.lst (sl zs)) := by rw [h, sl_cat, e]
/-- joins and cuts -/
def rJoin (K : PySem.W.Frag) : V → List V → Hp → VK → Prop := fun x xs H Q => ∃ a p, ∃ ys : List Str, x = .str a ∧ xs = [.ref p] ∧ (SqL K H p (ys.map V.str) ∨ SqT K H p (ys.map V.str)) ∧
  (ys.map (·.length)).sum + ys.length * a.length ≤ 16777216 ∧ Q (.str (Txt.join a ys)) H
def rSplit : V → List V → Hp → VK → Prop := fun x xs H Q => ∃ a b, x = .str a ∧ xs = [.str b] ∧ (b.length == 0) = false ∧ a.length + 2 ≤ sizeLine ∧ rNewStrs (Txt.split a b) H Q
theorem ev_join {sep : Str} {ys : List Str} (ho : Ev ta σ H (.str sep)) (he : EvL tb σ H (sl ys)) (hz : (ys.map (·.length)).sum + ys.length * sep.length ≤ 16777216) : Ev (tM1 (rJoin K) ta tb) σ H (.str (Txt.join sep ys)) := fun H1 e Q q =>
  ho H1 e _ fun H2 e2 => ⟨⟨_, rfl⟩, he H2 (e.trans e2) _ fun p H3 n3 e3 h3 => ⟨sep, p, ys, rfl, rfl, .inl (SqL.of h3), hz, q H3 (e2.trans e3)⟩⟩
theorem ev_joinS {sep : Str} {ys : List Str} {p : Addr} (ho : Ev ta σ H (.str sep)) (he : Ev tb σ H (.ref p)) (h : SqL K H p (sl ys) ∨ SqT K H p (sl ys)) (hz : (ys.map (·.length)).sum + ys.length * sep.length ≤ 16777216) : Ev (tM1 (rJoin K) ta tb) σ H (.str (Txt.join sep ys)) := fun H1 e Q q =>
  ho H1 e _ fun H2 e2 => ⟨⟨_, rfl⟩, he H2 (e.trans e2) _ fun H3 e3 => ⟨sep, p, ys, rfl, rfl, h.elim (fun z => .inl (ex_l ((e.trans e2).trans e3) z)) (fun z => .inr (ex_t ((e.trans e2).trans e3) z)), hz, q H3 (e2.trans e3)⟩⟩
theorem el_split {x sep : Str} (ho : Ev ta σ H (.str x)) (he : Ev tb σ H (.str sep)) (h0 : (sep.length == 0) = false) (hz : x.length + 2 ≤ sizeLine) : EvL (tM1 rSplit ta tb) σ H (sl (Txt.split x sep)) := fun H1 e Q q =>
  ho H1 e _ fun H2 e2 => ⟨⟨_, rfl⟩, he H2 (e.trans e2) _ fun H3 e3 => ⟨x, sep, rfl, rfl, h0, hz, fun p n => q p _ (fresh_back (e2.trans e3) n) ((e2.trans e3).trans (Ex.new n)) upd_same⟩⟩
theorem el_catR {b : Addr} (ha : EvL ta σ H xs) (hb : Ev tb σ H (.ref b)) (h : H b = some (.lst ys)) (hz : xs.length + ys.length ≤ 100000) : EvL (tOp rCat ta tb) σ H (xs ++ ys) := fun H1 e Q q =>
  ha H1 e _ fun p H2 n2 e2 h2 => hb H2 (e.trans e2) _ fun H3 e3 =>
    ⟨p, b, xs, ys, rfl, rfl, e3 _ _ h2, e3 _ _ (e2 _ _ (e _ _ h)), sz_of hz, fun l nl => q l _ (fresh_back (e2.trans e3) nl) ((e2.trans e3).trans (Ex.new nl)) upd_same⟩
theorem el_listS {p : Addr} (ha : Ev ta σ H (.ref p)) (h : SqL K H p xs ∨ SqT K H p xs) : EvL (tCB (rListS K) (tCons ta tNil)) σ H xs := fun H1 e Q q =>
  ha H1 e _ fun H2 e2 => ⟨p, xs, rfl, h.elim (fun z => .inl (ex_l (e.trans e2) z)) (fun z => .inr (ex_t (e.trans e2) z)), fun l nl => q l _ (fresh_back e2 nl) (e2.trans (Ex.new nl)) upd_same⟩
theorem ev_dget {d b : Addr} {kvs : List (List Key × V)} {k : List Key} {v : V} (ha : Ev ta σ H (.ref d)) (hb : Ev tb σ H (.ref b)) (hd : Rd H d (.dT kvs)) (ht : H b = some (.tup (k.map kV))) (hv : valV kvs k = some v) : Ev (tDGet ta tb) σ H v := fun H1 e Q q =>
  ha H1 e _ fun H2 e2 => hb H2 (e.trans e2) _ fun H3 e3 => ⟨d, v, rfl, .inr ⟨kvs, k, b, ex_rd ((e.trans e2).trans e3) hd, rfl, e3 _ _ (e2 _ _ (e _ _ ht)), hv.symm⟩, q H3 (e2.trans e3)⟩
theorem valV_at {kvs : List (List Key × V)} : ∀ {i : Nat} {k : List Key} {v : V}, (kvs.map (·.1)).Nodup → kvs[i]? = some (k, v) → valV kvs k = some v := by
  induction kvs with
  | nil => intro i k v _ h; cases h
  | cons p r ih =>
    intro i k v hn h
    rw [List.map_cons, List.nodup_cons] at hn
    cases i with
    | zero =>
      have e : p = (k, v) := by injection h
      rw [valV_pos (by rw [e]), e]
    | succ i =>
      have z := ih hn.2 (show r[i]? = some (k, v) from h)
      have m : k ∈ r.map (·.1) := List.mem_map.mpr ⟨(k, v), List.mem_of_getElem? (show r[i]? = some (k, v) from h), rfl⟩
      rw [valV_neg (fun q => hn.1 (by rw [q]; exact m))]
      exact z
/-- constants in a row -/
theorem ea_str {tr : TA} {x : Str} {vs : List V} (h : EvA tr σ H vs) : EvA (tCons (tC (.str x)) tr) σ H (.str x :: vs) := ea_cons ev_c h
end
end XB
namespace T
open PySem PySem.Spec PyProof.Rows L2 Evl XB
/-! ### cells by their names -/
abbrev Nm := List Key
def nm3 (m i s : Str) : Nm := [.inr m, .inr i, .inr s]
def rels : List Str := ["<", "=", ">"]
def IsCell (ks : List Str) (n : Nm) : Prop := ∃ m i s, m ∈ ks ∧ i ∈ ks ∧ s ∈ rels ∧ n = nm3 m i s
/-- a cell's names stand at v -/
def KeyAt (H : Hp) (ks : List Str) (v : V) : Prop := ∃ a n, v = .ref a ∧ IsCell ks n ∧ H a = some (.tup (n.map kV))
theorem KeyAt.same {H H' : Hp} {ks : List Str} {v : V} (h : KeyAt H ks v) (s : Same H H') : KeyAt H' ks v := by
  obtain ⟨a, n, e, c, t⟩ := h
  exact ⟨a, n, e, c, s _ _ t⟩
section
variable {P : Program} {w : World} {K : PySem.W.Frag} {mg : Str → Option Value} {base : Heap}
/-! ### _law_keys -/
def spKeys (K : PySem.W.Frag) : Sp := fun vs H Q _ => ∃ (a : Addr) (ks : List Str), vs = [.ref a] ∧ SqL K H a (sl ks) ∧ ks.length ≤ 3 ∧ ∀ l xs H', Same H H' → H l = none → H' l = some (.lst xs) → xs.length = 3 * ks.length * ks.length → (∀ x ∈ xs, KeyAt H' ks x) → Q (.ref l) H'
/-! ### _law_shuffled -/
theorem erase_perm {α : Type} : ∀ (l : List α) (i : Nat) (h : i < l.length), (l[i] :: l.eraseIdx i).Perm l
  | [], _, h => absurd h (Nat.not_lt_zero _)
  | x :: r, 0, _ => List.Perm.refl _
  | x :: r, i + 1, h => by
    have h' : i < r.length := Nat.lt_of_succ_lt_succ h
    have z := erase_perm r i h'
    show (r[i]'h' :: x :: r.eraseIdx i).Perm (x :: r)
    exact (List.Perm.swap x (r[i]'h') _).trans (z.cons x)
def spShuf (K : PySem.W.Frag) : Sp := fun vs H Q _ => ∃ (p a : Addr) (xs : List V), vs = [.ref p, .ref a] ∧ Purse H p ∧ SqL K H a xs ∧ a ≠ p ∧ xs.length ≤ 1000 ∧
  ∀ l ys H', Chg p H H' → Purse H' p → H l = none → l ≠ p → H' l = some (.lst ys) → ys.Perm xs → Q (.ref l) H'
/-! ### _law_options -/
def resultsOf (m : Str) (ks : List Str) : List Str := ([("keep" : Str), "up", "down", "stay"] : List Str) ++ (if m = "set" ∧ ("put" : Str) ∈ ks then [("put" : Str)] else [])
def condsOf (m i : Str) : List Str := if m = "out" ∨ i = "out" then ["first"] else ["first", "less", "same", "more"]
/-- options with a condition, and one without -/
def IsOpts (m i : Str) (ks : List Str) (ws : List Str) : Prop := ∃ pre z, ws = pre ++ [z] ∧ pre.length ≤ 4 ∧ (∀ o ∈ pre, ∃ c ∈ condsOf m i, ∃ r ∈ resultsOf m ks, o = c ++ ":" ++ r) ∧ z ∈ resultsOf m ks
def spOpts (K : PySem.W.Frag) : Sp := fun vs H Q _ => ∃ (p a : Addr) (m i : Str) (ks : List Str), vs = [.ref p, .str m, .str i, .ref a] ∧ Purse H p ∧ SqL K H a (sl ks) ∧ a ≠ p ∧
  ∀ l ws H', Chg p H H' → Purse H' p → H l = none → l ≠ p → H' l = some (.lst (sl ws)) → IsOpts m i ks ws → Q (.ref l) H'
end
end T
namespace T
open PySem PySem.Spec PyProof.Rows L2 Evl XB
/-! ### dicts of cells -/
theorem putK_keys {kvs : List (Nm × V)} {k : Nm} {v : V} (h : (kvs.any fun kv => decide (kv.1 = k)) = true) : (putK kvs k v).map (·.1) = kvs.map (·.1) := by
  unfold putK
  rw [if_pos h, List.map_map]
  refine List.map_congr_left fun p _ => ?_
  show (if p.1 = k then (p.1, v) else p).1 = p.1
  split <;> rfl
theorem putK_nd {kvs : List (Nm × V)} {k : Nm} {v : V} (hn : (kvs.map (·.1)).Nodup) : ((putK kvs k v).map (·.1)).Nodup := by
  by_cases h : (kvs.any fun kv => decide (kv.1 = k)) = true
  · rw [putK_keys h]
    exact hn
  · refine nd_putK v hn ?_
    have z := valV_any k kvs
    cases e : valV kvs k with
    | none => rfl
    | some x => rw [e] at z; exact absurd z h
theorem putK_mem {kvs : List (Nm × V)} {k : Nm} {v : V} {q : Nm × V} (h : q ∈ putK kvs k v) : q = (k, v) ∨ q ∈ kvs := by
  unfold putK at h
  split at h
  · obtain ⟨r, hr, rfl⟩ := List.mem_map.mp h
    show (if r.1 = k then (r.1, v) else r) = (k, v) ∨ _
    by_cases e : r.1 = k
    · rw [if_pos e, e]
      exact .inl rfl
    · rw [if_neg e]
      exact .inr hr
  · rcases List.mem_append.mp h with z | z
    · exact .inr z
    · exact .inl (List.mem_singleton.mp z)
/-- a cell with its options -/
def CellAt (H : Hp) (ks : List Str) (q : Nm × V) : Prop := ∃ m i s l ws, m ∈ ks ∧ i ∈ ks ∧ s ∈ rels ∧ q = (nm3 m i s, .ref l) ∧ IsOpts m i ks ws ∧ H l = some (.lst (sl ws))
def CellsAt (H : Hp) (ks : List Str) (kvs : List (Nm × V)) : Prop := (kvs.map (·.1)).Nodup ∧ ∀ q ∈ kvs, CellAt H ks q
theorem KeyAt.chg {H H' : Hp} {p : Addr} {ks : List Str} {v : V} (h : KeyAt H ks v) (hp : Purse H p) (c : Chg p H H') : KeyAt H' ks v := by
  obtain ⟨a, n, e, i, t⟩ := h
  obtain ⟨d, z, w, u⟩ := hp
  exact ⟨a, n, e, i, c _ _ (ne_of t u fun q => by cases q) t⟩
theorem KeyAt.put {H : Hp} {D : Addr} {ks : List Str} {v : V} {kvs kvs' : List (Nm × V)} (h : KeyAt H ks v) (e : H D = some (.dT kvs)) : KeyAt (upd H D (.dT kvs')) ks v := by
  obtain ⟨a, n, u, i, t⟩ := h
  exact ⟨a, n, u, i, kpm t (ne_of t e fun q => by cases q)⟩
theorem CellAt.chg {H H' : Hp} {p : Addr} {ks : List Str} {v : Nm × V} (h : CellAt H ks v) (hp : Purse H p) (c : Chg p H H') : CellAt H' ks v := by
  obtain ⟨m, i, s, l, ws, h1, h2, h3, h4, ho, t⟩ := h
  obtain ⟨d, z, w, u⟩ := hp
  refine ⟨m, i, s, l, ws, h1, h2, h3, h4, ho, c _ _ (ne_of t u fun q => ?_) t⟩
  injection q with q
  cases ws with
  | nil =>
    obtain ⟨pre, z, e, _⟩ := ho
    exact absurd e (by cases pre <;> intro x <;> cases x)
  | cons x r =>
    injection q with q _
    cases q
theorem CellAt.put {H : Hp} {D : Addr} {ks : List Str} {v : Nm × V} {kvs kvs' : List (Nm × V)} (h : CellAt H ks v) (e : H D = some (.dT kvs)) : CellAt (upd H D (.dT kvs')) ks v := by
  obtain ⟨m, i, s, l, ws, h1, h2, h3, h4, ho, t⟩ := h
  exact ⟨m, i, s, l, ws, h1, h2, h3, h4, ho, kpm t (ne_of t e fun q => by cases q)⟩
section
variable {P : Program} {w : World} {K : PySem.W.Frag} {mg : Str → Option Value} {base : Heap}
def spCells (K : PySem.W.Frag) : Sp := fun vs H Q _ => ∃ (p a : Addr) (ks : List Str), vs = [.ref p, .ref a] ∧ Purse H p ∧ SqL K H a (sl ks) ∧ a ≠ p ∧ ks.length ≤ 3 ∧
  ∀ D kvs H', Chg p H H' → Purse H' p → H D = none → D ≠ p → H' D = some (.dT kvs) → CellsAt H' ks kvs → kvs.length ≤ 27 → Q (.ref D) H'
end
end T
namespace T
open PySem PySem.Spec PyProof.Rows L2 Evl XB TL
/-! ### lines -/
/-- a cell: mine, its, relation, the options -/
abbrev Cell := Str × Str × Str × List Str
def partsOf (c : Cell) : List Str := c.1 :: c.2.1 :: c.2.2.1 :: c.2.2.2
def lineOf (c : Cell) : Str := Txt.join " " (partsOf c)
def nmOf (c : Cell) : Nm := nm3 c.1 c.2.1 c.2.2.1
def GoodC (ks : List Str) (c : Cell) : Prop := c.1 ∈ ks ∧ c.2.1 ∈ ks ∧ c.2.2.1 ∈ rels ∧ IsOpts c.1 c.2.1 ks c.2.2.2
structure Cells (ks : List Str) (cs : List Cell) : Prop where
  nd : (cs.map nmOf).Nodup
  good : ∀ c ∈ cs, GoodC ks c
  few : cs.length ≤ 27
theorem cells_of {H : Hp} {ks : List Str} : ∀ {kvs : List (Nm × V)}, (∀ q ∈ kvs, CellAt H ks q) → ∃ cs : List Cell, kvs.map (·.1) = cs.map nmOf ∧ (∀ c ∈ cs, GoodC ks c) ∧ cs.length = kvs.length ∧
    ∀ (i : Nat) (c : Cell), cs[i]? = some c → ∃ l : Addr, kvs[i]? = some (nmOf c, V.ref l) ∧ H l = some (.lst (sl c.2.2.2))
  | [], _ => ⟨[], rfl, (fun _ z => by cases z), rfl, (fun _ _ z => by cases z)⟩
  | q :: r, h => by
    obtain ⟨cs, e, g, l, at_⟩ := cells_of (kvs := r) fun x hx => h x (List.mem_cons_of_mem _ hx)
    obtain ⟨m, i, s, a, ws, h1, h2, h3, rfl, ho, t⟩ := h q List.mem_cons_self
    refine ⟨(m, i, s, ws) :: cs, ?_, ?_, ?_, ?_⟩
    · show _ :: _ = _ :: _
      rw [e]
      rfl
    · intro c hc
      rcases List.mem_cons.mp hc with rfl | z
      · exact ⟨h1, h2, h3, ho⟩
      · exact g c z
    · rw [List.length_cons, List.length_cons, l]
    · intro j c hj
      cases j with
      | zero =>
        cases hj
        exact ⟨a, rfl, t⟩
      | succ j => exact at_ j c hj
/-- what a part is made of -/
def Small (x : Str) : Prop := (x.length ≤ 16 && (tl x).all fun n => decide (33 ≤ n ∧ n ≤ 122 ∧ n ≠ 39 ∧ n ≠ 34 ∧ n ≠ 92)) = true
instance (x : Str) : Decidable (Small x) := by unfold Small; infer_instance
theorem small_ks {ks : List Str} (h : ks ∈ kinds7) : ∀ k ∈ ks, Small k := by
  have all : ∀ ks ∈ kinds7, ∀ k ∈ ks, Small k := by decide +kernel
  exact all ks h
theorem small_rel {s : Str} (h : s ∈ rels) : Small s := by
  have all : ∀ s ∈ rels, Small s := by decide +kernel
  exact all s h
theorem small_res {m : Str} {ks : List Str} : ∀ r ∈ resultsOf m ks, Small r := by
  unfold resultsOf
  split <;> decide +kernel
theorem small_opt {m i : Str} {ks : List Str} : ∀ c ∈ condsOf m i, ∀ r ∈ resultsOf m ks, Small (c ++ ":" ++ r) := by
  unfold condsOf resultsOf
  split <;> split <;> decide +kernel
theorem len7 {ks : List Str} (h : ks ∈ kinds7) : ks.length ≤ 3 := by
  have all : ∀ ks ∈ kinds7, ks.length ≤ 3 := by decide
  exact all ks h
theorem small_ws {m i : Str} {ks ws : List Str} (h : IsOpts m i ks ws) : (∀ p ∈ ws, Small p) ∧ ws.length ≤ 5 := by
  obtain ⟨pre, z, rfl, hl, hp, hz⟩ := h
  refine ⟨fun p hm => ?_, by rw [List.length_append, List.length_singleton]; omega⟩
  rcases List.mem_append.mp hm with x | x
  · obtain ⟨c, hc, r, hr, rfl⟩ := hp p x
    exact small_opt c hc r hr
  · rw [List.mem_singleton.mp x]
    exact small_res z hz
theorem small_parts {ks : List Str} {c : Cell} (h : ks ∈ kinds7) (g : GoodC ks c) : (∀ p ∈ partsOf c, Small p) ∧ (partsOf c).length ≤ 8 := by
  obtain ⟨g1, g2, g3, g4⟩ := g
  obtain ⟨w1, w2⟩ := small_ws g4
  refine ⟨fun p hp => ?_, by show c.2.2.2.length + 1 + 1 + 1 ≤ 8; omega⟩
  rcases List.mem_cons.mp hp with rfl | hp
  · exact small_ks h _ g1
  rcases List.mem_cons.mp hp with rfl | hp
  · exact small_ks h _ g2
  rcases List.mem_cons.mp hp with rfl | hp
  · exact small_rel g3
  · exact w1 p hp
theorem Small.len {x : Str} (h : Small x) : x.length ≤ 16 := by
  unfold Small at h
  rw [Bool.and_eq_true, decide_eq_true_eq] at h
  exact h.1
theorem sum_le {B : Nat} : ∀ {ws : List Str}, (∀ p ∈ ws, p.length ≤ B) → (ws.map (·.length)).sum ≤ ws.length * B
  | [], _ => Nat.zero_le _
  | x :: r, h => by
    have z := sum_le (B := B) (ws := r) fun p hp => h p (List.mem_cons_of_mem _ hp)
    have := h x List.mem_cons_self
    rw [List.map_cons, List.sum_cons, List.length_cons, Nat.succ_mul]
    omega
theorem join_bound {B n : Nat} {ws : List Str} (h : ∀ p ∈ ws, p.length ≤ B) (hn : ws.length ≤ n) (hb : n * B + n ≤ 16777216) {sep : Str} (hs : sep.length = 1) : (ws.map (·.length)).sum + ws.length * sep.length ≤ 16777216 := by
  have z := sum_le h
  have y : ws.length * B ≤ n * B := Nat.mul_le_mul_right _ hn
  rw [hs]
  omega
section
variable {P : Program} {w : World} {K : PySem.W.Frag} {mg : Str → Option Value} {base : Heap}
def spLines : Sp := fun vs H Q _ => ∃ (d : Addr) (ks : List Str) (kvs : List (Nm × V)), vs = [.ref d] ∧ ks ∈ kinds7 ∧ H d = some (.dT kvs) ∧ CellsAt H ks kvs ∧ kvs.length ≤ 27 ∧
  ∀ l cs H', Same H H' → H l = none → H' l = some (.lst (sl (cs.map lineOf))) → Cells ks cs → kvs.map (·.1) = cs.map nmOf → (∀ (i : Nat) (c : Cell), cs[i]? = some c → ∃ a : Addr, kvs[i]? = some (nmOf c, V.ref a) ∧ H a = some (.lst (sl c.2.2.2))) → Q (.ref l) H'
end
end T
/-! Own: terms that give a tuple, new or known; comprehensions over tuples of texts. -/
namespace XB
open PySem PySem.Spec PyProof.Rows L2 Evl
/-- a tuple of xs comes, new or known -/
def EvS (K : PySem.W.Frag) (te : TE) (σ : L2.St) (H : Hp) (xs : List V) : Prop := ∀ H1, Ex H H1 → ∀ Q : VK, (∀ p H2, Ex H1 H2 → SqT K H2 p xs → Q (.ref p) H2) → te σ H1 Q
section
variable {K : PySem.W.Frag} {σ : L2.St} {H : Hp} {t : TT} {ta tb te : TE} {xs ys : List V}
theorem EvS.mono {H' : Hp} (e : Ex H H') (h : EvS K te σ H xs) : EvS K te σ H' xs := fun H1 a Q q => h H1 (e.trans a) Q q
theorem es_at {a : Addr} (h : Ev te σ H (.ref a)) (hx : SqT K H a xs) : EvS K te σ H xs := fun H1 e Q q => h H1 e _ fun H2 e2 => q a H2 e2 (ex_t (e.trans e2) hx)
theorem es_new (h : EvU te σ H xs) : EvS K te σ H xs := fun H1 e Q q => h H1 e _ fun p H2 n e2 hp => q p H2 e2 (st_of hp)
theorem es_is {zs : List V} (h : EvS K ta σ H xs) (e : xs = zs) : EvS K ta σ H zs := e ▸ h
theorem es_if {b : Bool} (h : EvT t σ H b) (h1 : b = true → EvS K ta σ H xs) (h2 : b = false → EvS K tb σ H xs) : EvS K (tIf t ta tb) σ H xs := fun H1 e Q q => h H1 e _ fun H2 e2 => by
  cases b with
  | true => exact iteT ((h1 rfl) H2 (e.trans e2) Q fun p H3 e3 h3 => q p H3 (e2.trans e3) h3)
  | false => exact iteF ((h2 rfl) H2 (e.trans e2) Q fun p H3 e3 h3 => q p H3 (e2.trans e3) h3)
theorem es_cat (ha : EvS K ta σ H xs) (hb : EvS K tb σ H ys) (hn : xs ≠ []) (hz : xs.length + ys.length ≤ 100000) : EvS K (tOp (rCatT K) ta tb) σ H (xs ++ ys) := fun H1 e Q q =>
  ha H1 e _ fun p H2 e2 h2 => hb H2 (e.trans e2) _ fun r H3 e3 h3 => ⟨p, r, xs, ys, rfl, rfl, ex_t e3 h2, h3, hn, sz_of hz, fun z => by
      subst z
      exact q p H3 (e2.trans e3) (by rw [List.append_nil]; exact ex_t e3 h2),
    fun _ l nl => q l _ ((e2.trans e3).trans (Ex.new nl)) (st_of upd_same)⟩
/-- tuple(a list) -/
def rTup (K : PySem.W.Frag) : List V → Hp → VK → Prop := fun xs H Q => ∃ p ys, xs = [.ref p] ∧ ((SqL K H p ys ∧ ∀ l, H l = none → Q (.ref l) (upd H l (.tup ys))) ∨ (SqT K H p ys ∧ Q (.ref p) H))
theorem eu_tuple (ha : EvL ta σ H xs) : EvU (tCB (rTup K) (tCons ta tNil)) σ H xs := fun H1 e Q q =>
  ha H1 e _ fun p H2 n2 e2 h2 => ⟨p, xs, rfl, .inl ⟨SqL.of h2, fun l nl => q l _ (fresh_back e2 nl) (e2.trans (Ex.new nl)) upd_same⟩⟩
theorem eu_tupleS {a : Addr} (ha : Ev ta σ H (.ref a)) (h : SqL K H a xs) : EvU (tCB (rTup K) (tCons ta tNil)) σ H xs := fun H1 e Q q =>
  ha H1 e _ fun H2 e2 => ⟨a, xs, rfl, .inl ⟨ex_l (e.trans e2) h, fun l nl => q l _ (fresh_back e2 nl) (e2.trans (Ex.new nl)) upd_same⟩⟩
theorem el_slN {tl th : TO} {lo hi : Option Int} (h : EvL te σ H xs) (h1 : EvO tl σ H lo) (h2 : EvO th σ H hi) : EvL (tSl (rSlL K) te tl th) σ H (cutV xs lo hi) := fun H1 e Q q =>
  h H1 e _ fun p H2 n2 e2 hp => h1 H2 (e.trans e2) _ fun H3 e3 => h2 H3 ((e.trans e2).trans e3) _ fun H4 e4 =>
    ⟨p, xs, rfl, SqL.of (e4 _ _ (e3 _ _ hp)), fun l nl => q l _ (fresh_back ((e2.trans e3).trans e4) nl) (((e2.trans e3).trans e4).trans (Ex.new nl)) upd_same⟩
theorem eu_slT {a : Addr} {tl th : TO} {lo hi : Option Int} (h : Ev te σ H (.ref a)) (hx : SqT K H a xs) (h1 : EvO tl σ H lo) (h2 : EvO th σ H hi) (hn : ¬ (HT.sIx xs.length 0 lo = 0 ∧ HT.sIx xs.length xs.length hi = xs.length)) : EvU (tSl (rSlT K) te tl th) σ H (cutV xs lo hi) := fun H1 e Q q =>
  h H1 e _ fun H2 e2 => h1 H2 (e.trans e2) _ fun H3 e3 => h2 H3 ((e.trans e2).trans e3) _ fun H4 e4 =>
    ⟨a, xs, rfl, ex_t (((e.trans e2).trans e3).trans e4) hx, hn, fun l nl => q l _ (fresh_back ((e2.trans e3).trans e4) nl) (((e2.trans e3).trans e4).trans (Ex.new nl)) upd_same⟩
theorem ev_lenS {p : Addr} (ha : Ev ta σ H (.ref p)) (h : SqL K H p xs ∨ SqT K H p xs) : Ev (tCB (rLenS K) (tCons ta tNil)) σ H (.int (xs.length : Int)) := fun H1 e Q q =>
  ha H1 e _ fun H2 e2 => ⟨p, xs, rfl, h.elim (fun z => .inl (ex_l (e.trans e2) z)) (fun z => .inr (ex_t (e.trans e2) z)), q H2 e2⟩
theorem ev_ixT {p : Addr} {i : Int} {v : V} (ha : Ev ta σ H (.ref p)) (hb : Ev tb σ H (.int i)) (h : SqT K H p xs) (hi : atI xs i = some v) : Ev (tOp (rIxT K) ta tb) σ H v := ev_op ha hb (rv_ixT h hi)
/-- isinstance(x, a built-in type) -/
theorem ev_isi {x : V} {T U : String} {b : Bool} (ha : Ev ta σ H x) (hx : ∀ H1, Ex H H1 → TyX K H1 x (.type T)) (hk : kitB T U = some b) : Ev (tCB (rIsi K) (tCons ta (tCons (tC (.ty U)) tNil))) σ H (.bl b) := fun H1 e Q q =>
  ha H1 e _ fun H2 e2 => ⟨x, .ty U, .type T, .type U, b, rfl, .ty U, hx H2 (e.trans e2), kit_ty hk, q H2 e2⟩
theorem tyx_str (x : Str) : TyX K H (.str x) (.type "str") := .base (.str x)
theorem tyx_sqt {a : Addr} (h : SqT K H a xs) : TyX K H (.ref a) (.type "tuple") := by
  rcases h with (h | ⟨o, h⟩) | ⟨o, its, n, h, hc, _⟩
  · exact .base (.tup h)
  · exact .fTuple h
  · exact .kTuple h hc
theorem ev_isStr {x : Str} (ha : Ev ta σ H (.str x)) : Ev (tCB (rIsi K) (tCons ta (tCons (tC (.ty "str")) tNil))) σ H (.bl true) := ev_isi ha (fun _ _ => tyx_str x) (by decide +kernel)
theorem ev_isTup {a : Addr} (ha : Ev ta σ H (.ref a)) (h : SqT K H a xs) : Ev (tCB (rIsi K) (tCons ta (tCons (tC (.ty "tuple")) tNil))) σ H (.bl true) := ev_isi ha (fun _ e => tyx_sqt (ex_t e h)) (by decide +kernel)
theorem ev_all {bs : List Bool} (h : EvL ta σ H (bs.map V.bl)) : Ev (tCB (rAll K) (tCons ta tNil)) σ H (.bl (bs.all id)) := fun H1 e Q q =>
  h H1 e _ fun p H2 n2 e2 h2 => ⟨p, bs, rfl, SqL.of h2, q H2 e2⟩
theorem ev_eqD {x y : V} {d d' : PyData} (ha : Ev ta σ H x) (hb : Ev tb σ H y) (hx : ∀ H1, Ex H H1 → Dp K H1 x d) (hy : ∀ H1, Ex H H1 → Dp K H1 y d') (sx : SeqAt.shaped d = true) (sy : SeqAt.shaped d' = true) : Ev (tOp (rEqD K) ta tb) σ H (.bl (PyData.eqv d d')) := fun H1 e Q q =>
  ha H1 e _ fun H2 e2 => hb H2 (e.trans e2) _ fun H3 e3 => ⟨d, d', hx H3 ((e.trans e2).trans e3), hy H3 ((e.trans e2).trans e3), sx, sy, q H3 (e2.trans e3)⟩
theorem dp_sl : ∀ ws : List Str, DpAll K H (sl ws) (ws.map PyData.str)
  | [] => .nil
  | x :: r => .cons (.str x) (dp_sl r)
theorem dp_tup {a : Addr} {ws : List Str} (h : SqT K H a (sl ws)) : Dp K H (.ref a) (.tuple (ws.map PyData.str)) := .tup h (dp_sl ws)
theorem ev_eqT {a : Addr} {ws us : List Str} (ha : Ev ta σ H (.ref a)) (h : SqT K H a (sl ws)) (hb : EvS K tb σ H (sl us)) (sx : SeqAt.shaped (.tuple (ws.map PyData.str)) = true) (sy : SeqAt.shaped (.tuple (us.map PyData.str)) = true) :
    Ev (tOp (rEqD K) ta tb) σ H (.bl (PyData.eqv (.tuple (ws.map PyData.str)) (.tuple (us.map PyData.str)))) := fun H1 e Q q =>
  ha H1 e _ fun H2 e2 => hb H2 (e.trans e2) _ fun p H3 e3 hp => ⟨_, _, dp_tup (ex_t ((e.trans e2).trans e3) h), dp_tup hp, sx, sy, q H3 (e2.trans e3)⟩
theorem es_call {sp : Sp} {dvs vs : List V} {E : XK} {ta : TA} (h : EvA ta σ H vs) (hs : ∀ H1, Ex H H1 → ∀ Q : VK, (∀ p H2, Ex H1 H2 → SqT K H2 p xs → Q (.ref p) H2) → ∀ E : XK, sp (vs ++ dvs) H1 Q E) : EvS K (tCall sp dvs E ta) σ H xs := fun H1 e Q q =>
  h H1 e _ fun H2 e2 => hs H2 (e.trans e2) _ (fun p H3 e3 hp => q p H3 (e2.trans e3) hp) E
variable {D : Ends} {tz : TS}
theorem s_retS (h : EvS K te σ H xs) (k : ∀ p H1, Ex H H1 → SqT K H1 p xs → D.rt (.ref p) H1) : tRet te D σ H := h H (Ex.refl H) _ k
theorem q_asgS {i : Nat} (h : EvS K te σ H xs) (k : ∀ p H1, Ex H H1 → SqT K H1 p xs → tz D (σ.set i (some (.ref p))) H1) : tSeq (tAsg te (gName i)) tz D σ H := h H (Ex.refl H) _ k
/-! ### comprehensions -/
theorem mem_at {ws : List Str} {i : Nat} {x : V} (h : (sl ws)[i]? = some x) : ∃ c, ws[i]? = some c ∧ x = .str c := by
  rw [List.getElem?_map] at h
  cases e : ws[i]? with
  | none => rw [e] at h; cases h
  | some c => rw [e] at h; cases h; exact ⟨c, rfl, rfl⟩
theorem el_lcS {ws : List Str} {tl : TE} {j : Nat} {vs : List Nat} (f : Str → Bool) (v : Str → V) (h : EvS K tl σ H (sl ws)) (hz : ws.length ≤ 40000) (hw : ∀ x, wipe ((wipe σ vs).set j (some x)) vs = wipe σ vs)
    (ht : ∀ c H1, Ex H H1 → c ∈ ws → EvT t ((wipe σ vs).set j (some (.str c))) H1 (f c)) (he : ∀ c H1, Ex H H1 → c ∈ ws → f c = true → Ev te ((wipe σ vs).set j (some (.str c))) H1 (v c)) :
    EvL (tLc (iTup K tl) (gName j) t te vs) σ H ((ws.filter f).map v) := fun H0 e Q q => h H0 e _ fun a H1 e1 hx => ⟨a, rfl, ⟨_, hx⟩, fun D hD =>
  lc_tup (xs := sl ws) (fun i G => Ex H1 G ∧ G D = some (.lst (((ws.take i).filter f).map v))) ⟨Ex.new hD, upd_same⟩ (fun i G _ p => ex_t p.1 hx) (fun i x G hi p => ⟨hw x, by
    obtain ⟨c, hc, rfl⟩ := mem_at hi
    have m := List.mem_of_getElem? hc
    have hi2 := (List.getElem?_eq_some_iff.mp hc).1
    have e2 := (e.trans e1).trans p.1
    refine ht c G e2 m G (Ex.refl G) _ fun G2 g2 => ?_
    have tk : ws.take (i + 1) = ws.take i ++ [c] := by rw [List.take_succ, hc]; rfl
    cases hf : f c with
    | true =>
      refine iteT (he c G2 (e2.trans g2) m hf G2 (Ex.refl G2) _ fun G3 g3 => ⟨_, g3 _ _ (g2 _ _ p.2), ?_, Ex.mut ((p.1.trans g2).trans g3) hD, ?_⟩)
      · refine sz_lt ?_
        have := List.length_filter_le f (ws.take i)
        rw [List.length_take] at this
        rw [List.length_map]
        omega
      · rw [upd_same, tk, List.filter_append, List.map_append, List.filter_cons, if_pos hf]
        rfl
    | false =>
      refine iteF ⟨p.1.trans g2, ?_⟩
      rw [tk, List.filter_append, List.map_append, List.filter_cons, if_neg (by rw [hf]; decide)]
      show _ = some (HO.lst (_ ++ []))
      rw [List.append_nil]
      exact g2 _ _ p.2⟩)
    (fun G p => q D G (fresh_back e1 hD) (e1.trans p.1) (by rw [p.2, show (sl ws).length = ws.length from XB.len_sl ws, List.take_length]))⟩
theorem tYes_go {P R : Hp → Prop} (h : P H) : tYes σ H fun b H3 => if b = true then P H3 else R H3 := by
  show if true = true then P H else R H
  rw [if_pos rfl]
  exact h
theorem sqt_put {G : Hp} {b D : Addr} {xs zs : List V} {o : HO} (h : SqT K G b xs) (hD : G D = some (.lst zs)) : SqT K (upd G D o) b xs := by
  rcases h with (h | ⟨u, h⟩) | h
  · exact .inl (.inl (kpm h (ne_of h hD fun q => by cases q)))
  · exact .inl (.inr ⟨u, kpm h (ne_of h hD fun q => by cases q)⟩)
  · exact .inr h
/-- two walks: a text for each pair -/
theorem el_lc2S {ws us : List Str} {tl tl1 : TE} {j j1 : Nat} {vs vs1 : List Nat} (v : Str → Str → Str) (h : EvS K tl σ H (sl ws)) (hz : ws.length * us.length ≤ 40000)
    (hw : ∀ x, wipe ((wipe σ vs).set j (some x)) vs = wipe σ vs) (hw1 : ∀ x y, wipe ((wipe ((wipe σ vs).set j (some x)) vs1).set j1 (some y)) vs1 = wipe ((wipe σ vs).set j (some x)) vs1)
    (h1 : ∀ c H1, Ex H H1 → c ∈ ws → EvS K tl1 ((wipe σ vs).set j (some (.str c))) H1 (sl us))
    (he : ∀ c r H1, Ex H H1 → c ∈ ws → r ∈ us → Ev te ((wipe ((wipe σ vs).set j (some (.str c))) vs1).set j1 (some (.str r))) H1 (.str (v c r))) :
    EvL (tLc2 (iTup K tl) (gName j) tYes (iTup K tl1) (gName j1) tYes te vs vs1) σ H (sl (ws.flatMap fun c => us.map (v c))) := fun H0 e Q q => h H0 e _ fun a H1 e1 hx => ⟨a, rfl, ⟨_, hx⟩, fun D hD => by
  refine ⟨fun i m G => m = ws.length - i ∧ i ≤ ws.length ∧ Ex H1 G ∧ G D = some (.lst (sl ((ws.take i).flatMap fun c => us.map (v c)))), ⟨ws.length, by simp, Nat.zero_le _, Ex.new hD, upd_same⟩, ?_⟩
  rintro i m G ⟨rfl, hi, g1, g2⟩
  by_cases hlt : i < ws.length
  · have hc : ws[i]? = some (ws[i]'hlt) := List.getElem?_eq_getElem hlt
    generalize ws[i]'hlt = c at hc
    have m := List.mem_of_getElem? hc
    have hcs : (sl ws)[i]? = some (.str c) := by rw [List.getElem?_map, hc]; rfl
    have tk : ws.take (i + 1) = ws.take i ++ [c] := by rw [List.take_succ, hc]; rfl
    refine .inr ⟨⟨sl ws, .str c, ex_t g1 hx, hcs⟩, fun G' => Ex H1 G' ∧ G' D = some (.lst (sl ((ws.take (i + 1)).flatMap fun c => us.map (v c)))), fun G' p' => ⟨ws.length - (i + 1), by omega, rfl, hlt, p'⟩, ?_⟩
    rintro x G' ⟨rfl, hx2⟩
    have ex : x = .str c := by
      have z := hx2 _ (ex_t g1 hx)
      rw [hcs] at z
      injection z with z
      exact z.symm
    subst ex
    have e2 := (e.trans e1).trans g1
    refine ⟨hw _, tYes_go ?_⟩
    refine h1 c _ e2 m _ (Ex.refl _) _ fun b G1 k1 hb => ⟨b, rfl, ⟨_, hb⟩, ?_⟩
    refine ⟨fun n m G => m = us.length - n ∧ n ≤ us.length ∧ Ex H1 G ∧ SqT K G b (sl us) ∧ G D = some (.lst (sl (((ws.take i).flatMap fun c => us.map (v c)) ++ (us.take n).map (v c)))), ⟨us.length, by simp, Nat.zero_le _, g1.trans k1, hb, ?_⟩, ?_⟩
    · rw [k1 _ _ g2]
      show _ = some (HO.lst (sl (_ ++ [])))
      rw [List.append_nil]
    · rintro n m G2 ⟨rfl, hn, k2, hb2, hD2⟩
      by_cases hlt2 : n < us.length
      · have hr : us[n]? = some (us[n]'hlt2) := List.getElem?_eq_getElem hlt2
        generalize us[n]'hlt2 = r at hr
        have mr := List.mem_of_getElem? hr
        have hrs : (sl us)[n]? = some (.str r) := by rw [List.getElem?_map, hr]; rfl
        have tk2 : us.take (n + 1) = us.take n ++ [r] := by rw [List.take_succ, hr]; rfl
        refine .inr ⟨⟨sl us, .str r, hb2, hrs⟩, fun G' => Ex H1 G' ∧ SqT K G' b (sl us) ∧ G' D = some (.lst (sl (((ws.take i).flatMap fun c => us.map (v c)) ++ (us.take (n + 1)).map (v c)))), fun G' p' => ⟨us.length - (n + 1), by omega, rfl, hlt2, p'⟩, ?_⟩
        rintro x G' ⟨rfl, hx2⟩
        have ex : x = .str r := by
          have z := hx2 _ hb2
          rw [hrs] at z
          injection z with z
          exact z.symm
        subst ex
        refine ⟨hw1 _ _, tYes_go ?_⟩
        refine he c r _ ((e.trans e1).trans k2) m mr _ (Ex.refl _) _ fun G3 k3 => ⟨_, k3 _ _ hD2, ?_, Ex.mut (k2.trans k3) hD, ?_, at_sl (ys := [v c r]) upd_same ?_⟩
        · refine sz_lt ?_
          rw [XB.len_sl, List.length_append, List.length_map, List.length_take]
          have : ((ws.take i).flatMap fun c => us.map (v c)).length = i * us.length := by
            rw [List.length_flatMap]
            have : ((ws.take i).map fun c => (us.map (v c)).length) = (ws.take i).map fun _ => us.length := List.map_congr_left fun c _ => List.length_map _
            rw [this, List.map_const', List.sum_replicate_nat, List.length_take, Nat.min_eq_left hi]
          rw [this]
          have : (i + 1) * us.length ≤ ws.length * us.length := Nat.mul_le_mul_right _ hlt
          rw [Nat.succ_mul] at this
          omega
        · exact sqt_put (ex_t k3 hb2) (k3 _ _ hD2)
        · rw [tk2, List.map_append, List.append_assoc]
          rfl
      · have : n = us.length := by omega
        subst this
        refine .inl ⟨⟨sl us, hb2, by rw [XB.len_sl]; exact Nat.le_refl _⟩, k2, ?_⟩
        rw [hD2, tk, List.flatMap_append, List.take_length]
        show some (HO.lst (sl (_ ++ us.map (v c)))) = some (HO.lst (sl (_ ++ (us.map (v c) ++ []))))
        rw [List.append_nil]
  · have : i = ws.length := by omega
    subst this
    refine .inl ⟨⟨sl ws, ex_t g1 hx, by rw [XB.len_sl]; exact Nat.le_refl _⟩, q D G (fresh_back e1 hD) (e1.trans g1) (by rw [g2, List.take_length])⟩⟩
end
end XB
namespace T
open PySem PySem.Spec PyProof.Rows L2 Evl XB TL
section
variable {P : Program} {w : World} {K : PySem.W.Frag} {mg : Str → Option Value} {base : Heap}
/-- a tuple of texts is the module's constant x -/
structure TupC (K : PySem.W.Frag) (mg : Str → Option Value) (x : Str) (ws : List Str) : Prop where
  ex : ∃ a, mg x = some (.ref a) ∧ ∀ H, SqT K H a (sl ws)
/-! ### _law_text -/
def headOf (ks : List Str) : Str := Txt.join " " ("kinds" :: ks)
def textOf (ks lns : List Str) : Str := Txt.join "\n" (headOf ks :: lns)
theorem joinL_len (S : List Nat) : ∀ ps : List (List Nat), (joinL S ps).length ≤ (ps.map (·.length)).sum + ps.length * S.length
  | [] => Nat.zero_le _
  | [p] => by
    show p.length ≤ (p.length + 0) + 1 * S.length
    omega
  | p :: q :: r => by
    have z := joinL_len S (q :: r)
    show (p ++ (S ++ joinL S (q :: r))).length ≤ (p.length + ((q :: r).map (·.length)).sum) + ((q :: r).length + 1) * S.length
    rw [List.length_append, List.length_append, Nat.succ_mul]
    omega
theorem tl_len (x : Str) : (tl x).length = x.length := Array.length_toList
theorem join_len (sep : Str) (ys : List Str) : (Txt.join sep ys).length ≤ (ys.map (·.length)).sum + ys.length * sep.length := by
  have z := joinL_len (tl sep) (ys.map tl)
  rw [join_eq, ← tl_len, tl_join]
  rw [List.map_map, List.length_map, tl_len] at z
  rw [show (List.length ∘ tl) = (fun x : Str => x.length) from funext fun x => tl_len x] at z
  exact z
theorem join_le {B n : Nat} {ws : List Str} (h : ∀ p ∈ ws, p.length ≤ B) (hn : ws.length ≤ n) {sep : Str} (hs : sep.length = 1) : (Txt.join sep ws).length ≤ n * B + n := by
  have z := sum_le h
  have y : ws.length * B ≤ n * B := Nat.mul_le_mul_right _ hn
  have := join_len sep ws
  rw [hs] at this
  omega
theorem line_len {ks : List Str} {c : Cell} (h : ks ∈ kinds7) (g : GoodC ks c) : (lineOf c).length ≤ 136 := join_le (B := 16) (n := 8) (fun p hp => ((small_parts h g).1 p hp).len) (small_parts h g).2 rfl
theorem head_len {ks : List Str} (h : ks ∈ kinds7) : (headOf ks).length ≤ 100 := by
  have z := len7 h
  refine Nat.le_trans (join_le (B := 16) (n := 4) (fun p hp => ?_) (by show ks.length + 1 ≤ 4; omega) rfl) (by decide)
  rcases List.mem_cons.mp hp with rfl | hp
  · decide
  · exact (small_ks h p hp).len
def spText : Sp := fun vs H Q _ => ∃ (a b : Addr) (ks lns : List Str), vs = [.ref a, .ref b] ∧ ks ∈ kinds7 ∧ H a = some (.lst (sl ks)) ∧ H b = some (.lst (sl lns)) ∧ lns.length ≤ 27 ∧ (∀ x ∈ lns, x.length ≤ 136) ∧ ∀ H', Ex H H' → Q (.str (textOf ks lns)) H'
/-! ### is_word -/
def spWord (K : PySem.W.Frag) : Sp := fun vs H Q _ => ∃ (x : Str) (a : Addr) (ws : List Str), vs = [.str x, .ref a] ∧ SqT K H a (sl ws) ∧ ∀ H', Ex H H' → Q (.bl (decide (x ∈ ws))) H'
theorem c_word (D : At K mg "is_word" s_is_word ["value", "words"]) (B : Bl mg) : C8.Cal P w K mg base 1 "is_word" (spWord K) [] := by
  refine cal_of D sc_is_word (fun vs H Q E h => ?_) (fun f cdv A outer s H vs Q E hr h => ?_)
  · obtain ⟨a, b, ws, rfl, _⟩ := h
    rfl
  · obtain ⟨x, a, ws, rfl, hS, q⟩ := h
    refine ⟨_, pss_one (ps_ret (pe_and (pe_callB call_isi (by rfl) B.isin (by decide +kernel) (pa_cons (pv 0) (pa_cons (pe_bltn (v := .ty "str") (by rfl) B.str (by decide +kernel) rfl) pa_nil))) (pe_one (pe_cmpR op_in_seq (pv 0) (pv 1) (by rfl))))), ?_⟩
    exact s_ret (ev_andV (ev_isStr (ev_var rfl)) (fun _ => ev_inT (ev_var rfl) (ev_var rfl) hS)) fun H1 e1 => by rw [Bool.true_and]; exact q H1 e1
theorem word_at {σ : L2.St} {H : Hp} {ta tb : TE} {x : Str} {a : Addr} {ws : List Str} {E : XK} (ha : Ev ta σ H (.str x)) (hb : Ev tb σ H (.ref a)) (hS : SqT K H a (sl ws)) : Ev (tCall (spWord K) [] E (tCons ta (tCons tb tNil))) σ H (.bl (decide (x ∈ ws))) :=
  ev_call (ea_cons ha (ea_cons hb ea_nil)) fun H1 e Q q E => ⟨x, a, ws, rfl, ex_t e hS, q⟩
/-! ### are_kinds -/
def KINDSc : List Str := ["put", "out", "set"]
def spKinds (K : PySem.W.Frag) : Sp := fun vs H Q _ => ∃ (a : Addr) (ks : List Str), vs = [.ref a] ∧ SqT K H a (sl ks) ∧ ks ∈ kinds7 ∧ ∀ H', Ex H H' → Q (.bl true) H'
theorem kinds_all {ks : List Str} (h : ks ∈ kinds7) : (ks.map fun c => decide (c ∈ KINDSc)).all id = true := by
  have all : ∀ ks ∈ kinds7, (ks.map fun c => decide (c ∈ KINDSc)).all id = true := by decide +kernel
  exact all ks h
theorem kinds_fil {ks : List Str} (h : ks ∈ kinds7) : (KINDSc.filter fun c => decide (c ∈ ks)) = ks := by
  have all : ∀ ks ∈ kinds7, (KINDSc.filter fun c => decide (c ∈ ks)) = ks := by decide +kernel
  exact all ks h
theorem kinds_pos {ks : List Str} (h : ks ∈ kinds7) : 0 < ks.length := by
  have all : ∀ ks ∈ kinds7, 0 < ks.length := by decide +kernel
  exact all ks h
theorem kinds_sh {ks : List Str} (h : ks ∈ kinds7) : SeqAt.shaped (.tuple (ks.map PyData.str)) = true := by
  have all : ∀ ks ∈ kinds7, SeqAt.shaped (.tuple (ks.map PyData.str)) = true := by decide +kernel
  exact all ks h
theorem kinds_eq {ks : List Str} (h : ks ∈ kinds7) : PyData.eqv (.tuple (ks.map PyData.str)) (.tuple (ks.map PyData.str)) = true := by
  have all : ∀ ks ∈ kinds7, PyData.eqv (.tuple (ks.map PyData.str)) (.tuple (ks.map PyData.str)) = true := by decide +kernel
  exact all ks h
theorem c_kinds (D : At K mg "are_kinds" s_are_kinds ["value"]) (B : Bl mg) (T : TupC K mg "KINDS" KINDSc) (Cw : C8.Cal P w K mg base 1 "is_word" (spWord K) []) : C8.Cal P w K mg base 2 "are_kinds" (spKinds K) [] := by
  obtain ⟨ak, mk, hK⟩ := T.ex
  refine cal_of D sc_are_kinds (fun vs H Q E h => ?_) (fun f cdv A outer s H vs Q E hr h => ?_)
  · obtain ⟨a, ks, rfl, _⟩ := h
    rfl
  · obtain ⟨a, ks, rfl, hS, hks, q⟩ := h
    refine ⟨_, pss_cons (ps_if (PW.pt (pw_or (pt_not (pt_val (pe_callB call_isi (by rfl) B.isin (by decide +kernel) (pa_cons (pv 0) (pa_cons (pe_bltn (v := .ty "tuple") (by rfl) B.tuple (by decide +kernel) rfl) pa_nil))))) (pw_or1 (pt_not (pt_val (pe_callB (cr_all rfl) (by rfl) B.all_ (by decide +kernel) (pa_cons
        (pe_lc (own := [("kind", 1)]) (g := gName 1) (tt := tYes) (te := tCall (spWord K) [] C8.E0 (tCons (tVar 1) (tCons (tC (.ref ak)) tNil))) rfl sc_are_kinds.nd (pi_tup (pv 0))
            (blkOk_by (own := [("kind", 1)]) (N := N_are_kinds) (sc := defScope s_are_kinds) (by decide +kernel)) (fun _ _ _ _ _ => pg_name (i := 1) sc_are_kinds.nd rfl (Or.inl rfl)) (fun _ _ _ _ _ => pts_nil)
            (fun _ _ _ _ _ => C8.pe_c Cw hr (by decide) (by rfl) (pa_cons (pv 1) (pa_cons (pe_glob (v := .ref ak) (by rfl) mk rfl) pa_nil)))) pa_nil))))))) (pss_one (ps_ret pe_bl)) pss_nil)
      (pss_one (ps_ret (pe_and (pe_cmpR op_gt (pe_callB call_len_seq (by rfl) B.len (by decide +kernel) (pa_cons (pv 0) pa_nil)) pe_int (nomark _)) (pe_one (pe_cmpR (op_eqD hr.units) (pv 0) (pe_callTy call_tuple_of (by rfl) B.tuple (by decide +kernel) (pa_cons 
        (pe_lc (own := [("kind", 1)]) (g := gName 1) (tt := tTest (tOp (rIn K false) (tVar 1) (tVar 0))) (te := tVar 1) rfl sc_are_kinds.nd (pi_tup (pe_glob (v := .ref ak) (by rfl) mk rfl))
            (blkOk_by (own := [("kind", 1)]) (N := N_are_kinds) (sc := defScope s_are_kinds) (by decide +kernel)) (fun _ _ _ _ _ => pg_name (i := 1) sc_are_kinds.nd rfl (Or.inl rfl)) (fun _ _ _ _ _ => pts_one (pt_cmpR op_in_seq (pv 1) (pv 0) (by rfl)))
            (fun _ _ _ _ _ => pv 1)) pa_nil)) (nomark _)))))), ?_⟩
    refine q_when (b := false) (et_is (et_or (et_not (et_B (ev_isTup (ev_var rfl) hS))) (fun _ => et_not (et_B (ev_all (bs := ks.map fun c => decide (c ∈ KINDSc)) (el_is (el_lcS (ws := ks) (fun _ => true) (fun c => .bl (decide (c ∈ KINDSc))) (es_at (ev_var rfl) hS) ?_ (fun _ => rfl) (fun _ _ _ _ => fun H1 _ _ z => z H1 (Ex.refl H1)) (fun c H1 e1 _ _ => word_at (ev_var rfl) ev_c (hK _))) ?_))))) ?_) (fun z => by cases z) (fun _ H1 e1 => ?_)
    · have := len7 hks
      omega
    · rw [List.map_map, List.filter_eq_self.mpr (fun _ _ => rfl)]
      rfl
    · rw [kinds_all hks]
      rfl
    · refine s_ret (ev_is (ev_andV (ev_op (ev_lenS (ev_var rfl) (.inr (ex_t e1 hS))) ev_c rv_I0) (fun _ => ev_eqT (us := KINDSc.filter fun c => decide (c ∈ ks)) (ev_var rfl) (ex_t e1 hS) (es_new (eu_tuple (el_lcS (ws := KINDSc) (fun c => decide (c ∈ ks)) V.str (es_at ev_c (hK _)) (by decide) (fun _ => rfl) (fun c H2 e2 _ => et_test (ev_inT (ev_var rfl) (ev_var rfl) (ex_t (e1.trans e2) hS))) (fun c H2 e2 _ _ => ev_var rfl)))) (kinds_sh hks) ?_)) ?_) fun H2 e2 => q H2 (e1.trans e2)
      · rw [kinds_fil hks]
        exact kinds_sh hks
      · rw [kinds_fil hks, kinds_eq hks, Bool.and_true]
        have : 0 < (sl ks).length := by rw [XB.len_sl]; exact kinds_pos hks
        show V.bl (decide ((0 : Int) < ((sl ks).length : Int))) = _
        rw [decide_eq_true (by omega)]
end
end T
namespace T
open PySem PySem.Spec PyProof.Rows L2 Evl XB TL
section
variable {P : Program} {w : World} {K : PySem.W.Frag} {mg : Str → Option Value} {base : Heap}
/-! ### is_cell -/
def spIsCell (K : PySem.W.Frag) : Sp := fun vs H Q _ => ∃ (a b : Addr) (m i s : Str) (ks : List Str), vs = [.ref a, .ref b] ∧ SqT K H a (sl [m, i, s]) ∧ SqT K H b (sl ks) ∧ ∀ H', Ex H H' → Q (.bl (decide (m ∈ ks) && (decide (i ∈ ks) && decide (s ∈ rels)))) H'
theorem c_isCell (D : At K mg "is_cell" s_is_cell ["value", "kinds"]) (B : Bl mg) (T : TupC K mg "RELATIONS" rels) (Cw : C8.Cal P w K mg base 1 "is_word" (spWord K) []) : C8.Cal P w K mg base 2 "is_cell" (spIsCell K) [] := by
  obtain ⟨ak, mk, hK⟩ := T.ex
  refine cal_of D sc_is_cell (fun vs H Q E h => ?_) (fun f cdv A outer s H vs Q E hr h => ?_)
  · obtain ⟨a, b, m, i, s, ks, rfl, _⟩ := h
    rfl
  · obtain ⟨a, b, m, i, s, ks, rfl, hS, hk, q⟩ := h
    refine ⟨_, pss_cons (ps_if (PW.pt (pw_or (pt_not (pt_val (pe_callB call_isi (by rfl) B.isin (by decide +kernel) (pa_cons (pv 0) (pa_cons (pe_bltn (v := .ty "tuple") (by rfl) B.tuple (by decide +kernel) rfl) pa_nil))))) (pw_or1 (pt_cmpR op_ne (pe_callB call_len_seq (by rfl) B.len (by decide +kernel) (pa_cons (pv 0) pa_nil)) pe_int (nomark _))))) (pss_one (ps_ret pe_bl)) pss_nil)
      (pss_cons (ps_asg (pv 0) (pg_tup (by rfl) (pgs_cons (pg_name (i := 2) sc_is_cell.nd rfl (.inl rfl)) (pgs_cons (pg_name (i := 3) sc_is_cell.nd rfl (.inl rfl)) (pgs_cons (pg_name (i := 4) sc_is_cell.nd rfl (.inl rfl)) pgs_nil)))))
      (pss_one (ps_ret (pe_and (C8.pe_c Cw hr (by decide) (by rfl) (pa_cons (pv 2) (pa_cons (pv 1) pa_nil))) (pe_and (C8.pe_c Cw hr (by decide) (by rfl) (pa_cons (pv 3) (pa_cons (pv 1) pa_nil))) (pe_one (C8.pe_c Cw hr (by decide) (by rfl) (pa_cons (pv 4) (pa_cons (pe_glob (v := .ref ak) (by rfl) mk rfl) pa_nil))))))))), ?_⟩
    refine q_when (b := false) (et_or (et_not (et_B (ev_isTup (ev_var rfl) hS))) (fun _ => et_test (ev_is (ev_op (ev_lenS (ev_var rfl) (.inr hS)) ev_c (rv_ne rfl)) rfl))) (fun z => by cases z) (fun _ H1 e1 => ?_)
    refine ⟨_, rfl, a, _, rfl, ex_t e1 hS, rfl, _, _, rfl, _, _, rfl, _, _, rfl, rfl, ?_⟩
    refine s_ret (v := .bl (decide (m ∈ ks) && (decide (i ∈ ks) && decide (s ∈ rels)))) (ev_andV (word_at (x := m) (ev_var rfl) (ev_var rfl) (ex_t e1 hk)) (fun _ => ev_andV (word_at (x := i) (ev_var rfl) (ev_var rfl) (ex_t e1 hk)) (fun _ => word_at (x := s) (ev_var rfl) ev_c (hK _)))) ?_
    exact fun H2 e2 => q H2 (e1.trans e2)
/-! ### cell_of, options_of -/
def spCellOf (n : Nat → List Str → List Str) : Sp := fun vs H Q _ => ∃ (x : Str), vs = [.str x] ∧ x.length ≤ 1000 ∧ ∀ l H', Ex H H' → H l = none → H' l = some (.tup (sl (n 3 (Txt.split x " ")))) → Q (.ref l) H'
theorem cut_take (xs : List V) : cutV xs none (some 3) = xs.take 3 := by
  unfold cutV
  rw [HT.sIx_none, show (some (3 : Int)) = some ((3 : Nat) : Int) from rfl, HT.sIx_nat, List.drop_zero, Nat.sub_zero]
  by_cases h : 3 ≤ xs.length
  · rw [Nat.min_eq_left h]
  · rw [Nat.min_eq_right (by omega), List.take_length, List.take_of_length_le (by omega)]
theorem cut_drop (xs : List V) : cutV xs (some 3) none = xs.drop 3 := by
  unfold cutV
  rw [HT.sIx_none, show (some (3 : Int)) = some ((3 : Nat) : Int) from rfl, HT.sIx_nat]
  by_cases h : 3 ≤ xs.length
  · rw [Nat.min_eq_left h, List.take_of_length_le (by rw [List.length_drop] <;> exact Nat.le_refl _)]
  · rw [Nat.min_eq_right (by omega), Nat.sub_self, List.take_zero, List.drop_eq_nil_of_le (by omega)]
theorem c_cellOf (D : At K mg "cell_of" s_cell_of ["row"]) (B : Bl mg) : C8.Cal P w K mg base 1 "cell_of" (spCellOf List.take) [] := by
  refine cal_of D sc_cell_of (fun vs H Q E h => ?_) (fun f cdv A outer s H vs Q E hr h => ?_)
  · obtain ⟨x, rfl, _⟩ := h
    rfl
  · obtain ⟨x, rfl, hx, q⟩ := h
    refine ⟨_, pss_one (ps_ret (pe_callTy call_tuple_of (by rfl) B.tuple (by decide +kernel) (pa_cons (pe_slice sl_list (pe_split (pv 0) pe_str) po_none (po_some pe_int)) pa_nil))), ?_⟩
    exact s_retU (eu_tuple (el_is (el_slN (el_split (ev_var rfl) ev_c rfl (by rw [sizeLine_eq]; omega)) eo_none (eo_some ev_c)) (by rw [cut_take]; exact List.map_take.symm))) fun l H1 n1 e1 h1 => q l H1 e1 n1 h1
theorem c_optsOf (D : At K mg "options_of" s_options_of ["row"]) (B : Bl mg) : C8.Cal P w K mg base 1 "options_of" (spCellOf List.drop) [] := by
  refine cal_of D sc_options_of (fun vs H Q E h => ?_) (fun f cdv A outer s H vs Q E hr h => ?_)
  · obtain ⟨x, rfl, _⟩ := h
    rfl
  · obtain ⟨x, rfl, hx, q⟩ := h
    refine ⟨_, pss_one (ps_ret (pe_callTy call_tuple_of (by rfl) B.tuple (by decide +kernel) (pa_cons (pe_slice sl_list (pe_split (pv 0) pe_str) (po_some pe_int) po_none) pa_nil))), ?_⟩
    exact s_retU (eu_tuple (el_is (el_slN (el_split (ev_var rfl) ev_c rfl (by rw [sizeLine_eq]; omega)) (eo_some ev_c) eo_none) (by rw [cut_drop]; exact List.map_drop.symm))) fun l H1 n1 e1 h1 => q l H1 e1 n1 h1
/-! ### conditions_for, results_for -/
def spConds (K : PySem.W.Frag) : Sp := fun vs H Q _ => ∃ (m i : Str) (ks : List Str), vs = [.str m, .str i] ∧ ks ∈ kinds7 ∧ m ∈ ks ∧ i ∈ ks ∧ ∀ l H', Ex H H' → SqT K H' l (sl (condsOf m i)) → Q (.ref l) H'
theorem conds_eq {m i : Str} {ks : List Str} (h : ks ∈ kinds7) (hm : m ∈ ks) (hi : i ∈ ks) : condsOf m i = if m ∈ [("put" : Str), "set"] ∧ i ∈ [("put" : Str), "set"] then ("first" : Str) :: ["less", "same", "more"] else ["first"] := by
  have all : ∀ ks ∈ kinds7, ∀ m ∈ ks, ∀ i ∈ ks, condsOf m i = if m ∈ [("put" : Str), "set"] ∧ i ∈ [("put" : Str), "set"] then ("first" : Str) :: ["less", "same", "more"] else ["first"] := by decide +kernel
  exact all ks h m hm i hi
theorem c_conds (D : At K mg "conditions_for" s_conditions_for ["mine", "its"]) (T : TupC K mg "KINDS_WITH_SIGN" ["put", "set"]) (T2 : TupC K mg "SIGN_CONDITIONS" ["less", "same", "more"]) : C8.Cal P w K mg base 1 "conditions_for" (spConds K) [] := by
  obtain ⟨ak, mk, hK⟩ := T.ex
  obtain ⟨ac, mc, hc⟩ := T2.ex
  refine cal_of D sc_conditions_for (fun vs H Q E h => ?_) (fun f cdv A outer s H vs Q E hr h => ?_)
  · obtain ⟨m, i, ks, rfl, _⟩ := h
    rfl
  · obtain ⟨m, i, ks, rfl, hks, hm, hi, q⟩ := h
    refine ⟨_, pss_cons (ps_if (PW.pt (pw_and (pt_cmpR op_in_seq (pv 0) (pe_glob (v := .ref ak) (by rfl) mk rfl) (by rfl)) (pw_and1 (pt_cmpR op_in_seq (pv 1) (pe_glob (v := .ref ak) (by rfl) mk rfl) (by rfl))))) (pss_one (ps_ret (pe_op op_catT (pe_tup (pa_cons pe_str pa_nil)) (pe_glob (v := .ref ac) (by rfl) mc rfl)))) pss_nil)
      (pss_one (ps_ret (pe_tup (pa_cons pe_str pa_nil)))), ?_⟩
    rw [conds_eq hks hm hi] at q
    refine q_when (et_and (et_test (ev_inT (ev_var rfl) ev_c (hK _))) (fun _ => et_test (ev_inT (ev_var rfl) ev_c (hK _)))) (fun z H1 e1 => ?_) (fun z H1 e1 => ?_)
    · rw [Bool.and_eq_true, decide_eq_true_eq, decide_eq_true_eq] at z
      rw [if_pos z] at q
      exact s_retS (es_cat (xs := sl ["first"]) (es_new (eu_tup (ea_str ea_nil) (by decide))) (es_at ev_c (hc _)) (by intro z; cases z) (by decide)) fun p H2 e2 h2 => q p H2 (e1.trans e2) h2
    · rw [if_neg (fun y => by rw [decide_eq_true y.1, decide_eq_true y.2] at z; cases z)] at q
      exact s_retS (es_new (eu_tup (ea_str ea_nil) (by decide))) fun p H2 e2 h2 => q p H2 (e1.trans e2) h2
def spRes (K : PySem.W.Frag) : Sp := fun vs H Q _ => ∃ (m : Str) (b : Addr) (ks : List Str), vs = [.str m, .ref b] ∧ SqT K H b (sl ks) ∧ ∀ l H', Ex H H' → SqT K H' l (sl (resultsOf m ks)) → Q (.ref l) H'
theorem c_res (D : At K mg "results_for" s_results_for ["mine", "kinds"]) (T : TupC K mg "RESULTS" ["keep", "up", "down", "stay"]) : C8.Cal P w K mg base 1 "results_for" (spRes K) [] := by
  obtain ⟨ak, mk, hK⟩ := T.ex
  refine cal_of D sc_results_for (fun vs H Q E h => ?_) (fun f cdv A outer s H vs Q E hr h => ?_)
  · obtain ⟨m, b, ks, rfl, _⟩ := h
    rfl
  · obtain ⟨m, b, ks, rfl, hb, q⟩ := h
    refine ⟨_, pss_cons (ps_if (PW.pt (pw_and (pt_cmpR op_eq (pv 0) pe_str (nomark _)) (pw_and1 (pt_cmpR op_in_seq pe_str (pv 1) (by rfl))))) (pss_one (ps_ret (pe_op op_catT (pe_glob (v := .ref ak) (by rfl) mk rfl) (pe_tup (pa_cons pe_str pa_nil))))) pss_nil)
      (pss_one (ps_ret (pe_glob (v := .ref ak) (by rfl) mk rfl))), ?_⟩
    unfold resultsOf at q
    refine q_when (et_and (et_test (ev_eqS (ev_var rfl) ev_c)) (fun _ => et_test (ev_inT ev_c (ev_var rfl) hb))) (fun z H1 e1 => ?_) (fun z H1 e1 => ?_)
    · rw [Bool.and_eq_true, decide_eq_true_eq, decide_eq_true_eq] at z
      rw [if_pos z] at q
      exact s_retS (es_cat (xs := sl ["keep", "up", "down", "stay"]) (es_at ev_c (hK _)) (es_new (eu_tup (ea_str ea_nil) (by decide))) (by intro z; cases z) (by decide)) fun p H2 e2 h2 => q p H2 (e1.trans e2) h2
    · rw [if_neg (fun y => by rw [decide_eq_true y.1, decide_eq_true y.2] at z; cases z), List.append_nil] at q
      exact s_retS (es_at ev_c (hK _)) fun p H2 e2 h2 => q p H2 (e1.trans e2) h2
end
end T
namespace T
open PySem PySem.Spec PyProof.Rows L2 Evl XB TL
theorem parts_split {ks : List Str} {c : Cell} (h : ks ∈ kinds7) (g : GoodC ks c) : Txt.split (lineOf c) " " = partsOf c := by
  refine split_join (s := 32) (S := []) rfl (by decide +kernel) (by intro z; cases z) fun p hp z => ?_
  have sm := (small_parts h g).1 p hp
  unfold Small at sm
  rw [Bool.and_eq_true, List.all_eq_true] at sm
  have := sm.2 32 z
  simp at this
theorem cut_init (xs : List V) (z : V) : cutV (xs ++ [z]) none (some (-1)) = xs := by
  unfold cutV
  rw [HT.sIx_none, List.drop_zero, Nat.sub_zero, List.length_append, List.length_singleton]
  have : HT.sIx (xs.length + 1) (xs.length + 1) (some (-1)) = xs.length := by
    show (if (-1 : Int) < 0 then ((-1 : Int) + ((xs.length + 1 : Nat) : Int)).toNat else min (-1 : Int).toNat (xs.length + 1)) = _
    rw [if_pos (by decide)]
    omega
  rw [this, List.take_left']
  rfl
theorem atI_last (l : List V) (v : V) : atI (l ++ [v]) (-1) = some v := by
  unfold atI ixN
  rw [List.length_append, List.length_singleton, if_neg (by decide), if_pos (by omega), show ((-1 : Int) + ((l.length + 1 : Nat) : Int)).toNat = l.length by omega]
  exact List.getElem?_concat_length
theorem cut_not (n : Nat) : ¬ (HT.sIx (n + 1) 0 none = 0 ∧ HT.sIx (n + 1) (n + 1) (some (-1)) = n + 1) := fun ⟨_, h⟩ => by
  have : (if (-1 : Int) < 0 then ((-1 : Int) + ((n + 1 : Nat) : Int)).toNat else min (-1 : Int).toNat (n + 1)) = n + 1 := h
  rw [if_pos (by decide)] at this
  omega
section
variable {P : Program} {w : World} {K : PySem.W.Frag} {mg : Str → Option Value} {base : Heap}
section
variable {σ : L2.St} {H : Hp} {ta tb te : TE} {tz : TS} {D : Ends}
theorem eu_cell {n : Nat → List Str → List Str} {x : Str} {E : XK} (ha : Ev ta σ H (.str x)) (hx : x.length ≤ 1000) : EvU (tCall (spCellOf n) [] E (tCons ta tNil)) σ H (sl (n 3 (Txt.split x " "))) := fun H1 e Q q =>
  ha H1 e _ fun H2 e2 => ⟨x, rfl, hx, fun l H3 e3 n3 h3 => q l H3 (fresh_back e2 n3) (e2.trans e3) h3⟩
theorem ev_isCell {m i s : Str} {b : Addr} {ks : List Str} {E : XK} (ha : EvS K ta σ H (sl [m, i, s])) (hb : Ev tb σ H (.ref b)) (hS : SqT K H b (sl ks)) : Ev (tCall (spIsCell K) [] E (tCons ta (tCons tb tNil))) σ H (.bl (decide (m ∈ ks) && (decide (i ∈ ks) && decide (s ∈ rels)))) := fun H1 e Q q =>
  ha H1 e _ fun p H2 e2 hp => hb H2 (e.trans e2) _ fun H3 e3 => ⟨p, b, m, i, s, ks, rfl, ex_t e3 hp, ex_t ((e.trans e2).trans e3) hS, fun H' e' => q H' ((e2.trans e3).trans e')⟩
theorem q_asgT3 {i j k : Nat} {x y z : V} (h : EvS K te σ H [x, y, z]) (q : ∀ H1, Ex H H1 → tz D (((σ.set i (some x)).set j (some y)).set k (some z)) H1) : tSeq (tAsg te (gTup K 3 (gCons (gName i) (gCons (gName j) (gCons (gName k) gNil))))) tz D σ H :=
  h H (Ex.refl H) _ fun p H1 e1 hp => ⟨p, _, rfl, hp, rfl, _, _, rfl, _, _, rfl, _, _, rfl, rfl, q H1 e1⟩
theorem ev_addS {x y : Str} (ha : Ev ta σ H (.str x)) (hb : Ev tb σ H (.str y)) (hz : x.length + y.length ≤ 100000) : Ev (tOp (fun x y H Q => ∃ i j, x = .str i ∧ y = .str j ∧ i.length + j.length ≤ sizeLine ∧ Q (.str (i ++ j)) H) ta tb) σ H (.str (x ++ y)) :=
  ev_op ha hb fun H1 e Q q => ⟨x, y, rfl, rfl, sz_of hz, q H1 (Ex.refl H1)⟩
theorem es_conds {m i : Str} {ks : List Str} {E : XK} (ha : Ev ta σ H (.str m)) (hb : Ev tb σ H (.str i)) (hk : ks ∈ kinds7) (hm : m ∈ ks) (hi : i ∈ ks) : EvS K (tCall (spConds K) [] E (tCons ta (tCons tb tNil))) σ H (sl (condsOf m i)) := fun H1 e Q q =>
  ha H1 e _ fun H2 e2 => hb H2 (e.trans e2) _ fun H3 e3 => ⟨m, i, ks, rfl, hk, hm, hi, fun l H4 e4 h4 => q l H4 ((e2.trans e3).trans e4) h4⟩
theorem es_res {m : Str} {b : Addr} {ks : List Str} {E : XK} (ha : Ev ta σ H (.str m)) (hb : Ev tb σ H (.ref b)) (hS : SqT K H b (sl ks)) : EvS K (tCall (spRes K) [] E (tCons ta (tCons tb tNil))) σ H (sl (resultsOf m ks)) := fun H1 e Q q =>
  ha H1 e _ fun H2 e2 => hb H2 (e.trans e2) _ fun H3 e3 => ⟨m, b, ks, rfl, ex_t ((e.trans e2).trans e3) hS, fun l H4 e4 h4 => q l H4 ((e2.trans e3).trans e4) h4⟩
end
theorem res_len (m : Str) (ks : List Str) : (resultsOf m ks).length ≤ 5 := by
  unfold resultsOf
  split <;> decide
theorem cond_len (m i : Str) : (condsOf m i).length ≤ 4 := by
  unfold condsOf
  split <;> decide
theorem res_sm {m : Str} {ks : List Str} : ∀ r ∈ resultsOf m ks, r.length ≤ 16 := fun r h => (small_res r h).len
theorem cond_sm {m i : Str} : ∀ r ∈ condsOf m i, r.length ≤ 16 := by
  unfold condsOf
  split <;> decide
def spIsRow (K : PySem.W.Frag) : Sp := fun vs H Q _ => ∃ (b : Addr) (ks : List Str) (c : Cell), vs = [.str (lineOf c), .ref b] ∧ ks ∈ kinds7 ∧ GoodC ks c ∧ SqT K H b (sl ks) ∧ ∀ H', Ex H H' → Q (.bl true) H'
theorem c_isRow (D : At K mg "is_row" s_is_row ["value", "kinds"]) (B : Bl mg) {t : Tok} (mo : mg "MOST_OPTIONS" = some (.int 5 t)) (C1 : C8.Cal P w K mg base 2 "is_cell" (spIsCell K) []) (C2 : C8.Cal P w K mg base 1 "cell_of" (spCellOf List.take) []) (C3 : C8.Cal P w K mg base 1 "options_of" (spCellOf List.drop) [])
    (C4 : C8.Cal P w K mg base 1 "conditions_for" (spConds K) []) (C5 : C8.Cal P w K mg base 1 "results_for" (spRes K) []) : C8.Cal P w K mg base 3 "is_row" (spIsRow K) [] := by
  refine cal_of D sc_is_row (fun vs H Q E h => ?_) (fun f cdv A outer s H vs Q E hr h => ?_)
  · obtain ⟨b, ks, c, rfl, _⟩ := h
    rfl
  · obtain ⟨b, ks, c, rfl, hks, hg, hb, q⟩ := h
    refine ⟨_, pss_cons (ps_if (PW.pt (pw_or (pt_not (pt_val (pe_callB call_isi (by rfl) B.isin (by decide +kernel) (pa_cons (pv 0) (pa_cons (pe_bltn (v := .ty "str") (by rfl) B.str (by decide +kernel) rfl) pa_nil))))) (pw_or1 (pt_not (pt_val (C8.pe_c C1 hr (by decide) (by rfl) (pa_cons (C8.pe_c C2 hr (by decide) (by rfl) (pa_cons (pv 0) pa_nil)) (pa_cons (pv 1) pa_nil)))))))) (pss_one (ps_ret pe_bl)) pss_nil)
      (pss_cons (ps_asg (C8.pe_c C2 hr (by decide) (by rfl) (pa_cons (pv 0) pa_nil)) (pg_tup (by rfl) (pgs_cons (pg_name (i := 2) sc_is_row.nd rfl (.inl rfl)) (pgs_cons (pg_name (i := 3) sc_is_row.nd rfl (.inl rfl)) (pgs_cons (pg_name (i := 4) sc_is_row.nd rfl (.inl rfl)) pgs_nil)))))
      (pss_cons (ps_set (i := 5) sc_is_row.nd rfl (.inl rfl) (C8.pe_c C3 hr (by decide) (by rfl) (pa_cons (pv 0) pa_nil)))
      (pss_cons (ps_if (PW.pt (pw_or (pt_cmpR op_eq (pe_callB call_len_seq (by rfl) B.len (by decide +kernel) (pa_cons (pv 5) pa_nil)) pe_int (nomark _)) (pw_or1 (pt_cmpR op_gt (pe_callB call_len_seq (by rfl) B.len (by decide +kernel) (pa_cons (pv 5) pa_nil)) (pe_glob (v := .int 5) (by rfl) mo ⟨_, rfl⟩) (nomark _))))) (pss_one (ps_ret pe_bl)) pss_nil)
      (pss_cons (ps_set (i := 6) sc_is_row.nd rfl (.inr rfl) (C8.pe_c C5 hr (by decide) (by rfl) (pa_cons (pv 2) (pa_cons (pv 1) pa_nil))))
      (pss_cons (ps_set (i := 7) sc_is_row.nd rfl (.inr rfl) (pe_lc2 (own := [("condition", 8), ("result", 9)]) (vs1 := [9]) (g := gName 8) (g1 := gName 9) (tt := tYes) (tt1 := tYes) (wi1 := iTup K (tVar 6)) (te := tOp (fun x y H Q => ∃ i j, x = .str i ∧ y = .str j ∧ i.length + j.length ≤ sizeLine ∧ Q (.str (i ++ j)) H) (tOp (fun x y H Q => ∃ i j, x = .str i ∧ y = .str j ∧ i.length + j.length ≤ sizeLine ∧ Q (.str (i ++ j)) H) (tVar 8) (tC (.str ":"))) (tVar 9))
          rfl sc_is_row.nd (pi_tup (C8.pe_c C4 hr (by decide) (by rfl) (pa_cons (pv 2) (pa_cons (pv 3) pa_nil))))
          (blkOk_by (own := [("condition", 8), ("result", 9)]) (N := N_is_row) (sc := defScope s_is_row) (by decide +kernel)) (by decide) (fun _ _ _ _ _ => pg_name (i := 8) sc_is_row.nd rfl (Or.inl rfl)) (fun _ _ _ _ _ => pts_nil)
          (fun _ _ _ _ _ => pi_tup (pv 6)) (fun _ _ _ _ _ => pg_name (i := 9) sc_is_row.nd rfl (Or.inl rfl)) (fun _ _ _ _ _ => pts_nil) (fun _ _ _ _ _ => pe_op op_add_str (pe_op op_add_str (pv 8) pe_str) (pv 9))))
      (pss_one (ps_ret (pe_and (pe_callB (cr_all rfl) (by rfl) B.all_ (by decide +kernel) (pa_cons
        (pe_lc (own := [("option", 10)]) (g := gName 10) (tt := tYes) (te := tOp (rIn K false) (tVar 10) (tVar 7)) rfl sc_is_row.nd (pi_tup (pe_slice sl_tup (pv 5) po_none (po_some (pe_un un_neg pe_int))))
            (blkOk_by (own := [("option", 10)]) (N := N_is_row) (sc := defScope s_is_row) (by decide +kernel)) (fun _ _ _ _ _ => pg_name (i := 10) sc_is_row.nd rfl (Or.inl rfl)) (fun _ _ _ _ _ => pts_nil)
            (fun _ _ _ _ _ => pe_cmpR op_in_seq (pv 10) (pv 7) (by rfl))) pa_nil)) (pe_one (pe_cmpR op_in_seq (pe_ix ix_tup (pv 5) (pe_un un_neg pe_int) (fun _ _ => rfl)) (pv 6) (by rfl))))))))))), ?_⟩
    obtain ⟨g1, g2, g3, g4⟩ := hg
    have sp := parts_split hks (show GoodC ks c from ⟨g1, g2, g3, g4⟩)
    have ll := line_len hks (show GoodC ks c from ⟨g1, g2, g3, g4⟩)
    have cellT : ∀ {H1 : Hp} {σ : L2.St} {E : XK}, σ[0]? = some (some (.str (lineOf c))) → EvU (tCall (spCellOf List.take) [] E (tCons (tVar 0) tNil)) σ H1 (sl [c.1, c.2.1, c.2.2.1]) := fun {H1 σ E} e => by
      have z := eu_cell (n := List.take) (H := H1) (E := E) (ev_var e) (by omega)
      rw [sp] at z
      exact z
    have cellD : ∀ {H1 : Hp} {σ : L2.St} {E : XK}, σ[0]? = some (some (.str (lineOf c))) → EvU (tCall (spCellOf List.drop) [] E (tCons (tVar 0) tNil)) σ H1 (sl c.2.2.2) := fun {H1 σ E} e => by
      have z := eu_cell (n := List.drop) (H := H1) (E := E) (ev_var e) (by omega)
      rw [sp] at z
      exact z
    obtain ⟨pre, z, hws, hpl, hpre, hz⟩ := g4
    have wl : (sl c.2.2.2).length = pre.length + 1 := by rw [XB.len_sl, hws, List.length_append]; rfl
    have rl := res_len c.1 ks
    have cl := cond_len c.1 c.2.1
    refine q_when (b := false) (et_is (et_or (et_not (et_B (ev_isStr (ev_var rfl)))) (fun _ => et_not (et_B (ev_isCell (es_new (cellT rfl)) (ev_var rfl) hb)))) (by rw [decide_eq_true g1, decide_eq_true g2, decide_eq_true g3]; rfl)) (fun z => by cases z) (fun _ H1 e1 => ?_)
    refine q_asgT3 (es_new (cellT rfl)) fun H2 e2 => ?_
    refine q_asgU (cellD rfl) fun po H3 n3 e3 h3 => ?_
    refine q_when (b := false) (et_is (et_or (et_test (ev_op (ev_lenS (ev_var rfl) (.inr (st_of h3))) ev_c (rv_eq rfl))) (fun _ => et_test (ev_op (ev_lenS (ev_var rfl) (.inr (st_of h3))) ev_c rv_I0))) ?_) (fun z => by cases z) (fun _ H4 e4 => ?_)
    · rw [wl]
      show (decide (V.int ((pre.length + 1 : Nat) : Int) = V.int 0) || decide ((5 : Int) < ((pre.length + 1 : Nat) : Int))) = false
      rw [decide_eq_false (fun q => by injection q with q; omega), decide_eq_false (by omega)]
      rfl
    have e14 := ((e1.trans e2).trans e3).trans e4
    refine q_asgS (es_res (ev_var rfl) (ev_var rfl) (ex_t e14 hb)) fun pr H5 e5 h5 => ?_
    refine q_asgL (el_lc2S (ws := condsOf c.1 c.2.1) (us := resultsOf c.1 ks) (fun a b => a ++ ":" ++ b) (es_conds (ev_var rfl) (ev_var rfl) hks g1 g2) ?_ (fun _ => rfl) (fun _ _ => rfl) (fun a G eG _ => es_at (ev_var rfl) (ex_t eG h5)) (fun a r G eG ma mr => ev_addS (ev_addS (ev_var rfl) ev_c ?_) (ev_var rfl) ?_)) fun pt H6 n6 e6 h6 => ?_
    · have : (condsOf c.1 c.2.1).length * (resultsOf c.1 ks).length ≤ 4 * 5 := Nat.mul_le_mul cl rl
      omega
    · have := cond_sm a ma
      show _ + 1 ≤ _
      omega
    · rw [show (a ++ ":" : Str).length = a.length + 1 from by rw [Str.length_append] <;> rfl]
      have := cond_sm a ma
      have := res_sm r mr
      omega
    have h36 := (e4.trans e5).trans e6 _ _ h3
    have hpt : SqT K H6 po (sl pre ++ [.str z]) := by
      have : sl c.2.2.2 = sl pre ++ [.str z] := by rw [hws]; exact (sl_cat pre [z]).symm
      rw [← this]
      exact st_of h36
    refine s_ret (ev_is (ev_andV (b := true) (ev_all (bs := pre.map fun _ => true) (el_is (el_lcS (ws := pre) (fun _ => true) (fun _ => .bl true) (es_is (es_new (eu_slT (ev_var rfl) hpt eo_none (eo_some (ev_un ev_c ru_neg)) ?_)) (cut_init _ _)) (by omega) (fun _ => rfl) (fun _ _ _ _ => fun H1 _ _ z => z H1 (Ex.refl H1)) (fun o G eG mo _ => ev_is (ev_inL (ev_var rfl) (ev_var rfl) (sq_of (eG _ _ h6))) ?_)) ?_)) (fun _ => ev_is (ev_inT (x := z) (ev_ixT (ev_var rfl) (ev_un ev_c ru_neg) hpt ?_) (ev_var rfl) (ex_t e6 h5)) (by rw [decide_eq_true hz]))) ?_) fun H7 e7 => q H7 (((e14.trans e5).trans e6).trans e7)
    · rw [List.length_append]
      exact cut_not _
    · obtain ⟨a, ha, r, hr, rfl⟩ := hpre o mo
      rw [decide_eq_true]
      exact List.mem_flatMap.mpr ⟨a, ha, List.mem_map.mpr ⟨r, hr, rfl⟩⟩
    · rw [List.filter_eq_self.mpr (fun _ _ => rfl), List.map_map]
      rfl
    · exact atI_last _ _
    · rw [Bool.and_true, List.all_map]
      show V.bl (pre.all fun _ => true) = .bl true
      rw [List.all_eq_true.mpr (fun _ _ => rfl)]
end
end T
namespace T
open PySem PySem.Spec PyProof.Rows L2 Evl XB TL XS XI
theorem walk_enumT {K : PySem.W.Frag} {a : Addr} {xs : List V} : Walk (Itet K a) xs.length (fun H => SqT K H a xs) (YPair (fun i => some (.int (i : Nat))) (fun i => xs[i]?)) := by
  refine ⟨fun i _ hi q => ⟨xs, xs[i], q, by simp [hi]⟩, fun _ q => ⟨xs, q, Nat.le_refl _⟩, fun i H v H' _ q y => ?_⟩
  obtain ⟨T, x, h1, h2, h3, h4⟩ := y
  exact ⟨T, .int (i : Nat), x, h1, h2, h3, rfl, h4 xs q⟩
theorem Rows.ex {H H' : Hp} {L : List (Addr × XS.Nm)} (h : XS.Rows H L) (e : Ex H H') : XS.Rows H' L := fun p hp => e _ _ (h p hp)
theorem nd_not {α : Type} {l : List α} (hn : l.Nodup) {i : Nat} {x : α} (h : l[i]? = some x) : x ∉ l.take i := fun m => by
  obtain ⟨j, hj⟩ := List.mem_iff_getElem?.mp m
  have hlt : j < (l.take i).length := (List.getElem?_eq_some_iff.mp hj).1
  rw [List.length_take] at hlt
  rw [List.getElem?_take_of_lt (by omega)] at hj
  have := L2.nd_ix hn hj h
  omega
section
variable {P : Program} {w : World} {K : PySem.W.Frag} {mg : Str → Option Value} {base : Heap}
theorem ev_isRow {σ : L2.St} {H : Hp} {ta tb : TE} {b : Addr} {ks : List Str} {c : Cell} {E : XK} (ha : Ev ta σ H (.str (lineOf c))) (hb : Ev tb σ H (.ref b)) (hS : SqT K H b (sl ks)) (hk : ks ∈ kinds7) (hg : GoodC ks c) : Ev (tCall (spIsRow K) [] E (tCons ta (tCons tb tNil))) σ H (.bl true) :=
  ev_call (ea_cons ha (ea_cons hb ea_nil)) fun H1 e Q q E => ⟨b, ks, c, rfl, hk, hg, ex_t e hS, q⟩
theorem eu_cellT {σ : L2.St} {H : Hp} {ta : TE} {ks : List Str} {c : Cell} {E : XK} (ha : Ev ta σ H (.str (lineOf c))) (hk : ks ∈ kinds7) (hg : GoodC ks c) : EvU (tCall (spCellOf List.take) [] E (tCons ta tNil)) σ H ((nmOf c).map kV) := by
  have z := eu_cell (n := List.take) (E := E) ha (by have := line_len hk hg; omega)
  rw [parts_split hk hg] at z
  exact z
theorem eu_cellD {σ : L2.St} {H : Hp} {ta : TE} {ks : List Str} {c : Cell} {E : XK} (ha : Ev ta σ H (.str (lineOf c))) (hk : ks ∈ kinds7) (hg : GoodC ks c) : EvU (tCall (spCellOf List.drop) [] E (tCons ta tNil)) σ H (sl c.2.2.2) := by
  have z := eu_cell (n := List.drop) (E := E) ha (by have := line_len hk hg; omega)
  rw [parts_split hk hg] at z
  exact z
def spFirst (K : PySem.W.Frag) : Sp := fun vs H Q _ => ∃ (r b : Addr) (ks : List Str) (cs : List Cell), vs = [.ref r, .ref b] ∧ ks ∈ kinds7 ∧ Cells ks cs ∧ SqT K H r (sl (cs.map lineOf)) ∧ SqT K H b (sl ks) ∧ ∀ H', Ex H H' → Q .non H'
theorem c_first (D : At K mg "first_wrong_row" s_first_wrong_row ["rows", "kinds"]) (B : Bl mg) (C1 : C8.Cal P w K mg base 3 "is_row" (spIsRow K) []) (C2 : C8.Cal P w K mg base 1 "cell_of" (spCellOf List.take) []) : C8.Cal P w K mg base 4 "first_wrong_row" (spFirst K) [] := by
  refine cal_of D sc_first_wrong_row (fun vs H Q E h => ?_) (fun f cdv A outer s H vs Q E hr h => ?_)
  · obtain ⟨r, b, ks, cs, rfl, _⟩ := h
    rfl
  · obtain ⟨r, b, ks, cs, rfl, hks, hC, hrr, hb, q⟩ := h
    have hu : (cxOf CX0 P w K mg base N_first_wrong_row "first_wrong_row" (defScope s_first_wrong_row) f cdv A outer s H E).nox.A.units + 1 < cLine := by have := hr.units; exact Nat.lt_of_le_of_lt (Nat.add_le_add_left (by decide) _) this
    refine ⟨_, pss_cons (ps_set (i := 2) sc_first_wrong_row.nd rfl (.inl rfl) (pe_callTy0 cr_setNew (by rfl) B.set_ (by decide +kernel)))
      (pss_cons (ps_for PassesOwn.never rfl (pi_enumT (by rfl) B.enum (pa_cons (pv 0) pa_nil)) (pg_tup (by rfl) (pgs_cons (pg_name (i := 3) sc_first_wrong_row.nd rfl (.inl rfl)) (pgs_cons (pg_name (i := 4) sc_first_wrong_row.nd rfl (.inl rfl)) pgs_nil)))
        (pss_cons (ps_if (PW.pt (pw_or (pt_not (pt_val (C8.pe_c C1 hr (by decide) (by rfl) (pa_cons (pv 4) (pa_cons (pv 1) pa_nil))))) (pw_or1 (pt_cmpR (op_setIn hu) (C8.pe_c C2 hr (by decide) (by rfl) (pa_cons (pv 4) pa_nil)) (pv 2) (by rfl))))) (pss_one (ps_ret (pv 3))) pss_nil)
        (pss_one (ps_expr (pe_setAdd hu (pv 2) (pa_cons (C8.pe_c C2 hr (by decide) (by rfl) (pa_cons (pv 4) pa_nil)) pa_nil))))))
      (pss_one (ps_ret pe_non))), ?_⟩
    refine ⟨rfl, fun D nD => ?_⟩
    have sD : Same H (upd H D (SetN P w D [])) := Same.new (Same.refl H) nD
    refine ⟨_, rfl, r, _, rfl, Same.tup sD hrr, for_it walk_enumT
      (fun i σ G => ∃ y3 y4 L, σ = [some (.ref r), some (.ref b), some (.ref D), y3, y4] ∧ Same H G ∧ G D = some (SetN P w D L) ∧ XS.Rows G L ∧ (∀ n ∈ names L, n ∈ (cs.take i).map nmOf) ∧ L.length ≤ i)
      ⟨none, none, [], rfl, sD, upd_same, (fun _ z => by cases z), (fun _ z => by cases z), Nat.zero_le _⟩ (fun i σ G _ ⟨_, _, _, _, e, _⟩ => Same.tup e hrr) ?_ ?_⟩
    · rintro i x σ G G' hi ⟨y3, y4, L, rfl, sG, hD, hR, hN, hlen⟩ ⟨T, a1, a2, rfl, nT, rfl, e1, e2⟩
      injection e1 with e1
      subst e1
      obtain ⟨ln, hln, rfl⟩ := mem_at e2
      rw [List.getElem?_map] at hln
      obtain ⟨c, hc, rfl⟩ : ∃ c, cs[i]? = some c ∧ ln = lineOf c := by
        cases e : cs[i]? with
        | none => rw [e] at hln; cases hln
        | some c => rw [e] at hln; cases hln; exact ⟨c, rfl, rfl⟩
      have hi2 : i < 27 := by
        have := hC.few
        have := (List.getElem?_eq_some_iff.mp hc).1
        omega
      have hg := hC.good c (List.mem_of_getElem? hc)
      have nin : nmOf c ∉ names L := fun m => by
        have z := hN _ m
        have y : (cs.map nmOf)[i]? = some (nmOf c) := by rw [List.getElem?_map, hc]; rfl
        rw [List.map_take] at z
        exact nd_not hC.nd y z
      have sT : Ex G (upd G T (.tup [.int (i : Nat), .str (lineOf c)])) := Ex.new nT
      refine ⟨T, _, rfl, SqT.of upd_same, rfl, _, _, rfl, _, _, rfl, rfl, ?_⟩
      have hD1 := sT _ _ hD
      have hR1 := Rows.ex hR sT
      have sH1 : Same H _ := sG.trans sT
      refine q_when (b := false) (et_or (et_not (et_B (ev_isRow (ev_var rfl) (ev_var rfl) (Same.tup sH1 hb) hks hg))) (fun _ => et_test fun G1 g1 Q1 q1 => eu_cellT (ev_var rfl) hks hg G1 g1 _ fun p G2 n2 e2 hp => ⟨_, rfl, D, p, nmOf c, L, rfl, rfl, e2 _ _ (g1 _ _ hD1), Rows.ex (Rows.ex hR1 g1) e2, hp, by rw [hasN_neg nin]; exact q1 G2 e2⟩)) (fun z => by cases z) (fun _ G1 g1 => ?_)
      have hD2 := g1 _ _ hD1
      have hR2 := Rows.ex hR1 g1
      refine ⟨_, rfl, ⟨D, L, rfl, hD2, hR2⟩, eu_cellT (ev_var rfl) hks hg G1 (Ex.refl _) _ fun p G2 n2 e2 hp => ⟨D, p, nmOf c, L, rfl, rfl, e2 _ _ hD2, Rows.ex hR2 e2, hp, by omega, fun L' h1 h2 => ?_⟩⟩
      have pm := h2 nin
      have hD3 := e2 _ _ hD2
      refine ⟨_, _, L', rfl, Same.own ((sH1.trans g1).trans e2) nD, upd_same, ?_, ?_, ?_⟩
      · intro y hy
        rcases List.mem_cons.mp (pm.mem_iff.mp hy) with rfl | z
        · exact kpm hp (ne_of hp hD3 fun q => by cases q)
        · exact kpm ((Rows.ex hR2 e2) y z) (ne_of ((Rows.ex hR2 e2) y z) hD3 fun q => by cases q)
      · intro n hn
        have : n ∈ names ((p, nmOf c) :: L) := (pm.map _).mem_iff.mp hn
        rw [List.take_succ, hc, List.map_append]
        rcases List.mem_cons.mp this with rfl | z
        · exact List.mem_append_right _ (List.mem_singleton.mpr rfl)
        · exact List.mem_append_left _ (hN n z)
      · rw [pm.length_eq]
        exact Nat.succ_le_succ hlen
    · rintro σ G ⟨y3, y4, L, rfl, sG, hD, hR, hN, hlen⟩
      exact q G sG
end
end T
namespace L2
open PySem PySem.Spec PyProof.Rows
/-- own: f(.., k = v, ..), positional defaults, no keyword-only parameter -/
theorem FunD.kbinds1 {K : PySem.W.Frag} {x qual : Str} {params : Arguments} {body : List Stmt} {scope : Scope} {dvs : List V} {f : Addr} {fd : FuncData} {ps : List Str} (F : FunD K x qual params body scope dvs [] f fd) (n : Nat) (ks : List Str) (g : List Value → List Value → List Value → List Value) (gV : List V → List V → List V → List V) (hd : dvs ≠ [])
    (hrel : ∀ {vs ds zs : List V} {us its ws : List Value}, Vals vs us → Vals ds its → Vals zs ws → Vals (gV vs ds zs) (g us its ws))
    (h : ∀ (T : Addr) (kV doc pm : Value) (an : Option Addr) (cdv ct : Value) (us its ws : List Value), us.length = n → its.length = dvs.length → ws.length = ks.length →
      ∃ k, bindArgs (PySem.W.fnOf x qual params body scope (.ref T) kV doc pm an cdv ct) ⟨us, ks.zip ws⟩ = seqItems? (.ref T) >>= k ∧ k (some its.toArray) = pure (ps.zip (g us its ws))) :
    ∃ its : List Value, KBn K fd ps n ks (fun us ws => g us its ws) (fun vs zs => gV vs dvs zs) := by
  obtain ⟨oc, od, dV, kV, doc, pm, an, cdv, ct, osl, rfl, lk, hcd, hD, hK⟩ := F.ex
  rcases hD with ⟨e, _⟩ | ⟨_, T, o, its, m, rfl, lT, oT, rT⟩
  · exact absurd e hd
  · refine ⟨its, ⟨fun s us ws X l1 l2 => ?_, fun r1 r2 => hrel r1 rT r2⟩⟩
    obtain ⟨k, e1, e2⟩ := h T kV doc pm an cdv ct us its ws l1 rT.length.symm l2
    refine BindsTo.of_looks fun M => ?_
    rw [e1]
    exact looks_items X lT oT (.of_pure e2)
end L2
namespace T
open PySem PySem.Spec PyProof.Rows L2 Evl XB TL XS XI
section
variable {P : Program} {w : World} {K : PySem.W.Frag} {mg : Str → Option Value} {base : Heap}
/-- the class of tables -/
structure TabC (K : PySem.W.Frag) (mg : Str → Option Value) (C : Addr) : Prop where
  mgT : mg "Table" = some (.ref C)
  cl : Cls K C
  k : NoAttr K C "_kinds"
  r : NoAttr K C "_rows"
  c : NoAttr K C "_cells"
/-- the dict of these cells -/
def DictOf (H : Hp) (kvs : List (Nm × V)) (cs : List Cell) : Prop := kvs.length = cs.length ∧ ∀ (i : Nat) (c : Cell), cs[i]? = some c → ∃ t : Addr, kvs[i]? = some (nmOf c, V.ref t) ∧ H t = some (.tup (sl c.2.2.2))
theorem DictOf.ex {H H' : Hp} {kvs : List (Nm × V)} {cs : List Cell} (h : DictOf H kvs cs) (e : Ex H H') : DictOf H' kvs cs := ⟨h.1, fun i c hc => by
  obtain ⟨t, h1, h2⟩ := h.2 i c hc
  exact ⟨t, h1, e _ _ h2⟩⟩
theorem DictOf.chg {H H' : Hp} {q : Addr} {zs : List V} {kvs : List (Nm × V)} {cs : List Cell} (h : DictOf H kvs cs) (hq : H q = some (.lst zs)) (c : Chg q H H') : DictOf H' kvs cs := ⟨h.1, fun i d hc => by
  obtain ⟨t, h1, h2⟩ := h.2 i d hc
  exact ⟨t, h1, c _ _ (ne_of h2 hq fun z => by cases z) h2⟩⟩
theorem DictOf.keys {H : Hp} {kvs : List (Nm × V)} {cs : List Cell} (h : DictOf H kvs cs) : kvs.map (·.1) = cs.map nmOf := by
  refine List.ext_getElem? fun i => ?_
  rw [List.getElem?_map, List.getElem?_map]
  cases e : cs[i]? with
  | none =>
    have : kvs[i]? = none := List.getElem?_eq_none (by rw [h.1]; exact List.getElem?_eq_none_iff.mp e)
    rw [this]
    rfl
  | some c =>
    obtain ⟨t, h1, _⟩ := h.2 i c e
    rw [h1]
    rfl
theorem valV_no {kvs : List (Nm × V)} {k : Nm} (h : k ∉ kvs.map (·.1)) : valV kvs k = none := by
  cases e : valV kvs k with
  | none => rfl
  | some v => exact absurd (valV_in e) h
theorem DictOf.put {H : Hp} {kvs : List (Nm × V)} {cs : List Cell} {c : Cell} {t : Addr} (h : DictOf H kvs cs) (n : nmOf c ∉ cs.map nmOf) (ht : H t = some (.tup (sl c.2.2.2))) : DictOf H (putK kvs (nmOf c) (.ref t)) (cs ++ [c]) := by
  rw [putK_new _ (valV_no (by rw [h.keys]; exact n))]
  refine ⟨by rw [List.length_append, List.length_append, h.1]; rfl, fun i d hd => ?_⟩
  by_cases hi : i < cs.length
  · rw [List.getElem?_append_left hi] at hd
    obtain ⟨u, h1, h2⟩ := h.2 i d hd
    exact ⟨u, by rw [List.getElem?_append_left (by rw [h.1]; exact hi)]; exact h1, h2⟩
  · rw [List.getElem?_append_right (by omega)] at hd
    have : i - cs.length = 0 := by
      have := (List.getElem?_eq_some_iff.mp hd).1
      rw [List.length_singleton] at this
      omega
    rw [this] at hd
    have e : d = c := by injection hd with z; exact z.symm
    subst e
    exact ⟨t, by rw [List.getElem?_append_right (by rw [h.1]; omega), h.1, this]; rfl, ht⟩
/-- .. written at D, where a dict stood -/
theorem DictOf.own {H : Hp} {D : Addr} {kvs ks' kvs0 : List (Nm × V)} {cs : List Cell} (h : DictOf H kvs cs) (hD : H D = some (.dT kvs0)) : DictOf (upd H D (.dT ks')) kvs cs := ⟨h.1, fun i c hc => by
  obtain ⟨t, h1, h2⟩ := h.2 i c hc
  exact ⟨t, h1, kpm h2 (ne_of h2 hD fun z => by cases z)⟩⟩
/-- .. and at an instance -/
theorem DictOf.ins {H : Hp} {x C dx : Addr} {fs : List (Str × V)} {o : HO} {kvs : List (Nm × V)} {cs : List Cell} (h : DictOf H kvs cs) (hx : H x = some (.ins C dx fs)) : DictOf (upd H x o) kvs cs := ⟨h.1, fun i c hc => by
  obtain ⟨t, h1, h2⟩ := h.2 i c hc
  exact ⟨t, h1, kpm h2 (ne_of h2 hx fun z => by cases z)⟩⟩
/-- a table of these kinds and cells stands at x -/
structure TabF (K : PySem.W.Frag) (C : Addr) (H : Hp) (x dx D a r : Addr) (kvs : List (Nm × V)) (ks : List Str) (cs : List Cell) : Prop where
  hx : H x = some (.ins C dx [("_kinds", .ref a), ("_rows", .ref r), ("_cells", .ref D)])
  ha : SqT K H a (sl ks)
  hr : SqT K H r (sl (cs.map lineOf))
  hD : H D = some (.dT kvs)
  d : DictOf H kvs cs
  c : Cells ks cs
def TabAt (K : PySem.W.Frag) (C : Addr) (H : Hp) (x : Addr) (ks lns : List Str) : Prop := ∃ dx D a r kvs cs, lns = cs.map lineOf ∧ TabF K C H x dx D a r kvs ks cs
theorem TabAt.raw {C : Addr} {H : Hp} {x : Addr} {ks lns : List Str} (h : TabAt K C H x ks lns) : ∃ dx D a r, H x = some (.ins C dx [("_kinds", .ref a), ("_rows", .ref r), ("_cells", .ref D)]) ∧ SqT K H a (sl ks) ∧ SqT K H r (sl lns) := by
  obtain ⟨dx, D, a, r, kvs, cs, rfl, f⟩ := h
  exact ⟨dx, D, a, r, f.hx, f.ha, f.hr⟩
theorem TabAt.ex {C : Addr} {H H' : Hp} {x : Addr} {ks lns : List Str} (h : TabAt K C H x ks lns) (e : Ex H H') : TabAt K C H' x ks lns := by
  obtain ⟨dx, D, a, r, kvs, cs, rfl, f⟩ := h
  exact ⟨dx, D, a, r, kvs, cs, rfl, e _ _ f.hx, ex_t e f.ha, ex_t e f.hr, e _ _ f.hD, f.d.ex e, f.c⟩
theorem ev_kinds {σ : L2.St} {H : Hp} {ta : TE} {a : Addr} {ks : List Str} {E : XK} (h : Ev ta σ H (.ref a)) (ha : SqT K H a (sl ks)) (hk : ks ∈ kinds7) : Ev (tCall (spKinds K) [] E (tCons ta tNil)) σ H (.bl true) :=
  ev_call (ea_cons h ea_nil) fun H1 e Q q E => ⟨a, ks, rfl, ex_t e ha, hk, q⟩
theorem ev_first {σ : L2.St} {H : Hp} {ta tb : TE} {a r : Addr} {ks : List Str} {cs : List Cell} {E : XK} (h : Ev ta σ H (.ref r)) (h2 : Ev tb σ H (.ref a)) (hk : ks ∈ kinds7) (hC : Cells ks cs) (hr : SqT K H r (sl (cs.map lineOf))) (ha : SqT K H a (sl ks)) : Ev (tCall (spFirst K) [] E (tCons ta (tCons tb tNil))) σ H .non :=
  ev_call (ea_cons h (ea_cons h2 ea_nil)) fun H1 e Q q E => ⟨r, a, ks, cs, rfl, hk, hC, ex_t e hr, ex_t e ha, q⟩
theorem sqt_ins {G : Hp} {b x C dx : Addr} {xs : List V} {fs : List (Str × V)} {o : HO} (h : SqT K G b xs) (hD : G x = some (.ins C dx fs)) : SqT K (upd G x o) b xs := by
  rcases h with (h | ⟨u, h⟩) | h
  · exact .inl (.inl (kpm h (ne_of h hD fun q => by cases q)))
  · exact .inl (.inr ⟨u, kpm h (ne_of h hD fun q => by cases q)⟩)
  · exact .inr h
def spInit (K : PySem.W.Frag) (C : Addr) : Sp := fun vs H Q _ => ∃ (x a r dx : Addr) (ks : List Str) (cs : List Cell), vs = [.ref x, .ref a, .ref r] ∧ H x = some (.ins C dx []) ∧ ks ∈ kinds7 ∧ Cells ks cs ∧ SqT K H a (sl ks) ∧ SqT K H r (sl (cs.map lineOf)) ∧
  ∀ D kvs H', H D = none → Chg x H H' → TabF K C H' x dx D a r kvs ks cs → Q .non H'
theorem c_init {C f : Addr} {fd : FuncData} {dvs : List V} (F : FunD K "__init__" "Table.__init__" (defArgs s_Table___init__) (defBody s_Table___init__) (defScope s_Table___init__) dvs [] f fd) (B : Bl mg) (T : TabC K mg C)
    (C1 : C8.Cal P w K mg base 2 "are_kinds" (spKinds K) []) (C2 : C8.Cal P w K mg base 4 "first_wrong_row" (spFirst K) []) (C3 : C8.Cal P w K mg base 1 "cell_of" (spCellOf List.take) []) (C4 : C8.Cal P w K mg base 1 "options_of" (spCellOf List.drop) []) :
    FnOk P w K mg base CX0 5 f fd ["self", "kinds", "rows"] (spInit K C) := by
  refine F.ok sc_Table___init__ (fun vs H Q E h => ?_) (fun cdv A outer s H vs Q E hr h => ?_)
  · obtain ⟨x, a, r, dx, ks, cs, rfl, _⟩ := h
    rfl
  · obtain ⟨x, a, r, dx, ks, cs, rfl, hx, hks, hC, ha, hrr, q⟩ := h
    have hu : (cxOf CX0 P w K mg base N_Table___init__ "Table.__init__" (defScope s_Table___init__) f cdv A outer s H E).nox.A.units + 1 < cLine := by have := hr.units; exact Nat.lt_of_le_of_lt (Nat.add_le_add_left (by decide) _) this
    refine ⟨_, PSs.nox (pss_cons (ps_if (pt_not (pt_val (C8.pe_c C1 hr (by decide) (by rfl) (pa_cons (pv 1) pa_nil)))) pss_never pss_nil)
      (pss_cons (ps_if (pt_not (pt_val (pe_callB call_isi (by rfl) B.isin (by decide +kernel) (pa_cons (pv 2) (pa_cons (pe_bltn (v := .ty "tuple") (by rfl) B.tuple (by decide +kernel) rfl) pa_nil))))) pss_never pss_nil)
      (pss_cons (ps_set (i := 3) sc_Table___init__.nd rfl (.inl rfl) (C8.pe_c C2 hr (by decide) (by rfl) (pa_cons (pv 2) (pa_cons (pv 1) pa_nil))))
      (pss_cons (ps_if (pt_cmpR op_notN (pv 3) pe_non (nomark _)) pss_never pss_nil)
      (pss_cons (ps_fld (pv 0) (pv 1) rfl)
      (pss_cons (ps_fld (pv 0) (pv 2) rfl)
      (pss_one (ps_fld (pv 0) (pe_dcT (own := [("row", 4)]) (g := gName 4) (tt := tYes) (tk := tCall (spCellOf List.take) [] C8.E0 (tCons (tVar 4) tNil)) (tv := tCall (spCellOf List.drop) [] C8.E0 (tCons (tVar 4) tNil)) hu rfl sc_Table___init__.nd (pi_tup (pv 2))
          (blkOk_by (own := [("row", 4)]) (N := N_Table___init__) (sc := defScope s_Table___init__) (by decide +kernel)) (fun _ _ _ _ _ => pg_name (i := 4) sc_Table___init__.nd rfl (Or.inl rfl)) (fun _ _ _ _ _ => pts_nil)
          (fun _ _ _ _ _ => C8.pe_c C3 hr (by decide) (by rfl) (pa_cons (pv 4) pa_nil)) (fun _ _ _ _ _ => C8.pe_c C4 hr (by decide) (by rfl) (pa_cons (pv 4) pa_nil))) rfl)))))))), ?_⟩
    refine q_when (b := false) (et_not (et_B (ev_kinds (ev_var rfl) ha hks))) (fun z => by cases z) (fun _ H1 e1 => ?_)
    refine q_when (b := false) (et_not (et_B (ev_isTup (ev_var rfl) (ex_t e1 hrr)))) (fun z => by cases z) (fun _ H2 e2 => ?_)
    have e12 := e1.trans e2
    refine q_asg (v := .non) (ev_first (ev_var rfl) (ev_var rfl) hks hC (ex_t e12 hrr) (ex_t e12 ha)) fun H3 e3 => ?_
    refine q_when (b := false) (et_test (ev_op (ev_var rfl) ev_c fun H1 e Q q => ⟨rfl, q H1 (Ex.refl H1)⟩)) (fun z => by cases z) (fun _ H4 e4 => ?_)
    have e14 := (e12.trans e3).trans e4
    have hx4 := e14 _ _ hx
    refine ⟨_, rfl, _, rfl, x, C, dx, [], rfl, hx4, T.cl, T.k, by decide, ?_⟩
    refine ⟨_, rfl, _, rfl, x, C, dx, _, rfl, upd_same, T.cl, T.r, by show 1 < 1000; decide, ?_⟩
    have hr5 : SqT K (upd (upd H4 x (.ins C dx (putF "_kinds" (.ref a) []))) x (.ins C dx (putF "_rows" (.ref r) (putF "_kinds" (.ref a) [])))) r (sl (cs.map lineOf)) := sqt_ins (sqt_ins (ex_t e14 hrr) hx4) upd_same
    have ha5 : SqT K (upd (upd H4 x (.ins C dx (putF "_kinds" (.ref a) []))) x (.ins C dx (putF "_rows" (.ref r) (putF "_kinds" (.ref a) [])))) a (sl ks) := sqt_ins (sqt_ins (ex_t e14 ha) hx4) upd_same
    have hx5 : (upd (upd H4 x (.ins C dx (putF "_kinds" (.ref a) []))) x (.ins C dx (putF "_rows" (.ref r) (putF "_kinds" (.ref a) [])))) x = some (.ins C dx [("_kinds", .ref a), ("_rows", .ref r)]) := upd_same
    have ch5 : Chg x H (upd (upd H4 x (.ins C dx (putF "_kinds" (.ref a) []))) x (.ins C dx (putF "_rows" (.ref r) (putF "_kinds" (.ref a) [])))) := ((Same.chg e14).at).at
    refine ⟨_, rfl, r, rfl, ⟨_, hr5⟩, fun D nD => ?_⟩
    have nDH : H D = none := by
      cases z : H D with
      | none => rfl
      | some o =>
        by_cases y : D = x
        · rw [y, hx5] at nD; cases nD
        · rw [ch5 _ _ y z] at nD; cases nD
    refine dcT_tup (xs := sl (cs.map lineOf)) (fun i G => Same (upd (upd H4 x (.ins C dx (putF "_kinds" (.ref a) []))) x (.ins C dx (putF "_rows" (.ref r) (putF "_kinds" (.ref a) [])))) G ∧ ∃ kvs, G D = some (.dT kvs) ∧ DictOf G kvs (cs.take i))
      ⟨Same.new (Same.refl _) nD, [], upd_same, rfl, fun i c z => by rw [List.take_zero] at z; cases z⟩ (fun i G _ p => Same.tup p.1 hr5) ?_ ?_
    · rintro i y G hi ⟨sG, kvs, hD, hl⟩
      obtain ⟨ln, hln, rfl⟩ := mem_at hi
      rw [List.getElem?_map] at hln
      obtain ⟨c, hc, rfl⟩ : ∃ c, cs[i]? = some c ∧ ln = lineOf c := by
        cases e : cs[i]? with
        | none => rw [e] at hln; cases hln
        | some c => rw [e] at hln; cases hln; exact ⟨c, rfl, rfl⟩
      have hi2 : i < 27 := by
        have := hC.few
        have := (List.getElem?_eq_some_iff.mp hc).1
        omega
      have hg := hC.good c (List.mem_of_getElem? hc)
      refine ⟨rfl, ?_⟩
      refine eu_cellT (ev_var rfl) hks hg G (Ex.refl _) _ fun p G1 n1 g1 hp => eu_cellD (ev_var rfl) hks hg G1 (Ex.refl _) _ fun p2 G2 n2 g2 hp2 => ⟨kvs, nmOf c, p, rfl, g2 _ _ hp, g2 _ _ (g1 _ _ hD), by rw [sizeLine_eq, hl.1, List.length_take]; omega, Same.own ((sG.trans g1).trans g2) nD, _, upd_same, ?_⟩
      rw [List.take_succ, hc]
      refine DictOf.own (DictOf.put ((hl.ex g1).ex g2) ?_ hp2) (g2 _ _ (g1 _ _ hD))
      rw [List.map_take]
      exact nd_not hC.nd (by rw [List.getElem?_map, hc]; rfl)
    · rintro G ⟨sG, kvs, hD, hl⟩
      refine ⟨_, rfl, x, C, dx, _, rfl, sG _ _ hx5, T.cl, T.c, by show 2 < 1000; decide, q D kvs _ nDH ?_ ⟨upd_same, sqt_ins (Same.tup sG ha5) (sG _ _ hx5), sqt_ins (Same.tup sG hr5) (sG _ _ hx5), kpm hD (ne_of hD (sG _ _ hx5) fun z => by cases z), DictOf.ins (by rw [show (sl (cs.map lineOf)).length = cs.length from by rw [XB.len_sl, List.length_map], List.take_length] at hl; exact hl) (sG _ _ hx5), hC⟩⟩
      exact (ch5.trans (Same.chg sG)).at
end
end T
namespace T
open PySem PySem.Spec PyProof.Rows L2 Evl XB TL XS XI
section
variable {P : Program} {w : World} {K : PySem.W.Frag} {mg : Str → Option Value} {base : Heap} {k : Nat} {C : Addr} {m : Str} {sp : Sp}
theorem meth_ok {x qual : Str} {st : Stmt} {f : Addr} {fd : FuncData} {N ps : List Str} (F : Fun K x qual st f fd) (S : FnScope N ps (defScope st)) (len : ∀ vs H Q E, sp vs H Q E → vs.length = ps.length)
    (hbody : ∀ (cdv : Value) (A : Around) (outer : List Env) (s : Shared) (H : Hp) (vs : List V) (Q : VK) (E : XK), Room k (A.deeper (envOfC qual (defScope st) s.heap.objs.size f cdv)) → sp vs H Q E →
      ∃ t, PSs (cxOf CX0 P w K mg base N qual (defScope st) f cdv A outer s H E).nox (defBody st) t ∧ t { nx := fun _ H' => Q .non H', rt := Q } (start N vs) H) : FnOk P w K mg base CX0 (k + 1) f fd ps sp := F.ok S len hbody
/-- a method of the class's own, a property of it: the def, as it stands -/
structure MetD (K : PySem.W.Frag) (C : Addr) (m qual : Str) (st : Stmt) : Prop where
  ex : ∃ (f : Addr) (fd : FuncData), Fun K m qual st f fd ∧ XO.Own K C m f ∧ Binds K fd ["self"] []
structure ProD (K : PySem.W.Frag) (C : Addr) (m qual : Str) (st : Stmt) : Prop where
  ex : ∃ (f : Addr) (fd : FuncData) (p : Addr), Fun K m qual st f fd ∧ PropOf K C m p f ∧ Binds K fd ["self"] []
structure OwnM (P : Program) (w : World) (K : PySem.W.Frag) (mg : Str → Option Value) (base : Heap) (k : Nat) (C : Addr) (m : Str) (sp : Sp) : Prop where
  ex : ∃ (f : Addr) (fd : FuncData), FnOk P w K mg base CX0 k f fd ["self"] sp ∧ XO.Own K C m f ∧ Binds K fd ["self"] []
structure ProM (P : Program) (w : World) (K : PySem.W.Frag) (mg : Str → Option Value) (base : Heap) (k : Nat) (C : Addr) (m : Str) (sp : Sp) : Prop where
  ex : ∃ (f : Addr) (fd : FuncData) (p : Addr), FnOk P w K mg base CX0 k f fd ["self"] sp ∧ PropOf K C m p f ∧ Binds K fd ["self"] []
def spKindsP (K : PySem.W.Frag) (C : Addr) : Sp := fun vs H Q _ => ∃ (x : Addr) (ks lns : List Str), vs = [.ref x] ∧ TabAt K C H x ks lns ∧ ∀ a, SqT K H a (sl ks) → Q (.ref a) H
def spRowsP (K : PySem.W.Frag) (C : Addr) : Sp := fun vs H Q _ => ∃ (x : Addr) (ks lns : List Str), vs = [.ref x] ∧ TabAt K C H x ks lns ∧ ∀ a, SqT K H a (sl lns) → Q (.ref a) H
def spLenP (K : PySem.W.Frag) (C : Addr) : Sp := fun vs H Q _ => ∃ (x : Addr) (ks lns : List Str), vs = [.ref x] ∧ TabAt K C H x ks lns ∧ Q (.int (lns.length : Nat)) H
def spBoolP (K : PySem.W.Frag) (C : Addr) : Sp := fun vs H Q _ => ∃ (x : Addr) (ks lns : List Str), vs = [.ref x] ∧ TabAt K C H x ks lns ∧ Q (.bl true) H
def spStrP (K : PySem.W.Frag) (C : Addr) : Sp := fun vs H Q _ => ∃ (x : Addr) (ks lns : List Str), vs = [.ref x] ∧ TabAt K C H x ks lns ∧ ks ∈ kinds7 ∧ lns.length ≤ 27 ∧ (∀ x ∈ lns, x.length ≤ 136) ∧ ∀ H', Ex H H' → Q (.str (textOf ks lns)) H'
theorem p_kinds (D : ProD K C "kinds" "Table.kinds" s_Table_kinds) (T : TabC K mg C) : ProM P w K mg base 1 C "kinds" (spKindsP K C) := by
  obtain ⟨f, fd, p, F, hp, hb⟩ := D.ex
  refine ⟨f, fd, p, meth_ok F sc_Table_kinds (fun vs H Q E h => ?_) (fun cdv A outer s H vs Q E hr h => ?_), hp, hb⟩
  · obtain ⟨x, ks, lns, rfl, _⟩ := h
    rfl
  · obtain ⟨x, ks, lns, rfl, tt, q⟩ := h
    obtain ⟨dx, D', a, r, hx, h1, h2⟩ := tt.raw
    exact ⟨_, pss_one (ps_ret (pe_fld (pv 0) rfl)), _, rfl, x, C, dx, _, _, rfl, hx, T.cl, T.k, rfl, q a h1⟩
theorem p_rows (D : ProD K C "rows" "Table.rows" s_Table_rows) (T : TabC K mg C) : ProM P w K mg base 1 C "rows" (spRowsP K C) := by
  obtain ⟨f, fd, p, F, hp, hb⟩ := D.ex
  refine ⟨f, fd, p, meth_ok F sc_Table_rows (fun vs H Q E h => ?_) (fun cdv A outer s H vs Q E hr h => ?_), hp, hb⟩
  · obtain ⟨x, ks, lns, rfl, _⟩ := h
    rfl
  · obtain ⟨x, ks, lns, rfl, tt, q⟩ := h
    obtain ⟨dx, D', a, r, hx, h1, h2⟩ := tt.raw
    exact ⟨_, pss_one (ps_ret (pe_fld (pv 0) rfl)), _, rfl, x, C, dx, _, _, rfl, hx, T.cl, T.r, rfl, q r h2⟩
theorem p_len (D : MetD K C "__len__" "Table.__len__" s_Table___len__) (T : TabC K mg C) (B : Bl mg) : OwnM P w K mg base 1 C "__len__" (spLenP K C) := by
  obtain ⟨f, fd, F, hp, hb⟩ := D.ex
  refine ⟨f, fd, meth_ok F sc_Table___len__ (fun vs H Q E h => ?_) (fun cdv A outer s H vs Q E hr h => ?_), hp, hb⟩
  · obtain ⟨x, ks, lns, rfl, _⟩ := h
    rfl
  · obtain ⟨x, ks, lns, rfl, tt, q⟩ := h
    obtain ⟨dx, D', a, r, hx, h1, h2⟩ := tt.raw
    refine ⟨_, pss_one (ps_ret (pe_callB call_len_seq (by rfl) B.len (by decide +kernel) (pa_cons (pe_fld (pv 0) rfl) pa_nil))), _, rfl, x, C, dx, _, _, rfl, hx, T.cl, T.r, rfl, r, _, rfl, .inr h2, ?_⟩
    rw [XB.len_sl]
    exact q
theorem p_bool (D : MetD K C "__bool__" "Table.__bool__" s_Table___bool__) : OwnM P w K mg base 1 C "__bool__" (spBoolP K C) := by
  obtain ⟨f, fd, F, hp, hb⟩ := D.ex
  refine ⟨f, fd, meth_ok F sc_Table___bool__ (fun vs H Q E h => ?_) (fun cdv A outer s H vs Q E hr h => ?_), hp, hb⟩
  · obtain ⟨x, ks, lns, rfl, _⟩ := h
    rfl
  · obtain ⟨x, ks, lns, rfl, _, q⟩ := h
    exact ⟨_, pss_one (ps_ret pe_bl), q⟩
theorem ev_fld {σ : L2.St} {H : Hp} {ta : TE} {x dx : Addr} {f : Str} {fs : List (Str × V)} {v : V} (h : Ev ta σ H (.ref x)) (hx : H x = some (.ins C dx fs)) (c : Cls K C) (n : NoAttr K C f) (l : fs.lookup f = some v) : Ev (tFld K ta f) σ H v := fun H1 e Q q =>
  h H1 e _ fun H2 e2 => ⟨x, C, dx, fs, v, rfl, e2 _ _ (e _ _ hx), c, n, l, q H2 e2⟩
theorem ea_star {σ : L2.St} {H : Hp} {te : TE} {t : TA} {p : Addr} {xs ys : List V} (h : Ev te σ H (.ref p)) (hx : SqT K H p xs) (ht : EvA t σ H ys) : EvA (StX.tStar K te t) σ H (xs ++ ys) := fun H1 e Q q =>
  h H1 e _ fun H2 e2 => ⟨p, xs, rfl, .inl (ex_t (e.trans e2) hx), ht H2 (e.trans e2) _ fun H3 e3 => q H3 (e2.trans e3)⟩
theorem ea_is {σ : L2.St} {H : Hp} {t : TA} {xs ys : List V} (h : EvA t σ H xs) (e : xs = ys) : EvA t σ H ys := e ▸ h
theorem head_eq {ks : List Str} (h : ks ∈ kinds7) : ("kinds " : Str) ++ Txt.join " " ks = headOf ks := by
  have all : ∀ ks ∈ kinds7, ("kinds " : Str) ++ Txt.join " " ks = headOf ks := by decide +kernel
  exact all ks h
theorem p_str (D : MetD K C "__str__" "Table.__str__" s_Table___str__) (T : TabC K mg C) : OwnM P w K mg base 1 C "__str__" (spStrP K C) := by
  obtain ⟨f, fd, F, hp, hb⟩ := D.ex
  refine ⟨f, fd, meth_ok F sc_Table___str__ (fun vs H Q E h => ?_) (fun cdv A outer s H vs Q E hr h => ?_), hp, hb⟩
  · obtain ⟨x, ks, lns, rfl, _⟩ := h
    rfl
  · obtain ⟨x, ks, lns, rfl, tt, hks, hl, hx2, q⟩ := h
    obtain ⟨dx, D', a, r, hx, h1, h2⟩ := tt.raw
    refine ⟨_, pss_one (ps_ret (pe_join pe_str (pe_lst (pa_cons (pe_op op_add_str pe_str (pe_join pe_str (pe_fld (pv 0) rfl))) (StX.pa_star (pe_fld (pv 0) rfl) pa_nil))))), ?_⟩
    refine s_ret (ev_join (ys := headOf ks :: lns) ev_c (el_lst (ea_cons (ev_is (ev_addS ev_c (ev_joinS (ys := ks) ev_c (ev_fld (ev_var rfl) hx T.cl T.k rfl) (.inr h1) ?_) ?_) (by rw [head_eq hks])) (ea_is (ea_star (ev_fld (ev_var rfl) hx T.cl T.r rfl) h2 ea_nil) (List.append_nil _))) ?_) ?_) fun H1 e1 => q H1 e1
    · exact join_bound (B := 16) (n := 3) (fun p hp => (small_ks hks p hp).len) (len7 hks) (by decide) rfl
    · have := join_le (B := 16) (n := 3) (ws := ks) (fun p hp => (small_ks hks p hp).len) (len7 hks) (sep := " ") rfl
      show 6 + _ ≤ _
      omega
    · rw [XB.len_sl]
      show lns.length + 1 ≤ _
      omega
    · refine join_bound (B := 136) (n := 28) (fun p hp => ?_) (by show lns.length + 1 ≤ 28; omega) (by decide) rfl
      rcases List.mem_cons.mp hp with rfl | hp
      · exact Nat.le_trans (head_len hks) (by decide)
      · exact hx2 p hp
end
end T
namespace T
open PySem PySem.Spec PyProof.Rows L2 Evl XB TL XS XI
/-! ### what repr shows -/
theorem shw_strs : ∀ ws : List Str, PyData.showableAll (ws.map PyData.str) = true
  | [] => rfl
  | x :: r => by
    show (true && PyData.showableAll (r.map PyData.str)) = true
    rw [shw_strs r]
    rfl
theorem hd_strs : ∀ ws : List Str, PyData.hasDictAll (ws.map PyData.str) = false
  | [] => rfl
  | x :: r => by
    show (false || PyData.hasDictAll (r.map PyData.str)) = false
    rw [hd_strs r]
    rfl
theorem dep_strs : ∀ ws : List Str, PyData.depthAll (ws.map PyData.str) = 0
  | [] => rfl
  | x :: r => by
    show max 0 (PyData.depthAll (r.map PyData.str)) = 0
    rw [dep_strs r]
    rfl
def Lo (x : Str) : Prop := ∀ c ∈ tl x, c < 128
theorem lv_str {x : Str} (h : Lo x) : PyData.leavesShort 13 (.str x) = true := List.all_eq_true.mpr fun c m => decide_eq_true (Nat.lt_trans (h c m) (by decide))
theorem lv_strs : ∀ {ws : List Str}, (∀ x ∈ ws, Lo x) → PyData.leavesShortAll 13 (ws.map PyData.str) = true
  | [], _ => rfl
  | x :: r, h => by
    show (PyData.leavesShort 13 (.str x) && PyData.leavesShortAll 13 (r.map PyData.str)) = true
    rw [lv_str (h x List.mem_cons_self), lv_strs fun y m => h y (List.mem_cons_of_mem _ m)]
    rfl
theorem wt_strs {B : Nat} : ∀ {ws : List Str}, (∀ x ∈ ws, x.length ≤ B) → PyData.weightAll (ws.map PyData.str) ≤ ws.length * (B + 1)
  | [], _ => Nat.zero_le _
  | x :: r, h => by
    have z := wt_strs (B := B) (ws := r) fun y m => h y (List.mem_cons_of_mem _ m)
    have y := h x List.mem_cons_self
    show x.length + 1 + PyData.weightAll (r.map PyData.str) ≤ (r.length + 1) * (B + 1)
    rw [Nat.succ_mul]
    omega
theorem lo_joinL {S : List Nat} (hS : ∀ c ∈ S, c < 128) : ∀ {ps : List (List Nat)}, (∀ p ∈ ps, ∀ c ∈ p, c < 128) → ∀ c ∈ joinL S ps, c < 128
  | [], _, c, m => by cases m
  | [p], h, c, m => h p List.mem_cons_self c m
  | p :: q :: r, h, c, m => by
    rcases List.mem_append.mp (show c ∈ p ++ (S ++ joinL S (q :: r)) from m) with m | m
    · exact h p List.mem_cons_self c m
    · rcases List.mem_append.mp m with m | m
      · exact hS c m
      · exact lo_joinL hS (fun y hy => h y (List.mem_cons_of_mem _ hy)) c m
theorem lo_join {sep : Str} {ys : List Str} (hs : Lo sep) (h : ∀ y ∈ ys, Lo y) : Lo (Txt.join sep ys) := fun c m => by
  rw [join_eq, tl_join] at m
  exact lo_joinL hs (fun p hp => by
    obtain ⟨y, hy, rfl⟩ := List.mem_map.mp hp
    exact h y hy) c m
theorem Small.lo {x : Str} (h : Small x) : Lo x := fun c m => by
  unfold Small at h
  rw [Bool.and_eq_true, List.all_eq_true] at h
  have := of_decide_eq_true (h.2 c m)
  omega
theorem lo_sp : Lo " " := fun c m => by
  have : c ∈ [32] := m
  rw [List.mem_singleton.mp this]
  decide
theorem lo_nl : Lo "\n" := fun c m => by
  have : c ∈ [10] := m
  rw [List.mem_singleton.mp this]
  decide
theorem lo_line {ks : List Str} {c : Cell} (h : ks ∈ kinds7) (g : GoodC ks c) : Lo (lineOf c) := lo_join lo_sp fun y hy => ((small_parts h g).1 y hy).lo
theorem lo_head {ks : List Str} (h : ks ∈ kinds7) : Lo (headOf ks) := lo_join lo_sp fun y hy => by
  rcases List.mem_cons.mp hy with rfl | hy
  · exact Small.lo (by decide +kernel)
  · exact (small_ks h y hy).lo
/-- what a box tells -/
def dueOf (ks lns : List Str) : PyData := .list [.tuple (ks.map PyData.str), .tuple (lns.map PyData.str), .int (lns.length : Nat), .str (textOf ks lns), .bool true, .bool true]
theorem due_ok {ks : List Str} {cs : List Cell} (h : ks ∈ kinds7) (hC : Cells ks cs) :
    (dueOf ks (cs.map lineOf)).showable = true ∧ (dueOf ks (cs.map lineOf)).hasDict = false ∧ (dueOf ks (cs.map lineOf)).depth ≤ 32 ∧ (dueOf ks (cs.map lineOf)).shown.length ≤ sizeLine := by
  have few : (cs.map lineOf).length ≤ 27 := by rw [List.length_map]; exact hC.few
  have lens : ∀ x ∈ cs.map lineOf, x.length ≤ 136 := fun x hx => by
    obtain ⟨c, hc, rfl⟩ := List.mem_map.mp hx
    exact line_len h (hC.good c hc)
  have los : ∀ x ∈ cs.map lineOf, Lo x := fun x hx => by
    obtain ⟨c, hc, rfl⟩ := List.mem_map.mp hx
    exact lo_line h (hC.good c hc)
  have kl := len7 h
  have hl := head_len h
  generalize cs.map lineOf = lns at few lens los
  have lt : Lo (textOf ks lns) := lo_join lo_nl fun y hy => by
    rcases List.mem_cons.mp hy with rfl | hy
    · exact lo_head h
    · exact los y hy
  have tlen : (textOf ks lns).length ≤ 28 * 136 + 28 := join_le (B := 136) (n := 28) (fun p hp => by
    rcases List.mem_cons.mp hp with rfl | hp
    · exact Nat.le_trans hl (by decide)
    · exact lens p hp) (by show lns.length + 1 ≤ 28; omega) rfl
  refine ⟨?_, ?_, ?_, ?_⟩
  · show (PyData.showableAll (ks.map PyData.str) && (PyData.showableAll (lns.map PyData.str) && (decide (((lns.length : Nat) : Int).natAbs.log2 < 1920) && (true && (true && (true && true)))))) = true
    rw [shw_strs, shw_strs, decide_eq_true]
    · rfl
    · have : ((lns.length : Nat) : Int).natAbs = lns.length := Int.natAbs_natCast _
      rw [this]
      refine Nat.lt_of_le_of_lt (Nat.log2_le_self _) (by omega)
  · show (PyData.hasDictAll (ks.map PyData.str) || (PyData.hasDictAll (lns.map PyData.str) || (false || (false || (false || (false || false)))))) = false
    rw [hd_strs, hd_strs]
    rfl
  · show max (PyData.depthAll (ks.map PyData.str) + 1) (max (PyData.depthAll (lns.map PyData.str) + 1) (max 0 (max 0 (max 0 (max 0 0))))) + 1 ≤ 32
    rw [dep_strs, dep_strs]
    decide
  · refine PyData.shown_fits (B := 13) (by decide) (by decide) ?_ ?_
    · show (PyData.leavesShortAll 13 (ks.map PyData.str) && (PyData.leavesShortAll 13 (lns.map PyData.str) && (decide ((PyData.shown (.int (lns.length : Nat))).length ≤ 13) && (PyData.leavesShort 13 (.str (textOf ks lns)) && (true && (true && true)))))) = true
      rw [lv_strs fun x hx => (small_ks h x hx).lo, lv_strs los, lv_str lt, decide_eq_true (PyData.shown_int_le (by omega))]
      rfl
    · have w1 := wt_strs (B := 16) (ws := ks) fun x hx => (small_ks h x hx).len
      have w2 := wt_strs (B := 136) (ws := lns) lens
      have w3 : PyData.weight (.int ((lns.length : Nat) : Int)) ≤ 100 := by
        show (if ((lns.length : Nat) : Int) == 0 then 0 else ((lns.length : Nat) : Int).natAbs.log2 + 1) ≤ 100
        split
        · omega
        · have : ((lns.length : Nat) : Int).natAbs = lns.length := Int.natAbs_natCast _
          rw [this]
          have := Nat.log2_le_self lns.length
          omega
      show PyData.weightAll (ks.map PyData.str) + 1 + (PyData.weightAll (lns.map PyData.str) + 1 + (PyData.weight (.int ((lns.length : Nat) : Int)) + 1 + ((textOf ks lns).length + 1 + (0 + 1 + (0 + 1 + 0))))) ≤ 2 ^ 20
      have y1 : ks.length * (16 + 1) ≤ 3 * 17 := Nat.mul_le_mul_right _ kl
      have y2 : lns.length * (136 + 1) ≤ 27 * 137 := Nat.mul_le_mul_right _ few
      omega
end T
namespace T
open PySem PySem.Spec PyProof.Rows L2 Evl XB TL XS XI
def swp {α : Type} : List α → List α
  | [a, b] => [b, a]
  | _ => []
section
variable {P : Program} {w : World} {K : PySem.W.Frag} {mg : Str → Option Value} {base : Heap} {C : Addr}
def psI : List Str := ["self", "kinds", "rows"]
/-- the class and how its tables are made -/
structure TabM (P : Program) (w : World) (K : PySem.W.Frag) (mg : Str → Option Value) (base : Heap) (C : Addr) : Prop where
  T : TabC K mg C
  I : C8.InsC K C
  ex : ∃ (f : Addr) (fd : FuncData), Mk K C f ∧ FnOk P w K mg base CX0 5 f fd psI (spInit K C) ∧ Binds K fd psI [] ∧ (∃ (ae : Addr) (ds : List Value), Vals [.ref ae] ds ∧ Binds K fd psI ds ∧ ∀ H, SqT K H ae []) ∧
    (∃ its : List Value, KBn K fd psI 1 ["rows", "kinds"] (fun us ws => us ++ swp ws) (fun vs zs => vs ++ swp zs)) ∧ KBn K fd psI 1 ["kinds", "rows"] (fun us ws => us ++ ws) (fun vs zs => vs ++ zs)
/-- a table comes -/
def EvTab (K : PySem.W.Frag) (C : Addr) (te : TE) (σ : L2.St) (H : Hp) (ks lns : List Str) : Prop := ∀ H1, Ex H H1 → ∀ Q : VK, (∀ x H2, Ex H1 H2 → TabAt K C H2 x ks lns → Q (.ref x) H2) → te σ H1 Q
theorem init_go {H3 : Hp} {p r x dx : Addr} {ks : List Str} {cs : List Cell} {Q : VK} {E : XK} (hks : ks ∈ kinds7) (hC : Cells ks cs) (hp : SqT K H3 p (sl ks)) (hr : SqT K H3 r (sl (cs.map lineOf))) (nx : H3 x = none) (ndx : H3 dx = none) (nex : dx ≠ x)
    (q : ∀ H4, Ex H3 H4 → TabAt K C H4 x ks (cs.map lineOf) → Q (.ref x) H4) : spInit K C [.ref x, .ref p, .ref r] (upd (upd H3 dx (.own x)) x (.ins C dx [])) (fun v H2 => v = .non ∧ Q (.ref x) H2) E := by
  have e1 : Ex H3 (upd (upd H3 dx (.own x)) x (.ins C dx [])) := (Ex.new ndx).trans (Ex.new (by rw [upd_ne nex.symm]; exact nx))
  refine ⟨x, p, r, dx, ks, cs, rfl, upd_same, hks, hC, ex_t e1 hp, ex_t e1 hr, fun D kvs H4 _ ch f => ⟨rfl, ?_⟩⟩
  have e2 : Ex H3 H4 := fun b o h => ch b o (ne_of_none h nx) (e1 b o h)
  exact q H4 e2 ⟨dx, D, p, r, kvs, cs, rfl, f⟩
variable {σ : L2.St} {H : Hp} {ta tb te : TE} {ks : List Str} {cs : List Cell} {E : XK}
theorem et_make (hks : ks ∈ kinds7) (hC : Cells ks cs) (ha : EvS K ta σ H (sl ks)) (hb : EvS K tb σ H (sl (cs.map lineOf))) : EvTab K C (tMake C (spInit K C) [] E (tCons ta (tCons tb tNil))) σ H ks (cs.map lineOf) := fun H1 e Q q =>
  ha H1 e _ fun p H2 e2 hp => hb H2 (e.trans e2) _ fun r H3 e3 hr => fun x dx nx ndx nex => init_go hks hC (ex_t e3 hp) hr nx ndx nex fun H4 e4 t => q x H4 ((e2.trans e3).trans e4) t
theorem et_make1 {ae : Addr} (hks : ks ∈ kinds7) (hC : Cells ks []) (ha : EvS K ta σ H (sl ks)) (he : ∀ H, SqT K H ae []) : EvTab K C (tMake C (spInit K C) [.ref ae] E (tCons ta tNil)) σ H ks [] := fun H1 e Q q =>
  ha H1 e _ fun p H2 e2 hp => fun x dx nx ndx nex => init_go (cs := []) hks hC hp (he _) nx ndx nex fun H4 e4 t => q x H4 (e2.trans e4) t
theorem et_makeRK (hks : ks ∈ kinds7) (hC : Cells ks cs) (ha : EvS K ta σ H (sl (cs.map lineOf))) (hb : EvS K tb σ H (sl ks)) : EvTab K C (tMakeK C 0 2 (spInit K C) (fun vs zs => vs ++ swp zs) E tNil (tCons ta (tCons tb tNil))) σ H ks (cs.map lineOf) := fun H1 e Q q =>
  ha H1 e _ fun r H2 e2 hr => hb H2 (e.trans e2) _ fun p H3 e3 hp => ⟨rfl, rfl, fun x dx nx ndx nex => init_go hks hC hp (ex_t e3 hr) nx ndx nex fun H4 e4 t => q x H4 ((e2.trans e3).trans e4) t⟩
theorem et_makeKR (hks : ks ∈ kinds7) (hC : Cells ks cs) (ha : EvS K ta σ H (sl ks)) (hb : EvS K tb σ H (sl (cs.map lineOf))) : EvTab K C (tMakeK C 0 2 (spInit K C) (fun vs zs => vs ++ zs) E tNil (tCons ta (tCons tb tNil))) σ H ks (cs.map lineOf) := fun H1 e Q q =>
  ha H1 e _ fun p H2 e2 hp => hb H2 (e.trans e2) _ fun r H3 e3 hr => ⟨rfl, rfl, fun x dx nx ndx nex => init_go hks hC (ex_t e3 hp) hr nx ndx nex fun H4 e4 t => q x H4 ((e2.trans e3).trans e4) t⟩
/-! ### boxes -/
theorem TabAt.chg {H' : Hp} {p x : Addr} {ks lns : List Str} {zs : List V} (h : TabAt K C H x ks lns) (hp : H p = some (.lst zs)) (c : Chg p H H') : TabAt K C H' x ks lns := by
  obtain ⟨dx, D, a, r, kvs, cs, rfl, f⟩ := h
  have go : ∀ {a : Addr} {xs : List V}, SqT K H a xs → SqT K H' a xs := fun {a xs} h => by
    rcases h with (h | ⟨u, h⟩) | h
    · exact .inl (.inl (c _ _ (ne_of h hp fun q => by cases q) h))
    · exact .inl (.inr ⟨u, c _ _ (ne_of h hp fun q => by cases q) h⟩)
    · exact .inr h
  exact ⟨dx, D, a, r, kvs, cs, rfl, c _ _ (ne_of f.hx hp fun q => by cases q) f.hx, go f.ha, go f.hr, c _ _ (ne_of f.hD hp fun q => by cases q) f.hD, f.d.chg hp c, f.c⟩
structure Box (K : PySem.W.Frag) (C : Addr) (H : Hp) (p D b s l x : Addr) (ks : List Str) (cs : List Cell) : Prop where
  hb : H b = some (.lst [.ref s, .ref l, .ref x])
  bp : b ≠ p
  bD : b ≠ D
  hs : H s = some (.lst (sl ks))
  sp : s ≠ p
  sD : s ≠ D
  hl : H l = some (.lst (sl (cs.map lineOf)))
  lp : l ≠ p
  lD : l ≠ D
  t : TabAt K C H x ks (cs.map lineOf)
  k : ks ∈ kinds7
  c : Cells ks cs
def BoxAt (K : PySem.W.Frag) (C : Addr) (H : Hp) (p D : Addr) (v : V) : Prop := ∃ b s l x ks cs, v = .ref b ∧ Box K C H p D b s l x ks cs
theorem BoxAt.chg {H' : Hp} {p D : Addr} {v : V} (h : BoxAt K C H p D v) (hp : Purse H p) (c : Chg p H H') : BoxAt K C H' p D v := by
  obtain ⟨b, s, l, x, ks, cs, e, B⟩ := h
  obtain ⟨d, z, w, u⟩ := hp
  exact ⟨b, s, l, x, ks, cs, e, ⟨c _ _ B.bp B.hb, B.bp, B.bD, c _ _ B.sp B.hs, B.sp, B.sD, c _ _ B.lp B.hl, B.lp, B.lD, B.t.chg u c, B.k, B.c⟩⟩
theorem BoxAt.chgD {H' : Hp} {p D : Addr} {v : V} {zs : List V} (h : BoxAt K C H p D v) (hD : H D = some (.lst zs)) (c : Chg D H H') : BoxAt K C H' p D v := by
  obtain ⟨b, s, l, x, ks, cs, e, B⟩ := h
  exact ⟨b, s, l, x, ks, cs, e, ⟨c _ _ B.bD B.hb, B.bp, B.bD, c _ _ B.sD B.hs, B.sp, B.sD, c _ _ B.lD B.hl, B.lp, B.lD, B.t.chg hD c, B.k, B.c⟩⟩
/-- held.append([sorts, lines, a table]) -/
theorem app_boxL {D' : Ends} {p D s : Addr} {bs : List V} {t1 t2 : TE} (hD : H D = some (.lst bs)) (hl : bs.length ≤ 1000) (h1 : σ[1]? = some (some (.ref D))) (h3 : σ[3]? = some (some (.ref s))) (hp : Purse H p) (hDp : D ≠ p)
    (hs : H s = some (.lst (sl ks))) (sp : s ≠ p) (sD : s ≠ D) (hk : ks ∈ kinds7) (hC : Cells ks cs)
    (ht1 : ∀ H1, Ex H H1 → ∀ Q : VK, (∀ l H2, Ex H1 H2 → H2 l = some (.lst (sl (cs.map lineOf))) → l ≠ p → l ≠ D → Q (.ref l) H2) → t1 σ H1 Q) (ht2 : EvTab K C t2 σ H ks (cs.map lineOf))
    (q : ∀ b H4, Chg D H H4 → Purse H4 p → H4 D = some (.lst (bs ++ [.ref b])) → BoxAt K C H4 p D (.ref b) → D'.nx σ H4) :
    tDrop (tBM K "list" rAppend (tVar 1) (tCons (tLst (tCons (tVar 3) (tCons t1 (tCons t2 tNil)))) tNil)) D' σ H := by
  refine ⟨_, h1, .inl ⟨rfl, _, SqL.of hD⟩, _, h3, ?_⟩
  refine ht1 H (Ex.refl H) _ fun l H2 e2 hl2 lp lD => ht2 H2 e2 _ fun x H3 e3 tx => ⟨(by show 3 ≤ sizeLine; decide), fun b nb => ?_⟩
  have e13 := e2.trans e3
  have hD3 := e13 _ _ hD
  have hD4 := kp (u := HO.lst [.ref s, .ref l, .ref x]) hD3 nb
  refine ⟨D, bs, .ref b, rfl, rfl, hD4, by rw [sizeLine_eq]; omega, ?_⟩
  have nbH : H b = none := fresh_back e13 nb
  have bD : b ≠ D := (ne_of_none hD3 nb).symm
  have bp : b ≠ p := (hp.ne nbH).symm
  have hc : Chg D H (upd (upd H3 b (.lst [.ref s, .ref l, .ref x])) D (.lst (bs ++ [.ref b]))) := ((Same.chg e13).new nb).at
  have hc3 : Chg D H3 (upd (upd H3 b (.lst [.ref s, .ref l, .ref x])) D (.lst (bs ++ [.ref b]))) := ((Chg.refl D H3).new nb).at
  refine q b _ hc ?_ upd_same ⟨b, s, l, x, ks, cs, rfl, ⟨kpm upd_same bD, bp, bD, hc _ _ sD hs, sp, sD, hc3 _ _ lD (e3 _ _ hl2), lp, lD, tx.chg hD3 hc3, hk, hC⟩⟩
  obtain ⟨d, z, w, u⟩ := hp
  exact ⟨d, z, w, hc _ _ hDp.symm u⟩
/-- .. and more behind it -/
theorem app_box {tz : TS} {D' : Ends} {p D s : Addr} {bs : List V} {t1 t2 : TE} (hD : H D = some (.lst bs)) (hl : bs.length ≤ 1000) (h1 : σ[1]? = some (some (.ref D))) (h3 : σ[3]? = some (some (.ref s))) (hp : Purse H p) (hDp : D ≠ p)
    (hs : H s = some (.lst (sl ks))) (sp : s ≠ p) (sD : s ≠ D) (hk : ks ∈ kinds7) (hC : Cells ks cs)
    (ht1 : ∀ H1, Ex H H1 → ∀ Q : VK, (∀ l H2, Ex H1 H2 → H2 l = some (.lst (sl (cs.map lineOf))) → l ≠ p → l ≠ D → Q (.ref l) H2) → t1 σ H1 Q) (ht2 : EvTab K C t2 σ H ks (cs.map lineOf))
    (q : ∀ b H4, Chg D H H4 → Purse H4 p → H4 D = some (.lst (bs ++ [.ref b])) → BoxAt K C H4 p D (.ref b) → tz D' σ H4) :
    tSeq (tDrop (tBM K "list" rAppend (tVar 1) (tCons (tLst (tCons (tVar 3) (tCons t1 (tCons t2 tNil)))) tNil))) tz D' σ H :=
  app_boxL (D' := { D' with nx := tz D' }) hD hl h1 h3 hp hDp hs sp sD hk hC ht1 ht2 q
/-! ### what a box holds and what is told of it -/
def Due (K : PySem.W.Frag) (H : Hp) (l : Addr) (ks lns : List Str) : Prop := ∃ a r, H l = some (.lst [.ref a, .ref r, .int (lns.length : Nat), .str (textOf ks lns), .bl true, .bl true]) ∧ SqT K H a (sl ks) ∧ SqT K H r (sl lns)
theorem Due.ex {H' : Hp} {l : Addr} {lns : List Str} (h : Due K H l ks lns) (e : Ex H H') : Due K H' l ks lns := by
  obtain ⟨a, r, h1, h2, h3⟩ := h
  exact ⟨a, r, e _ _ h1, ex_t e h2, ex_t e h3⟩
theorem Due.dp {l : Addr} {lns : List Str} (h : Due K H l ks lns) : Dp K H (.ref l) (dueOf ks lns) := by
  obtain ⟨a, r, h1, h2, h3⟩ := h
  exact .lst (SqL.of h1) (.cons (dp_tup h2) (.cons (dp_tup h3) (.cons (.int _) (.cons (.str _) (.cons (.bl true) (.cons (.bl true) .nil))))))
def EvDue (K : PySem.W.Frag) (te : TE) (σ : L2.St) (H : Hp) (ks lns : List Str) : Prop := ∀ H1, Ex H H1 → ∀ Q : VK, (∀ l H2, Ex H1 H2 → Due K H2 l ks lns → Q (.ref l) H2) → te σ H1 Q
theorem ed_list {t1 t2 t3 t4 t5 t6 : TE} {lns : List Str} (h1 : EvS K t1 σ H (sl ks)) (h2 : EvS K t2 σ H (sl lns)) (h3 : Ev t3 σ H (.int (lns.length : Nat))) (h4 : Ev t4 σ H (.str (textOf ks lns))) (h5 : Ev t5 σ H (.bl true)) (h6 : Ev t6 σ H (.bl true)) :
    EvDue K (tLst (tCons t1 (tCons t2 (tCons t3 (tCons t4 (tCons t5 (tCons t6 tNil))))))) σ H ks lns := fun H0 e Q q =>
  h1 H0 e _ fun a H1 e1 ha => h2 H1 (e.trans e1) _ fun r H2 e2 hr => h3 H2 ((e.trans e1).trans e2) _ fun H3 e3 => h4 H3 (((e.trans e1).trans e2).trans e3) _ fun H4 e4 =>
    h5 H4 ((((e.trans e1).trans e2).trans e3).trans e4) _ fun H5 e5 => h6 H5 (((((e.trans e1).trans e2).trans e3).trans e4).trans e5) _ fun H6 e6 => ⟨(by show 6 ≤ sizeLine; decide), fun l nl => by
      have e26 := ((e3.trans e4).trans e5).trans e6
      have en : Ex H6 (upd H6 l (.lst [.ref a, .ref r, .int (lns.length : Nat), .str (textOf ks lns), .bl true, .bl true])) := Ex.new nl
      exact q l _ (((e1.trans e2).trans e26).trans en) ⟨a, r, upd_same, ex_t ((e2.trans e26).trans en) ha, ex_t (e26.trans en) hr⟩⟩
theorem q_asgDue {tz : TS} {D : Ends} {i : Nat} {lns : List Str} (h : EvDue K te σ H ks lns) (k : ∀ l H1, Ex H H1 → Due K H1 l ks lns → tz D (σ.set i (some (.ref l))) H1) : tSeq (tAsg te (gName i)) tz D σ H := h H (Ex.refl H) _ k
variable {x : Addr} {lns : List Str}
theorem es_propK {F : XK} (h : Ev ta σ H (.ref x)) (t : TabAt K C H x ks lns) : EvS K (tProp C (spKindsP K C) [] F ta) σ H (sl ks) := fun H1 e Q q => h H1 e _ fun H2 e2 => by
  have t2 := t.ex (e.trans e2)
  obtain ⟨dx, D, a, r, hx, _⟩ := t2.raw
  exact ⟨x, dx, _, rfl, hx, x, ks, lns, rfl, t2, fun a ha => q a H2 e2 ha⟩
theorem es_propR {F : XK} (h : Ev ta σ H (.ref x)) (t : TabAt K C H x ks lns) : EvS K (tProp C (spRowsP K C) [] F ta) σ H (sl lns) := fun H1 e Q q => h H1 e _ fun H2 e2 => by
  have t2 := t.ex (e.trans e2)
  obtain ⟨dx, D, a, r, hx, _⟩ := t2.raw
  exact ⟨x, dx, _, rfl, hx, x, ks, lns, rfl, t2, fun a ha => q a H2 e2 ha⟩
theorem ev_lenT (h : Ev ta σ H (.ref x)) (t : TabAt K C H x ks lns) (hl : lns.length ≤ 27) : Ev (tCB (XO.rLenO C (spLenP K C)) (tCons ta tNil)) σ H (.int (lns.length : Nat)) := fun H1 e Q q => h H1 e _ fun H2 e2 => by
  have t2 := t.ex (e.trans e2)
  obtain ⟨dx, D, a, r, hx, _⟩ := t2.raw
  exact ⟨x, dx, _, rfl, hx, x, ks, lns, rfl, t2, _, rfl, by omega, by omega, q H2 e2⟩
theorem ev_strT (h : Ev ta σ H (.ref x)) (t : TabAt K C H x ks lns) (hk : ks ∈ kinds7) (hl : lns.length ≤ 27) (hx2 : ∀ x ∈ lns, x.length ≤ 136) : Ev (tCB (XO.rStrO C (spStrP K C)) (tCons ta tNil)) σ H (.str (textOf ks lns)) := fun H1 e Q q => h H1 e _ fun H2 e2 => by
  have t2 := t.ex (e.trans e2)
  obtain ⟨dx, D, a, r, hx, _⟩ := t2.raw
  exact ⟨x, dx, _, rfl, hx, x, ks, lns, rfl, t2, hk, hl, hx2, fun H3 e3 => ⟨_, rfl, q H3 (e2.trans e3)⟩⟩
theorem ev_boolT (h : Ev ta σ H (.ref x)) (t : TabAt K C H x ks lns) : Ev (tCB (XO.rBoolO C (spBoolP K C)) (tCons ta tNil)) σ H (.bl true) := fun H1 e Q q => h H1 e _ fun H2 e2 => by
  have t2 := t.ex (e.trans e2)
  obtain ⟨dx, D, a, r, hx, _⟩ := t2.raw
  exact ⟨x, dx, _, rfl, hx, x, ks, lns, rfl, t2, _, rfl, q H2 e2⟩
theorem ev_isT (h : Ev ta σ H (.ref x)) (t : TabAt K C H x ks lns) : Ev (tCB (fun xs H Q => ∃ a dx fs, xs = [.ref a, .ref C] ∧ H a = some (.ins C dx fs) ∧ Q (.bl true) H) (tCons ta (tCons (tC (.ref C)) tNil))) σ H (.bl true) := fun H1 e Q q => h H1 e _ fun H2 e2 => by
  have t2 := t.ex (e.trans e2)
  obtain ⟨dx, D, a, r, hx, _⟩ := t2.raw
  exact ⟨x, dx, _, rfl, hx, q H2 e2⟩
theorem ev_textT {E : XK} {s l : Addr} {lns : List Str} (h1 : Ev ta σ H (.ref s)) (h2 : Ev tb σ H (.ref l)) (hk : ks ∈ kinds7) (hs : H s = some (.lst (sl ks))) (hl : H l = some (.lst (sl lns))) (few : lns.length ≤ 27) (hx : ∀ x ∈ lns, x.length ≤ 136) : Ev (tCall spText [] E (tCons ta (tCons tb tNil))) σ H (.str (textOf ks lns)) :=
  ev_call (ea_cons h1 (ea_cons h2 ea_nil)) fun H1 e Q q E => ⟨s, l, ks, lns, rfl, hk, e _ _ hs, e _ _ hl, few, hx, q⟩
theorem ev_repr {l : Addr} (h : Ev ta σ H (.ref l)) (d : Due K H l ks (cs.map lineOf)) (hk : ks ∈ kinds7) (hC : Cells ks cs) : Ev (tCB (XG.rRepr K) (tCons ta tNil)) σ H (.str (dueOf ks (cs.map lineOf)).shown) := fun H1 e Q q => h H1 e _ fun H2 e2 => by
  obtain ⟨o1, o2, o3, o4⟩ := due_ok hk hC
  exact ⟨.ref l, _, rfl, (d.ex (e.trans e2)).dp, o1, o2, o3, o4, q H2 e2⟩
theorem ev_ixL {p : Addr} {xs : List V} {i : Int} {v : V} (h : Ev ta σ H (.ref p)) (hb : Ev tb σ H (.int i)) (hx : SqL K H p xs) (ha : atI xs i = some v) : Ev (tOp (rIxL K) ta tb) σ H v := ev_op h hb (rv_ixL hx ha)
end
end T
namespace T
open PySem PySem.Spec PyProof.Rows L2 Evl XB TL XS XI
/-! ### a table's text, cut -/
theorem small_no {x : Str} (h : Small x) {n : Nat} (hn : n ≤ 32) : n ∉ tl x := fun z => by
  unfold Small at h
  rw [Bool.and_eq_true, List.all_eq_true] at h
  have := of_decide_eq_true (h.2 n z)
  omega
theorem no_joinL {S : List Nat} {n : Nat} (hS : n ∉ S) : ∀ {ps : List (List Nat)}, (∀ p ∈ ps, n ∉ p) → n ∉ joinL S ps
  | [], _, m => by cases m
  | [p], h, m => h p List.mem_cons_self m
  | p :: q :: r, h, m => by
    rcases List.mem_append.mp (show n ∈ p ++ (S ++ joinL S (q :: r)) from m) with m | m
    · exact h p List.mem_cons_self m
    · rcases List.mem_append.mp m with m | m
      · exact hS m
      · exact no_joinL hS (fun y hy => h y (List.mem_cons_of_mem _ hy)) m
theorem no_join {sep : Str} {n : Nat} {ys : List Str} (hs : n ∉ tl sep) (h : ∀ y ∈ ys, n ∉ tl y) : n ∉ tl (Txt.join sep ys) := by
  rw [join_eq, tl_join]
  exact no_joinL hs fun p hp => by
    obtain ⟨y, hy, rfl⟩ := List.mem_map.mp hp
    exact h y hy
theorem head_parts {ks : List Str} (h : ks ∈ kinds7) : ∀ y ∈ ("kinds" :: ks : List Str), Small y := fun y hy => by
  rcases List.mem_cons.mp hy with rfl | hy
  · decide +kernel
  · exact small_ks h y hy
theorem head_split {ks : List Str} (h : ks ∈ kinds7) : Txt.split (headOf ks) " " = ("kinds" : Str) :: ks :=
  split_join (s := 32) (S := []) rfl (by decide +kernel) (by intro z; cases z) fun p hp => small_no (head_parts h p hp) (by decide)
theorem no_nl_head {ks : List Str} (h : ks ∈ kinds7) : 10 ∉ tl (headOf ks) := no_join (by decide) fun y hy => small_no (head_parts h y hy) (by decide)
theorem no_nl_line {ks : List Str} {c : Cell} (h : ks ∈ kinds7) (g : GoodC ks c) : 10 ∉ tl (lineOf c) := no_join (by decide) fun y hy => small_no ((small_parts h g).1 y hy) (by decide)
theorem text_split {ks : List Str} {cs : List Cell} (h : ks ∈ kinds7) (hC : Cells ks cs) : Txt.split (textOf ks (cs.map lineOf)) "\n" = headOf ks :: cs.map lineOf :=
  split_join (s := 10) (S := []) rfl (by decide +kernel) (by intro z; cases z) fun p hp => by
    rcases List.mem_cons.mp hp with rfl | hp
    · exact no_nl_head h
    · obtain ⟨c, hc, rfl⟩ := List.mem_map.mp hp
      exact no_nl_line h (hC.good c hc)
theorem text_head (ks lns : List Str) : ∃ y : Str, textOf ks lns = headOf ks ++ y := by
  cases lns with
  | nil => exact ⟨Str.empty, by rw [textOf, join_eq]; refine ext_tl ?_; rw [tl_append]; show tl (headOf ks) = tl (headOf ks) ++ []; rw [List.append_nil]⟩
  | cons l r => exact ⟨"\n" ++ Str.join "\n" (l :: r), by
      rw [textOf, join_eq]
      refine ext_tl ?_
      show tl (headOf ks ++ "\n" ++ Str.join "\n" (l :: r)) = _
      rw [tl_append, tl_append, tl_append, tl_append, List.append_assoc]⟩
theorem head_starts {ks : List Str} (h : ks ∈ kinds7) : Txt.startswith (headOf ks) "kinds " = true ∧ ("kinds " : Str).length ≤ (headOf ks).length := by
  have all : ∀ ks ∈ kinds7, Txt.startswith (headOf ks) "kinds " = true ∧ ("kinds " : Str).length ≤ (headOf ks).length := by decide +kernel
  exact all ks h
theorem text_starts {ks lns : List Str} (h : ks ∈ kinds7) : Txt.startswith (textOf ks lns) "kinds " = true := by
  obtain ⟨y, e⟩ := text_head ks lns
  rw [e, PySem.W.KAf.starts_left (head_starts h).2]
  exact (head_starts h).1
theorem text_len {ks : List Str} {cs : List Cell} (h : ks ∈ kinds7) (hC : Cells ks cs) : (textOf ks (cs.map lineOf)).length ≤ 4000 := by
  have few : (cs.map lineOf).length ≤ 27 := by rw [List.length_map]; exact hC.few
  refine Nat.le_trans (join_le (B := 136) (n := 28) (fun p hp => ?_) (by show (cs.map lineOf).length + 1 ≤ 28; omega) rfl) (by decide)
  rcases List.mem_cons.mp hp with rfl | hp
  · exact Nat.le_trans (head_len h) (by decide)
  · obtain ⟨c, hc, rfl⟩ := List.mem_map.mp hp
    exact line_len h (hC.good c hc)
end T
/-! Own: == and != by an own __eq__, with either answer; a class in a local name, called; a classmethod called by keywords. -/
namespace XC
open PySem PySem.Spec PyProof.Rows L2 ClX
open PySem.W (Frag findIn isFn mroIn InstAt notFirst Looks looks_findIn looks_subIn check_slot callWith_of keeps_M MethP methodObj)
section
variable {prog : Program} {w : World} {A : Around} {E : Value → Shared → Prop} {s : Shared} {K : Frag} {x C L f : Addr} {h₀ : Heap} {m : Str → Option Value} {ox : Obj} {od : Option Obj} {b tb : Value}
/-- x != b where the class has __eq__ alone -/
theorem ne_own {Q : Value → Shared → Prop} (hu : A.units + 1 < cLine) (F : Fr h₀ L s.heap m) (X₀ : K.In h₀) (I : InstAt s.heap x ox C od) (hb : Looks (model prog w) s.heap (typeOf b) tb) (hn : notFirst K C tb = true)
    (hs : findIn K (.ref C) "__ne__" = some (some (.builtin "object.__ne__"))) (hm : mroIn K C (.type "object") = some true) (he : findIn K (.ref C) "__eq__" = some (some (.ref f))) (hf : isFn K (.ref f) = true)
    (h : wpAny (model prog w) A.in1 (call (.ref f) [.ref x, b]) (fun v s' => ∃ r, v = .bool r ∧ Q (.bool (!r)) s') E s) : wpAny (model prog w) A (richCompare .NotEq (.ref x) b) Q E s := by
  have X := X₀.keeps F.keep
  have entry : wpAny (model prog w) A.in1 (Builtin.«object.__ne__» ⟨[.ref x, b], []⟩) (fun fin s' => ∃ r, fin = .done (.ret (.bool (!r))) ∧ Q (.bool (!r)) s') E s := by
    unfold Builtin.«object.__ne__»
    repeat (first
      | with_reducible refine wpAny_cRoomFor (show A.in1.units < cLine from hu) ?_
      | (refine wpAny_bind (m := callSpecialIfBound? (.ref x) (Str.ofString "__eq__") [b]) (PySem.W.ifBound_K X I he hf (wpAny_mono h (fun v s' hv => by
          obtain ⟨r, rfl, hq⟩ := hv
          repeat (first | exact wpAny_pure ⟨r, rfl, hq⟩ | exact ⟨r, rfl, hq⟩ | (refine wpAny_bind (m := truthy (.bool _)) (wpAny_truthy_bool ?_)) | wp_step)) fun _ _ e => e)))
      | wp_step)
  have code : wpAny (model prog w) A (call (.builtin "object.__ne__") [.ref x, b]) (fun v s' => ∃ r, v = .bool (!r) ∧ Q (.bool (!r)) s') E s := by
    refine wpAny_call (codeAny_call_builtin PySem.F.cmp_object.ne.plain PySem.F.cmpEntry_ne
      (check_slot PySem.F.cmpKind_ne PySem.F.cmpSplit_ne (I.type.andThen (looks_subIn X (by exact hm))) (PySem.F.cmpArgs_ne _ _) (wpAny_mono entry (fun v s' hv => ?_) fun _ _ e => e)))
    obtain ⟨r, rfl, hq⟩ := hv
    first | exact ⟨r, rfl, hq⟩ | exact wpAny_pure ⟨r, rfl, hq⟩
  have bound : wpAny (model prog w) A (callSpecialIfBound? (.ref x) (Str.ofString "__ne__") [b]) (fun o s' => ∃ r, o = some (.bool (!r)) ∧ Q (.bool (!r)) s') E s := by
    simp only [callSpecialIfBound?, bindSpecialIfBound?]
    refine wpAny_holding (wpAny_bind (wpAny_bind (wpAny_bind (I.type.here ((looks_findIn X hs).here ?_)))))
    simp only [PySem.F.cmp_object.ne.bind]
    refine wpAny_bind (wpAny_askSetting (wpAny_ite ?_))
    have fin : wpAny (model prog w) A (call (.builtin "object.__ne__") ([.ref x] ++ [b]) >>= fun v => pure (some v)) (fun o s' => ∃ r, o = some (.bool (!r)) ∧ Q (.bool (!r)) s') E s :=
      wpAny_bind (wpAny_mono code (fun v s' h' => by
        obtain ⟨r, rfl, hq⟩ := h'
        exact wpAny_pure ⟨r, rfl, hq⟩) fun _ _ h' => h')
    split
    · exact wpAny_bind (wpAny_pure (wpAny_pure fin))
    · exact wpAny_tryCatch (wpAny_bind (wpAny_pure (wpAny_pure fin)))
  have one : wpAny (model prog w) A (tryCompare (.ref x) "__ne__" b) (fun r s' => ∃ v, r = some v ∧ Q v s') E s := by
    unfold tryCompare
    refine wpAny_bind (wpAny_mono bound (fun v s' hv => ?_) fun _ _ e => e)
    obtain ⟨r, rfl, hq⟩ := hv
    exact wpAny_pure ⟨_, rfl, hq⟩
  unfold richCompare
  simp only [oneThing_ref]
  refine wpAny_holding (wpAny_bind (wpAny_cRoomFor (Nat.lt_of_succ_lt hu) ?_))
  refine wpAny_bind (I.type.here (wpAny_bind (hb.here ?_)))
  split
  · rename_i q
    have e : PySem.W.subIn K tb (.ref C) = some false := by
      rcases Bool.or_eq_true_iff.mp hn with e | e
      · rw [beq_iff_eq.mp e] at q; simp at q
      · exact beq_iff_eq.mp e
    refine wpAny_bind ((looks_subIn X e).here ?_)
    simp only [Bool.false_eq_true, if_false]
    refine wpAny_bind (wpAny_mono one (fun r s' z => ?_) fun _ _ e => e)
    obtain ⟨v, rfl, hq⟩ := z
    exact wpAny_pure hq
  · refine wpAny_bind (wpAny_pure ?_)
    simp only [Bool.false_eq_true, if_false]
    refine wpAny_bind (wpAny_mono one (fun r s' z => ?_) fun _ _ e => e)
    obtain ⟨v, rfl, hq⟩ := z
    exact wpAny_pure hq
end
section
variable {X : Cx} {k : Nat} {C f : Addr} {fd : FuncData} {sp : Sp}
/-- own ==, !=: the promise of __eq__, its answer a truth value -/
def rEqO (C : Addr) (sp : Sp) (neg : Bool) : R2 := fun x y H Q => ∃ a dx fs b dy gs, x = .ref a ∧ y = .ref b ∧ H a = some (.ins C dx fs) ∧ H b = some (.ins C dy gs) ∧ sp [.ref a, .ref b] H (fun v H' => ∃ r : Bool, v = .bl r ∧ Q (.bl (if neg then !r else r)) H') E0
/-- what == and != ask of the class -/
structure EqC (K : Frag) (C f : Addr) : Prop where
  eq : findIn K (.ref C) "__eq__" = some (some (.ref f))
  fn : isFn K (.ref f) = true
  ne : findIn K (.ref C) "__ne__" = some (some (.builtin "object.__ne__"))
  ob : mroIn K C (.type "object") = some true
theorem run_eqO {pins : List (Addr × Obj)} {σ : L2.St} {H : Hp} {s : Shared} {a b : Addr} {Q : VK} {A : Around} {G : Value → Shared → Prop} (F : FnOk X.prog X.w X.K X.mg X.base CX0 k f fd ["self", "other"] sp) (hr : Room k A) (he : Env0 X.prog X.w X.K X.mg X.base A X.stack s H)
    (hb : Binds X.K fd ["self", "other"] []) (I : L2.Inv X pins σ H s) (h : sp [.ref a, .ref b] H Q E0) : wpAny (model X.prog X.w) A (call (.ref f) [.ref a, .ref b]) (EP X pins σ Q) G s := by
  refine wpAny_call (codeAny_mono (F.run A X.stack s H ⟨[.ref a, .ref b], []⟩ [.ref a, .ref b] [.ref a, .ref b] Q E0 hr he (hb s [.ref a, .ref b] I.kIn rfl) (.cons rfl (.cons rfl .nil)) h) fun r s' hq => ?_)
  cases r with
  | error er => exact hq.elim
  | ok fl =>
    cases fl with
    | ret u => exact I.after hq
    | _ => exact False.elim hq
theorem op_eqO (c : EqC X.K C f) (F : FnOk X.prog X.w X.K X.mg X.base CX0 k f fd ["self", "other"] sp) (hr : Room (k + 1) X.A) (hb : Binds X.K fd ["self", "other"] []) : OpR X (compareOp .Eq) (rEqO C sp false) := by
  intro pins s σ H x y v u Q I rx ry h
  obtain ⟨a, dx, fs, b, dy, gs, rfl, rfl, ha, hb', q⟩ := h
  cases rx
  cases ry
  obtain ⟨od, J⟩ := XO.inst_look I ha
  obtain ⟨od', J'⟩ := XO.inst_look I hb'
  obtain ⟨m, hF⟩ := I.fr
  show wpAny (model X.prog X.w) X.A (richCompare .Eq (.ref a) (.ref b)) (EP X pins σ Q) X.xe s
  refine PySem.W.cmp_K (op := .Eq) (tb := .ref C) hr.units0 hF I.ok.mod.kin J J'.type (by simp [PySem.W.notFirst]) c.eq c.fn (thn (run_eqO F (hr.mono (Nat.le_succ _)) I.env0 hb I q) fun w s' ⟨z, H1, I1, rz, r, ez, q1⟩ => ?_)
  subst ez
  cases rz
  exact ⟨.bl r, H1, I1, rfl, q1⟩
theorem op_neO (c : EqC X.K C f) (F : FnOk X.prog X.w X.K X.mg X.base CX0 k f fd ["self", "other"] sp) (hr : Room (k + 1) X.A) (hb : Binds X.K fd ["self", "other"] []) : OpR X (compareOp .NotEq) (rEqO C sp true) := by
  intro pins s σ H x y v u Q I rx ry h
  obtain ⟨a, dx, fs, b, dy, gs, rfl, rfl, ha, hb', q⟩ := h
  cases rx
  cases ry
  obtain ⟨od, J⟩ := XO.inst_look I ha
  obtain ⟨od', J'⟩ := XO.inst_look I hb'
  obtain ⟨m, hF⟩ := I.fr
  show wpAny (model X.prog X.w) X.A (richCompare .NotEq (.ref a) (.ref b)) (EP X pins σ Q) X.xe s
  refine ne_own (tb := .ref C) (by have := hr.units; omega) hF I.ok.mod.kin J J'.type (by simp [PySem.W.notFirst]) c.ne c.ob c.eq c.fn (thn (run_eqO F hr.in1 I.env0.in1 hb I q) fun w s' ⟨z, H1, I1, rz, r, ez, q1⟩ => ?_)
  subst ez
  cases rz
  exact ⟨r, rfl, .bl (!r), H1, I1, rfl, q1⟩
end
section
variable {X : Cx} {CX : CXT} {k n : Nat} {C f g p : Addr} {mc : Value} {fd : FuncData} {ps ks : List Str} {sp : Sp} {E : XK} {x m : Str} {pos apos p' : Pos} {o e : Expr} {es : List Expr} {kws : List Keyword} {t tk ta : TA} {to : TE} {ds : List Value} {dvs : List V} {pl : Sem Bool}
/-- C(..), the class in a local name -/
def tMakeL (i : Nat) (C : Addr) (sp : Sp) (dvs : List V) (E : XK) (t : TA) : TE := fun σ H Q => σ[i]? = some (some (.ref C)) ∧ tMake C sp dvs E t σ H Q
theorem pe_makeL {i : Nat} (M : Mk X.K C f) (F : FnOk X.prog X.w X.K X.mg X.base CX k f fd ps sp) (hr : Room (k + 1) X.A) (hN : X.N[i]? = some x) (hv : Vis X.env.scope x) (hb : Binds X.K fd ps ds) (hd : Vals dvs ds) (hx : Passes CX X E) (ha : PA X (e :: es) t)
    (hdb : (x == ("__debug__" : Str)) = false := by decide) (hcd : (x == ("__classdict__" : Str)) = false := by decide)
    (he : starEach (e :: es) X.env = (false, eval e X.env) :: starEach es X.env := by rfl) (hpl : (backTo pos (starEach es X.env)).any (·.1) = false := by rfl) :
    PE X (.Call (.Name x p') (e :: es) [] pos) (tMakeL i C sp dvs E t) := by
  refine ⟨fun pins s σ H Q I h => ?_⟩
  obtain ⟨hs, h⟩ := h
  refine wpAny_Call_Name_kw (thn ((pe_var (pos := p') hN hv hdb hcd).run pins s σ H (fun v H1 => v = .ref C ∧ H1 = H) I ⟨.ref C, hs, rfl, rfl⟩) fun u s1 ⟨v, H1, I1, r1, q1⟩ => ?_)
  obtain ⟨rfl, rfl⟩ := q1
  cases r1
  refine PySem.W.callWith_K (h₀ := X.base) I.ok.mod.kin M.kp (thn (ha.run pos pins s1 σ _ _ I1 h) fun us s2 ⟨vs, H2, I2, r, q⟩ => ⟨I2.kIn, ?_⟩) he hpl
  exact run_make M F hr hb hd hx I2 r q
/-- C.m(k = v, ..), m a classmethod; its def by name at g -/
def tCMethK (C : Addr) (m : Nat) (sp : Sp) (gV : List V → List V → List V) (E : XK) (to : TE) (tk : TA) : TE := fun σ H Q => to σ H fun x H1 => x = .ref C ∧ tk σ H1 fun zs H2 => zs.length = m ∧ sp (gV [.ref C] zs) H2 Q E
theorem pe_cmethK {gg : List Value → List Value → List Value} {gV : List V → List V → List V} (he : PE X o to) (r : CRead X.K C mc) (c : CMet X.K C mc m p g) (F : FnOk X.prog X.w X.K X.mg X.base CX k g fd ps sp) (hr : Room k X.A) (hb : KBn X.K fd ps 1 ks gg gV) (hx : Passes CX X E) (hkw : PK X kws tk)
    (hall : (backToKw pos (keywordEach kws X.env)).all (·.1.isSome) = true := by rfl) (hks : (backToKw pos (keywordEach kws X.env)).filterMap (·.1) = ks := by rfl)
    (hpl : ((backTo pos (starEach [] X.env)).any (·.1) || (backToKw pos (keywordEach kws X.env)).any (·.1.isNone)) = false := by rfl)
    (ht : eval (.Call (.Attribute o m apos) [] kws pos) X.env = (do
      let ov ← eval o X.env
      standAt apos.atName
      let (f, first) ← holding [ov] (getMethod ov m pl)
      callWith pos f first (backTo pos (starEach [] X.env)) (backToKw pos (keywordEach kws X.env))) := by rfl) :
    PE X (.Call (.Attribute o m apos) [] kws pos) (tCMethK C ks.length sp gV E to tk) := by
  refine ⟨fun pins s σ H Q I h => ?_⟩
  refine PySem.W.methodCall_KW (pl := pl) (thn (he.run pins s σ H _ I h) fun u s1 ⟨x, H1, I1, rx, ex, q⟩ => ?_) ht
  subst ex
  obtain rfl : u = Value.ref C := rx
  refine getmethcm_ok I1 r c fun s2 I2 => ?_
  refine callWith_of hpl (keeps_M c.fi) (evalArgs_kw2_nil hall (thn (hkw.run pos _ s2 σ H1 _ I2 q) fun ws s3 ⟨zs, H2, I3, rz, l2, q2⟩ => ⟨⟨pin_at I3, I3.kIn⟩, ?_⟩))
  rw [hks]
  have z : wpAny (model X.prog X.w) X.A (call (.ref _) [] (ks.zip ws)) (EP X _ σ Q) X.xe s3 :=
    wpAny_call (PySem.W.method_call (pin_at I3) (codeAny_mono (F.run X.A X.stack s3 H2 ⟨[.ref C], ks.zip ws⟩ (gg [.ref C] ws) (gV [.ref C] zs) Q E hr I3.env0 (hb.to s3 [.ref C] ws I3.kIn rfl (rz.length.symm.trans l2)) (hb.rel (.cons rfl .nil) rz) q2) fun r s' hq => by
      cases r with
      | error e => exact hx _ σ H2 s3 e s' I3 hq
      | ok fl =>
        cases fl with
        | ret u => exact I3.after hq
        | _ => exact False.elim hq))
  exact thn z fun _ _ y => unpinE y
end
end XC
namespace T
open PySem PySem.Spec PyProof.Rows L2 Evl XB TL XS XI XC ClX
theorem lo_ok {x : Str} (h : Lo x) : PyData.strOk x = true := by
  unfold PyData.strOk
  rw [← Array.all_toList, List.all_eq_true]
  exact fun c m => decide_eq_true (Nat.lt_trans (h c m) (by decide))
theorem shp_strs {ws : List Str} (h : ∀ x ∈ ws, Lo x) : SeqAt.shaped (.tuple (ws.map PyData.str)) = true := by
  have e : ∀ {ws : List Str}, (∀ x ∈ ws, Lo x) → PyData.canLayAll0 (ws.map PyData.str) = true := fun {ws} => by
    induction ws with
    | nil => exact fun _ => rfl
    | cons x r ih =>
      intro h
      show (PyData.strOk x && PyData.canLayAll0 (r.map PyData.str)) = true
      rw [lo_ok (h x List.mem_cons_self), ih fun y m => h y (List.mem_cons_of_mem _ m)]
      rfl
  show (PyData.canLayAll0 (ws.map PyData.str) && decide (PyData.depthAll (ws.map PyData.str) + 1 ≤ 64)) = true
  rw [e h, dep_strs]
  rfl
theorem eqv_strs : ∀ ws us : List Str, PyData.eqvAll (ws.map PyData.str) (us.map PyData.str) = decide (ws = us)
  | [], [] => rfl
  | [], _ :: _ => rfl
  | _ :: _, [] => rfl
  | x :: r, y :: t => by
    show ((x == y) && PyData.eqvAll (r.map PyData.str) (t.map PyData.str)) = _
    rw [eqv_strs r t]
    by_cases e : x = y
    · by_cases e2 : r = t
      · rw [e, e2]
        simp
      · simp [e2]
    · simp [e]
section
variable {P : Program} {w : World} {K : PySem.W.Frag} {mg : Str → Option Value} {base : Heap} {C : Addr}
variable {σ : L2.St} {H : Hp} {ta tb te : TE} {tz : TS} {D : Ends} {ks : List Str} {cs : List Cell}
theorem cut_drop1 (xs : List V) : cutV xs (some 1) none = xs.drop 1 := by
  unfold cutV
  rw [HT.sIx_none, show (some (1 : Int)) = some ((1 : Nat) : Int) from rfl, HT.sIx_nat]
  by_cases h : 1 ≤ xs.length
  · rw [Nat.min_eq_left h, List.take_of_length_le (by rw [List.length_drop] <;> exact Nat.le_refl _)]
  · rw [Nat.min_eq_right (by omega), Nat.sub_self, List.take_zero, List.drop_eq_nil_of_le (by omega)]
theorem s_retT2 {xs ys : List V} (h1 : EvU ta σ H xs) (h2 : ∀ H1, Ex H H1 → EvU tb σ H1 ys) (k : ∀ t a r H', Ex H H' → H' t = some (.tup [.ref a, .ref r]) → H' a = some (.tup xs) → H' r = some (.tup ys) → D.rt (.ref t) H') : tRet (tTup (tCons ta (tCons tb tNil))) D σ H :=
  h1 H (Ex.refl H) _ fun a H2 na e2 ha => h2 H2 e2 H2 (Ex.refl _) _ fun r H3 nr e3 hr3 => ⟨(by show 2 ≤ sizeLine; decide), fun t nt =>
    k t a r _ ((e2.trans e3).trans (Ex.new nt)) upd_same (kp (e3 _ _ ha) nt) (kp hr3 nt)⟩
/-! ### kinds_and_rows -/
def spKR : Sp := fun vs H Q _ => ∃ (ks : List Str) (cs : List Cell), vs = [.str (textOf ks (cs.map lineOf))] ∧ ks ∈ kinds7 ∧ Cells ks cs ∧ ∀ t a r H', Ex H H' → H' t = some (.tup [.ref a, .ref r]) → H' a = some (.tup (sl ks)) → H' r = some (.tup (sl (cs.map lineOf))) → Q (.ref t) H'
theorem c_kr (D : At K mg "kinds_and_rows" s_kinds_and_rows ["text"]) (B : Bl mg) : C8.Cal P w K mg base 1 "kinds_and_rows" spKR [] := by
  refine cal_of D sc_kinds_and_rows (fun vs H Q E h => ?_) (fun f cdv A outer s H vs Q E hr h => ?_)
  · obtain ⟨ks, cs, rfl, _⟩ := h
    rfl
  · obtain ⟨ks, cs, rfl, hk, hC, q⟩ := h
    refine ⟨_, pss_cons (ps_set (i := 1) sc_kinds_and_rows.nd rfl (.inl rfl) (pe_split (pv 0) pe_str))
      (pss_one (ps_ret (pe_tup (pa_cons (pe_callTy call_tuple_of (by rfl) B.tuple (by decide +kernel) (pa_cons (pe_slice sl_list (pe_split (pe_ix ix_list (pv 1) pe_int (fun _ _ => rfl)) pe_str) (po_some pe_int) po_none) pa_nil))
        (pa_cons (pe_callTy call_tuple_of (by rfl) B.tuple (by decide +kernel) (pa_cons (pe_slice sl_list (pv 1) (po_some pe_int) po_none) pa_nil)) pa_nil))))), ?_⟩
    have tlen := text_len hk hC
    refine q_asgL (el_is (el_split (ev_var rfl) ev_c rfl (by rw [sizeLine_eq]; omega)) (by rw [text_split hk hC])) fun l H1 n1 e1 h1 => ?_
    have hh := head_len hk
    have t1 : EvU (tCB (rTup K) (tCons (tSl (rSlL K) (tM1 rSplit (tOp (rIxL K) (tVar 1) (tC (.int 0))) (tC (.str " "))) (tPart (tC (.int 1))) tNoPart) tNil)) [some (.str (textOf ks (cs.map lineOf))), some (.ref l)] H1 (sl ks) :=
      eu_tuple (el_is (el_slN (el_split (x := headOf ks) (ev_ixL (ev_var rfl) ev_c (SqL.of h1) (atI_nat (j := 0) rfl)) ev_c rfl (by rw [sizeLine_eq]; omega)) (eo_some ev_c) eo_none) (by rw [head_split hk, cut_drop1]; rfl))
    have t2 : ∀ {H2 : Hp}, Ex H1 H2 → EvU (tCB (rTup K) (tCons (tSl (rSlL K) (tVar 1) (tPart (tC (.int 1))) tNoPart) tNil)) [some (.str (textOf ks (cs.map lineOf))), some (.ref l)] H2 (sl (cs.map lineOf)) := fun e =>
      eu_tuple (el_is (el_sl (ev_var rfl) (eo_some ev_c) eo_none (SqL.of (e _ _ h1))) (by rw [cut_drop1]; rfl))
    exact s_retT2 t1 (fun H2 e => t2 e) fun t a r H3 e ht ha hr3 => q t a r H3 (e1.trans e) ht ha hr3
theorem q_kr {i j : Nat} {E : XK} (h : Ev ta σ H (.str (textOf ks (cs.map lineOf)))) (hk : ks ∈ kinds7) (hC : Cells ks cs) (q : ∀ a r H1, Ex H H1 → H1 a = some (.tup (sl ks)) → H1 r = some (.tup (sl (cs.map lineOf))) → tz D ((σ.set i (some (.ref a))).set j (some (.ref r))) H1) :
    tSeq (tAsg (tCall spKR [] E (tCons ta tNil)) (gTup K 2 (gCons (gName i) (gCons (gName j) gNil)))) tz D σ H :=
  h H (Ex.refl H) _ fun H1 e1 => ⟨ks, cs, rfl, hk, hC, fun t a r H2 e2 ht ha hr => ⟨t, _, rfl, SqT.of ht, rfl, _, _, rfl, _, _, rfl, rfl, q a r H2 (e1.trans e2) ha hr⟩⟩
/-! ### is_table_text -/
def spIsText : Sp := fun vs H Q _ => ∃ (ks : List Str) (cs : List Cell), vs = [.str (textOf ks (cs.map lineOf))] ∧ ks ∈ kinds7 ∧ Cells ks cs ∧ ∀ H', Ex H H' → Q (.bl true) H'
theorem ev_startsW {x y : Str} {b : Bool} (ho : Ev ta σ H (.str x)) (he : Ev tb σ H (.str y)) (e : Txt.startswith x y = b) : Ev (tM1 (fun x xs H Q => ∃ a b, x = .str a ∧ xs = [.str b] ∧ Q (.bl (Txt.startswith a b)) H) ta tb) σ H (.bl b) := fun H1 e1 Q q =>
  ho H1 e1 _ fun H2 e2 => ⟨⟨_, rfl⟩, he H2 (e1.trans e2) _ fun H3 e3 => ⟨x, y, rfl, rfl, by rw [e]; exact q H3 (e2.trans e3)⟩⟩
theorem c_isText (D : At K mg "is_table_text" s_is_table_text ["value"]) (B : Bl mg) (C1 : C8.Cal P w K mg base 1 "kinds_and_rows" spKR []) (C2 : C8.Cal P w K mg base 2 "are_kinds" (spKinds K) []) (C3 : C8.Cal P w K mg base 4 "first_wrong_row" (spFirst K) []) : C8.Cal P w K mg base 5 "is_table_text" spIsText [] := by
  refine cal_of D sc_is_table_text (fun vs H Q E h => ?_) (fun f cdv A outer s H vs Q E hr h => ?_)
  · obtain ⟨ks, cs, rfl, _⟩ := h
    rfl
  · obtain ⟨ks, cs, rfl, hk, hC, q⟩ := h
    refine ⟨_, pss_cons (ps_if (PW.pt (pw_or (pt_not (pt_val (pe_callB call_isi (by rfl) B.isin (by decide +kernel) (pa_cons (pv 0) (pa_cons (pe_bltn (v := .ty "str") (by rfl) B.str (by decide +kernel) rfl) pa_nil))))) (pw_or1 (pt_not (pt_val (pe_m1 PySem.F.slot_str_startswith PySem.F.type_str_startswith mt_startswith (pv 0) pe_str)))))) (pss_one (ps_ret pe_bl)) pss_nil)
      (pss_cons (ps_asg (C8.pe_c C1 hr (by decide) (by rfl) (pa_cons (pv 0) pa_nil)) (pg_tup (by rfl) (pgs_cons (pg_name (i := 1) sc_is_table_text.nd rfl (.inl rfl)) (pgs_cons (pg_name (i := 2) sc_is_table_text.nd rfl (.inl rfl)) pgs_nil))))
      (pss_one (ps_ret (pe_and (C8.pe_c C2 hr (by decide) (by rfl) (pa_cons (pv 1) pa_nil)) (pe_one (pe_cmpR op_isN (C8.pe_c C3 hr (by decide) (by rfl) (pa_cons (pv 2) (pa_cons (pv 1) pa_nil))) pe_non (nomark _))))))), ?_⟩
    refine q_when (b := false) (et_or (et_not (et_B (ev_isStr (ev_var rfl)))) (fun _ => et_not (et_B (ev_startsW (ev_var rfl) ev_c (text_starts hk))))) (fun z => by cases z) (fun _ H1 e1 => ?_)
    refine q_kr (ev_var rfl) hk hC fun a r H2 e2 ha hr2 => ?_
    exact s_ret (ev_andV (ev_kinds (ev_var rfl) (SqT.of ha) hk) (fun _ => ev_op (ev_first (ev_var rfl) (ev_var rfl) hk hC (SqT.of hr2) (SqT.of ha)) ev_c fun H3 e Q q => ⟨rfl, q H3 (Ex.refl H3)⟩)) fun H3 e3 => q H3 ((e1.trans e2).trans e3)
end
end T
namespace T
open PySem PySem.Spec PyProof.Rows L2 Evl XB TL XS XI XC ClX
section
variable {P : Program} {w : World} {K : PySem.W.Frag} {mg : Str → Option Value} {base : Heap} {C : Addr}
variable {σ : L2.St} {H : Hp} {ta tb te : TE} {tz : TS} {D : Ends} {ks : List Str} {cs : List Cell} {x y : Addr} {E : XK}
/-! ### Table.read -/
def spRead (K : PySem.W.Frag) (C : Addr) : Sp := fun vs H Q _ => ∃ (ks : List Str) (cs : List Cell), vs = [.ref C, .str (textOf ks (cs.map lineOf))] ∧ ks ∈ kinds7 ∧ Cells ks cs ∧ ∀ x H', Ex H H' → TabAt K C H' x ks (cs.map lineOf) → Q (.ref x) H'
theorem ev_isText (h : Ev ta σ H (.str (textOf ks (cs.map lineOf)))) (hk : ks ∈ kinds7) (hC : Cells ks cs) : Ev (tCall spIsText [] E (tCons ta tNil)) σ H (.bl true) :=
  ev_call (ea_cons h ea_nil) fun H1 e Q q E => ⟨ks, cs, rfl, hk, hC, q⟩
theorem s_retTab (h : EvTab K C te σ H ks (cs.map lineOf)) (k : ∀ x H', Ex H H' → TabAt K C H' x ks (cs.map lineOf) → D.rt (.ref x) H') : tRet te D σ H := h H (Ex.refl H) _ k
theorem et_makeL {i : Nat} (hi : σ[i]? = some (some (.ref C))) (h : EvTab K C (tMake C (spInit K C) [] E (tCons ta (tCons tb tNil))) σ H ks (cs.map lineOf)) : EvTab K C (tMakeL i C (spInit K C) [] E (tCons ta (tCons tb tNil))) σ H ks (cs.map lineOf) := fun H1 e Q q => ⟨hi, h H1 e Q q⟩
theorem c_read {f : Addr} {fd : FuncData} (F : Fun K "read" "Table.read" s_Table_read f fd) (M : TabM P w K mg base C) (C1 : C8.Cal P w K mg base 1 "kinds_and_rows" spKR []) (C2 : C8.Cal P w K mg base 5 "is_table_text" spIsText []) : FnOk P w K mg base CX0 7 f fd ["cls", "text"] (spRead K C) := by
  obtain ⟨f0, fd0, Mk0, F0, b3, _⟩ := M.ex
  refine meth_ok F sc_Table_read (fun vs H Q E h => ?_) (fun cdv A outer s H vs Q E hr h => ?_)
  · obtain ⟨ks, cs, rfl, _⟩ := h
    rfl
  · obtain ⟨ks, cs, rfl, hk, hC, q⟩ := h
    refine ⟨_, pss_cons (ps_if (pt_not (pt_val (C8.pe_c C2 hr (by decide) (by rfl) (pa_cons (pv 1) pa_nil)))) pss_never pss_nil)
      (pss_cons (ps_asg (C8.pe_c C1 hr (by decide) (by rfl) (pa_cons (pv 1) pa_nil)) (pg_tup (by rfl) (pgs_cons (pg_name (i := 2) sc_Table_read.nd rfl (.inl rfl)) (pgs_cons (pg_name (i := 3) sc_Table_read.nd rfl (.inl rfl)) pgs_nil))))
      (pss_one (ps_ret (pe_makeL (i := 0) Mk0 F0 hr rfl (.inl rfl) b3 .nil pass0 (pa_cons (pv 2) (pa_cons (pv 3) pa_nil)))))), ?_⟩
    refine q_when (b := false) (et_not (et_B (ev_isText (ev_var rfl) hk hC))) (fun z => by cases z) (fun _ H1 e1 => ?_)
    refine q_kr (ev_var rfl) hk hC fun a r H2 e2 ha hr2 => ?_
    exact s_retTab (et_makeL rfl (et_make hk hC (es_at (ev_var rfl) (SqT.of ha)) (es_at (ev_var rfl) (SqT.of hr2)))) fun x H3 e3 t => q x H3 ((e1.trans e2).trans e3) t
theorem et_read (h : Ev ta σ H (.ref C)) (h2 : Ev tb σ H (.str (textOf ks (cs.map lineOf)))) (hk : ks ∈ kinds7) (hC : Cells ks cs) : EvTab K C (tCMeth C (spRead K C) E ta (tCons tb tNil)) σ H ks (cs.map lineOf) := fun H1 e Q q =>
  h H1 e _ fun H2 e2 => ⟨rfl, h2 H2 (e.trans e2) _ fun H3 e3 => ⟨ks, cs, rfl, hk, hC, fun x H4 e4 t => q x H4 ((e2.trans e3).trans e4) t⟩⟩
theorem et_readK (h : Ev ta σ H (.ref C)) (h2 : Ev tb σ H (.str (textOf ks (cs.map lineOf)))) (hk : ks ∈ kinds7) (hC : Cells ks cs) : EvTab K C (tCMethK C 1 (spRead K C) (fun vs zs => vs ++ zs) E ta (tCons tb tNil)) σ H ks (cs.map lineOf) := fun H1 e Q q =>
  h H1 e _ fun H2 e2 => ⟨rfl, h2 H2 (e.trans e2) _ fun H3 e3 => ⟨rfl, ks, cs, rfl, hk, hC, fun x H4 e4 t => q x H4 ((e2.trans e3).trans e4) t⟩⟩
/-! ### Table.__eq__ -/
def LoT (ks lns : List Str) : Prop := (∀ x ∈ ks, Lo x) ∧ ∀ x ∈ lns, Lo x
theorem lo_tab (hk : ks ∈ kinds7) (hC : Cells ks cs) : LoT ks (cs.map lineOf) := ⟨fun x hx => (small_ks hk x hx).lo, fun x hx => by
  obtain ⟨c, hc, rfl⟩ := List.mem_map.mp hx
  exact lo_line hk (hC.good c hc)⟩
def spEqT (K : PySem.W.Frag) (C : Addr) : Sp := fun vs H Q _ => ∃ (x y : Addr) (ks lns ks' lns' : List Str), vs = [.ref x, .ref y] ∧ TabAt K C H x ks lns ∧ TabAt K C H y ks' lns' ∧ LoT ks lns ∧ LoT ks' lns' ∧ ∀ H', Ex H H' → Q (.bl (decide (ks = ks') && decide (lns = lns'))) H'
theorem c_eq {f : Addr} {fd : FuncData} (F : Fun K "__eq__" "Table.__eq__" s_Table___eq__ f fd) (B : Bl mg) (T : TabC K mg C) (I : C8.InsC K C) : FnOk P w K mg base CX0 1 f fd ["self", "other"] (spEqT K C) := by
  refine meth_ok F sc_Table___eq__ (fun vs H Q E h => ?_) (fun cdv A outer s H vs Q E hr h => ?_)
  · obtain ⟨x, y, _, _, _, _, rfl, _⟩ := h
    rfl
  · obtain ⟨x, y, ks, lns, ks', lns', rfl, t1, t2, l1, l2, q⟩ := h
    refine ⟨_, pss_one (ps_ret (pe_and (pe_callB (C8.call_isC I) (by rfl) B.isin (by decide +kernel) (pa_cons (pv 1) (pa_cons (pe_glob (v := .ref C) (by rfl) T.mgT rfl) pa_nil)))
      (pe_and (pe_cmpR (op_eqD hr.units) (pe_fld (pv 0) rfl) (pe_fld (pv 1) rfl) (nomark _)) (pe_one (pe_cmpR (op_eqD hr.units) (pe_fld (pv 0) rfl) (pe_fld (pv 1) rfl) (nomark _)))))), ?_⟩
    obtain ⟨dx, D1, a1, r1, hx, hk1, hl1⟩ := t1.raw
    obtain ⟨dy, D2, a2, r2, hy, hk2, hl2⟩ := t2.raw
    refine s_ret (ev_is (ev_andV (ev_isT (ev_var rfl) t2) (fun _ => ev_andV (ev_eqD (ev_fld (ev_var rfl) hx T.cl T.k rfl) (ev_fld (ev_var rfl) hy T.cl T.k rfl) (fun H1 e => dp_tup (ex_t e hk1)) (fun H1 e => dp_tup (ex_t e hk2)) (shp_strs l1.1) (shp_strs l2.1))
      (fun _ => ev_eqD (ev_fld (ev_var rfl) hx T.cl T.r rfl) (ev_fld (ev_var rfl) hy T.cl T.r rfl) (fun H1 e => dp_tup (ex_t e hl1)) (fun H1 e => dp_tup (ex_t e hl2)) (shp_strs l1.2) (shp_strs l2.2)))) ?_) fun H1 e1 => q H1 e1
    show V.bl (true && (PyData.eqvAll _ _ && PyData.eqvAll _ _)) = _
    rw [eqv_strs, eqv_strs, Bool.true_and]
/-- the answer of == and != of two tables -/
theorem ev_eqO {neg : Bool} {ks' lns lns' : List Str} (h : Ev ta σ H (.ref x)) (h2 : Ev tb σ H (.ref y)) (t1 : TabAt K C H x ks lns) (t2 : TabAt K C H y ks' lns') (l1 : LoT ks lns) (l2 : LoT ks' lns') :
    Ev (tOp (rEqO C (spEqT K C) neg) ta tb) σ H (.bl (if neg then !(decide (ks = ks') && decide (lns = lns')) else (decide (ks = ks') && decide (lns = lns')))) := fun H1 e Q q =>
  h H1 e _ fun H2 e2 => h2 H2 (e.trans e2) _ fun H3 e3 => by
    have u1 := t1.ex ((e.trans e2).trans e3)
    have u2 := t2.ex ((e.trans e2).trans e3)
    obtain ⟨dx, D1, a1, r1, hx, _⟩ := u1.raw
    obtain ⟨dy, D2, a2, r2, hy, _⟩ := u2.raw
    exact ⟨x, dx, _, y, dy, _, rfl, rfl, hx, hy, x, y, ks, lns, ks', lns', rfl, u1, u2, l1, l2, fun H4 e4 => ⟨_, rfl, q H4 ((e2.trans e3).trans e4)⟩⟩
theorem ev_eqTab {lns : List Str} (h : Ev ta σ H (.ref x)) (h2 : Ev tb σ H (.ref y)) (t1 : TabAt K C H x ks lns) (t2 : TabAt K C H y ks lns) (l1 : LoT ks lns) : Ev (tOp (rEqO C (spEqT K C) false) ta tb) σ H (.bl true) := ev_is (ev_eqO (neg := false) h h2 t1 t2 l1 l1) (by rw [decide_eq_true rfl, decide_eq_true rfl]; rfl)
theorem ev_neTab {lns : List Str} (h : Ev ta σ H (.ref x)) (h2 : Ev tb σ H (.ref y)) (t1 : TabAt K C H x ks lns) (t2 : TabAt K C H y ks lns) (l1 : LoT ks lns) : Ev (tOp (rEqO C (spEqT K C) true) ta tb) σ H (.bl false) := ev_is (ev_eqO (neg := true) h h2 t1 t2 l1 l1) (by rw [decide_eq_true rfl, decide_eq_true rfl]; rfl)
end
end T
namespace T
open PySem PySem.Spec PyProof.Rows L2 Evl XB TL XS XI XC ClX
/-! ### edits -/
/-- one letter -/
def let1 (c : Nat) : Str := ⟨#[c]⟩
inductive Deed where
  | stay
  | out (n : Int)
  | sig (k : Str) (n : Int) (c : Nat)
def Deed.vs : Deed → List V
  | .stay => [.str "stay"]
  | .out n => [.str "out", .int n]
  | .sig k n c => [.str k, .int n, .str (let1 c)]
def Deed.ok (ks : List Str) : Deed → Prop
  | .stay => True
  | .out n => ("out" : Str) ∈ ks ∧ -9 ≤ n ∧ n ≤ 10 ^ 12
  | .sig k n c => k ∈ [("put" : Str), "set"] ∧ k ∈ ks ∧ -9 ≤ n ∧ n ≤ 10 ^ 12 ∧ 97 ≤ c ∧ c ≤ 122
section
variable {P : Program} {w : World} {K : PySem.W.Frag} {mg : Str → Option Value} {base : Heap} {C : Addr}
variable {σ : L2.St} {H : Hp} {ta tb tc te : TE} {tz : TS} {D' : Ends} {ks : List Str} {cs : List Cell} {x y a : Addr} {E : XK} {d : Deed}
theorem ev_isIntT {n : Int} (h : Ev ta σ H (.int n)) : Ev (tCB (rIsi K) (tCons ta (tCons (tC (.ty "int")) tNil))) σ H (.bl true) := ev_isi h (fun _ _ => .base (.int n)) (by decide +kernel)
theorem ev_isBoolI {n : Int} (h : Ev ta σ H (.int n)) : Ev (tCB (rIsi K) (tCons ta (tCons (tC (.ty "bool")) tNil))) σ H (.bl false) := ev_isi h (fun _ _ => .base (.int n)) (by decide +kernel)
theorem ev_chain {r r' : R2} {x y z : V} {a b : Bool} (h : Ev ta σ H x) (h2 : Ev tb σ H y) (h3 : Ev tc σ H z) (hr : RV r x y H (.bl a)) (hr' : a = true → RV r' y z H (.bl b)) : Ev (tChain r r' ta tb tc) σ H (.bl (a && b)) := fun H1 e Q q =>
  h H1 e _ fun H2 e2 => h2 H2 (e.trans e2) _ fun H3 e3 => hr H3 ((e.trans e2).trans e3) _ fun H4 e4 => ⟨a, rfl, by
    cases a with
    | true => exact iteT (h3 H4 (((e.trans e2).trans e3).trans e4) _ fun H5 e5 => hr' rfl H5 ((((e.trans e2).trans e3).trans e4).trans e5) _ fun H6 e6 => q H6 ((((e2.trans e3).trans e4).trans e5).trans e6))
    | false => exact iteF (q H4 ((e2.trans e3).trans e4))⟩
theorem one_lt {c d : Nat} : ([c] < [d]) ↔ c < d := by
  rw [List.cons_lt_cons_iff]
  constructor
  · rintro (h | ⟨_, h⟩)
    · exact h
    · cases h
  · exact .inl
theorem rv_leS {x y : Str} : RV (fun x y H Q => ∃ i j, x = .str i ∧ y = .str j ∧ Q (.bl (!decide (j.cps.toList < i.cps.toList))) H) (.str x) (.str y) H (.bl (!decide (y.cps.toList < x.cps.toList))) := fun H1 _ _ q => ⟨x, y, rfl, rfl, q H1 (Ex.refl H1)⟩
theorem rv_ltS {x y : Str} : RV (fun x y H Q => ∃ i j, x = .str i ∧ y = .str j ∧ Q (.bl (decide (i.cps.toList < j.cps.toList))) H) (.str x) (.str y) H (.bl (decide (x.cps.toList < y.cps.toList))) := fun H1 _ _ q => ⟨x, y, rfl, rfl, q H1 (Ex.refl H1)⟩
theorem ev_lenStr {x : Str} (h : Ev ta σ H (.str x)) (hz : x.length ≤ sizeLine) : Ev (tCB (fun xs H Q => ∃ z, xs = [.str z] ∧ z.length ≤ sizeLine ∧ Q (.int z.length) H) (tCons ta tNil)) σ H (.int (x.length : Nat)) := fun H1 e Q q => h H1 e _ fun H2 e2 => ⟨x, rfl, hz, q H2 e2⟩
/-! ### is_integer -/
def spInt : Sp := fun vs H Q _ => ∃ n : Int, vs = [.int n] ∧ ∀ H', Ex H H' → Q (.bl true) H'
theorem ev_int {n : Int} (h : Ev ta σ H (.int n)) : Ev (tCall spInt [] E (tCons ta tNil)) σ H (.bl true) := ev_call (ea_cons h ea_nil) fun H1 e Q q E => ⟨n, rfl, q⟩
/-! ### is_place -/
def spPlace : Sp := fun vs H Q _ => ∃ n : Int, vs = [.int n] ∧ -9 ≤ n ∧ n ≤ 10 ^ 12 ∧ ∀ H', Ex H H' → Q (.bl true) H'
/-! ### is_sign -/
def spSign : Sp := fun vs H Q _ => ∃ c : Nat, vs = [.str (let1 c)] ∧ 97 ≤ c ∧ c ≤ 122 ∧ ∀ H', Ex H H' → Q (.bl true) H'
theorem ev_sign {c : Nat} (h : Ev ta σ H (.str (let1 c))) (h1 : 97 ≤ c) (h2 : c ≤ 122) : Ev (tCall spSign [] E (tCons ta tNil)) σ H (.bl true) := ev_call (ea_cons h ea_nil) fun H1 e Q q E => ⟨c, rfl, h1, h2, q⟩
theorem ev_place {n : Int} (h : Ev ta σ H (.int n)) (h1 : -9 ≤ n) (h2 : n ≤ 10 ^ 12) : Ev (tCall spPlace [] E (tCons ta tNil)) σ H (.bl true) := ev_call (ea_cons h ea_nil) fun H1 e Q q E => ⟨n, rfl, h1, h2, q⟩
/-! ### is_edit -/
theorem word_S {x : Str} {ws : List Str} (ha : Ev ta σ H (.str x)) (hb : EvS K tb σ H (sl ws)) : Ev (tCall (spWord K) [] E (tCons ta (tCons tb tNil))) σ H (.bl (decide (x ∈ ws))) := fun H1 e Q q =>
  ha H1 e _ fun H2 e2 => hb H2 (e.trans e2) _ fun p H3 e3 hp => ⟨x, p, ws, rfl, hp, fun H4 e4 => q H4 ((e2.trans e3).trans e4)⟩
def spEdit (K : PySem.W.Frag) : Sp := fun vs H Q _ => ∃ (a : Addr) (ks : List Str) (d : Deed), vs = [.ref a] ∧ SqT K H a d.vs ∧ d.ok ks ∧ ∀ H', Ex H H' → Q (.bl true) H'
end
end T
/-! Own: o[i] by an own __getitem__. -/
namespace XGt
open PySem PySem.Spec PyProof.Rows L2
structure GetC (K : PySem.W.Frag) (C f : Addr) : Prop where
  get : PySem.W.findIn K (.ref C) "__getitem__" = some (some (.ref f))
  fi : PySem.W.fnIn K f = true
  fn : PySem.W.isFn K (.ref f) = true
section
variable {X : Cx} {k : Nat} {C f : Addr} {fd : FuncData} {sp : Sp} {a b : Expr} {pos : Pos} {ta tb : TE}
def rGetO (C : Addr) (sp : Sp) : R2 := fun x y H Q => ∃ o dx fs, x = .ref o ∧ H o = some (.ins C dx fs) ∧ sp [.ref o, y] H Q E0
theorem pe_getO (c : GetC X.K C f) (F : FnOk X.prog X.w X.K X.mg X.base CX0 k f fd ["self", "at"] sp) (hr : Room (k + 1) X.A) (hb : Binds X.K fd ["self", "at"] []) (ha : PE X a ta) (hi : PE X b tb)
    (hsl : ∀ (x : Addr) (i : Value), subscripted b true (.ref x) i = runValue (.builtin "lifetime.subscript" ⟨[.ref x, i], []⟩) := by intro _ _; with_unfolding_all rfl) : PE X (.Subscript a b pos) (tOp (rGetO C sp) ta tb) := by
  refine ⟨fun pins s σ H Q I h => ?_⟩
  refine Subscript_ (binT ha hi I h fun v u s2 x y H2 I2 rx ry q => ?_)
  obtain ⟨o, dx, fs, rfl, ea, q⟩ := q
  obtain rfl : v = Value.ref o := rx
  obtain ⟨od, J⟩ := XO.inst_look I2 ea
  obtain ⟨m, hF⟩ := I2.fr
  refine PySem.W.sub_K hF I2.ok.mod.kin J c.get c.fi c.fn ?_ (hsl o u)
  refine wpAny_call (codeAny_mono (F.run X.A.in1 X.stack s2 H2 ⟨[.ref o, u], []⟩ [.ref o, u] [.ref o, y] Q E0 hr.in1 I2.env0.in1 (hb s2 [.ref o, u] I2.kIn rfl) (.cons rfl (.cons ry .nil)) q) fun r s' hq => ?_)
  cases r with
  | error er => exact hq.elim
  | ok fl =>
    cases fl with
    | ret w => exact I2.after hq
    | _ => exact False.elim hq
end
section
variable {X : Cx} {CX : CXT} {k : Nat} {C f : Addr} {fd : FuncData} {ps ks : List Str} {sp : Sp} {E : XK} {o : Expr} {kws : List Keyword} {m : Str} {pos apos : Pos} {ta : TE} {tk : TA} {pl : Sem Bool}
/-- o.m(k = v, ..) -/
def tMethKw (C : Addr) (m : Str) (n : Nat) (sp : Sp) (gV : List V → List V → List V) (E : XK) (ta : TE) (tk : TA) : TE := fun σ H Q => ta σ H fun x H1 => ∃ a dx fs, x = .ref a ∧ H1 a = some (.ins C dx fs) ∧ fs.lookup m = none ∧ tk σ H1 fun zs H2 => zs.length = n ∧ sp (gV [x] zs) H2 Q E
theorem pe_methKw {gg : List Value → List Value → List Value} {gV : List V → List V → List V} (he : PE X o ta) (c : Cls X.K C) (hm : Meth X.K C m f) (F : FnOk X.prog X.w X.K X.mg X.base CX k f fd ps sp) (hr : Room k X.A) (hb : KBn X.K fd ps 1 ks gg gV) (hx : Passes CX X E) (hkw : PK X kws tk)
    (hall : (backToKw pos (keywordEach kws X.env)).all (·.1.isSome) = true := by rfl) (hks : (backToKw pos (keywordEach kws X.env)).filterMap (·.1) = ks := by rfl)
    (hpl : ((backTo pos (starEach [] X.env)).any (·.1) || (backToKw pos (keywordEach kws X.env)).any (·.1.isNone)) = false := by rfl)
    (ht : eval (.Call (.Attribute o m apos) [] kws pos) X.env = (do
      let ov ← eval o X.env
      standAt apos.atName
      let (f, first) ← holding [ov] (getMethod ov m pl)
      callWith pos f first (backTo pos (starEach [] X.env)) (backToKw pos (keywordEach kws X.env))) := by rfl) :
    PE X (.Call (.Attribute o m apos) [] kws pos) (tMethKw C m ks.length sp gV E ta tk) := by
  refine ⟨fun pins s σ H Q I h => ?_⟩
  refine PySem.W.methodCall_KW (pl := pl) (thn (he.run pins s σ H _ I h) fun u s1 ⟨x, H1, I1, rx, a, dx, fs, ex, ea, l, q⟩ => ?_) ht
  subst ex
  obtain rfl : u = Value.ref a := rx
  refine getmeth_ok I1 ea c hm l ?_
  refine PySem.W.callWith_KW0 (first := [.ref a]) (h₀ := X.base) I1.ok.mod.kin hm.kp hall (thn (hkw.run pos pins s1 σ H1 _ I1 q) fun ws s2 ⟨zs, H2, I2, rz, l2, q2⟩ => ⟨I2.kIn, ?_⟩) hpl
  rw [hks]
  exact run_fnN (us := [.ref a]) (vs := [.ref a]) F hr hb hx I2 (.cons rfl .nil) rz rfl l2 q2
end
end XGt
namespace T
open PySem PySem.Spec PyProof.Rows L2 Evl XB TL XS XI XC ClX
def Deed.hd : Deed → Str
  | .stay => "stay"
  | .out _ => "out"
  | .sig k _ _ => k
theorem Deed.hd_at (d : Deed) : d.vs[0]? = some (.str d.hd) := by cases d <;> rfl
theorem Deed.hd_ok {ks : List Str} {d : Deed} (h : d.ok ks) : (decide (d.hd = "stay") || decide (d.hd ∈ ks)) = true := by
  cases d with
  | stay => rfl
  | out n => rw [decide_eq_true (show Deed.hd (.out n) ∈ ks from h.1), Bool.or_true]
  | sig k n c => rw [decide_eq_true (show Deed.hd (.sig k n c) ∈ ks from h.2.1), Bool.or_true]
def Deed.len3 : Deed → Bool
  | .sig _ _ _ => true
  | _ => false
theorem Deed.len3_eq (d : Deed) : decide (V.int (d.vs.length : Int) = V.int 3) = d.len3 := by cases d <;> rfl
/-- by the order of two -/
def pick3 {α : Type} (lt eq : Bool) (a b c : α) : α := if lt = true then a else if eq = true then b else c
section
variable {P : Program} {w : World} {K : PySem.W.Frag} {mg : Str → Option Value} {base : Heap} {C : Addr}
variable {σ : L2.St} {H : Hp} {ta tb tc te : TE} {tz : TS} {D' : Ends} {ks : List Str} {cs : List Cell} {x y a b : Addr} {E : XK} {d : Deed}
/-! ### is_edit_of -/
def spEditOf (K : PySem.W.Frag) : Sp := fun vs H Q _ => ∃ (a b : Addr) (ks : List Str) (d : Deed), vs = [.ref a, .ref b] ∧ SqT K H a d.vs ∧ SqT K H b (sl ks) ∧ d.ok ks ∧ ∀ H', Ex H H' → Q (.bl true) H'
theorem ev_edit (h : Ev ta σ H (.ref a)) (ha : SqT K H a d.vs) (ok : d.ok ks) : Ev (tCall (spEdit K) [] E (tCons ta tNil)) σ H (.bl true) := ev_call (ea_cons h ea_nil) fun H1 e Q q E => ⟨a, ks, d, rfl, ex_t e ha, ok, q⟩
/-! ### compared -/
/-- two numbers, or two letters -/
inductive Two : V → V → Bool → Bool → Prop
  | int (n m : Int) : Two (.int n) (.int m) (decide (n < m)) (decide (n = m))
  | let1 (c e : Nat) : Two (.str (let1 c)) (.str (let1 e)) (decide (c < e)) (decide (c = e))
def spCmp (K : PySem.W.Frag) : Sp := fun vs H Q _ => ∃ (u v : V) (b : Addr) (lt eq : Bool) (s0 s1 s2 : Str), vs = [u, v, .ref b] ∧ Two u v lt eq ∧ SqT K H b (sl [s0, s1, s2]) ∧ ∀ H', Ex H H' → Q (.str (pick3 lt eq s0 s1 s2)) H'
theorem Two.eq {u v : V} {lt eq : Bool} (t : Two u v lt eq) (ha : Ev ta σ H u) (hb : Ev tb σ H v) : Ev (tOp rEq ta tb) σ H (.bl eq) := by
  cases t with
  | int n m => exact ev_is (ev_op ha hb (rv_eq rfl)) (by
      by_cases h : n = m
      · rw [h, decide_eq_true rfl, decide_eq_true rfl]
      · rw [decide_eq_false h, decide_eq_false fun z => h (by injection z)])
  | let1 c e => exact ev_is (ev_op ha hb (rv_eq rfl)) (by
      by_cases h : c = e
      · rw [h, decide_eq_true rfl, decide_eq_true rfl]
      · rw [decide_eq_false h, decide_eq_false fun z => h (by injection z with z; injection z with z; injection z with z; injection z with z)])
def rLtA : R2 := fun x y H Q => (∃ i j, x = .int i ∧ y = .int j ∧ Q (.bl (decide (i < j))) H) ∨ ∃ i j, x = .str i ∧ y = .str j ∧ Q (.bl (decide (i.cps.toList < j.cps.toList))) H
theorem op_ltA {X : Cx} : OpR X (compareOp .Lt) rLtA := op_lt.or op_lt_str
theorem Two.lt {u v : V} {lt eq : Bool} (t : Two u v lt eq) (ha : Ev ta σ H u) (hb : Ev tb σ H v) : Ev (tOp rLtA ta tb) σ H (.bl lt) := by
  cases t with
  | int n m => exact ev_op ha hb fun H1 e Q q => .inl ⟨n, m, rfl, rfl, q H1 (Ex.refl H1)⟩
  | let1 c e => exact ev_is (ev_op ha hb fun H1 e Q q => .inr ⟨_, _, rfl, rfl, q H1 (Ex.refl H1)⟩) (by
      show V.bl (decide ([c] < [e])) = _
      rw [decide_eq_decide.mpr one_lt])
theorem ev_cmp {u v : V} {lt eq : Bool} {s0 s1 s2 : Str} (h1 : Ev ta σ H u) (h2 : Ev tb σ H v) (h3 : Ev tc σ H (.ref b)) (t : Two u v lt eq) (hb : SqT K H b (sl [s0, s1, s2])) : Ev (tCall (spCmp K) [] E (tCons ta (tCons tb (tCons tc tNil)))) σ H (.str (pick3 lt eq s0 s1 s2)) :=
  ev_call (ea_cons h1 (ea_cons h2 (ea_cons h3 ea_nil))) fun H1 e Q q E => ⟨u, v, b, lt, eq, s0, s1, s2, rfl, t, ex_t e hb, q⟩
theorem es_catA {xs ys : List V} (ha : EvS K ta σ H xs) (hb : EvS K tb σ H ys) (hz : xs.length + ys.length ≤ 100000) : EvS K (tOp (rCatA K) ta tb) σ H (xs ++ ys) := fun H1 e Q q =>
  ha H1 e _ fun p H2 e2 h2 => hb H2 (e.trans e2) _ fun r H3 e3 h3 => ⟨p, r, xs, ys, rfl, rfl, ex_t e3 h2, h3, sz_of hz, (fun z => by
      subst z
      exact q r H3 (e2.trans e3) h3), (fun _ z => by
      subst z
      exact q p H3 (e2.trans e3) (by rw [List.append_nil]; exact ex_t e3 h2)),
    fun _ _ l nl => q l _ ((e2.trans e3).trans (Ex.new nl)) (st_of upd_same)⟩
/-! ### conditions_met -/
def metOf (d e : Deed) (first : Bool) : List Str := (if first = true then [("first" : Str)] else []) ++ (match d, e with
  | .sig _ _ c, .sig _ _ c' => [pick3 (decide (c < c')) (decide (c = c')) ("less" : Str) "same" "more"]
  | _, _ => [])
def spMet (K : PySem.W.Frag) : Sp := fun vs H Q _ => ∃ (a b : Addr) (d e : Deed) (first : Bool), vs = [.ref a, .ref b, .bl first] ∧ SqT K H a d.vs ∧ SqT K H b e.vs ∧ ∀ l H', Ex H H' → SqT K H' l (sl (metOf d e first)) → Q (.ref l) H'
end
end T
namespace T
open PySem PySem.Spec PyProof.Rows L2 Evl XB TL XS XI XC ClX
def jn (p : Str × Str) : Str := p.1 ++ ":" ++ p.2
def chosenOf (ps : List (Str × Str)) (z : Str) (ms : List Str) : Str := ((ps.find? fun p => decide (p.1 ∈ ms)).map (·.2)).getD z
theorem chosen_at {ps : List (Str × Str)} {z : Str} {ms : List Str} : ∀ {i : Nat} {p : Str × Str}, (∀ q ∈ ps.take i, q.1 ∉ ms) → ps[i]? = some p → p.1 ∈ ms → chosenOf ps z ms = p.2 := by
  induction ps with
  | nil => intro i p _ h; cases h
  | cons q r ih =>
    intro i p hn h hp
    unfold chosenOf
    cases i with
    | zero =>
      have e : q = p := by injection h
      rw [List.find?_cons, e, decide_eq_true hp]
      rfl
    | succ i =>
      have nq := hn q (by rw [List.take_succ_cons]; exact List.mem_cons_self)
      rw [List.find?_cons, decide_eq_false nq]
      exact ih (fun y hy => hn y (by rw [List.take_succ_cons]; exact List.mem_cons_of_mem _ hy)) (show r[i]? = some p from h) hp
theorem chosen_none {ps : List (Str × Str)} {z : Str} {ms : List Str} (h : ∀ q ∈ ps, q.1 ∉ ms) : chosenOf ps z ms = z := by
  unfold chosenOf
  rw [List.find?_eq_none.mpr fun q hq => by rw [decide_eq_true_eq]; exact h q hq]
  rfl
section
variable {P : Program} {w : World} {K : PySem.W.Frag} {mg : Str → Option Value} {base : Heap} {C : Addr}
variable {σ : L2.St} {H : Hp} {ta tb tc te : TE} {tz ts : TS} {D' : Ends} {ks : List Str} {cs : List Cell} {x y a b : Addr} {E : XK} {d : Deed} {xs : List V} {g : TG}
theorem s_forS (h : EvS K te σ H xs) (Pv : Hp → Nat → L2.St → Hp → Prop) (h0 : ∀ H1, Ex H H1 → Pv H1 0 σ H1) (hx : ∀ H1 i σ' G, Pv H1 i σ' G → Ex H1 G)
    (hs : ∀ H1 i x σ' G, Ex H H1 → xs[i]? = some x → Pv H1 i σ' G → g x σ' G fun σ2 H2 => ts { D' with nx := Pv H1 (i + 1), ct := Pv H1 (i + 1), bk := D'.nx } σ2 H2) (hd : ∀ H1 σ' G, Ex H H1 → Pv H1 xs.length σ' G → D'.nx σ' G) : tFor (iTup K te) g ts D' σ H :=
  h H (Ex.refl H) _ fun p H1 e1 hp => ⟨p, rfl, ⟨_, hp⟩, for_tup (Pv H1) (h0 H1 e1) (fun i σ' G _ q => ex_t (hx H1 i σ' G q) hp) (fun i x σ' G hi q => hs H1 i x σ' G e1 hi q) (fun σ' G q => hd H1 σ' G e1 q)⟩
theorem eu_part {x y b : Str} (ha : Ev ta σ H (.str (x ++ y ++ b))) (hb : Ev tb σ H (.str y)) (hz : (x ++ y ++ b).length ≤ sizeLine) (hy : (y.length == 0) = false) (e : Txt.partition (x ++ y ++ b) y = (x, y, b)) :
    EvU (tM1 (fun x xs H Q => ∃ a b, x = .str a ∧ xs = [.str b] ∧ (b.length == 0) = false ∧ a.length ≤ sizeLine ∧ ∀ p, H p = none → Q (.ref p) (upd H p (.tup [.str (Txt.partition a b).1, .str (Txt.partition a b).2.1, .str (Txt.partition a b).2.2]))) ta tb) σ H [.str x, .str y, .str b] := fun H1 e1 Q q =>
  ha H1 e1 _ fun H2 e2 => ⟨⟨_, rfl⟩, hb H2 (e1.trans e2) _ fun H3 e3 => ⟨_, _, rfl, rfl, hy, hz, fun p np => by
    have en := q p _ (fresh_back (e2.trans e3) np) ((e2.trans e3).trans (Ex.new np)) upd_same
    rw [e]
    exact en⟩⟩
/-! ### chosen -/
structure Parts (ps : List (Str × Str)) : Prop where
  no : ∀ p ∈ ps, 58 ∉ tl p.1
  sm : ∀ p ∈ ps, (jn p).length ≤ 100
  few : ps.length ≤ 100
def spChosen (K : PySem.W.Frag) : Sp := fun vs H Q _ => ∃ (a b : Addr) (ps : List (Str × Str)) (z : Str) (ms : List Str), vs = [.ref a, .ref b] ∧ SqT K H a (sl (ps.map jn ++ [z])) ∧ SqT K H b (sl ms) ∧ Parts ps ∧ ∀ H', Ex H H' → Q (.str (chosenOf ps z ms)) H'
end
end T
namespace T
open PySem PySem.Spec PyProof.Rows L2 Evl XB TL XS XI XC ClX
def step (r : Str) : Int := if r = "up" then 1 else if r = "down" then -1 else 0
def formedOf (d : Deed) (r : Str) : List V := if r = "stay" then [.str "stay"] else if r = "put" then (match d with
    | .sig _ n c => [.str "put", .int n, .str (let1 c)]
    | _ => []) else match d with
    | .stay => []
    | .out n => [.str "out", .int (n + step r)]
    | .sig k n c => [.str k, .int (n + step r), .str (let1 c)]
def FormOk (d : Deed) (r : Str) : Prop := d ≠ .stay ∧ (r ∈ [("keep" : Str), "up", "down", "stay"] ∨ (r = "put" ∧ ∃ k n c, d = .sig k n c))
section
variable {P : Program} {w : World} {K : PySem.W.Frag} {mg : Str → Option Value} {base : Heap} {C : Addr}
variable {σ : L2.St} {H : Hp} {ta tb tc te : TE} {tz ts : TS} {D' : Ends} {ks : List Str} {cs : List Cell} {x y a b : Addr} {E : XK} {d : Deed} {xs : List V} {g : TG}
/-- the module's steps -/
structure StepC (K : PySem.W.Frag) (w : World) (mg : Str → Option Value) : Prop where
  ex : ∃ a, mg "STEPS" = some (.ref a) ∧ KDct K w a "keep" (.int 0) ∧ KDct K w a "up" (.int 1) ∧ KDct K w a "down" (.int (-1))
/-! ### formed -/
def spFormed (K : PySem.W.Frag) : Sp := fun vs H Q _ => ∃ (a : Addr) (d : Deed) (r : Str), vs = [.ref a, .str r] ∧ SqT K H a d.vs ∧ FormOk d r ∧ ∀ l H', Ex H H' → SqT K H' l (formedOf d r) → Q (.ref l) H'
theorem cut_drop2 (xs : List V) : cutV xs (some 2) none = xs.drop 2 := by
  unfold cutV
  rw [HT.sIx_none, show (some (2 : Int)) = some ((2 : Nat) : Int) from rfl, HT.sIx_nat]
  by_cases h : 2 ≤ xs.length
  · rw [Nat.min_eq_left h, List.take_of_length_le (by rw [List.length_drop] <;> exact Nat.le_refl _)]
  · rw [Nat.min_eq_right (by omega), Nat.sub_self, List.take_zero, List.drop_eq_nil_of_le (by omega)]
/-! ### Table.__getitem__ -/
def optsFor (cs : List Cell) (n : Nm) : List Str := ((cs.find? fun c => decide (nmOf c = n)).map (fun c => c.2.2.2)).getD [("keep" : Str)]
theorem DictOf.val {kvs : List (Nm × V)} (h : DictOf H kvs cs) (nd : (cs.map nmOf).Nodup) (n : Nm) : (∃ t, valV kvs n = some (.ref t) ∧ H t = some (.tup (sl (optsFor cs n)))) ∨ (valV kvs n = none ∧ optsFor cs n = [("keep" : Str)]) := by
  cases e : cs.find? (fun c => decide (nmOf c = n)) with
  | none =>
    refine .inr ⟨valV_no ?_, by unfold optsFor; rw [e]; rfl⟩
    rw [h.keys]
    intro m
    obtain ⟨c, hc, rfl⟩ := List.mem_map.mp m
    have := List.find?_eq_none.mp e c hc
    exact this (decide_eq_true rfl)
  | some c =>
    have hn : nmOf c = n := of_decide_eq_true (List.find?_some (p := fun c => decide (nmOf c = n)) e)
    obtain ⟨i, hci⟩ := List.mem_iff_getElem?.mp (List.mem_of_find?_eq_some e)
    obtain ⟨t, h1, h2⟩ := h.2 i c hci
    refine .inl ⟨t, ?_, by unfold optsFor; rw [e]; exact h2⟩
    have := valV_at (by rw [h.keys]; exact nd) h1
    rw [hn] at this
    exact this
theorem ev_din {d b : Addr} {kvs : List (List Key × V)} {k : List Key} {o : Option V} (hb : Ev tb σ H (.ref b)) (ha : Ev ta σ H (.ref d)) (hd : H d = some (.dT kvs)) (ht : H b = some (.tup (k.map kV))) (hv : valV kvs k = o) : Ev (tDIn tb ta) σ H (.bl o.isSome) := fun H1 e Q q =>
  hb H1 e _ fun H2 e2 => ha H2 (e.trans e2) _ fun H3 e3 => ⟨d, o, rfl, hv ▸ DGet.t (e3 _ _ (e2 _ _ (e _ _ hd))) (e3 _ _ (e2 _ _ (e _ _ ht))), q H3 (e2.trans e3)⟩
def spGet (K : PySem.W.Frag) (C : Addr) : Sp := fun vs H Q _ => ∃ (x t : Addr) (m i s : Str) (ks : List Str) (cs : List Cell), vs = [.ref x, .ref t] ∧ H t = some (.tup ((nm3 m i s).map kV)) ∧ m ∈ ks ∧ i ∈ ks ∧ s ∈ rels ∧ (∃ dx D a r kvs, TabF K C H x dx D a r kvs ks cs) ∧ ∀ l H', Ex H H' → SqT K H' l (sl (optsFor cs (nm3 m i s))) → Q (.ref l) H'
theorem c_get {f : Addr} {fd : FuncData} (F : Fun K "__getitem__" "Table.__getitem__" s_Table___getitem__ f fd) (T : TabC K mg C) (C1 : C8.Cal P w K mg base 2 "is_cell" (spIsCell K) []) : FnOk P w K mg base CX0 3 f fd ["self", "at"] (spGet K C) := by
  refine meth_ok F sc_Table___getitem__ (fun vs H Q E h => ?_) (fun cdv A outer s H vs Q E hr h => ?_)
  · obtain ⟨x, t, m, i, s, ks, cs, rfl, _⟩ := h
    rfl
  · obtain ⟨x, t, m, i, s, ks, cs, rfl, ht, hm, hi, hs, ⟨dx, D, a, r, kvs, f⟩, q⟩ := h
    refine ⟨_, pss_cons (ps_if (pt_not (pt_val (C8.pe_c C1 hr (by decide) (by rfl) (pa_cons (pv 1) (pa_cons (pe_fld (pv 0) rfl) pa_nil))))) pss_never pss_nil)
      (pss_cons (ps_if (pt_cmp (pc_din (by have := hr.units; exact Nat.lt_of_le_of_lt (Nat.add_le_add_left (by decide) _) this) (pv 1) (pe_fld (pv 0) rfl))) (pss_one (ps_ret (pe_dget (by have := hr.units; exact Nat.lt_of_le_of_lt (Nat.add_le_add_left (by decide) _) this) (pe_fld (pv 0) rfl) (pv 1) (fun _ _ => rfl)))) pss_nil)
      (pss_one (ps_ret (pe_tup (pa_cons pe_str pa_nil))))), ?_⟩
    refine q_when (b := false) (et_is (et_not (et_B (ev_isCell (m := m) (i := i) (s := s) (es_at (ev_var rfl) (SqT.of ht)) (ev_fld (ev_var rfl) f.hx T.cl T.k rfl) f.ha))) (by rw [decide_eq_true hm, decide_eq_true hi, decide_eq_true hs]; rfl)) (fun z => by cases z) (fun _ H1 e1 => ?_)
    have hx1 := e1 _ _ f.hx
    have hD1 := e1 _ _ f.hD
    have ht1 := e1 _ _ ht
    rcases (f.d.ex e1).val f.c.nd (nm3 m i s) with ⟨u, hv, hu⟩ | ⟨hv, ho⟩
    · refine q_when (b := true) (et_B (ev_din (o := some (.ref u)) (ev_var rfl) (ev_fld (ev_var rfl) hx1 T.cl T.c rfl) hD1 ht1 hv)) (fun _ H2 e2 => ?_) (fun z => by cases z)
      exact s_ret (ev_dget (ev_fld (ev_var rfl) (e2 _ _ hx1) T.cl T.c rfl) (ev_var rfl) (.inl (e2 _ _ hD1)) (e2 _ _ ht1) hv) fun H3 e3 => q u H3 ((e1.trans e2).trans e3) (SqT.of (e3 _ _ (e2 _ _ hu)))
    · refine q_when (b := false) (et_B (ev_din (o := none) (ev_var rfl) (ev_fld (ev_var rfl) hx1 T.cl T.c rfl) hD1 ht1 hv)) (fun z => by cases z) (fun _ H2 e2 => ?_)
      rw [ho] at q
      exact s_retS (es_new (K := K) (eu_tup (ea_str ea_nil) (by decide))) fun p H3 e3 h3 => q p H3 ((e1.trans e2).trans e3) h3
end
end T
namespace T
open PySem PySem.Spec PyProof.Rows L2 Evl XB TL XS XI XC ClX
def Deed.pl : Deed → Int
  | .stay => 0
  | .out n => n
  | .sig _ n _ => n
def relOf (d e : Deed) : Str := pick3 (decide (d.pl < e.pl)) (decide (d.pl = e.pl)) ("<" : Str) "=" ">"
theorem relOf_in (d e : Deed) : relOf d e ∈ rels := by
  unfold relOf
  cases decide (d.pl < e.pl) <;> cases decide (d.pl = e.pl) <;> decide +kernel
def parseO (o : Str) : Str × Str := ((Txt.partition o ":").1, (Txt.partition o ":").2.2)
def chosenW (ws ms : List Str) : Str := chosenOf (ws.dropLast.map parseO) (ws.getLastD ("keep" : Str)) ms
theorem chosenW_eq {ps : List (Str × Str)} (h : Parts ps) (z : Str) (ms : List Str) : chosenW (ps.map jn ++ [z]) ms = chosenOf ps z ms := by
  unfold chosenW
  rw [List.dropLast_concat, List.getLastD_concat, List.map_map]
  have : ps.map (parseO ∘ jn) = ps.map id := List.map_congr_left fun p hp => by
    show ((Txt.partition (p.1 ++ ":" ++ p.2) ":").1, (Txt.partition (p.1 ++ ":" ++ p.2) ":").2.2) = p
    rw [partition_app (s := 58) (S := []) rfl (h.no p hp)]
  rw [this, List.map_id]
def turnedOf (cs : List Cell) (d e : Deed) (first : Bool) : List V := if d.hd = "stay" ∨ e.hd = "stay" then d.vs else formedOf d (chosenW (optsFor cs (nm3 d.hd e.hd (relOf d e))) (metOf d e first))
/-- options, parted -/
structure OptP (ks : List Str) (m i : Str) (ps : List (Str × Str)) (z : Str) : Prop where
  pa : Parts ps
  cd : ∀ p ∈ ps, p.1 ∈ condsOf m i
  rs : ∀ p ∈ ps, p.2 ∈ resultsOf m ks
  zz : z ∈ resultsOf m ks
theorem cond_no {m i : Str} : ∀ c ∈ condsOf m i, 58 ∉ tl c := by
  unfold condsOf
  split <;> decide +kernel
theorem opts_parts {m i : Str} {ks ws : List Str} (h : IsOpts m i ks ws) : ∃ ps z, ws = ps.map jn ++ [z] ∧ OptP ks m i ps z := by
  obtain ⟨pre, z, rfl, hl, hp, hz⟩ := h
  have go : ∀ pre : List Str, (∀ o ∈ pre, ∃ c ∈ condsOf m i, ∃ r ∈ resultsOf m ks, o = c ++ ":" ++ r) → ∃ ps : List (Str × Str), pre = ps.map jn ∧ ∀ p ∈ ps, p.1 ∈ condsOf m i ∧ p.2 ∈ resultsOf m ks := by
    intro pre
    induction pre with
    | nil => exact fun _ => ⟨[], rfl, fun _ z => by cases z⟩
    | cons o r ih =>
      intro h
      obtain ⟨ps, e, g⟩ := ih fun x hx => h x (List.mem_cons_of_mem _ hx)
      obtain ⟨c, hc, q, hq, rfl⟩ := h o List.mem_cons_self
      refine ⟨(c, q) :: ps, by rw [List.map_cons, ← e]; rfl, fun p hp => ?_⟩
      rcases List.mem_cons.mp hp with rfl | w
      · exact ⟨hc, hq⟩
      · exact g p w
  obtain ⟨ps, rfl, g⟩ := go pre hp
  rw [List.length_map] at hl
  refine ⟨ps, z, rfl, ⟨⟨fun p hp => cond_no _ (g p hp).1, fun p hp => ?_, by omega⟩, fun p hp => (g p hp).1, fun p hp => (g p hp).2, hz⟩⟩
  exact Nat.le_trans (small_opt _ (g p hp).1 _ (g p hp).2).len (by decide)
theorem nm3_inj {m i s m' i' s' : Str} (h : nm3 m i s = nm3 m' i' s') : m = m' ∧ i = i' ∧ s = s' := by
  unfold nm3 at h
  injection h with h1 h
  injection h with h2 h
  injection h with h3 _
  injection h1 with h1
  injection h2 with h2
  injection h3 with h3
  exact ⟨h1, h2, h3⟩
theorem optsFor_parts {ks : List Str} {cs : List Cell} (hC : Cells ks cs) (m i s : Str) : ∃ ps z, optsFor cs (nm3 m i s) = ps.map jn ++ [z] ∧ OptP ks m i ps z := by
  unfold optsFor
  cases e : cs.find? (fun c => decide (nmOf c = nm3 m i s)) with
  | none => exact ⟨[], "keep", rfl, ⟨⟨(fun _ z => by cases z), (fun _ z => by cases z), Nat.zero_le _⟩, (fun _ z => by cases z), (fun _ z => by cases z), (by unfold resultsOf; exact List.mem_append_left _ (by decide))⟩⟩
  | some c =>
    have hn : nmOf c = nm3 m i s := of_decide_eq_true (List.find?_some (p := fun c => decide (nmOf c = nm3 m i s)) e)
    obtain ⟨e1, e2, e3⟩ := nm3_inj hn
    have g := hC.good c (List.mem_of_find?_eq_some e)
    obtain ⟨ps, z, h1, h2⟩ := opts_parts g.2.2.2
    subst e1
    subst e2
    exact ⟨ps, z, h1, h2⟩
theorem chosen_in {ks : List Str} {m i : Str} {ps : List (Str × Str)} {z : Str} (h : OptP ks m i ps z) (ms : List Str) : chosenOf ps z ms ∈ resultsOf m ks := by
  unfold chosenOf
  cases e : ps.find? (fun p => decide (p.1 ∈ ms)) with
  | none => exact h.zz
  | some p => exact h.rs p (List.mem_of_find?_eq_some e)
theorem form_ok {ks : List Str} {d : Deed} (nst : d ≠ .stay) (ok : d.ok ks) {r : Str} (h : r ∈ resultsOf d.hd ks) : FormOk d r := by
  refine ⟨nst, ?_⟩
  unfold resultsOf at h
  rcases List.mem_append.mp h with z | z
  · exact .inl z
  · split at z
    · rename_i cc
      refine .inr ⟨List.mem_singleton.mp z, ?_⟩
      cases d with
      | stay => exact absurd rfl nst
      | out n => exact absurd (show ("out" : Str) = "set" from cc.1) (by decide)
      | sig k n c => exact ⟨k, n, c, rfl⟩
    · cases z
theorem Deed.hd_stay {ks : List Str} {d : Deed} (ok : d.ok ks) (hk : ks ∈ kinds7) (h : d.hd ≠ "stay") : d ≠ .stay ∧ d.hd ∈ ks ∧ d.vs[1]? = some (.int d.pl) := by
  cases d with
  | stay => exact absurd rfl h
  | out n => exact ⟨(fun z => by cases z), ok.1, rfl⟩
  | sig k n c => exact ⟨(fun z => by cases z), ok.2.1, rfl⟩
section
variable {P : Program} {w : World} {K : PySem.W.Frag} {mg : Str → Option Value} {base : Heap} {C : Addr}
variable {σ : L2.St} {H : Hp} {ta tb tc te : TE} {tz ts : TS} {D' : Ends} {ks : List Str} {cs : List Cell} {x y a b : Addr} {E : XK} {d e : Deed} {xs : List V} {g : TG} {first : Bool}
/-- a table that is told whole -/
def TabW (K : PySem.W.Frag) (C : Addr) (H : Hp) (x : Addr) (ks : List Str) (cs : List Cell) : Prop := ∃ dx D a r kvs, TabF K C H x dx D a r kvs ks cs
theorem TabW.ex {H' : Hp} (h : TabW K C H x ks cs) (z : Ex H H') : TabW K C H' x ks cs := by
  obtain ⟨dx, D, a, r, kvs, f⟩ := h
  exact ⟨dx, D, a, r, kvs, z _ _ f.hx, ex_t z f.ha, ex_t z f.hr, z _ _ f.hD, f.d.ex z, f.c⟩
theorem es_met (h1 : Ev ta σ H (.ref a)) (h2 : Ev tb σ H (.ref b)) (h3 : Ev tc σ H (.bl first)) (ha : SqT K H a d.vs) (hb : SqT K H b e.vs) : EvS K (tCall (spMet K) [] E (tCons ta (tCons tb (tCons tc tNil)))) σ H (sl (metOf d e first)) :=
  es_call (ea_cons h1 (ea_cons h2 (ea_cons h3 ea_nil))) fun H1 z Q q E => ⟨a, b, d, e, first, rfl, ex_t z ha, ex_t z hb, q⟩
theorem ev_chosen {ps : List (Str × Str)} {z : Str} {ms : List Str} (h1 : Ev ta σ H (.ref a)) (h2 : EvS K tb σ H (sl ms)) (ha : SqT K H a (sl (ps.map jn ++ [z]))) (PP : Parts ps) : Ev (tCall (spChosen K) [] E (tCons ta (tCons tb tNil))) σ H (.str (chosenOf ps z ms)) := fun H1 e Q q =>
  h1 H1 e _ fun H2 e2 => h2 H2 (e.trans e2) _ fun p H3 e3 hp => ⟨a, p, ps, z, ms, rfl, ex_t ((e.trans e2).trans e3) ha, hp, PP, fun H4 e4 => q H4 ((e2.trans e3).trans e4)⟩
theorem es_formed {r : Str} (h1 : Ev ta σ H (.ref a)) (h2 : Ev tb σ H (.str r)) (ha : SqT K H a d.vs) (ok : FormOk d r) : EvS K (tCall (spFormed K) [] E (tCons ta (tCons tb tNil))) σ H (formedOf d r) :=
  es_call (ea_cons h1 (ea_cons h2 ea_nil)) fun H1 z Q q E => ⟨a, d, r, rfl, ex_t z ha, ok, q⟩
theorem es_get {m i s : Str} (h1 : Ev ta σ H (.ref x)) (h2 : EvU tb σ H ((nm3 m i s).map kV)) (t : TabW K C H x ks cs) (hm : m ∈ ks) (hi : i ∈ ks) (hs : s ∈ rels) : EvS K (tOp (XGt.rGetO C (spGet K C)) ta tb) σ H (sl (optsFor cs (nm3 m i s))) := fun H1 e Q q =>
  h1 H1 e _ fun H2 e2 => h2 H2 (e.trans e2) _ fun p H3 n3 e3 hp => by
    have t3 := t.ex ((e.trans e2).trans e3)
    obtain ⟨dx, D, a, r, kvs, f⟩ := id t3
    exact ⟨x, dx, _, rfl, f.hx, x, p, m, i, s, ks, cs, rfl, hp, hm, hi, hs, t3, fun l H4 e4 h4 => q l H4 ((e2.trans e3).trans e4) h4⟩
/-! ### turned -/
def spTurned (K : PySem.W.Frag) (C : Addr) : Sp := fun vs H Q _ => ∃ (x a b : Addr) (d e : Deed) (first : Bool) (ks : List Str) (cs : List Cell), vs = [.ref x, .ref a, .ref b, .bl first] ∧ TabW K C H x ks cs ∧ ks ∈ kinds7 ∧ SqT K H a d.vs ∧ SqT K H b e.vs ∧ d.ok ks ∧ e.ok ks ∧ ∀ l H', Ex H H' → SqT K H' l (turnedOf cs d e first) → Q (.ref l) H'
end
end T
namespace T
open PySem PySem.Spec PyProof.Rows L2 Evl XB TL XS XI XC ClX
section
variable {P : Program} {w : World} {K : PySem.W.Frag} {mg : Str → Option Value} {base : Heap} {C : Addr}
variable {σ : L2.St} {H : Hp} {ta tb tc te : TE} {tz ts : TS} {D' : Ends} {ks : List Str} {cs : List Cell} {x y a b : Addr} {E : XK} {d e : Deed} {xs : List V} {g : TG} {first : Bool}
theorem ev_editOf (h1 : Ev ta σ H (.ref a)) (h2 : Ev tb σ H (.ref b)) (ha : SqT K H a d.vs) (hb : SqT K H b (sl ks)) (ok : d.ok ks) : Ev (tCall (spEditOf K) [] E (tCons ta (tCons tb tNil))) σ H (.bl true) :=
  ev_call (ea_cons h1 (ea_cons h2 ea_nil)) fun H1 z Q q E => ⟨a, b, ks, d, rfl, ex_t z ha, ex_t z hb, ok, q⟩
end
end T
namespace T
open PySem PySem.Spec PyProof.Rows L2 Evl XB TL XS XI XC ClX
def Deed.last : Deed → V
  | .stay => .str "stay"
  | .out n => .int n
  | .sig _ _ c => .str (let1 c)
theorem Deed.last_at (d : Deed) : atI d.vs (-1) = some d.last := by cases d <;> rfl
section
variable {P : Program} {w : World} {K : PySem.W.Frag} {mg : Str → Option Value} {base : Heap} {C : Addr}
variable {σ : L2.St} {H : Hp} {ta tb tc te : TE} {tz ts : TS} {D' : Ends} {ks : List Str} {cs : List Cell} {x y a b : Addr} {E : XK} {d e : Deed} {xs : List V} {g : TG} {first : Bool}
theorem s_forLs (h : EvL te σ H xs) (Pv : Hp → Nat → L2.St → Hp → Prop) (h0 : ∀ H1, Ex H H1 → Pv H1 0 σ H1) (hx : ∀ H1 i σ' G, Pv H1 i σ' G → Ex H1 G)
    (hs : ∀ H1 i x σ' G, Ex H H1 → xs[i]? = some x → Pv H1 i σ' G → g x σ' G fun σ2 H2 => ts { D' with nx := Pv H1 (i + 1), ct := Pv H1 (i + 1), bk := D'.nx } σ2 H2) (hd : ∀ H1 σ' G, Ex H H1 → Pv H1 xs.length σ' G → D'.nx σ' G) : tFor (iList K te) g ts D' σ H :=
  h H (Ex.refl H) _ fun p H1 n1 e1 hp => ⟨p, rfl, ⟨_, SqL.of hp⟩, for_list (Pv H1) (h0 H1 e1) (fun i σ' G _ q => SqL.of (hx H1 i σ' G q _ _ hp)) (fun i x σ' G hi q => hs H1 i x σ' G e1 hi q) (fun σ' G q => hd H1 σ' G e1 q)⟩
theorem q_asgL2 {i j : Nat} {x y : V} (h : EvL te σ H [x, y]) (q : ∀ H1, Ex H H1 → tz D' ((σ.set i (some x)).set j (some y)) H1) : tSeq (tAsg te (gLst K 2 (gCons (gName i) (gCons (gName j) gNil)))) tz D' σ H :=
  h H (Ex.refl H) _ fun p H1 n1 e1 hp => ⟨p, _, rfl, SqL.of hp, rfl, _, _, rfl, _, _, rfl, rfl, q H1 e1⟩
theorem rv_gtS {x y : Str} : RV (fun x y H Q => ∃ i j, x = .str i ∧ y = .str j ∧ Q (.bl (decide (j.cps.toList < i.cps.toList))) H) (.str x) (.str y) H (.bl (decide (y.cps.toList < x.cps.toList))) := fun H1 _ _ q => ⟨x, y, rfl, rfl, q H1 (Ex.refl H1)⟩
/-! ### _law_chosen -/
def spLCh (K : PySem.W.Frag) : Sp := fun vs H Q _ => ∃ (l a b : Addr) (ps : List (Str × Str)) (z : Str) (d e : Deed) (first : Bool) (ks : List Str), vs = [.ref l, .ref a, .ref b, .bl first] ∧ H l = some (.lst (sl (ps.map jn ++ [z]))) ∧ SqT K H a d.vs ∧ SqT K H b e.vs ∧ d.hd ≠ "stay" ∧ e.hd ≠ "stay" ∧ OptP ks d.hd e.hd ps z ∧ ∀ H', Ex H H' → Q (.str (chosenOf ps z (metOf d e first))) H'
theorem part_split {c r : Str} (hc : 58 ∉ tl c) (hr : 58 ∉ tl r) : Txt.split (c ++ ":" ++ r) ":" = [c, r] := by
  have : c ++ ":" ++ r = Txt.join ":" [c, r] := by rw [join_eq]; rfl
  rw [this]
  exact split_join (s := 58) (S := []) rfl (by decide +kernel) (by intro z; cases z) fun p hp => by
    rcases List.mem_cons.mp hp with rfl | hp
    · exact hc
    · rw [List.mem_singleton.mp hp]
      exact hr
theorem res_no {m : Str} {ks : List Str} : ∀ r ∈ resultsOf m ks, 58 ∉ tl r := by
  unfold resultsOf
  split <;> decide +kernel
/-- the heads, and what meets them -/
theorem head_cases {c : Str} (h : c ∈ condsOf d.hd e.hd) (hd : d.hd ≠ "stay") (he : e.hd ≠ "stay") : c = "first" ∨ ∃ k n u k' n' u', d = .sig k n u ∧ e = .sig k' n' u' ∧ (c = "less" ∨ c = "same" ∨ c = "more") := by
  unfold condsOf at h
  split at h
  · exact .inl (List.mem_singleton.mp h)
  · rename_i ho
    rcases List.mem_cons.mp h with h | h
    · exact .inl h
    · refine .inr ?_
      cases d with
      | stay => exact absurd rfl hd
      | out n => exact absurd (.inl rfl) ho
      | sig k n u => cases e with
        | stay => exact absurd rfl he
        | out n => exact absurd (.inr rfl) ho
        | sig k' n' u' =>
          simp only [List.mem_cons, List.not_mem_nil, or_false] at h
          exact ⟨k, n, u, k', n', u', rfl, rfl, h⟩
theorem met_first (d e : Deed) (first : Bool) : (("first" : Str) ∈ metOf d e first) ↔ first = true := by
  unfold metOf
  cases first with
  | true => simp
  | false =>
    cases d <;> cases e <;> simp [pick3]
    split
    · decide
    · split <;> decide
def ltB : Deed → Deed → Bool
  | .sig _ _ c, .sig _ _ c' => decide (c < c')
  | _, _ => false
def eqB : Deed → Deed → Bool
  | .sig _ _ c, .sig _ _ c' => decide (c = c')
  | _, _ => false
def gtB : Deed → Deed → Bool
  | .sig _ _ c, .sig _ _ c' => decide (c' < c)
  | _, _ => false
/-- what the law asks of a head -/
def hit (c : Str) (d e : Deed) (first : Bool) : Bool := (decide (c = "first") && first) || (decide (c = "less") && ltB d e) || ((decide (c = "same") && eqB d e) || (decide (c = "more") && gtB d e))
theorem met_iff {c : Str} (h : c ∈ condsOf d.hd e.hd) (hd : d.hd ≠ "stay") (he : e.hd ≠ "stay") : decide (c ∈ metOf d e first) = hit c d e first := by
  rcases head_cases h hd he with rfl | ⟨k, n, u, k', n', u', rfl, rfl, hc⟩
  · unfold hit
    have e0 : decide (("first" : Str) ∈ metOf d e first) = first := by
      cases hf : first with
      | true => exact decide_eq_true ((met_first d e true).mpr rfl)
      | false => exact decide_eq_false fun z => by cases (met_first d e false).mp z
    rw [e0]
    have e1 : decide (("first" : Str) = "less") = false := by decide
    have e2 : decide (("first" : Str) = "same") = false := by decide
    have e3 : decide (("first" : Str) = "more") = false := by decide
    rw [e1, e2, e3, decide_eq_true rfl]
    cases first <;> rfl
  · unfold hit metOf ltB eqB gtB
    rcases Nat.lt_trichotomy u u' with o | o | o
    · have a1 : decide (u < u') = true := decide_eq_true o
      have a2 : decide (u = u') = false := decide_eq_false (by omega)
      have a3 : decide (u' < u) = false := decide_eq_false (by omega)
      simp only [a1, a2, a3]
      rcases hc with rfl | rfl | rfl <;> cases first <;> decide +kernel
    · have a1 : decide (u < u') = false := decide_eq_false (by omega)
      have a2 : decide (u = u') = true := decide_eq_true o
      have a3 : decide (u' < u) = false := decide_eq_false (by omega)
      simp only [a1, a2, a3]
      rcases hc with rfl | rfl | rfl <;> cases first <;> decide +kernel
    · have a1 : decide (u < u') = false := decide_eq_false (by omega)
      have a2 : decide (u = u') = false := decide_eq_false (by omega)
      have a3 : decide (u' < u) = true := decide_eq_true o
      simp only [a1, a2, a3]
      rcases hc with rfl | rfl | rfl <;> cases first <;> decide +kernel
def rGtA : R2 := fun x y H Q => (∃ i j, x = .int i ∧ y = .int j ∧ Q (.bl (decide (j < i))) H) ∨ ∃ i j, x = .str i ∧ y = .str j ∧ Q (.bl (decide (j.cps.toList < i.cps.toList))) H
theorem op_gtA {X : Cx} : OpR X (compareOp .Gt) rGtA := op_gt.or op_gt_str
theorem ev_last {i : Nat} (h0 : σ[i]? = some (some (.ref a))) (ha : SqT K H a d.vs) : Ev (tOp (rIxT K) (tVar i) (tUn (rU fun i => .int (-i)) (tC (.int 1)))) σ H d.last := ev_ixT (ev_var h0) (ev_un ev_c ru_neg) ha d.last_at
theorem sig_of {c : Str} (h : c ∈ condsOf d.hd e.hd) (hd : d.hd ≠ "stay") (he : e.hd ≠ "stay") (hn : c ≠ "first") : ∃ k n u k' n' u', d = .sig k n u ∧ e = .sig k' n' u' := by
  rcases head_cases h hd he with z | ⟨k, n, u, k', n', u', z1, z2, _⟩
  · exact absurd z hn
  · exact ⟨k, n, u, k', n', u', z1, z2⟩
end
end T
namespace T
open PySem PySem.Spec PyProof.Rows L2 Evl XB TL XS XI XC ClX
section
variable {P : Program} {w : World} {K : PySem.W.Frag} {mg : Str → Option Value} {base : Heap} {C : Addr}
variable {σ : L2.St} {H : Hp} {ta tb tc te : TE} {tz ts : TS} {D' : Ends} {ks : List Str} {cs : List Cell} {x y a b : Addr} {E : XK} {d e : Deed} {xs : List V} {g : TG} {first : Bool}
/-- the law's dict of these cells -/
structure LDict (H : Hp) (kvs : List (Nm × V)) (cs : List Cell) : Prop where
  keys : kvs.map (·.1) = cs.map nmOf
  at_ : ∀ (i : Nat) (c : Cell), cs[i]? = some c → ∃ l : Addr, kvs[i]? = some (nmOf c, V.ref l) ∧ H l = some (.lst (sl c.2.2.2))
theorem LDict.ex {H' : Hp} {kvs : List (Nm × V)} (h : LDict H kvs cs) (z : Ex H H') : LDict H' kvs cs := ⟨h.keys, fun i c hc => by
  obtain ⟨t, h1, h2⟩ := h.at_ i c hc
  exact ⟨t, h1, z _ _ h2⟩⟩
theorem LDict.val {kvs : List (Nm × V)} (h : LDict H kvs cs) (nd : (cs.map nmOf).Nodup) (n : Nm) : (∃ t, valV kvs n = some (.ref t) ∧ H t = some (.lst (sl (optsFor cs n)))) ∨ (valV kvs n = none ∧ optsFor cs n = [("keep" : Str)]) := by
  cases e : cs.find? (fun c => decide (nmOf c = n)) with
  | none =>
    refine .inr ⟨valV_no ?_, by unfold optsFor; rw [e]; rfl⟩
    rw [h.keys]
    intro m
    obtain ⟨c, hc, rfl⟩ := List.mem_map.mp m
    have := List.find?_eq_none.mp e c hc
    exact this (decide_eq_true rfl)
  | some c =>
    have hn : nmOf c = n := of_decide_eq_true (List.find?_some (p := fun c => decide (nmOf c = n)) e)
    obtain ⟨i, hci⟩ := List.mem_iff_getElem?.mp (List.mem_of_find?_eq_some e)
    obtain ⟨t, h1, h2⟩ := h.at_ i c hci
    refine .inl ⟨t, ?_, by unfold optsFor; rw [e]; exact h2⟩
    have := valV_at (by rw [h.keys]; exact nd) h1
    rw [hn] at this
    exact this
/-- a list comes, new or known -/
def EvM (te : TE) (σ : L2.St) (H : Hp) (xs : List V) : Prop := ∀ H1, Ex H H1 → ∀ Q : VK, (∀ p H2, Ex H1 H2 → H2 p = some (.lst xs) → Q (.ref p) H2) → te σ H1 Q
theorem em_get {D : Addr} {kvs : List (Nm × V)} {n : Nm} (h1 : Ev ta σ H (.ref D)) (h2 : EvU tb σ H (n.map kV)) (h3 : EvL tc σ H (sl [("keep" : Str)])) (hD : H D = some (.dT kvs)) (hL : LDict H kvs cs) (nd : (cs.map nmOf).Nodup) : EvM (tDGet2 ta tb tc) σ H (sl (optsFor cs n)) := fun H1 e Q q =>
  h1 H1 e _ fun H2 e2 => ⟨D, rfl, .inr ⟨kvs, .inl (e2 _ _ (e _ _ hD))⟩, h2 H2 (e.trans e2) _ fun p H3 n3 e3 hp => h3 H3 ((e.trans e2).trans e3) _ fun l H4 n4 e4 hl => by
    have e14 := ((e.trans e2).trans e3).trans e4
    rcases (hL.ex e14).val nd n with ⟨t, hv, ht⟩ | ⟨hv, ho⟩
    · exact ⟨some (.ref t), hv ▸ DGet.t (e14 _ _ hD) (e4 _ _ hp), q t H4 ((e2.trans e3).trans e4) ht⟩
    · exact ⟨none, hv ▸ DGet.t (e14 _ _ hD) (e4 _ _ hp), q l H4 ((e2.trans e3).trans e4) (by rw [ho]; exact hl)⟩⟩
theorem ev_lch {td : TE} {ps : List (Str × Str)} {z : Str} (h0 : EvM td σ H (sl (ps.map jn ++ [z]))) (h1 : Ev ta σ H (.ref a)) (h2 : Ev tb σ H (.ref b)) (h3 : Ev tc σ H (.bl first)) (ha : SqT K H a d.vs) (hb : SqT K H b e.vs) (hd : d.hd ≠ "stay") (he : e.hd ≠ "stay") (OP : OptP ks d.hd e.hd ps z) :
    Ev (tCall (spLCh K) [] E (tCons td (tCons ta (tCons tb (tCons tc tNil))))) σ H (.str (chosenOf ps z (metOf d e first))) := fun H1 g Q q =>
  h0 H1 g _ fun l H2 g2 hl => h1 H2 (g.trans g2) _ fun H3 g3 => h2 H3 ((g.trans g2).trans g3) _ fun H4 g4 => h3 H4 (((g.trans g2).trans g3).trans g4) _ fun H5 g5 => by
    have g15 := (((g.trans g2).trans g3).trans g4).trans g5
    exact ⟨l, a, b, ps, z, d, e, first, ks, rfl, (g3.trans (g4.trans g5)) _ _ hl, ex_t g15 ha, ex_t g15 hb, hd, he, OP, fun H6 g6 => q H6 ((((g2.trans g3).trans g4).trans g5).trans g6)⟩
theorem ev_steps {i : Nat} {r : Str} (h5 : σ[i]? = some (some (.str r))) (hr : r ∈ [("keep" : Str), "up", "down", "put"]) : Ev (tDGet (tDisp [(tC (.str "keep"), tC (.int 0)), (tC (.str "up"), tC (.int 1)), (tC (.str "down"), tUn (rU fun i => .int (-i)) (tC (.int 1))), (tC (.str "put"), tC (.int 0))]) (tVar i)) σ H (.int (step r)) := fun H1 e Q q p np => by
  refine ⟨1, rfl, upd_same, [(.inr "keep", .int 0), (.inr "up", .int 1), (.inr "down", .int (-1)), (.inr "put", .int 0)], rfl, by decide, _, h5, p, _, rfl, .inl ⟨_, .inr r, .inl upd_same, rfl, ?_⟩, q _ (by
    intro b o hb
    have := ne_of_none hb np
    rw [upd_ne this, upd_ne this]
    exact hb)⟩
  simp only [List.mem_cons, List.not_mem_nil, or_false] at hr
  rcases hr with rfl | rfl | rfl | rfl <;> decide +kernel
def spLT (K : PySem.W.Frag) : Sp := fun vs H Q _ => ∃ (D a b : Addr) (d e : Deed) (first : Bool) (ks : List Str) (cs : List Cell) (kvs : List (Nm × V)), vs = [.ref D, .ref a, .ref b, .bl first] ∧ H D = some (.dT kvs) ∧ LDict H kvs cs ∧ Cells ks cs ∧ ks ∈ kinds7 ∧ SqT K H a d.vs ∧ SqT K H b e.vs ∧ d.ok ks ∧ e.ok ks ∧ ∀ l H', Ex H H' → SqT K H' l (turnedOf cs d e first) → Q (.ref l) H'
end
end T
namespace T
open PySem PySem.Spec PyProof.Rows L2 Evl XB TL XS XI XC ClX
theorem letters_ok : ∀ z ∈ [("abcdefghijklmnopqrstuvwxyz" : Str), "az", "m"], (0 < z.length ∧ z.length ≤ 1000) ∧ ∀ c ∈ z.cps.toList, 97 ≤ c ∧ c ≤ 122 := by decide +kernel
section
variable {P : Program} {w : World} {K : PySem.W.Frag} {mg : Str → Option Value} {base : Heap} {C : Addr}
/-! ### _law_sign -/
def spLSign : Sp := fun vs H Q _ => ∃ p, vs = [.ref p] ∧ Purse H p ∧ ∀ c H', 97 ≤ c → c ≤ 122 → Purse H' p → Chg p H H' → Q (.str (let1 c)) H'
/-! ### _law_deed -/
theorem kind_cases {ks : List Str} (h : ks ∈ kinds7) : ∀ s ∈ ks, s = "out" ∨ s ∈ [("put" : Str), "set"] := by
  have all : ∀ ks ∈ kinds7, ∀ s ∈ ks, s = "out" ∨ s ∈ [("put" : Str), "set"] := by decide +kernel
  exact all ks h
def spLDeed (K : PySem.W.Frag) : Sp := fun vs H Q _ => ∃ (p a : Addr) (lo hi : Int) (ss ks : List Str), vs = [.ref p, .ref a, .int lo, .int hi] ∧ Purse H p ∧ SqL K H a (sl ss) ∧ a ≠ p ∧ ss ≠ [] ∧ ss.length ≤ 1000 ∧ (∀ s ∈ ss, s = "stay" ∨ s ∈ ks) ∧ ks ∈ kinds7 ∧ -9 ≤ lo ∧ lo ≤ hi ∧ hi ≤ 10 ^ 12 ∧
  ∀ (d : Deed) l H', d.ok ks → Purse H' p → Chg p H H' → H' l = some (.tup d.vs) → l ≠ p → Q (.ref l) H'
end
end T
namespace T
open PySem PySem.Spec PyProof.Rows L2 Evl XB TL XS XI XC ClX
theorem cell_inj {ks : List Str} {c c' : Cell} (hk : ks ∈ kinds7) (g : GoodC ks c) (g' : GoodC ks c') (h : lineOf c = lineOf c') : c = c' := by
  have z : partsOf c = partsOf c' := by rw [← parts_split hk g, h, parts_split hk g']
  obtain ⟨m, i, s, ws⟩ := c
  obtain ⟨m', i', s', ws'⟩ := c'
  unfold partsOf at z
  injection z with z1 z
  injection z with z2 z
  injection z with z3 z4
  simp only at z1 z2 z3 z4
  rw [z1, z2, z3, z4]
theorem cells_inj {ks : List Str} (hk : ks ∈ kinds7) : ∀ {cs cs' : List Cell}, (∀ c ∈ cs, GoodC ks c) → (∀ c ∈ cs', GoodC ks c) → cs.map lineOf = cs'.map lineOf → cs = cs'
  | [], [], _, _, _ => rfl
  | [], _ :: _, _, _, h => by cases h
  | _ :: _, [], _, _, h => by cases h
  | c :: r, c' :: r', g, g', h => by
    rw [List.map_cons, List.map_cons] at h
    injection h with h1 h2
    rw [cell_inj hk (g c List.mem_cons_self) (g' c' List.mem_cons_self) h1, cells_inj hk (fun x hx => g x (List.mem_cons_of_mem _ hx)) (fun x hx => g' x (List.mem_cons_of_mem _ hx)) h2]
theorem sl_inj : ∀ {xs ys : List Str}, sl xs = sl ys → xs = ys
  | [], [], _ => rfl
  | [], _ :: _, h => by cases h
  | _ :: _, [], h => by cases h
  | x :: r, y :: t, h => by
    have h : V.str x :: sl r = V.str y :: sl t := h
    injection h with h1 h2
    injection h1 with h1
    rw [h1, sl_inj h2]
section
variable {P : Program} {w : World} {K : PySem.W.Frag} {mg : Str → Option Value} {base : Heap} {C : Addr}
variable {σ : L2.St} {H H' : Hp} {ta tb tc te : TE} {tz ts : TS} {D' : Ends} {ks : List Str} {cs cs' : List Cell} {x y a b D p u : Addr} {E : XK} {d e : Deed} {xs zs : List V} {g : TG} {first : Bool} {kvs : List (Nm × V)}
theorem ldict_inj (h : LDict H kvs cs) (h' : LDict H kvs cs') : cs = cs' := by
  have len : cs.length = cs'.length := by
    have z := congrArg List.length (h.keys.symm.trans h'.keys)
    rw [List.length_map, List.length_map] at z
    exact z
  refine List.ext_getElem? fun i => ?_
  cases q : cs[i]? with
  | none => exact (List.getElem?_eq_none (by rw [← len]; exact List.getElem?_eq_none_iff.mp q)).symm
  | some c =>
    have hi : i < cs'.length := by rw [← len]; exact (List.getElem?_eq_some_iff.mp q).1
    have q' : cs'[i]? = some cs'[i] := List.getElem?_eq_getElem hi
    rw [q']
    generalize cs'[i] = c' at q'
    obtain ⟨l, h1, h2⟩ := h.at_ i c q
    obtain ⟨l', h1', h2'⟩ := h'.at_ i c' q'
    rw [h1] at h1'
    injection h1' with h1'
    injection h1' with n1 n2
    injection n2 with n2
    subst n2
    rw [h2] at h2'
    injection h2' with h2'
    injection h2' with h2'
    have hw := sl_inj h2'
    obtain ⟨m, i, s, ws⟩ := c
    obtain ⟨m', i', s', ws'⟩ := c'
    obtain ⟨e1, e2, e3⟩ := nm3_inj n1
    simp only at e1 e2 e3 hw
    rw [e1, e2, e3, hw]
theorem TabAt.whole (h : TabAt K C H x ks (cs.map lineOf)) (hk : ks ∈ kinds7) (hC : Cells ks cs) : TabW K C H x ks cs := by
  obtain ⟨dx, D, a, r, kvs, cs', e, f⟩ := h
  have := cells_inj hk hC.good f.c.good e
  subst this
  exact ⟨dx, D, a, r, kvs, f⟩
theorem TabW.at (h : TabW K C H x ks cs) : TabAt K C H x ks (cs.map lineOf) := by
  obtain ⟨dx, D, a, r, kvs, f⟩ := h
  exact ⟨dx, D, a, r, kvs, cs, rfl, f⟩
theorem opts_ne {m i : Str} {ws : List Str} (h : IsOpts m i ks ws) : ws ≠ [] := by
  obtain ⟨pre, z, rfl, _⟩ := h
  simp
/-- no list of texts, but an empty one -/
def NoTx (zs : List V) : Prop := ∀ ws : List Str, ws ≠ [] → zs ≠ sl ws
theorem CellsAt.chgU (h : CellsAt H ks kvs) (hu : H u = some (.lst zs)) (nz : NoTx zs) (c : Chg u H H') : CellsAt H' ks kvs := ⟨h.1, fun q hq => by
  obtain ⟨m, i, s, l, ws, h1, h2, h3, h4, ho, t⟩ := h.2 q hq
  exact ⟨m, i, s, l, ws, h1, h2, h3, h4, ho, c _ _ (ne_of t hu fun z => nz ws (opts_ne ho) (by injection z with z; exact z.symm)) t⟩⟩
theorem CellsAt.ex (h : CellsAt H ks kvs) (c : Ex H H') : CellsAt H' ks kvs := ⟨h.1, fun q hq => by
  obtain ⟨m, i, s, l, ws, h1, h2, h3, h4, ho, t⟩ := h.2 q hq
  exact ⟨m, i, s, l, ws, h1, h2, h3, h4, ho, c _ _ t⟩⟩
theorem LDict.chgU (h : LDict H kvs cs) (hC : Cells ks cs) (hu : H u = some (.lst zs)) (nz : NoTx zs) (c : Chg u H H') : LDict H' kvs cs := ⟨h.keys, fun i d hd => by
  obtain ⟨l, h1, h2⟩ := h.at_ i d hd
  exact ⟨l, h1, c _ _ (ne_of h2 hu fun z => nz d.2.2.2 (opts_ne (hC.good d (List.mem_of_getElem? hd)).2.2.2) (by injection z with z; exact z.symm)) h2⟩⟩
theorem TabW.chgU (h : TabW K C H x ks cs) (hk : ks ∈ kinds7) (hu : H u = some (.lst zs)) (c : Chg u H H') : TabW K C H' x ks cs := by
  have hC := h.choose_spec.choose_spec.choose_spec.choose_spec.choose_spec.c
  exact (h.at.chg hu c).whole hk hC
structure Box9 (K : PySem.W.Frag) (C : Addr) (H : Hp) (p u b D x : Addr) (ks : List Str) (kvs : List (Nm × V)) (cs : List Cell) : Prop where
  hb : H b = some (.lst [.ref D, .ref x])
  bp : b ≠ p
  bu : b ≠ u
  hD : H D = some (.dT kvs)
  ca : CellsAt H ks kvs
  ld : LDict H kvs cs
  few : kvs.length ≤ 27
  t : TabW K C H x ks cs
  c : Cells ks cs
def Box9At (K : PySem.W.Frag) (C : Addr) (H : Hp) (p u : Addr) (ks : List Str) (v : V) : Prop := ∃ b D x kvs cs, v = .ref b ∧ Box9 K C H p u b D x ks kvs cs
theorem Box9At.chgU {v : V} {o : Addr} (h : Box9At K C H p u ks v) (hk : ks ∈ kinds7) (ho : H o = some (.lst zs)) (nz : NoTx zs) (e : o = p ∨ o = u) (c : Chg o H H') : Box9At K C H' p u ks v := by
  obtain ⟨b, D, x, kvs, cs, e2, B⟩ := h
  have bo : b ≠ o := fun z => by
    rcases e with e | e
    · exact B.bp (z.trans e)
    · exact B.bu (z.trans e)
  exact ⟨b, D, x, kvs, cs, e2, ⟨c _ _ bo B.hb, B.bp, B.bu, c _ _ (ne_of B.hD ho fun z => by cases z) B.hD, B.ca.chgU ho nz c, B.ld.chgU B.c ho nz c, B.few, B.t.chgU hk ho c, B.c⟩⟩
theorem notx_int {d z w : Int} : NoTx [.int d, .int z, .int w] := fun ws _ h => by
  cases ws with
  | nil => cases h
  | cons x r =>
    have h : V.int d :: _ = V.str x :: _ := h
    injection h with h _
    cases h
theorem Box9At.chgP {v : V} (h : Box9At K C H p u ks v) (hk : ks ∈ kinds7) (hp : Purse H p) (c : Chg p H H') : Box9At K C H' p u ks v := by
  obtain ⟨d, z, w, e⟩ := hp
  exact h.chgU hk e notx_int (.inl rfl) c
theorem Box9At.ex {v : V} (h : Box9At K C H p u ks v) (z : Ex H H') : Box9At K C H' p u ks v := by
  obtain ⟨b, D, x, kvs, cs, e2, B⟩ := h
  exact ⟨b, D, x, kvs, cs, e2, ⟨z _ _ B.hb, B.bp, B.bu, z _ _ B.hD, B.ca.ex z, B.ld.ex z, B.few, B.t.ex z, B.c⟩⟩
/-! ### lines and texts -/
theorem em_lines (h : Ev ta σ H (.ref D)) (hk : ks ∈ kinds7) (hD : H D = some (.dT kvs)) (hC : CellsAt H ks kvs) (hl : kvs.length ≤ 27) (hL : LDict H kvs cs) : EvM (tCall spLines [] E (tCons ta tNil)) σ H (sl (cs.map lineOf)) := fun H1 e Q q =>
  h H1 e _ fun H2 e2 => ⟨D, ks, kvs, rfl, hk, e2 _ _ (e _ _ hD), (hC.ex e).ex e2, hl, fun l cs' H3 s3 nl hl3 hC' k' at' => by
    have := ldict_inj ⟨k', at'⟩ ((hL.ex e).ex e2)
    subst this
    exact q l H3 (e2.trans s3) hl3⟩
theorem ev_textM {s : Addr} (h1 : Ev ta σ H (.ref s)) (h2 : EvM tb σ H (sl (cs.map lineOf))) (hk : ks ∈ kinds7) (hs : H s = some (.lst (sl ks))) (hC : Cells ks cs) : Ev (tCall spText [] E (tCons ta (tCons tb tNil))) σ H (.str (textOf ks (cs.map lineOf))) := fun H1 e Q q =>
  h1 H1 e _ fun H2 e2 => h2 H2 (e.trans e2) _ fun l H3 e3 hl => ⟨s, l, ks, cs.map lineOf, rfl, hk, e3 _ _ (e2 _ _ (e _ _ hs)), hl, by rw [List.length_map]; exact hC.few, (fun x hx => by
    obtain ⟨c, hc, rfl⟩ := List.mem_map.mp hx
    exact line_len hk (hC.good c hc)), fun H4 e4 => q H4 ((e2.trans e3).trans e4)⟩
/-! ### repr of an edit -/
def dpv : V → PyData
  | .str x => .str x
  | .int n => .int n
  | _ => .none
/-- a short text, or a number that is not great -/
def Fl (v : V) : Prop := (∃ x : Str, v = .str x ∧ Lo x ∧ x.length ≤ 16) ∨ ∃ n : Int, v = .int n ∧ n.natAbs < 10 ^ 13
theorem dp_fl : ∀ {xs : List V}, (∀ v ∈ xs, Fl v) → DpAll K H xs (xs.map dpv)
  | [], _ => .nil
  | v :: r, h => by
    refine .cons ?_ (dp_fl fun y hy => h y (List.mem_cons_of_mem _ hy))
    rcases h v List.mem_cons_self with ⟨x, rfl, _⟩ | ⟨n, rfl, _⟩
    · exact .str x
    · exact .int n
theorem fl_all {xs : List V} : (∀ v ∈ xs, Fl v) → PyData.showableAll (xs.map dpv) = true ∧ PyData.hasDictAll (xs.map dpv) = false ∧ PyData.depthAll (xs.map dpv) = 0 ∧ PyData.leavesShortAll 20 (xs.map dpv) = true ∧ PyData.weightAll (xs.map dpv) ≤ xs.length * 101 := by
  induction xs with
  | nil => exact fun _ => ⟨rfl, rfl, rfl, rfl, Nat.zero_le _⟩
  | cons v r ih =>
    intro h
    obtain ⟨i1, i2, i3, i4, i5⟩ := ih fun y hy => h y (List.mem_cons_of_mem _ hy)
    rcases h v List.mem_cons_self with ⟨x, rfl, lx, xl⟩ | ⟨n, rfl, hn⟩
    · refine ⟨?_, ?_, ?_, ?_, ?_⟩
      · show (true && PyData.showableAll (r.map dpv)) = true
        rw [i1]; rfl
      · show (false || PyData.hasDictAll (r.map dpv)) = false
        rw [i2]; rfl
      · show max 0 (PyData.depthAll (r.map dpv)) = 0
        rw [i3]; rfl
      · show (PyData.leavesShort 20 (.str x) && PyData.leavesShortAll 20 (r.map dpv)) = true
        rw [i4, show PyData.leavesShort 20 (.str x) = true from lv_str lx]; rfl
      · show x.length + 1 + PyData.weightAll (r.map dpv) ≤ (r.length + 1) * 101
        rw [Nat.succ_mul]
        omega
    · have lg : n.natAbs.log2 < 64 := by
        by_cases z : n.natAbs = 0
        · rw [z]; decide
        · exact (Nat.log2_lt z).mpr (Nat.lt_trans hn (by decide))
      refine ⟨?_, ?_, ?_, ?_, ?_⟩
      · show (decide (n.natAbs.log2 < 1920) && PyData.showableAll (r.map dpv)) = true
        rw [i1, decide_eq_true (by omega)]; rfl
      · show (false || PyData.hasDictAll (r.map dpv)) = false
        rw [i2]; rfl
      · show max 0 (PyData.depthAll (r.map dpv)) = 0
        rw [i3]; rfl
      · show (decide ((PyData.shown (.int n)).length ≤ 20) && PyData.leavesShortAll 20 (r.map dpv)) = true
        rw [i4, decide_eq_true ?_]
        · rfl
        · have e := int_text_length_le10 (k := 13) (by decide) hn
          show (Str.ofString (toString n)).length ≤ 20
          rw [PySem.ofString_length]
          omega
      · show (if n == 0 then 0 else n.natAbs.log2 + 1) + 1 + PyData.weightAll (r.map dpv) ≤ (r.length + 1) * 101
        rw [Nat.succ_mul]
        split <;> omega
def shownT (xs : List V) : Str := (PyData.tuple (xs.map dpv)).shown
theorem ev_reprT (h : EvS K te σ H xs) (fl : ∀ v ∈ xs, Fl v) (hl : xs.length ≤ 3) : Ev (tCB (XG.rRepr K) (tCons te tNil)) σ H (.str (shownT xs)) := fun H1 e Q q => h H1 e _ fun l H2 e2 hp => by
  obtain ⟨i1, i2, i3, i4, i5⟩ := fl_all fl
  refine ⟨.ref l, PyData.tuple (xs.map dpv), rfl, .tup hp (dp_fl fl), i1, i2, ?_, ?_, q H2 e2⟩
  · show PyData.depthAll (xs.map dpv) + 1 ≤ 32
    rw [i3]
    decide
  · have z := PyData.shown_le 20 (by decide) (PyData.tuple (xs.map dpv)) i4
    have y : PyData.weight (PyData.tuple (xs.map dpv)) ≤ xs.length * 101 := i5
    refine Nat.le_trans z ?_
    rw [sizeLine_eq]
    omega
theorem fl_str {x : Str} (h : Small x) : Fl (.str x) := .inl ⟨x, rfl, h.lo, h.len⟩
theorem fl_let {c : Nat} (h : c ≤ 122) : Fl (.str (let1 c)) := .inl ⟨let1 c, rfl, fun n m => by
  have : n ∈ [c] := m
  rw [List.mem_singleton.mp this]
  omega, by show 1 ≤ 16; decide⟩
theorem fl_num {n : Int} (h1 : -9 ≤ n) (h2 : n ≤ 10 ^ 12) {s : Int} (h3 : -1 ≤ s) (h4 : s ≤ 1) : Fl (.int (n + s)) := .inr ⟨_, rfl, by omega⟩
theorem step_b (r : Str) : -1 ≤ step r ∧ step r ≤ 1 := by
  unfold step
  split
  · decide
  · split <;> decide
theorem fl_deed (ok : d.ok ks) (hk : ks ∈ kinds7) : (∀ v ∈ d.vs, Fl v) ∧ d.vs.length ≤ 3 := by
  cases d with
  | stay => exact ⟨fun v hv => by rw [List.mem_singleton.mp hv]; exact fl_str (by decide +kernel), by show 1 ≤ 3; decide⟩
  | out n =>
    obtain ⟨o1, o2, o3⟩ := ok
    refine ⟨fun v hv => ?_, by show 2 ≤ 3; decide⟩
    simp only [Deed.vs, List.mem_cons, List.not_mem_nil, or_false] at hv
    rcases hv with rfl | rfl
    · exact fl_str (by decide +kernel)
    · have := fl_num o2 o3 (s := 0) (by decide) (by decide)
      rwa [Int.add_zero] at this
  | sig k n c =>
    obtain ⟨o1, o2, o3, o4, o5, o6⟩ := ok
    refine ⟨fun v hv => ?_, by show 3 ≤ 3; decide⟩
    simp only [Deed.vs, List.mem_cons, List.not_mem_nil, or_false] at hv
    rcases hv with rfl | rfl | rfl
    · exact fl_str (small_ks hk k o2)
    · have := fl_num o3 o4 (s := 0) (by decide) (by decide)
      rwa [Int.add_zero] at this
    · exact fl_let o6
theorem fl_formed (ok : d.ok ks) (hk : ks ∈ kinds7) {r : Str} (fo : FormOk d r) : (∀ v ∈ formedOf d r, Fl v) ∧ (formedOf d r).length ≤ 3 := by
  obtain ⟨s1, s2⟩ := step_b r
  unfold formedOf
  split
  · exact ⟨fun v hv => by rw [List.mem_singleton.mp hv]; exact fl_str (by decide +kernel), by show 1 ≤ 3; decide⟩
  · split
    · cases d with
      | stay => exact absurd rfl fo.1
      | out n => exact ⟨(fun v hv => by cases hv), Nat.zero_le _⟩
      | sig k n c =>
        obtain ⟨o1, o2, o3, o4, o5, o6⟩ := ok
        refine ⟨fun v hv => ?_, by show 3 ≤ 3; decide⟩
        simp only [List.mem_cons, List.not_mem_nil, or_false] at hv
        rcases hv with rfl | rfl | rfl
        · exact fl_str (by decide +kernel)
        · have := fl_num o3 o4 (s := 0) (by decide) (by decide)
          rwa [Int.add_zero] at this
        · exact fl_let o6
    · cases d with
      | stay => exact absurd rfl fo.1
      | out n =>
        obtain ⟨o1, o2, o3⟩ := ok
        refine ⟨fun v hv => ?_, by show 2 ≤ 3; decide⟩
        simp only [List.mem_cons, List.not_mem_nil, or_false] at hv
        rcases hv with rfl | rfl
        · exact fl_str (by decide +kernel)
        · exact fl_num o2 o3 s1 s2
      | sig k n c =>
        obtain ⟨o1, o2, o3, o4, o5, o6⟩ := ok
        refine ⟨fun v hv => ?_, by show 3 ≤ 3; decide⟩
        simp only [List.mem_cons, List.not_mem_nil, or_false] at hv
        rcases hv with rfl | rfl | rfl
        · exact fl_str (small_ks hk k o2)
        · exact fl_num o3 o4 s1 s2
        · exact fl_let o6
theorem fl_turned (okd : d.ok ks) (oke : e.ok ks) (hk : ks ∈ kinds7) (hC : Cells ks cs) (first : Bool) : (∀ v ∈ turnedOf cs d e first, Fl v) ∧ (turnedOf cs d e first).length ≤ 3 := by
  unfold turnedOf
  split
  · exact fl_deed okd hk
  · rename_i z
    have z1 : d.hd ≠ "stay" := fun y => z (.inl y)
    obtain ⟨nd, _⟩ := Deed.hd_stay okd hk z1
    obtain ⟨ps, zz, ho, OP⟩ := optsFor_parts hC d.hd e.hd (relOf d e)
    rw [ho, chosenW_eq OP.pa]
    exact fl_formed okd hk (form_ok nd okd (chosen_in OP _))
end
end T
namespace T
open PySem PySem.Spec PyProof.Rows L2 Evl XB TL XS XI XC ClX
section
variable {P : Program} {w : World} {K : PySem.W.Frag} {mg : Str → Option Value} {base : Heap} {C : Addr}
variable {σ : L2.St} {H H' : Hp} {ta tb tc td te : TE} {tz ts : TS} {D' : Ends} {ks : List Str} {cs cs' : List Cell} {x y a b D p u s : Addr} {E : XK} {d e : Deed} {xs zs bs : List V} {g : TG} {first : Bool} {kvs : List (Nm × V)}
theorem chg_mix {H G G' : Hp} {p D : Addr} (nD : H D = none) (c : Chg p H G) (d : Chg D G G') : Chg p H G' := fun b o n e => d b o (ne_of_none e nD) (c b o n e)
theorem notx_refs (h : ∀ v ∈ bs, ∃ b, v = V.ref b) : NoTx bs := fun ws hw z => by
  subst z
  cases ws with
  | nil => exact hw rfl
  | cons x r =>
    obtain ⟨b, hb⟩ := h (.str x) List.mem_cons_self
    cases hb
theorem Box9At.isref {v : V} (h : Box9At K C H p u ks v) : ∃ b, v = V.ref b := by
  obtain ⟨b, _, _, _, _, e, _⟩ := h
  exact ⟨b, e⟩
theorem app_box9 {t1 t2 : TE} (hu : H u = some (.lst bs)) (hl : bs.length ≤ 1000) (h2 : σ[2]? = some (some (.ref u))) (hp : Purse H p) (hup : u ≠ p) (hk : ks ∈ kinds7) (hC : Cells ks cs) (hB : ∀ v ∈ bs, Box9At K C H p u ks v)
    (e1 : Ev t1 σ H (.ref D)) (hD : H D = some (.dT kvs)) (ca : CellsAt H ks kvs) (ld : LDict H kvs cs) (few : kvs.length ≤ 27) (e2 : EvTab K C t2 σ H ks (cs.map lineOf))
    (q : ∀ b H4, Chg u H H4 → Purse H4 p → H4 u = some (.lst (bs ++ [.ref b])) → (∀ v ∈ bs ++ [.ref b], Box9At K C H4 p u ks v) → D'.nx σ H4) :
    tDrop (tBM K "list" rAppend (tVar 2) (tCons (tLst (tCons t1 (tCons t2 tNil))) tNil)) D' σ H := by
  refine ⟨_, h2, .inl ⟨rfl, _, SqL.of hu⟩, ?_⟩
  refine e1 H (Ex.refl H) _ fun H1 g1 => e2 H1 g1 _ fun x H2 g2 tx => ⟨(by show 2 ≤ sizeLine; decide), fun b nb => ?_⟩
  have g12 := g1.trans g2
  have hu2 := g12 _ _ hu
  refine ⟨u, bs, .ref b, rfl, rfl, kp (u := HO.lst [.ref D, .ref x]) hu2 nb, by rw [sizeLine_eq]; omega, ?_⟩
  have nbH : H b = none := fresh_back g12 nb
  have bu : b ≠ u := (ne_of_none hu2 nb).symm
  have bp : b ≠ p := (hp.ne nbH).symm
  have hc : Chg u H (upd (upd H2 b (.lst [.ref D, .ref x])) u (.lst (bs ++ [.ref b]))) := ((Same.chg g12).new nb).at
  have hc2 : Chg u H2 (upd (upd H2 b (.lst [.ref D, .ref x])) u (.lst (bs ++ [.ref b]))) := ((Chg.refl u H2).new nb).at
  have nz : NoTx bs := notx_refs fun v hv => (hB v hv).isref
  have hp4 : Purse (upd (upd H2 b (.lst [.ref D, .ref x])) u (.lst (bs ++ [.ref b]))) p := by
    obtain ⟨d, z, w, w2⟩ := hp
    exact ⟨d, z, w, hc _ _ hup.symm w2⟩
  refine q b _ hc hp4 upd_same fun v hv => ?_
  rcases List.mem_append.mp hv with z | z
  · exact (hB v z).chgU hk hu nz (.inr rfl) hc
  · rw [List.mem_singleton.mp z]
    exact ⟨b, D, x, kvs, cs, rfl, kpm upd_same bu, bp, bu, hc _ _ (ne_of hD hu fun q => by cases q) hD, ca.chgU hu nz hc, ld.chgU hC hu nz hc, few, (tx.whole hk hC).chgU hk hu2 hc2, hC⟩
/-! ### a deed, drawn -/
theorem q_deed {i : Nat} {lo : Int} (h0 : σ[0]? = some (some (.ref p))) (h1 : σ[1]? = some (some (.ref s))) (h5 : σ[5]? = some (some (.int lo))) (hp : Purse H p) (hs : H s = some (.lst (sl ks))) (sp : s ≠ p) (hk : ks ∈ kinds7) (l1 : -9 ≤ lo) (l2 : lo ≤ 10 ^ 12 - 2)
    (q : ∀ (d : Deed) (l : Addr) (G : Hp), d.ok ks → Purse G p → Chg p H G → G l = some (.tup d.vs) → l ≠ p → tz D' (σ.set i (some (.ref l))) G) :
    tSeq (tAsg (tCall (spLDeed K) [] E (tCons (tVar 0) (tCons (tOp rCat (tOp rCat (tVar 1) (tVar 1)) (tLst (tCons (tC (.str "stay")) tNil))) (tCons (tVar 5) (tCons (tOp (rI0 fun i j => .int (i + j)) (tVar 5) (tC (.int 2))) tNil))))) (gName i)) tz D' σ H := by
  have l7 := len7 hk
  have ev : EvL (tOp rCat (tOp rCat (tVar 1) (tVar 1)) (tLst (tCons (tC (.str "stay")) tNil))) σ H (sl (ks ++ ks ++ [("stay" : Str)])) := fun H1 e Q q => by
    refine ⟨_, h1, _, h1, s, s, sl ks, sl ks, rfl, rfl, e _ _ hs, e _ _ hs, by rw [XB.len_sl, sizeLine_eq]; omega, fun a na => ⟨(by show 1 ≤ sizeLine; decide), fun c nc => ⟨a, c, _, _, rfl, rfl, kp upd_same nc, upd_same, by rw [List.length_append, XB.len_sl, sizeLine_eq]; show _ + 1 ≤ _; omega, fun r nr => ?_⟩⟩⟩
    have en : Ex H1 (upd (upd (upd H1 a (.lst (sl ks ++ sl ks))) c (.lst [.str "stay"])) r (.lst ((sl ks ++ sl ks) ++ [.str "stay"]))) := ((Ex.new na).trans (Ex.new nc)).trans (Ex.new nr)
    refine q r _ (fresh_back ((Ex.new na).trans (Ex.new nc)) nr) en ?_
    rw [upd_same, sl_cat]
    exact congrArg (fun z => some (HO.lst z)) (sl_cat (ks ++ ks) [("stay" : Str)])
  refine ⟨_, h0, ev H (Ex.refl H) _ fun r G nr er hr => ⟨_, h5, _, h5, _, _, rfl, rfl, ?_⟩⟩
  have hpG : Purse G p := by
    obtain ⟨d, z, w, w2⟩ := hp
    exact ⟨d, z, w, er _ _ w2⟩
  have rp : r ≠ p := (hp.ne nr).symm
  exact ⟨p, r, lo, lo + 2, _, ks, rfl, hpG, SqL.of hr, rp, (by simp), (by simp only [List.length_append, List.length_singleton]; omega), (fun z hz => by
    rcases List.mem_append.mp hz with hz | hz
    · exact .inr ((List.mem_append.mp hz).elim id id)
    · exact .inl (List.mem_singleton.mp hz)), hk, l1, by omega, by omega, fun d l G2 ok hp2 c2 hl ne => q d l G2 ok hp2 ((Same.chg er).trans c2) hl ne⟩
/-! ### the two turns -/
theorem es_lt (h0 : Ev td σ H (.ref D)) (h1 : Ev ta σ H (.ref a)) (h2 : Ev tb σ H (.ref b)) (h3 : Ev tc σ H (.bl first)) (hD : H D = some (.dT kvs)) (hL : LDict H kvs cs) (hC : Cells ks cs) (hk : ks ∈ kinds7) (ha : SqT K H a d.vs) (hb : SqT K H b e.vs) (okd : d.ok ks) (oke : e.ok ks) :
    EvS K (tCall (spLT K) [] E (tCons td (tCons ta (tCons tb (tCons tc tNil))))) σ H (turnedOf cs d e first) :=
  es_call (ea_cons h0 (ea_cons h1 (ea_cons h2 (ea_cons h3 ea_nil)))) fun H1 z Q q E => ⟨D, a, b, d, e, first, ks, cs, kvs, rfl, z _ _ hD, hL.ex z, hC, hk, ex_t z ha, ex_t z hb, okd, oke, q⟩
theorem es_passed (h0 : Ev td σ H (.ref x)) (h1 : Ev ta σ H (.ref a)) (h2 : Ev tb σ H (.ref b)) (h3 : Ev tc σ H (.bl first)) (t : TabW K C H x ks cs) (hk : ks ∈ kinds7) (ha : SqT K H a d.vs) (hb : SqT K H b e.vs) (okd : d.ok ks) (oke : e.ok ks) :
    EvS K (tMeth C "passed" (spTurned K C) [] E td (tCons ta (tCons tb (tCons tc tNil)))) σ H (turnedOf cs d e first) := fun H1 g Q q =>
  h0 H1 g _ fun H2 g2 => by
    obtain ⟨dx, D, a1, r1, kvs, f⟩ := id (t.ex (g.trans g2))
    refine ⟨x, dx, _, rfl, f.hx, rfl, ?_⟩
    exact (ea_cons h1 (ea_cons h2 (ea_cons h3 ea_nil))) H2 (g.trans g2) _ fun H3 g3 => ⟨x, a, b, d, e, first, ks, cs, rfl, (t.ex (g.trans g2)).ex g3, hk, ex_t ((g.trans g2).trans g3) ha, ex_t ((g.trans g2).trans g3) hb, okd, oke, fun l H4 g4 h4 => q l H4 ((g2.trans g3).trans g4) h4⟩
theorem es_passedK (h0 : Ev td σ H (.ref x)) (h1 : Ev ta σ H (.ref a)) (h2 : Ev tb σ H (.ref b)) (h3 : Ev tc σ H (.bl first)) (t : TabW K C H x ks cs) (hk : ks ∈ kinds7) (ha : SqT K H a d.vs) (hb : SqT K H b e.vs) (okd : d.ok ks) (oke : e.ok ks) :
    EvS K (XGt.tMethKw C "passed" 3 (spTurned K C) (fun vs zs => vs ++ zs.reverse) E td (tCons tc (tCons tb (tCons ta tNil)))) σ H (turnedOf cs d e first) := fun H1 g Q q =>
  h0 H1 g _ fun H2 g2 => by
    obtain ⟨dx, D, a1, r1, kvs, f⟩ := id (t.ex (g.trans g2))
    refine ⟨x, dx, _, rfl, f.hx, rfl, ?_⟩
    exact (ea_cons h3 (ea_cons h2 (ea_cons h1 ea_nil))) H2 (g.trans g2) _ fun H3 g3 => ⟨rfl, x, a, b, d, e, first, ks, cs, rfl, (t.ex (g.trans g2)).ex g3, hk, ex_t ((g.trans g2).trans g3) ha, ex_t ((g.trans g2).trans g3) hb, okd, oke, fun l H4 g4 h4 => q l H4 ((g2.trans g3).trans g4) h4⟩
/-! ### two lists of texts -/
theorem lo_text (hk : ks ∈ kinds7) (hC : Cells ks cs) : Lo (textOf ks (cs.map lineOf)) := lo_join lo_nl fun y hy => by
  rcases List.mem_cons.mp hy with rfl | hy
  · exact lo_head hk
  · exact (lo_tab hk hC).2 y hy
theorem ev_eqL {ws : List Str} (ha : EvL ta σ H (sl ws)) (hb : EvL tb σ H (sl ws)) (lo : ∀ x ∈ ws, Lo x) : Ev (tOp (rEqD K) ta tb) σ H (.bl true) := fun H1 g Q q =>
  ha H1 g _ fun p H2 n2 g2 hp => hb H2 (g.trans g2) _ fun r H3 n3 g3 hr => by
    have sh : SeqAt.shaped (.list (ws.map PyData.str)) = true := shp_strs lo
    refine ⟨_, _, .lst (SqL.of (g3 _ _ hp)) (dp_sl ws), .lst (SqL.of hr) (dp_sl ws), sh, sh, ?_⟩
    have : PyData.eqv (.list (ws.map PyData.str)) (.list (ws.map PyData.str)) = true := by
      show PyData.eqvAll _ _ = true
      rw [eqv_strs, decide_eq_true rfl]
    rw [this]
    exact q H3 (g2.trans g3)
/-- a text of each item of a known list -/
theorem el_texts {bs : List V} {ws : List Str} {j : Nat} {vs : List Nat} {q : Addr} (hlen : ws.length = bs.length) (h : Ev ta σ H (.ref q)) (hx : H q = some (.lst bs)) (hz : bs.length ≤ 1000) (hw : ∀ x, wipe ((wipe σ vs).set j (some x)) vs = wipe σ vs)
    (he : ∀ (i : Nat) (x : V) (t : Str) (H1 : Hp), Ex H H1 → bs[i]? = some x → ws[i]? = some t → Ev te ((wipe σ vs).set j (some x)) H1 (.str t)) : EvL (tLc (iList K ta) (gName j) tYes te vs) σ H (sl ws) :=
  el_is (el_lcL (fun _ => true) (fun i => .str (ws.getD i ("" : Str))) h (SqL.of hx) (by omega) hw (fun _ _ _ _ _ => fun H1 _ _ z => z H1 (Ex.refl H1)) (fun i x H1 e hi _ => by
    have hlt : i < ws.length := by rw [hlen]; exact (List.getElem?_eq_some_iff.mp hi).1
    have ht : ws[i]? = some ws[i] := List.getElem?_eq_getElem hlt
    rw [List.getD_eq_getElem?_getD, ht]
    exact he i x _ H1 e hi ht)) (by
    unfold given
    rw [List.filter_eq_self.mpr (fun _ _ => rfl), ← hlen]
    refine List.ext_getElem? fun i => ?_
    rw [List.getElem?_map, List.getElem?_map]
    by_cases hi : i < ws.length
    · rw [List.getElem?_range hi, List.getElem?_eq_getElem hi]
      show some (V.str (ws.getD i _)) = some (V.str ws[i])
      rw [List.getD_eq_getElem?_getD, List.getElem?_eq_getElem hi]
      rfl
    · rw [List.getElem?_eq_none (by rw [List.length_range]; omega), List.getElem?_eq_none (by omega)]
      rfl)
end
end T
namespace T
open PySem PySem.Spec PyProof.Rows L2 Evl XB TL XS XI XC ClX
/-! ### changed -/
instance nmDec (n : Nm) (l : List Nm) : Decidable (n ∈ l) := @List.instDecidableMemOfLawfulBEq Nm instBEqOfDecidableEq inferInstance n l
def changeCs (cs : List Cell) (c : Cell) : List Cell := if nmOf c ∈ cs.map nmOf then cs.map (fun d => if nmOf d = nmOf c then c else d) else cs ++ [c]
def allNms (ks : List Str) : List Nm := ks.flatMap fun m => ks.flatMap fun i => rels.map fun s => nm3 m i s
theorem all_few {ks : List Str} (h : ks ∈ kinds7) : (allNms ks).length ≤ 27 := by
  have all : ∀ ks ∈ kinds7, (allNms ks).length ≤ 27 := by decide +kernel
  exact all ks h
theorem all_in {ks : List Str} {c : Cell} (g : GoodC ks c) : nmOf c ∈ allNms ks :=
  List.mem_flatMap.mpr ⟨c.1, g.1, List.mem_flatMap.mpr ⟨c.2.1, g.2.1, List.mem_map.mpr ⟨c.2.2.1, g.2.2.1, rfl⟩⟩⟩
theorem nd_le {α : Type} [DecidableEq α] : ∀ {l m : List α}, l.Nodup → (∀ x ∈ l, x ∈ m) → l.length ≤ m.length
  | [], _, _, _ => Nat.zero_le _
  | x :: r, m, hn, h => by
    have hm := h x List.mem_cons_self
    have hn := List.nodup_cons.mp hn
    have z := nd_le (l := r) (m := m.erase x) hn.2 fun y hy => (List.mem_erase_of_ne (fun e => hn.1 (by rw [← e]; exact hy))).mpr (h y (List.mem_cons_of_mem _ hy))
    rw [List.length_erase_of_mem hm] at z
    have : 0 < m.length := List.length_pos_of_mem hm
    rw [List.length_cons]
    omega
theorem change_nm (cs : List Cell) (c : Cell) (h : nmOf c ∈ cs.map nmOf) : (changeCs cs c).map nmOf = cs.map nmOf := by
  unfold changeCs
  rw [if_pos h, List.map_map]
  refine List.map_congr_left fun d _ => ?_
  show nmOf (if nmOf d = nmOf c then c else d) = nmOf d
  split
  · rename_i e; exact e.symm
  · rfl
theorem change_ok {ks : List Str} {cs : List Cell} {c : Cell} (hk : ks ∈ kinds7) (h : Cells ks cs) (g : GoodC ks c) : Cells ks (changeCs cs c) := by
  by_cases m : nmOf c ∈ cs.map nmOf
  · refine ⟨by rw [change_nm cs c m]; exact h.nd, ?_, ?_⟩
    · unfold changeCs
      rw [if_pos m]
      intro d hd
      obtain ⟨e, he, rfl⟩ := List.mem_map.mp hd
      show GoodC ks (if nmOf e = nmOf c then c else e)
      split
      · exact g
      · exact h.good e he
    · unfold changeCs
      rw [if_pos m, List.length_map]
      exact h.few
  · have e : changeCs cs c = cs ++ [c] := by unfold changeCs; rw [if_neg m]
    have nd : ((cs ++ [c]).map nmOf).Nodup := by
      rw [List.map_append]
      refine List.nodup_append.mpr ⟨h.nd, List.nodup_cons.mpr ⟨(fun z => by cases z), List.nodup_nil⟩, fun a ha b hb z => ?_⟩
      have hb : b = nmOf c := List.mem_singleton.mp hb
      rw [← hb, ← z] at m
      exact m ha
    have gd : ∀ d ∈ cs ++ [c], GoodC ks d := fun d hd => by
      rcases List.mem_append.mp hd with z | z
      · exact h.good d z
      · rw [List.mem_singleton.mp z]
        exact g
    rw [e]
    refine ⟨nd, gd, ?_⟩
    have z := nd_le nd (m := allNms ks) fun x hx => by
      obtain ⟨d, hd, rfl⟩ := List.mem_map.mp hx
      exact all_in (gd d hd)
    rw [List.length_map] at z
    exact Nat.le_trans z (all_few hk)
theorem nm_inj {c d : Cell} (h : nmOf c = nmOf d) : c.1 = d.1 ∧ c.2.1 = d.2.1 ∧ c.2.2.1 = d.2.2.1 := nm3_inj h
section
variable {P : Program} {w : World} {K : PySem.W.Frag} {mg : Str → Option Value} {base : Heap} {C : Addr}
variable {σ : L2.St} {H H' : Hp} {ta tb tc td te : TE} {tz ts : TS} {D' : Ends} {ks : List Str} {cs cs' : List Cell} {x y a b D p u s : Addr} {E : XK} {xs ys zs bs : List V} {kvs : List (Nm × V)}
/-- a table whose own dict is new since H0 -/
def TabN (K : PySem.W.Frag) (C : Addr) (H0 H : Hp) (x : Addr) (ks : List Str) (cs : List Cell) : Prop := ∃ dx Dt a r kvs, H0 Dt = none ∧ TabF K C H x dx Dt a r kvs ks cs
theorem TabN.back {H0 : Hp} (h : TabN K C H H' x ks cs) (e : Ex H0 H) : TabN K C H0 H' x ks cs := by
  obtain ⟨dx, Dt, a, r, kvs, n, f⟩ := h
  exact ⟨dx, Dt, a, r, kvs, fresh_back e n, f⟩
theorem TabN.tw {H0 : Hp} (h : TabN K C H0 H x ks cs) : TabW K C H x ks cs := by
  obtain ⟨dx, Dt, a, r, kvs, _, f⟩ := h
  exact ⟨dx, Dt, a, r, kvs, f⟩
def EvTabN (K : PySem.W.Frag) (C : Addr) (te : TE) (σ : L2.St) (H : Hp) (ks : List Str) (cs : List Cell) : Prop := ∀ H1, Ex H H1 → ∀ Q : VK, (∀ x H2, Ex H1 H2 → TabN K C H1 H2 x ks cs → Q (.ref x) H2) → te σ H1 Q
theorem init_goN {H3 : Hp} {p r x dx : Addr} {Q : VK} (hks : ks ∈ kinds7) (hC : Cells ks cs) (hp : SqT K H3 p (sl ks)) (hr : SqT K H3 r (sl (cs.map lineOf))) (nx : H3 x = none) (ndx : H3 dx = none) (nex : dx ≠ x)
    (q : ∀ H4, Ex H3 H4 → TabN K C H3 H4 x ks cs → Q (.ref x) H4) : spInit K C [.ref x, .ref p, .ref r] (upd (upd H3 dx (.own x)) x (.ins C dx [])) (fun v H2 => v = .non ∧ Q (.ref x) H2) E := by
  have e1 : Ex H3 (upd (upd H3 dx (.own x)) x (.ins C dx [])) := (Ex.new ndx).trans (Ex.new (by rw [upd_ne nex.symm]; exact nx))
  refine ⟨x, p, r, dx, ks, cs, rfl, upd_same, hks, hC, ex_t e1 hp, ex_t e1 hr, fun D kvs H4 nD ch f => ⟨rfl, ?_⟩⟩
  have e2 : Ex H3 H4 := fun b o h => ch b o (ne_of_none h nx) (e1 b o h)
  exact q H4 e2 ⟨dx, D, p, r, kvs, fresh_back e1 nD, f⟩
theorem et_makeN (hks : ks ∈ kinds7) (hC : Cells ks cs) (ha : EvS K ta σ H (sl ks)) (hb : EvS K tb σ H (sl (cs.map lineOf))) : EvTabN K C (tMake C (spInit K C) [] E (tCons ta (tCons tb tNil))) σ H ks cs := fun H1 e Q q =>
  ha H1 e _ fun p H2 e2 hp => hb H2 (e.trans e2) _ fun r H3 e3 hr => fun x dx nx ndx nex => init_goN hks hC (ex_t e3 hp) hr nx ndx nex fun H4 e4 t => q x H4 ((e2.trans e3).trans e4) (t.back (e2.trans e3))
theorem s_retTabN (h : EvTabN K C te σ H ks cs) (k : ∀ x H', Ex H H' → TabN K C H H' x ks cs → D'.rt (.ref x) H') : tRet te D' σ H := h H (Ex.refl H) _ k
/-- tuple + tuple, the left one empty or not, the right one not -/
theorem es_catB (ha : EvS K ta σ H xs) (hb : EvS K tb σ H ys) (hn : ys ≠ []) (hz : xs.length + ys.length ≤ 100000) : EvS K (tOp (rCatA K) ta tb) σ H (xs ++ ys) := fun H1 e Q q =>
  ha H1 e _ fun p H2 e2 h2 => hb H2 (e.trans e2) _ fun r H3 e3 h3 => ⟨p, r, xs, ys, rfl, rfl, ex_t e3 h2, h3, sz_of hz, (fun z => by
      subst z
      exact q r H3 (e2.trans e3) h3), (fun _ z => absurd z hn),
    fun _ _ l nl => q l _ ((e2.trans e3).trans (Ex.new nl)) (st_of upd_same)⟩
theorem ev_dnin {d b : Addr} {kvs : List (List Key × V)} {k : List Key} {o : Option V} (hb : Ev tb σ H (.ref b)) (ha : Ev ta σ H (.ref d)) (hd : H d = some (.dT kvs)) (ht : H b = some (.tup (k.map kV))) (hv : valV kvs k = o) : Ev (tDNotIn tb ta) σ H (.bl (!o.isSome)) := fun H1 e Q q =>
  hb H1 e _ fun H2 e2 => ha H2 (e.trans e2) _ fun H3 e3 => ⟨d, o, rfl, hv ▸ DGet.t (e3 _ _ (e2 _ _ (e _ _ hd))) (e3 _ _ (e2 _ _ (e _ _ ht))), q H3 (e2.trans e3)⟩
/-- == of two tuples of texts -/
theorem ev_eqTT {ws us : List Str} (ha : EvS K ta σ H (sl ws)) (hb : EvS K tb σ H (sl us)) (sx : ∀ x ∈ ws, Lo x) (sy : ∀ x ∈ us, Lo x) : Ev (tOp (rEqD K) ta tb) σ H (.bl (decide (ws = us))) := fun H1 e Q q =>
  ha H1 e _ fun p H2 e2 hp => hb H2 (e.trans e2) _ fun r H3 e3 hr => ⟨_, _, dp_tup (ex_t e3 hp), dp_tup hr, shp_strs sx, shp_strs sy, by
    rw [show PyData.eqv (.tuple (ws.map PyData.str)) (.tuple (us.map PyData.str)) = decide (ws = us) from eqv_strs ws us]
    exact q H3 (e2.trans e3)⟩
theorem nm_sl (c : Cell) : (nmOf c).map kV = sl [c.1, c.2.1, c.2.2.1] := rfl
theorem lo_nm (hk : ks ∈ kinds7) {c : Cell} (g : GoodC ks c) : ∀ x ∈ [c.1, c.2.1, c.2.2.1], Lo x := fun x hx => by
  simp only [List.mem_cons, List.not_mem_nil, or_false] at hx
  rcases hx with rfl | rfl | rfl
  · exact (small_ks hk _ g.1).lo
  · exact (small_ks hk _ g.2.1).lo
  · exact (small_rel g.2.2.1).lo
def spChanged (K : PySem.W.Frag) (C : Addr) : Sp := fun vs H Q _ => ∃ (x : Addr) (ks : List Str) (cs : List Cell) (c : Cell), vs = [.ref x, .str (lineOf c)] ∧ TabW K C H x ks cs ∧ ks ∈ kinds7 ∧ GoodC ks c ∧ ∀ y H', Ex H H' → TabN K C H H' y ks (changeCs cs c) → Q (.ref y) H'
end
end T
namespace T
open PySem PySem.Spec PyProof.Rows L2 Evl XB TL XS XI XC ClX
theorem chg_mix2 {H G G' : Hp} {p D : Addr} (nD : H D = none) (c : Chg p H G) (d : Chg D G G') : Chg p H G' := fun b o n e => d b o (ne_of_none e nD) (c b o n e)
theorem fresh_chg {H G : Hp} {p F : Addr} (c : Chg p H G) (hp : Purse G p) (n : G F = none) : H F = none := by
  cases z : H F with
  | none => rfl
  | some o =>
    by_cases y : F = p
    · obtain ⟨d, a, b, w1⟩ := hp
      rw [y, w1] at n
      cases n
    · rw [c _ _ y z] at n
      cases n
end T
namespace T
open PySem PySem.Spec PyProof.Rows L2 Evl XB TL XS XI XC ClX
section
variable {P : Program} {w : World} {K : PySem.W.Frag} {mg : Str → Option Value} {base : Heap} {C : Addr}
variable {σ : L2.St} {H H' : Hp} {ta tb tc td te : TE} {tz ts : TS} {D' : Ends} {ks : List Str} {cs cs' : List Cell} {x y a b D p u s : Addr} {E : XK} {d e : Deed} {xs ys zs : List V} {g : TG} {first : Bool} {kvs : List (Nm × V)}
/-- three tuples in a list -/
def At3 (K : PySem.W.Frag) (H : Hp) (T : Addr) (xs ys zs : List V) : Prop := ∃ r1 r2 r3, H T = some (.lst [.ref r1, .ref r2, .ref r3]) ∧ SqT K H r1 xs ∧ SqT K H r2 ys ∧ SqT K H r3 zs
theorem At3.ex {T : Addr} (h : At3 K H T xs ys zs) (z : Ex H H') : At3 K H' T xs ys zs := by
  obtain ⟨r1, r2, r3, h0, h1, h2, h3⟩ := h
  exact ⟨r1, r2, r3, z _ _ h0, ex_t z h1, ex_t z h2, ex_t z h3⟩
def EvR3 (K : PySem.W.Frag) (te : TE) (σ : L2.St) (H : Hp) (xs ys zs : List V) : Prop := ∀ H1, Ex H H1 → ∀ Q : VK, (∀ T H2, Ex H1 H2 → At3 K H2 T xs ys zs → Q (.ref T) H2) → te σ H1 Q
theorem er_at {T : Addr} (h : Ev te σ H (.ref T)) (t : At3 K H T xs ys zs) : EvR3 K te σ H xs ys zs := fun H1 e Q q => h H1 e _ fun H2 e2 => q T H2 e2 ((t.ex e).ex e2)
theorem er_new (h1 : EvS K ta σ H xs) (h2 : EvS K tb σ H ys) (h3 : EvS K tc σ H zs) : EvR3 K (tLst (tCons ta (tCons tb (tCons tc tNil)))) σ H xs ys zs := fun H1 e Q q =>
  h1 H1 e _ fun r1 H2 e2 t1 => h2 H2 (e.trans e2) _ fun r2 H3 e3 t2 => h3 H3 ((e.trans e2).trans e3) _ fun r3 H4 e4 t3 => ⟨(by show 3 ≤ sizeLine; decide), fun T nT => by
    have z : Ex H4 (upd H4 T (.lst [.ref r1, .ref r2, .ref r3])) := Ex.new nT
    exact q T _ (((e2.trans e3).trans e4).trans z) ⟨r1, r2, r3, upd_same, ex_t ((e3.trans e4).trans z) t1, ex_t (e4.trans z) t2, ex_t z t3⟩⟩
def tupD (xs : List V) : PyData := .tuple (xs.map dpv)
theorem ev_reprR3 (h : EvR3 K te σ H xs ys zs) (f1 : (∀ v ∈ xs, Fl v) ∧ xs.length ≤ 3) (f2 : (∀ v ∈ ys, Fl v) ∧ ys.length ≤ 3) (f3 : (∀ v ∈ zs, Fl v) ∧ zs.length ≤ 3) : Ev (tCB (XG.rRepr K) (tCons te tNil)) σ H (.str (PyData.list [tupD xs, tupD ys, tupD zs]).shown) := fun H1 e Q q => h H1 e _ fun T H2 e2 t => by
  obtain ⟨r1, r2, r3, h0, h1, h2, h3⟩ := t
  obtain ⟨i1, i2, i3, i4, i5⟩ := fl_all f1.1
  obtain ⟨j1, j2, j3, j4, j5⟩ := fl_all f2.1
  obtain ⟨k1, k2, k3, k4, k5⟩ := fl_all f3.1
  refine ⟨.ref T, PyData.list [tupD xs, tupD ys, tupD zs], rfl, .lst (SqL.of h0) (.cons (.tup h1 (dp_fl f1.1)) (.cons (.tup h2 (dp_fl f2.1)) (.cons (.tup h3 (dp_fl f3.1)) .nil))), ?_, ?_, ?_, ?_, q H2 e2⟩
  · show (PyData.showableAll (xs.map dpv) && (PyData.showableAll (ys.map dpv) && (PyData.showableAll (zs.map dpv) && true))) = true
    rw [i1, j1, k1]; rfl
  · show (PyData.hasDictAll (xs.map dpv) || (PyData.hasDictAll (ys.map dpv) || (PyData.hasDictAll (zs.map dpv) || false))) = false
    rw [i2, j2, k2]; rfl
  · show max (PyData.depthAll (xs.map dpv) + 1) (max (PyData.depthAll (ys.map dpv) + 1) (max (PyData.depthAll (zs.map dpv) + 1) 0)) + 1 ≤ 32
    rw [i3, j3, k3]
    decide
  · have l4 : PyData.leavesShort 20 (PyData.list [tupD xs, tupD ys, tupD zs]) = true := by
      show (PyData.leavesShortAll 20 (xs.map dpv) && (PyData.leavesShortAll 20 (ys.map dpv) && (PyData.leavesShortAll 20 (zs.map dpv) && true))) = true
      rw [i4, j4, k4]; rfl
    have z := PyData.shown_le 20 (by decide) (PyData.list [tupD xs, tupD ys, tupD zs]) l4
    have y : PyData.weight (PyData.list [tupD xs, tupD ys, tupD zs]) = PyData.weightAll (xs.map dpv) + 1 + (PyData.weightAll (ys.map dpv) + 1 + (PyData.weightAll (zs.map dpv) + 1 + 0)) := rfl
    refine Nat.le_trans z ?_
    rw [sizeLine_eq]
    omega
/-- passed, of any three -/
theorem es_pas (h0 : Ev td σ H (.ref x)) (h1 : EvS K ta σ H d.vs) (h2 : EvS K tb σ H e.vs) (h3 : Ev tc σ H (.bl first)) (t : TabW K C H x ks cs) (hk : ks ∈ kinds7) (okd : d.ok ks) (oke : e.ok ks) :
    EvS K (tMeth C "passed" (spTurned K C) [] E td (tCons ta (tCons tb (tCons tc tNil)))) σ H (turnedOf cs d e first) := fun H1 g Q q =>
  h0 H1 g _ fun H2 g2 => by
    obtain ⟨dx, D, a1, r1, kvs, f⟩ := id (t.ex (g.trans g2))
    refine ⟨x, dx, _, rfl, f.hx, rfl, ?_⟩
    refine h1 H2 (g.trans g2) _ fun a H3 g3 ha => h2 H3 ((g.trans g2).trans g3) _ fun b H4 g4 hb => h3 H4 (((g.trans g2).trans g3).trans g4) _ fun H5 g5 => ?_
    exact ⟨x, a, b, d, e, first, ks, cs, rfl, (t.ex (g.trans g2)).ex ((g3.trans g4).trans g5), hk, ex_t (g4.trans g5) ha, ex_t g5 hb, okd, oke, fun l H6 g6 h6 => q l H6 ((((g2.trans g3).trans g4).trans g5).trans g6) h6⟩
theorem es_lt2 (h0 : Ev td σ H (.ref D)) (h1 : EvS K ta σ H d.vs) (h2 : EvS K tb σ H e.vs) (h3 : Ev tc σ H (.bl first)) (hD : H D = some (.dT kvs)) (hL : LDict H kvs cs) (hC : Cells ks cs) (hk : ks ∈ kinds7) (okd : d.ok ks) (oke : e.ok ks) :
    EvS K (tCall (spLT K) [] E (tCons td (tCons ta (tCons tb (tCons tc tNil))))) σ H (turnedOf cs d e first) := fun H1 g Q q =>
  h0 H1 g _ fun H2 g2 => h1 H2 (g.trans g2) _ fun a H3 g3 ha => h2 H3 ((g.trans g2).trans g3) _ fun b H4 g4 hb => h3 H4 (((g.trans g2).trans g3).trans g4) _ fun H5 g5 => by
    have z := (((g.trans g2).trans g3).trans g4).trans g5
    exact ⟨D, a, b, d, e, first, ks, cs, kvs, rfl, z _ _ hD, hL.ex z, hC, hk, ex_t (g4.trans g5) ha, ex_t g5 hb, okd, oke, fun l H6 g6 h6 => q l H6 ((((g2.trans g3).trans g4).trans g5).trans g6) h6⟩
theorem turned_stay1 {e : Deed} : turnedOf cs .stay e first = [.str "stay"] := by
  unfold turnedOf
  rw [if_pos (.inl rfl)]
  rfl
theorem turned_stay2 {d : Deed} : turnedOf cs d .stay first = d.vs := by
  unfold turnedOf
  rw [if_pos (.inr rfl)]
theorem ex_put {G : Hp} {T : Addr} {o : HO} (z : Ex H G) (n : H T = none) : Ex H (upd G T o) := fun b q h => by
  rw [upd_ne (ne_of_none h n)]
  exact z b q h
end
end T
namespace T
open PySem PySem.Spec PyProof.Rows L2 Evl XB TL XS XI XC ClX
/-! ### data of any depth, told and shown -/
section
variable {K : PySem.W.Frag} {H H' : Hp}
mutual
theorem dp_ex (e : Ex H H') : ∀ (d : PyData) (v : V), Dp K H v d → Dp K H' v d
  | .none, _, h => by cases h; exact .non
  | .bool b, _, h => by cases h; exact .bl b
  | .int i, _, h => by cases h; exact .int i
  | .str x, _, h => by cases h; exact .str x
  | .list ds, _, h => by
    cases h with
    | lst h1 h2 => exact .lst (ex_l e h1) (dp_exs e ds _ h2)
  | .tuple ds, _, h => by
    cases h with
    | tup h1 h2 => exact .tup (ex_t e h1) (dp_exs e ds _ h2)
  | .dict kvs, _, h => by cases h
theorem dp_exs (e : Ex H H') : ∀ (ds : List PyData) (vs : List V), DpAll K H vs ds → DpAll K H' vs ds
  | [], _, h => by cases h; exact .nil
  | d :: ds, _, h => by
    cases h with
    | cons h1 h2 => exact .cons (dp_ex e d _ h1) (dp_exs e ds _ h2)
end
end
/-- d comes -/
def EvD (K : PySem.W.Frag) (te : TE) (σ : L2.St) (H : Hp) (d : PyData) : Prop := ∀ H1, Ex H H1 → ∀ Q : VK, (∀ v H2, Ex H1 H2 → Dp K H2 v d → Q v H2) → te σ H1 Q
def EvDs (K : PySem.W.Frag) (ta : TA) (σ : L2.St) (H : Hp) (ds : List PyData) : Prop := ∀ H1, Ex H H1 → ∀ Q : List V → Hp → Prop, (∀ vs H2, Ex H1 H2 → DpAll K H2 vs ds → Q vs H2) → ta σ H1 Q
section
variable {K : PySem.W.Frag} {σ : L2.St} {H : Hp} {t : TT} {ta tb te : TE} {tl tr : TA} {d d' : PyData} {ds : List PyData} {ws : List Str}
theorem ed_is (h : EvD K te σ H d) (e : d = d') : EvD K te σ H d' := e ▸ h
theorem ed_at {v : V} (h : Ev te σ H v) (g : Dp K H v d) : EvD K te σ H d := fun H1 e Q q => h H1 e _ fun H2 e2 => q v H2 e2 (dp_ex (e.trans e2) d v g)
theorem ed_str {x : Str} (h : Ev te σ H (.str x)) : EvD K te σ H (.str x) := ed_at h (.str x)
theorem ed_int {x : Int} (h : Ev te σ H (.int x)) : EvD K te σ H (.int x) := ed_at h (.int x)
theorem ed_bl {x : Bool} (h : Ev te σ H (.bl x)) : EvD K te σ H (.bool x) := ed_at h (.bl x)
theorem ed_non (h : Ev te σ H .non) : EvD K te σ H .none := ed_at h .non
theorem ed_tup {xs : List V} (h : EvS K te σ H xs) (g : ∀ H1, DpAll K H1 xs ds) : EvD K te σ H (.tuple ds) := fun H1 e Q q => h H1 e _ fun p H2 e2 hp => q _ H2 e2 (.tup hp (g H2))
theorem ed_sl (h : EvS K te σ H (sl ws)) : EvD K te σ H (.tuple (ws.map PyData.str)) := ed_tup h fun _ => dp_sl ws
theorem eds_nil : EvDs K tNil σ H [] := fun H1 e Q q => q [] H1 (Ex.refl H1) .nil
theorem eds_cons (h : EvD K te σ H d) (hs : EvDs K tr σ H ds) : EvDs K (tCons te tr) σ H (d :: ds) := fun H1 e Q q => h H1 e _ fun v H2 e2 g => hs H2 (e.trans e2) _ fun vs H3 e3 gs => q (v :: vs) H3 (e2.trans e3) (.cons (dp_ex e3 d v g) gs)
theorem DpAll.len : ∀ {vs : List V} {ds : List PyData}, DpAll K H vs ds → vs.length = ds.length := fun {vs ds} h => by
  induction ds generalizing vs with
  | nil => cases h; rfl
  | cons d ds ih =>
    cases h with
    | cons h1 h2 => rw [List.length_cons, List.length_cons, ih h2]
theorem ed_lst (h : EvDs K tl σ H ds) (hz : ds.length ≤ 100000) : EvD K (tLst tl) σ H (.list ds) := fun H1 e Q q => h H1 e _ fun vs H2 e2 g => ⟨by rw [DpAll.len g]; exact sz_of hz, fun p hp => q (.ref p) _ (e2.trans (Ex.new hp)) (.lst (SqL.of upd_same) (dp_exs (Ex.new hp) ds vs g))⟩
theorem ed_tupD (h : EvDs K tl σ H ds) (hz : ds.length ≤ 100000) : EvD K (tTup tl) σ H (.tuple ds) := fun H1 e Q q => h H1 e _ fun vs H2 e2 g => ⟨by rw [DpAll.len g]; exact sz_of hz, fun p hp => q (.ref p) _ (e2.trans (Ex.new hp)) (.tup (st_of upd_same) (dp_exs (Ex.new hp) ds vs g))⟩
theorem q_asgD {tz : TS} {D : Ends} {i : Nat} (h : EvD K te σ H d) (k : ∀ v H1, Ex H H1 → Dp K H1 v d → tz D (σ.set i (some v)) H1) : tSeq (tAsg te (gName i)) tz D σ H := h H (Ex.refl H) _ k
theorem eu_tupleM {xs : List V} (ha : EvM ta σ H xs) : EvU (tCB (rTup K) (tCons ta tNil)) σ H xs := fun H1 e Q q =>
  ha H1 e _ fun p H2 e2 h2 => ⟨p, xs, rfl, .inl ⟨SqL.of h2, fun l nl => q l _ (fresh_back e2 nl) (e2.trans (Ex.new nl)) upd_same⟩⟩
/-- what repr can show of d -/
structure Sh (d : PyData) (dp wt : Nat) : Prop where
  s : d.showable = true
  h : d.hasDict = false
  l : PyData.leavesShort 20 d = true
  dd : d.depth ≤ dp
  w : d.weight ≤ wt
structure ShA (ds : List PyData) (dp wt : Nat) : Prop where
  s : PyData.showableAll ds = true
  h : PyData.hasDictAll ds = false
  l : PyData.leavesShortAll 20 ds = true
  dd : PyData.depthAll ds ≤ dp
  w : PyData.weightAll ds ≤ wt
theorem sh_str {x : Str} (h : Lo x) {n : Nat} (hn : x.length ≤ n) : Sh (.str x) 0 n := ⟨rfl, rfl, lv_str h, Nat.zero_le _, hn⟩
theorem sh_int {i : Int} (h : i.natAbs < 10 ^ 13) : Sh (.int i) 0 100 := by
  have lg : i.natAbs.log2 < 64 := by
    by_cases z : i.natAbs = 0
    · rw [z]; decide
    · exact (Nat.log2_lt z).mpr (Nat.lt_trans h (by decide))
  refine ⟨decide_eq_true (by omega), rfl, decide_eq_true ?_, Nat.zero_le _, ?_⟩
  · have e := int_text_length_le10 (k := 13) (by decide) h
    show (Str.ofString (toString i)).length ≤ 20
    rw [PySem.ofString_length]
    omega
  · show (if i == 0 then 0 else i.natAbs.log2 + 1) ≤ 100
    split <;> omega
theorem sh_bl (b : Bool) : Sh (.bool b) 0 0 := ⟨rfl, rfl, rfl, Nat.zero_le _, Nat.zero_le _⟩
theorem sh_non : Sh .none 0 0 := ⟨rfl, rfl, rfl, Nat.zero_le _, Nat.zero_le _⟩
theorem sh_tuple {a b : Nat} (h : ShA ds a b) : Sh (.tuple ds) (a + 1) b := ⟨h.s, h.h, h.l, Nat.succ_le_succ h.dd, h.w⟩
theorem sh_list {a b : Nat} (h : ShA ds a b) : Sh (.list ds) (a + 1) b := ⟨h.s, h.h, h.l, Nat.succ_le_succ h.dd, h.w⟩
theorem sha_nil : ShA [] 0 0 := ⟨rfl, rfl, rfl, Nat.zero_le _, Nat.zero_le _⟩
theorem sha_cons {a b a' b' : Nat} (h : Sh d a b) (r : ShA ds a' b') : ShA (d :: ds) (max a a') (b + 1 + b') := by
  refine ⟨?_, ?_, ?_, ?_, ?_⟩
  · show (d.showable && PyData.showableAll ds) = true
    rw [h.s, r.s]; rfl
  · show (d.hasDict || PyData.hasDictAll ds) = false
    rw [h.h, r.h]; rfl
  · show (PyData.leavesShort 20 d && PyData.leavesShortAll 20 ds) = true
    rw [h.l, r.l]; rfl
  · show max d.depth (PyData.depthAll ds) ≤ _
    have := h.dd
    have := r.dd
    omega
  · show d.weight + 1 + PyData.weightAll ds ≤ _
    have := h.w
    have := r.w
    omega
theorem sha_strs {B n : Nat} (h : ∀ x ∈ ws, Lo x) (hb : ∀ x ∈ ws, x.length ≤ B) (hn : ws.length ≤ n) : ShA (ws.map PyData.str) 0 (n * (B + 1)) := by
  refine ⟨shw_strs ws, hd_strs ws, ?_, Nat.le_of_eq (dep_strs ws), Nat.le_trans (wt_strs hb) (Nat.mul_le_mul_right _ hn)⟩
  clear hn hb
  induction ws with
  | nil => rfl
  | cons x r ih =>
    show (PyData.leavesShort 20 (.str x) && PyData.leavesShortAll 20 (r.map PyData.str)) = true
    rw [ih fun y m => h y (List.mem_cons_of_mem _ m), show PyData.leavesShort 20 (.str x) = true from lv_str (h x List.mem_cons_self)]
    rfl
theorem ev_reprD {a b : Nat} (h : EvD K te σ H d) (s : Sh d a b) (ha : a ≤ 32) (hb : b ≤ 100000) : Ev (tCB (XG.rRepr K) (tCons te tNil)) σ H (.str d.shown) := fun H1 e Q q => h H1 e _ fun v H2 e2 g => by
  refine ⟨v, d, rfl, g, s.s, s.h, Nat.le_trans s.dd ha, ?_, q H2 e2⟩
  have z := PyData.shown_le 20 (by decide) d s.l
  have y := s.w
  refine Nat.le_trans z ?_
  rw [sizeLine_eq]
  omega
end
end T
/-! Own: enumerate(t, 1) over a tuple; sorted of a tuple of ints; a def called by keywords alone. -/
namespace XQ
open PySem PySem.Spec PyProof.Rows L2
open AutoSeq1 (wpAny_loadPart')
/-! ### enumerate(t, 1) -/
theorem tc_enum2 (a b : Value) : checkTypeCall "enumerate" ⟨[a, b], []⟩ = pure () := by kernel_rfl
theorem nc_enum2 (a b : Value) : checkBuiltinCall "enumerate.__new__" ⟨[.type "enumerate", a, b], []⟩ = pure () := by kernel_rfl
theorem enum1_new (l : Addr) (items : Array Value) (o : Obj) (tk : Tok) (hc : o.cls = .type "tuple") (n : Nat) (hd : o.data = .seq items n) :
    Meets (Builtin.«enumerate.__new__» ⟨[.type "enumerate", .ref l, .int 1 tk], []⟩) (fun _ R s => s.heap.get? l = some o ∧
      R (.ok (.ret (.ref (s.heap.push { cls := .type "tuple_iterator", data := .fields #[.ref l, .int 0 0] }).objs.size)))
        { s with heap := (s.heap.push { cls := .type "tuple_iterator", data := .fields #[.ref l, .int 0 0] }).push { cls := .type "enumerate", data := .fields #[.none, .bool false, .ref s.heap.objs.size, rawInt 1, .none, .none] } }) :=
  .of_wp fun prog w A R s h => by
    obtain ⟨hp, g, d, t, os⟩ := s
    obtain ⟨hl, h⟩ := h
    have hsub := sub_enumerate
    have hL : Heap.IsTuple (Shared.heap ⟨hp, g, d, t, os⟩) l items := ⟨o, hl, hc, n, hd⟩
    wp_walk using wpAny_loadPart' hl
    refine wpAny_stack_any fun st => wpAny_pure ?_
    split
    · rename_i c _ _ _ _ _
      cases (c == Value.type "enumerate")
      · wp_walk using wpAny_loadPart' hl, wpAny_pyIter_tuple hL
        exact ⟨_, rfl, h⟩
      · wp_walk using wpAny_loadPart' hl, wpAny_pyIter_tuple hL
        exact ⟨_, rfl, h⟩
    · wp_walk using wpAny_loadPart' hl, wpAny_pyIter_tuple hL
      exact ⟨_, rfl, h⟩
theorem enum1_call {prog : Program} {w : World} {A : Around} {E : Value → Shared → Prop} {s : Shared} {l : Addr} {items : Array Value} {tk : Tok} {Q : Value → Shared → Prop} (hL : s.heap.IsTuple l items)
    (h : ∀ h', IsEnum h' (s.heap.objs.size + 1) s.heap.objs.size 1 .none → h'.IsTupleIter s.heap.objs.size l 0 → h'.objs.size = s.heap.objs.size + 2 →
      (∀ b o, s.heap.get? b = some o → h'.get? b = some o) → Q (.ref (s.heap.objs.size + 1)) { s with heap := h' }) :
    wpAny (model prog w) A (call (.type "enumerate") [.ref l, .int 1 tk]) Q E s := by
  obtain ⟨o, hl, hc, n, hd⟩ := hL
  refine callType_new F.called_enumerate (by decide) (tc_enum2 _ _) (nc_enum2 _ _) (fun obj => F.args_object_init_3 obj _ _) F.entry_enumerate_new
    (enum1_new l items o tk hc n hd) ⟨hl, ?_⟩
  have hz : (s.heap.push { cls := .type "tuple_iterator", data := .fields #[.ref l, .int 0 0] }).objs.size = s.heap.objs.size + 1 := Heap.size_push ..
  show _ ∧ _
  rw [hz]
  have he : IsEnum ((s.heap.push { cls := .type "tuple_iterator", data := .fields #[.ref l, .int 0 0] }).push
      { cls := .type "enumerate", data := .fields #[.none, .bool false, .ref s.heap.objs.size, rawInt 1, .none, .none] }) (s.heap.objs.size + 1) s.heap.objs.size 1 .none := by
    have q := Heap.get?_push_size (s.heap.push { cls := .type "tuple_iterator", data := .fields #[.ref l, .int 0 0] })
      (o := { cls := .type "enumerate", data := .fields #[.none, .bool false, .ref s.heap.objs.size, rawInt 1, .none, .none] }) rfl
    rw [hz] at q
    exact q
  exact ⟨⟨_, he, rfl⟩, h _ he ⟨_, Heap.get?_push_of_some _ (Heap.get?_push_size _ rfl), rfl, rfl⟩ (by rw [Heap.size_push, hz]) fun b o x => Heap.get?_push_of_some _ (Heap.get?_push_of_some _ x)⟩
/-- the same draws, counted from 1 -/
theorem draws_up {prog : Program} {w : World} {A : Around} {it : Addr} {fp : List Addr} {n : Nat} {P : Nat → Value → Prop} {St : Nat → Heap → Prop} (D : Draws prog w A it fp n P St) :
    Draws prog w A it fp (n + 1) (fun j v => ∃ i, j = i + 1 ∧ P i v) (fun j h => ∃ i, j = i + 1 ∧ St i h) where
  live := fun j h st => by obtain ⟨i, _, q⟩ := st; exact D.live i h q
  frame := fun j h h' st k => by obtain ⟨i, e, q⟩ := st; exact ⟨i, e, D.frame i h h' q k⟩
  item := fun j s Q E hj st hQ => by
    obtain ⟨i, e, q⟩ := st
    exact D.item i s Q E (by omega) q fun x h' tk px st' sb => hQ x h' tk ⟨i, e, px⟩ ⟨i + 1, by omega, st'⟩ sb
  done := fun s Q E st hE => by
    obtain ⟨i, e, q⟩ := st
    obtain rfl : i = n := by omega
    exact D.done s Q E q hE
/-- the tuple at a, each item in a new pair with its place, counted from 1 -/
def Itet1 (K : PySem.W.Frag) (a : Addr) : It :=
  ⟨fun i H => ∃ (xs : List V) (x : V), SqT K H a xs ∧ xs[i]? = some x, fun i H v H' => ∃ T x, v = .ref T ∧ H T = none ∧ H' = upd H T (.tup [.int ((i + 1 : Nat) : Int), x]) ∧ ∀ xs, SqT K H a xs → xs[i]? = some x, fun i H => ∃ xs : List V, SqT K H a xs ∧ xs.length ≤ i⟩
theorem turn_enumT1 {P : Program} {w : World} {K : PySem.W.Frag} {elts : List Expr} {kk : Nat} {tpos : Pos} (a e it : Addr) :
    Turn P w K (.Tuple elts kk tpos) (Itet1 K a) [e, it] e (fun i h => (∃ old, IsEnum h e it ((i + 1 : Nat) : Int) old) ∧ h.IsTupleIter it a i ∧ e ≠ it ∧ a ≠ it ∧ a ≠ e) where
  mem := by simp
  obj := fun i h st b hb => by
    obtain ⟨⟨old, he⟩, ⟨o, ho, hc, hd⟩, _⟩ := st
    have e' : b = e ∨ b = it := by simpa using hb
    rcases e' with z | z
    · rw [z]; exact ⟨_, he, fun v q => nomatch q⟩
    · rw [z]; exact ⟨o, ho, fun v q => by rw [hd] at q; cases q⟩
  keep := fun i h h' st k => by
    obtain ⟨⟨old, he⟩, hi, hne⟩ := st
    exact ⟨⟨old, k e (by simp) _ he⟩, hi.at fun o q => k it (by simp) o q, hne⟩
  item := by
    intro X hP hw hK hc i pins s σ H E I hf st hg
    subst hP hw hK
    obtain ⟨⟨old, he⟩, hit, hne, hai, hae⟩ := st
    obtain ⟨xs, x, hq, hx⟩ := hg
    obtain ⟨its, rv, p, hz⟩ := I.tuple hq
    obtain ⟨u, hu, ru⟩ := rv.get hx
    have hel : e < s.heap.objs.size := Heap.lt_size he
    have hil : it < s.heap.objs.size := by obtain ⟨_, q, _⟩ := hit; exact Heap.lt_size q
    have hT : s.heap.IsTuple a its.toArray := p
    have hlt : i < its.toArray.size := by
      have z1 := (List.getElem?_eq_some_iff.mp hu).1
      simpa using z1
    refine wpAny_pyNext_enum_itemD (draws_up (Draws.tuple (A := X.A.in1) (I.ok.hd hc) it a hai its.toArray)) (i := i + 1) he ⟨i, rfl, hit, hT⟩ (Nat.succ_lt_succ hlt) hne (by simp [hne, Ne.symm hae]) fun y h' tk hy ho hst hT' hsz hk => ?_
    obtain ⟨i', ei, hy⟩ := hy
    obtain ⟨i'', ei', hit'⟩ := hst
    obtain rfl : i = i' := by omega
    obtain rfl : i'' = i + 1 := by omega
    obtain rfl : y = u := by
      have z1 : its.toArray[i]? = some u := by simpa using hu
      exact Option.some.inj (hy.symm.trans z1)
    refine ⟨_, rfl, wpAny_letOwnedTupleGo_enum (s := { s with heap := h', toks := tk + 1 }) ho fun h'' he' sb => ?_⟩
    have hT2 : h''.get? s.heap.objs.size = some { cls := .type "tuple", data := .seq #[.int ((i + 1 : Nat) : Int) tk, y] } := (sb.2 _ (Nat.ne_of_gt hel)).trans hT'
    have new : ObjOk X.prog X.w (upd H s.heap.objs.size (.tup [.int ((i + 1 : Nat) : Int), x])) h'' s.heap.objs.size (.tup [.int ((i + 1 : Nat) : Int), x]) :=
      ⟨by show 2 ≤ sizeLine; decide, [.int ((i + 1 : Nat) : Int) tk, y], .cons ⟨_, rfl⟩ (.cons ru .nil), ⟨_, hT2, rfl, _, rfl⟩⟩
    have I1 : L2.Inv X pins σ (upd H s.heap.objs.size (.tup [.int ((i + 1 : Nat) : Int), x])) { s with heap := h'', toks := tk + 1 } :=
      I.turnedNew (ch := [e, it]) (fun b ob hb q => (sb.2 b (fun z => hb (by simp [z]))).trans (hk b ob (fun z => hb (by simp [z])) (fun z => hb (by simp [z])) q)) hf (Nat.le_refl _) new
    refine ⟨.ref s.heap.objs.size, _, I1, rfl, ⟨_, x, rfl, I.hok.fresh (Nat.le_refl _), rfl, fun ys hy => by rw [I.tuple_inj hy hq]; exact hx⟩, ⟨⟨y, ?_⟩, hit'.1.at fun o q => (sb.2 it (Ne.symm hne)).trans q, hne, hai, hae⟩, fun b hb => ?_⟩
    · have e1 : ((i + 1 + 1 : Nat) : Int) = ((i + 1 : Nat) : Int) + 1 := by omega
      rw [e1]; exact he'
    · have hb' : b < s.heap.objs.size := by
        have e' : b = e ∨ b = it := by simpa using hb
        rcases e' with z | z
        · rw [z]; exact hel
        · rw [z]; exact hil
      rw [upd_ne (Nat.ne_of_lt hb')]
      exact (hf b hb).1
  done := by
    intro X hP hw hK hc i pins s σ H E I hf st hg
    subst hP hw hK
    obtain ⟨⟨old, he⟩, hit, hne, hai, hae⟩ := st
    obtain ⟨xs, hq, hx⟩ := hg
    obtain ⟨its, rv, p, hz⟩ := I.tuple hq
    obtain ⟨f0, f1, f2, f3, f4, f5⟩ := hf it (by simp)
    have hl := rv.length
    exact XI.enum_endT (I.ok.hd hc) he hit (show s.heap.IsTuple a its.toArray from p) (by simp; omega) fun h' eb => ⟨rfl, I.turned (t' := s.toks) (fun b o hb q => eb b o hb q) f0 f1 f3 f4 f5⟩
  self := fun A i s Q E st h => by
    obtain ⟨⟨_, he⟩, _⟩ := st
    exact wpAny_pyIter_enum he h
def iEnumT1 (K : PySem.W.Frag) (ta : TA) : TI := fun σ H R => ta σ H fun vs H1 => ∃ a xs, vs = [.ref a, .int 1] ∧ SqT K H1 a xs ∧ R (Itet1 K a) H1
theorem pi_enumT1 {X : Cx} {e e2 : Expr} {ta : TA} {p pos tpos : Pos} {elts : List Expr} {kk : Nat} (hg : Gl X "enumerate") (hm : X.mg "enumerate" = none) (ha : PA X [e, e2] ta) (hs : starEach [e, e2] X.env = (false, eval e X.env) :: starEach [e2] X.env := by rfl) (hpl : (backTo pos (starEach [e2] X.env)).any (·.1) = false := by rfl) :
    PI X (.Tuple elts kk tpos) (.Call (.Name "enumerate" p) [e, e2] [] pos) (iEnumT1 X.K ta) := by
  refine ⟨fun pins s σ H R I h => ?_⟩
  refine Call_ (ld_blt I hg hm boot_enumerate (PyProof.Rows.callWith_type1 (thn (ha.run pos pins s σ H _ I h) fun us s1 ⟨vs, H1, I1, r1, q1⟩ => ?_) hs hpl))
  obtain ⟨a, xs, ex, hq, q⟩ := q1
  subst ex
  cases r1 with
  | cons ra rr =>
    cases rr with
    | cons rb rr =>
      cases rr
      cases ra
      obtain ⟨tk, rfl⟩ := rb
      obtain ⟨its, rv, p', hz⟩ := I1.tuple hq
      have hal : a < s1.heap.objs.size := by obtain ⟨_, z, _⟩ := p'; exact Heap.lt_size z
      refine enum1_call p' fun h' he hit hsz hk => wpAny_pyIter_enum he ?_
      have I2 : L2.Inv X pins σ H1 { s1 with heap := h' } := I1.kept (t' := s1.toks) hk
      refine ⟨s1.heap.objs.size + 1, [s1.heap.objs.size + 1, s1.heap.objs.size], _, _, H1, rfl, I2, turn_enumT1 a (s1.heap.objs.size + 1) s1.heap.objs.size, ⟨⟨.none, he⟩, hit, Nat.succ_ne_self _, Nat.ne_of_lt hal, Nat.ne_of_lt (Nat.lt_succ_of_lt hal)⟩, fun b hb => ?_, q⟩
      have hle : s1.heap.objs.size ≤ b := by
        have e' : b = s1.heap.objs.size + 1 ∨ b = s1.heap.objs.size := by simpa using hb
        rcases e' with z | z
        · rw [z]; exact Nat.le_add_right _ _
        · rw [z]; exact Nat.le_refl _
      exact I1.fpOk hle (I1.hok.fresh hle)
theorem walk_enumT1 {K : PySem.W.Frag} {a : Addr} {xs : List V} : Walk (Itet1 K a) xs.length (fun H => SqT K H a xs) (YPair (fun i => some (.int ((i + 1 : Nat) : Int))) (fun i => xs[i]?)) := by
  refine ⟨fun i _ hi q => ⟨xs, xs[i], q, by simp [hi]⟩, fun _ q => ⟨xs, q, Nat.le_refl _⟩, fun i H v H' _ q y => ?_⟩
  obtain ⟨T, x, h1, h2, h3, h4⟩ := y
  exact ⟨T, .int ((i + 1 : Nat) : Int), x, h1, h2, h3, rfl, h4 xs q⟩
end XQ
namespace XQ
open PySem PySem.Spec PyProof.Rows L2 SrtO
/-! ### sorted of a tuple of ints -/
section
variable {prog : Program} {w : World} {A : Around} {E : Value → Shared → Prop} {s : Shared}
theorem sorted_tup {l : Addr} {vs : List Value} {ltv : Value → Value → Bool} {Q : Value → Shared → Prop} (O : Swo ltv) (hl : s.heap.IsTuple l vs.toArray) (hz : vs.length ≤ sizeLine)
    (hS : 2 ≤ vs.length → ∀ (h₁ : Heap) (a : Addr), h₁.get? a = some (seqObj "list" vs.toArray 0) → SortableO prog w A.in1.in1 { s with heap := h₁ } a vs ltv)
    (h : ∀ (out : List Value) (h1 h' : Heap) (p : Addr) (c : Nat), Srtd ltv out → Stb ltv out vs → (∀ b o, s.heap.get? b = some o → h1.get? b = some o) → (∀ b o, h1.get? b = some o → h'.get? b = some o) → h1.objs.size ≤ p → h'.get? p = some (seqObj "list" out.toArray c) → Q (.ref p) { s with heap := h' }) :
    wpAny (model prog w) A (call (.builtin "sorted") [.ref l]) Q E s := by
  obtain ⟨o, ho, hc, n, hd⟩ := hl
  refine Calls.call_function_entry kind_sorted plain_sorted entry_sorted (args_sorted1 _) ?_
  unfold Builtin.«sorted»
  refine wpAny_bind (m := checkCount "sorted" 1 1 _) (wpAny_pure ?_)
  refine wpAny_bind (wpAny_collect_seq l (.inr rfl) ho hc hd (fun h1 k1 => ?_) (by simpa using hz))
  have e0 : vs.toArray.toList = vs := by simp
  rw [e0]
  refine wpAny_bind (wpAny_newList ?_ hz)
  have hoL : (h1.push (seqObj "list" vs.toArray 0)).get? h1.objs.size = some (seqObj "list" vs.toArray 0) := Heap.get?_push_size _ rfl
  show wpAny _ _ _ _ _ { s with heap := h1.push (seqObj "list" vs.toArray 0) }
  refine wpAny_bind (wpAny_holding (wpAny_call_entry slot_list_sort ⟨_, hoL, rfl⟩ entry_list_sort (list_sort_ord O hoL hz (fun h2 => hS h2 _ _ hoL) fun out hs hb => ⟨_, rfl, ?_⟩) (args_list_sort _)))
  obtain ⟨c, hat⟩ := PyProof.Rows.sortedHeap_at (vs := vs) (out := out.toArray) hoL
  refine wpAny_pure ⟨_, rfl, h out h1 _ h1.objs.size c hs hb k1 (fun b u hb1 => ?_) (Nat.le_refl _) hat⟩
  have hlt := Heap.lt_size hb1
  rw [PyProof.Rows.sortedHeap_old (Nat.ne_of_lt hlt) (by rw [Heap.size_push]; exact Nat.lt_succ_of_lt hlt)]
  exact Heap.get?_push_of_some _ hb1
end
def rSortedT (K : PySem.W.Frag) : List V → Hp → VK → Prop := fun vs H Q => ∃ (a : Addr) (ns : List Int), vs = [V.ref a] ∧ SqT K H a (ns.map V.int) ∧
  ∀ (ns' : List Int) (p : Addr), ns'.Perm ns → ns'.Pairwise (· ≤ ·) → H p = none → Q (.ref p) (upd H p (.lst (ns'.map V.int)))
section
variable {X : Cx}
theorem cr_sortedT : CallR X (.builtin "sorted") (rSortedT X.K) := by
  intro pins s σ H vs us Q I r h
  obtain ⟨a, ns, rfl, hs, q⟩ := h
  obtain ⟨its, rv, hl, hz⟩ := I.tuple hs
  rw [Vals.ref1 r]
  have hi := rv.ints
  refine sorted_tup SrtO.swo_int hl (by rw [← rv.length]; exact hz) (fun h2 h₁ a' _ => SrtO.ints_sortable hi h2) fun out hm h' p c h1 h2 k0 kp hp hat => ?_
  obtain ⟨k1, k2, k3⟩ := SrtO.ints_out hi h1 h2
  have hlen : ((out.map SrtO.iv).map V.int).length ≤ sizeLine := by
    rw [List.length_map, k2.length_eq]
    rw [List.length_map] at hz
    exact hz
  have I1 : L2.Inv X pins σ H { s with heap := hm } := I.kept (t' := s.toks) k0
  exact ⟨.ref _, upd H p (.lst ((out.map SrtO.iv).map V.int)), I1.laid (t' := s.toks) kp hp ⟨hlen, out, c, vals_of_ints k1, hat⟩, rfl, q _ _ k2 k3 (I1.hok.fresh hp)⟩
end
/-! ### f(k = v, ..) -/
section
variable {X : Cx} {CX : CXT} {k : Nat} {f : Addr} {fd : FuncData} {ps ks : List Str} {sp : Sp} {E : XK} {x : Str} {p pos : Pos} {kws : List Keyword} {tk : TA} {gg : List Value → List Value → List Value} {gV : List V → List V → List V}
def tCallK0 (n : Nat) (sp : Sp) (gV : List V → List V → List V) (E : XK) (tk : TA) : TE := fun σ H Q => tk σ H fun zs H2 => zs.length = n ∧ sp (gV [] zs) H2 Q E
theorem pe_callK0 (F : FnOk X.prog X.w X.K X.mg X.base CX k f fd ps sp) (hr : Room k X.A) (hg : Gl X x) (hm : X.mg x = some (.ref f)) (hk : PySem.W.keepIn X.K (.ref f) = true) (hb : KBn X.K fd ps 0 ks gg gV) (hx : Passes CX X E) (hkw : PK X kws tk)
    (hall : (backToKw pos (keywordEach kws X.env)).all (·.1.isSome) = true := by rfl) (hks : (backToKw pos (keywordEach kws X.env)).filterMap (·.1) = ks := by rfl) (hdb : (x == ("__debug__" : Str)) = false := by decide)
    (hpl : ((backTo pos (starEach [] X.env)).any (·.1) || (backToKw pos (keywordEach kws X.env)).any (·.1.isNone)) = false := by rfl) :
    PE X (.Call (.Name x p) [] kws pos) (tCallK0 ks.length sp gV E tk) := by
  refine ⟨fun pins s σ H Q I h => ?_⟩
  refine wpAny_Call_Name_kw (ld_glob I hg hm ?_ hdb)
  refine PySem.W.callWith_KW0 (first := []) (h₀ := X.base) I.ok.mod.kin hk hall ?_ hpl
  refine thn (hkw.run pos pins s σ H _ I h) fun ws s2 ⟨zs, H2, I2, rz, l2, q2⟩ => ⟨I2.kIn, ?_⟩
  rw [hks]
  exact run_fnN (us := []) (vs := []) F hr hb hx I2 .nil rz rfl l2 q2
end
end XQ
namespace XB
open PySem PySem.Spec PyProof.Rows L2 Evl
section
variable {K : PySem.W.Frag} {σ : L2.St} {H : Hp} {t : TT} {ta tb te : TE}
/-- a comprehension over the signs of a text -/
theorem el_lcT {z : Str} {tl : TE} {j : Nat} {vs : List Nat} (v : Nat → V) (h : Ev tl σ H (.str z)) (hz : z.cps.size ≤ 40000) (hw : ∀ x, wipe ((wipe σ vs).set j (some x)) vs = wipe σ vs)
    (he : ∀ c H1, Ex H H1 → c ∈ z.cps.toList → Ev te ((wipe σ vs).set j (some (.str ⟨#[c]⟩))) H1 (v c)) :
    EvL (tLc (iStr tl) (gName j) tYes te vs) σ H (z.cps.toList.map v) := fun H0 e Q q => h H0 e _ fun H1 e1 => ⟨z, rfl, fun D hD => by
  refine lc_it walk_str (fun i G => Ex H1 G ∧ G D = some (.lst ((z.cps.toList.take i).map v))) ⟨Ex.new hD, upd_same⟩ (fun i G _ p => trivial) ?_ ?_
  · rintro i x G' G hi ⟨g1, g2⟩ ⟨rfl, c, hc, rfl⟩
    have hcl : z.cps.toList[i]? = some c := by rw [Array.getElem?_toList]; exact hc
    have m := List.mem_of_getElem? hcl
    have tk : z.cps.toList.take (i + 1) = z.cps.toList.take i ++ [c] := by rw [List.take_succ, hcl]; rfl
    refine ⟨hw _, tYes_go ?_⟩
    refine he c _ ((e.trans e1).trans g1) m _ (Ex.refl _) _ fun G3 g3 => ⟨_, g3 _ _ g2, ?_, Ex.mut (g1.trans g3) hD, ?_⟩
    · refine sz_lt ?_
      rw [List.length_map, List.length_take, Array.length_toList]
      omega
    · rw [upd_same, tk, List.map_append]
      rfl
  · rintro G ⟨g1, g2⟩
    refine q D G (fresh_back e1 hD) (e1.trans g1) ?_
    rw [g2, List.take_of_length_le (by rw [Array.length_toList]; exact Nat.le_refl _)]⟩
end
end XB
namespace T
open PySem PySem.Spec PyProof.Rows L2 Evl XB TL XS XI XC ClX
/-! ### lists of signs, and what an edit does on one -/
def Abc (z : Str) : Prop := ∀ c ∈ z.cps.toList, 97 ≤ c ∧ c ≤ 122
theorem Abc.lo {z : Str} (h : Abc z) : Lo z := fun c m => by
  have := h c m
  omega
theorem abc_cut {z : Str} (h : Abc z) (lo hi : Option Int) : Abc (cutS z lo hi) := fun c m => by
  have m2 : c ∈ (z.cps.toList.drop (HT.sIx z.length 0 lo)).take (HT.sIx z.length z.length hi - HT.sIx z.length 0 lo) := by
    have e : (cutS z lo hi).cps.toList = (z.cps.toList.drop (HT.sIx z.length 0 lo)).take (HT.sIx z.length z.length hi - HT.sIx z.length 0 lo) := by unfold cutS; simp
    rw [e] at m
    exact m
  exact h c (List.mem_of_mem_drop (List.mem_of_mem_take m2))
theorem abc_app {x y : Str} (h : Abc x) (g : Abc y) : Abc (x ++ y) := fun c m => by
  have e : (x ++ y).cps.toList = x.cps.toList ++ y.cps.toList := by
    show (x.cps ++ y.cps).toList = _
    simp
  rw [e] at m
  exact (List.mem_append.mp m).elim (h c) (g c)
theorem abc_let {c : Nat} (h1 : 97 ≤ c) (h2 : c ≤ 122) : Abc (let1 c) := fun n m => by
  have : n ∈ [c] := m
  rw [List.mem_singleton.mp this]
  exact ⟨h1, h2⟩
theorem cut_len (z : Str) (lo hi : Option Int) : (cutS z lo hi).length ≤ z.length := cutS_length z lo hi
def lastOf (z : Str) (k : Str) : Int := if k = "put" then (z.length : Int) else (z.length : Int) - 1
def playS (z : Str) : Deed → Option Str
  | .stay => some z
  | .out n => if n < 0 ∨ (z.length : Int) - 1 < n then none else some (cutS z none (some n) ++ cutS z (some (n + 1)) none)
  | .sig k n c => if n < 0 ∨ lastOf z k < n then none else some (if k = "put" then cutS z none (some n) ++ let1 c ++ cutS z (some n) none else cutS z none (some n) ++ let1 c ++ cutS z (some (n + 1)) none)
theorem playS_out (z : Str) (n : Int) : playS z (.out n) = if n < 0 ∨ (z.length : Int) - 1 < n then none else some (cutS z none (some n) ++ cutS z (some (n + 1)) none) := rfl
theorem playS_sig (z k : Str) (n : Int) (c : Nat) : playS z (.sig k n c) = if n < 0 ∨ lastOf z k < n then none else some (if k = "put" then cutS z none (some n) ++ let1 c ++ cutS z (some n) none else cutS z none (some n) ++ let1 c ++ cutS z (some (n + 1)) none) := rfl
def oV : Option Str → V
  | none => .non
  | some r => .str r
theorem play_abc {z r : Str} {d : Deed} {ks : List Str} (h : Abc z) (ok : ∀ k n c, d = .sig k n c → 97 ≤ c ∧ c ≤ 122) (e : playS z d = some r) : Abc r := by
  cases d with
  | stay => cases e; exact h
  | out n =>
    rw [playS_out] at e
    split at e
    · cases e
    · cases e; exact abc_app (abc_cut h _ _) (abc_cut h _ _)
  | sig k n c =>
    obtain ⟨o1, o2⟩ := ok k n c rfl
    rw [playS_sig] at e
    split at e
    · cases e
    · cases e
      split
      · exact abc_app (abc_app (abc_cut h _ _) (abc_let o1 o2)) (abc_cut h _ _)
      · exact abc_app (abc_app (abc_cut h _ _) (abc_let o1 o2)) (abc_cut h _ _)
theorem play_len {z r : Str} {d : Deed} (e : playS z d = some r) : r.length ≤ 2 * z.length + 1 := by
  have l1 : ∀ c : Nat, (let1 c).length = 1 := fun _ => rfl
  cases d with
  | stay => cases e; omega
  | out n =>
    rw [playS_out] at e
    split at e
    · cases e
    · cases e
      rw [Str.length_append]
      have := cut_len z none (some n)
      have := cut_len z (some (n + 1)) none
      omega
  | sig k n c =>
    rw [playS_sig] at e
    split at e
    · cases e
    · cases e
      split
      · rw [Str.length_append, Str.length_append, l1]
        have := cut_len z none (some n)
        have := cut_len z (some n) none
        omega
      · rw [Str.length_append, Str.length_append, l1]
        have := cut_len z none (some n)
        have := cut_len z (some (n + 1)) none
        omega
section
variable {P : Program} {w : World} {K : PySem.W.Frag} {mg : Str → Option Value} {base : Heap} {C : Addr}
variable {σ : L2.St} {H : Hp} {ta tb tc te : TE} {tz ts : TS} {D' : Ends} {ks : List Str} {cs : List Cell} {x y a b : Addr} {E : XK} {d : Deed} {xs ys : List V}
theorem ev_slS {z : Str} {tl th : TO} {lo hi : Option Int} (h : Ev te σ H (.str z)) (h1 : EvO tl σ H lo) (h2 : EvO th σ H hi) (hz : z.length ≤ 100000) : Ev (tSl rSlS te tl th) σ H (.str (cutS z lo hi)) := fun H1 e Q q =>
  h H1 e _ fun H2 e2 => h1 H2 (e.trans e2) _ fun H3 e3 => h2 H3 ((e.trans e2).trans e3) _ fun H4 e4 => ⟨z, rfl, sz_of hz, q H4 ((e2.trans e3).trans e4)⟩
theorem es_slA {tl th : TO} {lo hi : Option Int} (h : Ev te σ H (.ref a)) (hx : SqT K H a xs) (h1 : EvO tl σ H lo) (h2 : EvO th σ H hi) : EvS K (tSl (rSlA K) te tl th) σ H (cutV xs lo hi) := fun H1 e Q q =>
  h H1 e _ fun H2 e2 => h1 H2 (e.trans e2) _ fun H3 e3 => h2 H3 ((e.trans e2).trans e3) _ fun H4 e4 =>
    ⟨a, xs, rfl, ex_t (((e.trans e2).trans e3).trans e4) hx, (fun hw => by
      have : cutV xs lo hi = xs := by
        unfold cutV
        rw [hw.1, hw.2, List.drop_zero, Nat.sub_zero, List.take_length]
      rw [this] at q
      exact q a H4 ((e2.trans e3).trans e4) (ex_t (((e.trans e2).trans e3).trans e4) hx)), fun _ l nl => q l _ (((e2.trans e3).trans e4).trans (Ex.new nl)) (st_of upd_same)⟩
theorem q_asgT2 {i j : Nat} {x y : V} (h : EvS K te σ H [x, y]) (q : ∀ H1, Ex H H1 → tz D' ((σ.set i (some x)).set j (some y)) H1) : tSeq (tAsg te (gTup K 2 (gCons (gName i) (gCons (gName j) gNil)))) tz D' σ H :=
  h H (Ex.refl H) _ fun p H1 e1 hp => ⟨p, _, rfl, hp, rfl, _, _, rfl, _, _, rfl, rfl, q H1 e1⟩
theorem cut_to2 (xs : List V) : cutV xs none (some 2) = xs.take 2 := by
  unfold cutV
  rw [HT.sIx_none, show (some (2 : Int)) = some ((2 : Nat) : Int) from rfl, HT.sIx_nat, List.drop_zero, Nat.sub_zero]
  by_cases h : 2 ≤ xs.length
  · rw [Nat.min_eq_left h]
  · rw [Nat.min_eq_right (by omega), List.take_length, List.take_of_length_le (by omega)]
/-! ### is_list -/
def spIsList : Sp := fun vs H Q _ => ∃ z : Str, vs = [.str z] ∧ Abc z ∧ z.length ≤ 1000 ∧ ∀ H', Ex H H' → Q (.bl true) H'
theorem ev_isList {z : Str} (h : Ev ta σ H (.str z)) (hz : Abc z) (hl : z.length ≤ 1000) : Ev (tCall spIsList [] E (tCons ta tNil)) σ H (.bl true) := ev_call (ea_cons h ea_nil) fun H1 e Q q E => ⟨z, rfl, hz, hl, q⟩
/-! ### list_behind, and the law's own play -/
def spPlay (K : PySem.W.Frag) : Sp := fun vs H Q _ => ∃ (z : Str) (a : Addr) (d : Deed) (ks : List Str), vs = [.str z, .ref a] ∧ SqT K H a d.vs ∧ d.ok ks ∧ ks ∈ kinds7 ∧ z.length ≤ 45000 ∧ ∀ H', Ex H H' → Q (oV (playS z d)) H'
theorem len1 (c : Nat) : (let1 c).length = 1 := rfl
end
end T
namespace T
open PySem PySem.Spec PyProof.Rows L2 Evl XB TL XS XI XC ClX
/-! ### what an edit becomes, as an edit -/
def formD (d : Deed) (r : Str) : Deed := if r = "stay" then .stay else if r = "put" then (match d with
    | .sig _ n c => .sig "put" n c
    | d => d) else match d with
    | .stay => .stay
    | .out n => .out (n + step r)
    | .sig k n c => .sig k (n + step r) c
theorem formD_vs {d : Deed} {r : Str} (ok : FormOk d r) : (formD d r).vs = formedOf d r := by
  unfold formD formedOf
  split
  · rfl
  · split
    · rename_i h
      rcases ok.2 with z | ⟨_, k, n, c, rfl⟩
      · rw [h] at z
        exact absurd z (by decide)
      · rfl
    · cases d with
      | stay => exact absurd rfl ok.1
      | out n => rfl
      | sig k n c => rfl
def turnD (cs : List Cell) (d e : Deed) (first : Bool) : Deed := if d.hd = "stay" ∨ e.hd = "stay" then d else formD d (chosenW (optsFor cs (nm3 d.hd e.hd (relOf d e))) (metOf d e first))
def Deed.okb (ks : List Str) (lo hi : Int) : Deed → Prop
  | .stay => True
  | .out n => ("out" : Str) ∈ ks ∧ lo ≤ n ∧ n ≤ hi
  | .sig k n c => k ∈ [("put" : Str), "set"] ∧ k ∈ ks ∧ lo ≤ n ∧ n ≤ hi ∧ 97 ≤ c ∧ c ≤ 122
theorem okb_ok {ks : List Str} {lo hi : Int} {d : Deed} (h : d.okb ks lo hi) (l : -9 ≤ lo) (u : hi ≤ 10 ^ 12) : d.ok ks := by
  cases d with
  | stay => trivial
  | out n => exact ⟨h.1, by have := h.2.1; omega, by have := h.2.2; omega⟩
  | sig k n c =>
    obtain ⟨h1, h2, h3, h4, h5, h6⟩ := h
    exact ⟨h1, h2, by omega, by omega, h5, h6⟩
theorem okb_mono {ks : List Str} {lo hi lo' hi' : Int} {d : Deed} (h : d.okb ks lo hi) (l : lo' ≤ lo) (u : hi ≤ hi') : d.okb ks lo' hi' := by
  cases d with
  | stay => trivial
  | out n => exact ⟨h.1, by have := h.2.1; omega, by have := h.2.2; omega⟩
  | sig k n c =>
    obtain ⟨h1, h2, h3, h4, h5, h6⟩ := h
    exact ⟨h1, h2, by omega, by omega, h5, h6⟩
theorem formD_okb {ks : List Str} {lo hi : Int} {d : Deed} {r : Str} (h : d.okb ks lo hi) (hr : r ∈ resultsOf d.hd ks) : (formD d r).okb ks (lo - 1) (hi + 1) := by
  obtain ⟨s1, s2⟩ := step_b r
  unfold formD
  split
  · trivial
  · split
    · rename_i hp
      cases d with
      | stay => trivial
      | out n => exact okb_mono h (by omega) (by omega)
      | sig k n c =>
        obtain ⟨h1, h2, h3, h4, h5, h6⟩ := h
        have pk : ("put" : Str) ∈ ks := by
          unfold resultsOf at hr
          rw [hp] at hr
          rcases List.mem_append.mp hr with z | z
          · exact absurd z (by decide)
          · split at z
            · rename_i cc
              exact cc.2
            · cases z
        exact ⟨by decide, pk, by omega, by omega, h5, h6⟩
    · cases d with
      | stay => trivial
      | out n => exact ⟨h.1, by have := h.2.1; omega, by have := h.2.2; omega⟩
      | sig k n c =>
        obtain ⟨h1, h2, h3, h4, h5, h6⟩ := h
        exact ⟨h1, h2, by omega, by omega, h5, h6⟩
theorem turnD_vs {ks : List Str} {cs : List Cell} {d e : Deed} (okd : d.ok ks) (hk : ks ∈ kinds7) (hC : Cells ks cs) (first : Bool) : (turnD cs d e first).vs = turnedOf cs d e first := by
  unfold turnD turnedOf
  split
  · rfl
  · rename_i z
    obtain ⟨nd, _⟩ := Deed.hd_stay okd hk (fun y => z (.inl y))
    obtain ⟨ps, zz, ho, OP⟩ := optsFor_parts hC d.hd e.hd (relOf d e)
    rw [ho, chosenW_eq OP.pa]
    exact formD_vs (form_ok nd okd (chosen_in OP _))
theorem turnD_okb {ks : List Str} {cs : List Cell} {lo hi : Int} {d e : Deed} (h : d.okb ks lo hi) (hC : Cells ks cs) (first : Bool) : (turnD cs d e first).okb ks (lo - 1) (hi + 1) := by
  unfold turnD
  split
  · exact okb_mono h (by omega) (by omega)
  · obtain ⟨ps, zz, ho, OP⟩ := optsFor_parts hC d.hd e.hd (relOf d e)
    rw [ho, chosenW_eq OP.pa]
    exact formD_okb h (chosen_in OP _)
/-! ### the end of an arrival -/
def turn1 (cs : List Cell) (s : Nat) (fs : List Deed) (o : Nat) : List Deed := match fs[o]?, fs[s]? with
  | some d, some e => fs.set o (turnD cs d e (decide (o < s)))
  | _, _ => fs
def turnAll (cs : List Cell) (s : Nat) (fs : List Deed) (rest : List Nat) : List Deed := rest.foldl (turn1 cs s) fs
def endS (cs : List Cell) : Str → List Deed → List Nat → Option Str
  | z, _, [] => some z
  | z, fs, s :: r => match fs[s]? with
    | none => none
    | some d => match playS z d with
      | none => none
      | some z' => endS cs z' (turnAll cs s fs r) r
theorem turn1_len (cs : List Cell) (s : Nat) (fs : List Deed) (o : Nat) : (turn1 cs s fs o).length = fs.length := by
  unfold turn1
  split
  · rw [List.length_set]
  · rfl
theorem turn1_at {cs : List Cell} {s o : Nat} {fs : List Deed} {d e : Deed} (hd : fs[o]? = some d) (he : fs[s]? = some e) : turn1 cs s fs o = fs.set o (turnD cs d e (decide (o < s))) := by
  unfold turn1
  rw [hd, he]
theorem turnAll_snoc (cs : List Cell) (s : Nat) (fs : List Deed) (l : List Nat) (o : Nat) : turnAll cs s fs (l ++ [o]) = turn1 cs s (turnAll cs s fs l) o := by
  unfold turnAll
  rw [List.foldl_append]
  rfl
theorem turnAll_len (cs : List Cell) (s : Nat) : ∀ (l : List Nat) (fs : List Deed), (turnAll cs s fs l).length = fs.length
  | [], _ => rfl
  | o :: r, fs => by
    show (turnAll cs s (turn1 cs s fs o) r).length = _
    rw [turnAll_len cs s r, turn1_len]
/-- edits as values -/
structure EditsV (K : PySem.W.Frag) (H : Hp) (vs : List V) (fs : List Deed) : Prop where
  len : vs.length = fs.length
  at_ : ∀ (i : Nat) (d : Deed), fs[i]? = some d → ∃ a : Addr, vs[i]? = some (.ref a) ∧ SqT K H a d.vs
theorem EditsV.ex {K : PySem.W.Frag} {H H' : Hp} {vs : List V} {fs : List Deed} (h : EditsV K H vs fs) (e : Ex H H') : EditsV K H' vs fs := ⟨h.len, fun i d hd => by
  obtain ⟨a, h1, h2⟩ := h.at_ i d hd
  exact ⟨a, h1, ex_t e h2⟩⟩
theorem EditsV.put {K : PySem.W.Frag} {H : Hp} {vs zs : List V} {fs : List Deed} {F : Addr} {o : HO} (h : EditsV K H vs fs) (hF : H F = some (.lst zs)) : EditsV K (upd H F o) vs fs := ⟨h.len, fun i d hd => by
  obtain ⟨a, h1, h2⟩ := h.at_ i d hd
  exact ⟨a, h1, sqt_put h2 hF⟩⟩
theorem EditsV.set {K : PySem.W.Frag} {H : Hp} {vs : List V} {fs : List Deed} {j : Nat} {a : Addr} {d : Deed} (h : EditsV K H vs fs) (ha : SqT K H a d.vs) : EditsV K H (vs.set j (.ref a)) (fs.set j d) := ⟨by rw [List.length_set, List.length_set, h.len], fun i e he => by
  by_cases q : j = i
  · subst q
    have hlt : j < fs.length := by
      have := (List.getElem?_eq_some_iff.mp he).1
      rwa [List.length_set] at this
    rw [List.getElem?_set_self hlt] at he
    injection he with he
    subst he
    exact ⟨a, List.getElem?_set_self (by rw [h.len]; exact hlt), ha⟩
  · rw [List.getElem?_set_ne q] at he
    obtain ⟨b, h1, h2⟩ := h.at_ i e he
    exact ⟨b, by rw [List.getElem?_set_ne q]; exact h1, h2⟩⟩
end T
namespace T
open PySem PySem.Spec PyProof.Rows L2 Evl XB TL XS XI XC ClX XQ
/-! ### the two ends -/
/-- arrivals as values -/
def lnV (l : List Nat) : List V := l.map fun (n : Nat) => V.int (n : Int)
theorem lnV_at {l : List Nat} {i : Nat} {x : V} (h : (lnV l)[i]? = some x) : ∃ n : Nat, l[i]? = some n ∧ x = .int (n : Int) := by
  unfold lnV at h
  rw [List.getElem?_map] at h
  cases e : l[i]? with
  | none => rw [e] at h; cases h
  | some n => rw [e] at h; cases h; exact ⟨n, rfl, rfl⟩
theorem cut_from (xs : List V) (n : Nat) : cutV xs (some ((n : Nat) : Int)) none = xs.drop n := by
  unfold cutV
  rw [HT.sIx_none, HT.sIx_nat]
  by_cases h : n ≤ xs.length
  · rw [Nat.min_eq_left h, List.take_of_length_le (by rw [List.length_drop] <;> exact Nat.le_refl _)]
  · rw [Nat.min_eq_right (by omega), Nat.sub_self, List.take_zero, List.drop_eq_nil_of_le (by omega)]
theorem ixN_nat {n i : Nat} (h : i < n) : ixN n (i : Int) = some i := by
  unfold ixN
  rw [if_pos (by omega), if_pos (by omega)]
  rfl
/-- what stands during the turns of one step: the edits of fs, those of the first part of rest turned -/
structure Mid (ks : List Str) (cs : List Cell) (s : Nat) (fs : List Deed) (rest : List Nat) (lo hi : Int) (i : Nat) (gs : List Deed) : Prop where
  e : gs = turnAll cs s fs (rest.take i)
  old : ∀ t, t ∉ rest.take i → gs[t]? = fs[t]?
  b : ∀ d ∈ gs, d.okb ks (lo - 1) (hi + 1)
theorem mid_step {ks : List Str} {cs : List Cell} {s o : Nat} {fs gs : List Deed} {rest : List Nat} {lo hi : Int} {i : Nat} {d e : Deed} (hC : Cells ks cs) (m : Mid ks cs s fs rest lo hi i gs) (nd : rest.Nodup) (ho : rest[i]? = some o) (hb : ∀ d ∈ fs, d.okb ks lo hi) (hd : gs[o]? = some d) (he : gs[s]? = some e) :
    Mid ks cs s fs rest lo hi (i + 1) (gs.set o (turnD cs d e (decide (o < s)))) := by
  have tk : rest.take (i + 1) = rest.take i ++ [o] := by rw [List.take_succ, ho]; rfl
  have nin : o ∉ rest.take i := nd_not nd ho
  refine ⟨?_, fun t ht => ?_, fun x hx => ?_⟩
  · rw [tk, turnAll_snoc, ← m.e, turn1_at hd he]
  · rw [tk] at ht
    have h1 : t ∉ rest.take i := fun z => ht (List.mem_append_left _ z)
    have h2 : o ≠ t := fun z => ht (List.mem_append_right _ (List.mem_singleton.mpr z.symm))
    rw [List.getElem?_set_ne h2]
    exact m.old t h1
  · rcases List.mem_or_eq_of_mem_set hx with z | z
    · exact m.b x z
    · subst z
      rw [m.old o nin] at hd
      exact turnD_okb (hb d (List.mem_of_getElem? hd)) hC _
section
variable {P : Program} {w : World} {K : PySem.W.Frag} {mg : Str → Option Value} {base : Heap} {C : Addr}
variable {σ : L2.St} {H : Hp} {ta tb tc td te : TE} {tz ts : TS} {D' : Ends} {ks : List Str} {cs : List Cell} {x y a b F s : Addr} {E : XK} {d e : Deed} {xs ys vs : List V} {fs : List Deed}
theorem ev_behind {z : Str} (h1 : Ev ta σ H (.str z)) (h2 : Ev tb σ H (.ref a)) (ha : SqT K H a d.vs) (ok : d.ok ks) (hk : ks ∈ kinds7) (hz : z.length ≤ 45000) : Ev (tCall (spPlay K) [] E (tCons ta (tCons tb tNil))) σ H (oV (playS z d)) :=
  ev_call (ea_cons h1 (ea_cons h2 ea_nil)) fun H1 e Q q E => ⟨z, a, d, ks, rfl, ex_t e ha, ok, hk, hz, q⟩
theorem es_turned {first : Bool} (h0 : Ev td σ H (.ref x)) (h1 : Ev ta σ H (.ref a)) (h2 : Ev tb σ H (.ref b)) (h3 : Ev tc σ H (.bl first)) (t : TabW K C H x ks cs) (hk : ks ∈ kinds7) (ha : SqT K H a d.vs) (hb : SqT K H b e.vs) (okd : d.ok ks) (oke : e.ok ks) :
    EvS K (tCall (spTurned K C) [] E (tCons td (tCons ta (tCons tb (tCons tc tNil))))) σ H (turnedOf cs d e first) :=
  es_call (ea_cons h0 (ea_cons h1 (ea_cons h2 (ea_cons h3 ea_nil)))) fun H1 z Q q E => ⟨x, a, b, d, e, first, ks, cs, rfl, t.ex z, hk, ex_t z ha, ex_t z hb, okd, oke, q⟩
theorem es_lawT {first : Bool} {D : Addr} {kvs : List (Nm × V)} (h0 : Ev td σ H (.ref D)) (h1 : Ev ta σ H (.ref a)) (h2 : Ev tb σ H (.ref b)) (h3 : Ev tc σ H (.bl first)) (hD : H D = some (.dT kvs)) (hL : LDict H kvs cs) (hC : Cells ks cs) (hk : ks ∈ kinds7) (ha : SqT K H a d.vs) (hb : SqT K H b e.vs) (okd : d.ok ks) (oke : e.ok ks) :
    EvS K (tCall (spLT K) [] E (tCons td (tCons ta (tCons tb (tCons tc tNil))))) σ H (turnedOf cs d e first) :=
  es_lt2 h0 (es_at h1 ha) (es_at h2 hb) h3 hD hL hC hk okd oke
/-- what is the same of both: the forms in the list F, the arrival in the tuple l -/
def spEnd (K : PySem.W.Frag) (R : V → List Str → List Cell → Hp → Prop) : Sp := fun vs0 H Q _ => ∃ (x : V) (z : Str) (a l : Addr) (ks : List Str) (cs : List Cell) (vs : List V) (fs : List Deed) (line : List Nat) (hi : Int), vs0 = [x, .str z, .ref a, .ref l] ∧ R x ks cs H ∧ ks ∈ kinds7 ∧ Cells ks cs ∧
  SqT K H a vs ∧ EditsV K H vs fs ∧ (∀ d ∈ fs, d.okb ks 0 hi) ∧ hi ≤ 2000 ∧ fs.length ≤ 6 ∧ SqT K H l (lnV line) ∧ line.Nodup ∧ line.length ≤ 6 ∧ (∀ t ∈ line, t < fs.length) ∧ z.length ≤ 1000 ∧ ∀ H', Ex H H' → Q (oV (endS cs z fs line)) H'
theorem pow6 : ∀ j, j ≤ 6 → 1001 * 2 ^ j ≤ 64064 := by decide
end
end T
namespace T
open PySem PySem.Spec PyProof.Rows L2 Evl XB TL XS XI XC ClX XQ
theorem sorted_eq : ∀ {a b : List Int}, a.Perm b → a.Pairwise (· ≤ ·) → b.Pairwise (· ≤ ·) → a = b
  | [], b, p, _, _ => p.nil_eq
  | x :: r, [], p, _, _ => absurd p.length_eq (by simp)
  | x :: r, y :: t, p, h1, h2 => by
    have hx : x ∈ y :: t := p.mem_iff.mp List.mem_cons_self
    have hy : y ∈ x :: r := p.mem_iff.mpr List.mem_cons_self
    have h1' := List.pairwise_cons.mp h1
    have h2' := List.pairwise_cons.mp h2
    have e : x = y := by
      rcases List.mem_cons.mp hx with q | q
      · exact q
      · rcases List.mem_cons.mp hy with q2 | q2
        · exact q2.symm
        · have := h2'.1 x q
          have := h1'.1 y q2
          omega
    subst e
    rw [sorted_eq (List.Perm.cons_inv p) h1'.2 h2'.2]
section
variable {P : Program} {w : World} {K : PySem.W.Frag} {mg : Str → Option Value} {base : Heap} {C : Addr}
variable {σ : L2.St} {H : Hp} {t : TT} {ta tb tc td te : TE} {tz ts : TS} {D' : Ends} {ks : List Str} {cs : List Cell} {x y a b F s : Addr} {E : XK} {d e : Deed} {xs ys vs : List V} {fs : List Deed}
/-- a comprehension over a tuple -/
theorem el_lcV {xs : List V} {tl : TE} {j : Nat} {vs : List Nat} (v : V → V) (h : EvS K tl σ H xs) (hz : xs.length ≤ 40000) (hw : ∀ x, wipe ((wipe σ vs).set j (some x)) vs = wipe σ vs)
    (he : ∀ x H1, Ex H H1 → x ∈ xs → Ev te ((wipe σ vs).set j (some x)) H1 (v x)) : EvL (tLc (iTup K tl) (gName j) tYes te vs) σ H (xs.map v) := fun H0 e Q q => h H0 e _ fun a H1 e1 hx => ⟨a, rfl, ⟨_, hx⟩, fun D hD =>
  lc_tup (xs := xs) (fun i G => Ex H1 G ∧ G D = some (.lst ((xs.take i).map v))) ⟨Ex.new hD, upd_same⟩ (fun i G _ p => ex_t p.1 hx) (fun i x G hi p => ⟨hw x, by
    have m := List.mem_of_getElem? hi
    have e2 := (e.trans e1).trans p.1
    have tk : xs.take (i + 1) = xs.take i ++ [x] := by rw [List.take_succ, hi]; rfl
    refine tYes_go (he x G e2 m G (Ex.refl G) _ fun G3 g3 => ⟨_, g3 _ _ p.2, ?_, Ex.mut (p.1.trans g3) hD, ?_⟩)
    · refine sz_lt ?_
      rw [List.length_map, List.length_take]
      omega
    · rw [upd_same, tk, List.map_append]
      rfl⟩)
    (fun G p => q D G (fresh_back e1 hD) (e1.trans p.1) (by rw [p.2, List.take_length]))⟩
theorem ev_eqDD {d d' : PyData} (ha : EvD K ta σ H d) (hb : EvD K tb σ H d') (sx : SeqAt.shaped d = true) (sy : SeqAt.shaped d' = true) : Ev (tOp (rEqD K) ta tb) σ H (.bl (PyData.eqv d d')) := fun H1 e Q q =>
  ha H1 e _ fun v H2 e2 h2 => hb H2 (e.trans e2) _ fun u H3 e3 h3 => ⟨d, d', dp_ex e3 d v h2, h3, sx, sy, q H3 (e2.trans e3)⟩
def pdI (l : List Int) : PyData := .list (l.map PyData.int)
theorem shp_ints : ∀ l : List Int, SeqAt.shaped (pdI l) = true := fun l => by
  have e : ∀ l : List Int, PyData.canLayAll0 (l.map PyData.int) = true := fun l => by
    induction l with
    | nil => rfl
    | cons x r ih => exact ih
  have dp : ∀ l : List Int, PyData.depthAll (l.map PyData.int) = 0 := fun l => by
    induction l with
    | nil => rfl
    | cons x r ih =>
      show max 0 (PyData.depthAll (r.map PyData.int)) = 0
      rw [ih]; rfl
  show (PyData.canLayAll0 (l.map PyData.int) && decide (PyData.depthAll (l.map PyData.int) + 1 ≤ 64)) = true
  rw [e, dp]
  rfl
theorem eqv_ints : ∀ l : List Int, PyData.eqv (pdI l) (pdI l) = true := fun l => by
  show PyData.eqvAll (l.map PyData.int) (l.map PyData.int) = true
  induction l with
  | nil => rfl
  | cons x r ih =>
    show ((x == x) && PyData.eqvAll (r.map PyData.int) (r.map PyData.int)) = true
    rw [ih]
    simp
theorem dp_ints : ∀ l : List Int, DpAll K H (l.map V.int) (l.map PyData.int)
  | [] => .nil
  | x :: r => .cons (.int x) (dp_ints r)
/-! ### ask_for_table, first_wrong_edit, is_arrival -/
def spAsk (K : PySem.W.Frag) (C : Addr) : Sp := fun vs H Q _ => ∃ (x : Addr) (ks : List Str) (cs : List Cell), vs = [.ref x] ∧ TabW K C H x ks cs ∧ ∀ H', Ex H H' → Q .non H'
def spFWE (K : PySem.W.Frag) : Sp := fun vs0 H Q _ => ∃ (a b : Addr) (z : Str) (ks : List Str) (vs : List V) (fs : List Deed), vs0 = [.ref a, .ref b, .str z] ∧ ks ∈ kinds7 ∧ SqT K H a vs ∧ EditsV K H vs fs ∧ SqT K H b (sl ks) ∧ (∀ d ∈ fs, d.ok ks) ∧ (∀ d ∈ fs, playS z d ≠ none) ∧ fs.length ≤ 6 ∧ z.length ≤ 1000 ∧ ∀ H', Ex H H' → Q .non H'
def spArr (K : PySem.W.Frag) : Sp := fun vs0 H Q _ => ∃ (l : Addr) (line : List Nat) (n : Nat), vs0 = [.ref l, .int (n : Int)] ∧ SqT K H l (lnV line) ∧ line.Perm (List.range n) ∧ n ≤ 6 ∧ ∀ H', Ex H H' → Q (.bl true) H'
theorem ev_arr {line : List Nat} {n : Nat} (h1 : Ev ta σ H (.ref a)) (h2 : Ev tb σ H (.int (n : Int))) (hl : SqT K H a (lnV line)) (pm : line.Perm (List.range n)) (hn : n ≤ 6) : Ev (tCall (spArr K) [] E (tCons ta (tCons tb tNil))) σ H (.bl true) :=
  ev_call (ea_cons h1 (ea_cons h2 ea_nil)) fun G g Q q E => ⟨a, line, n, rfl, ex_t g hl, pm, hn, q⟩
/-! ### ended -/
def spEnded (K : PySem.W.Frag) (C : Addr) : Sp := fun vs0 H Q _ => ∃ (x : Addr) (z : Str) (a l : Addr) (ks : List Str) (cs : List Cell) (vs : List V) (fs : List Deed) (line : List Nat) (hi : Int), vs0 = [.ref x, .str z, .ref a, .ref l] ∧ TabW K C H x ks cs ∧ ks ∈ kinds7 ∧ Cells ks cs ∧
  SqT K H a vs ∧ EditsV K H vs fs ∧ (∀ d ∈ fs, d.okb ks 0 hi) ∧ hi ≤ 2000 ∧ 0 < fs.length ∧ fs.length ≤ 6 ∧ (∀ d ∈ fs, playS z d ≠ none) ∧ SqT K H l (lnV line) ∧ line.Perm (List.range fs.length) ∧ Abc z ∧ z.length ≤ 1000 ∧ ∀ H', Ex H H' → Q (oV (endS cs z fs line)) H'
end
end T
namespace T
open PySem PySem.Spec PyProof.Rows L2 Evl XB TL XS XI XC ClX XQ
theorem joinL_nil : ∀ ps : List (List Nat), joinL [] ps = ps.flatten
  | [] => rfl
  | [p] => by show p = p ++ []; rw [List.append_nil]
  | p :: q :: r => by
    show p ++ ([] ++ joinL [] (q :: r)) = p ++ (q :: r).flatten
    rw [joinL_nil (q :: r)]
    rfl
theorem join_lets {ws : List Str} (h : ∀ x ∈ ws, ∃ c : Nat, 97 ≤ c ∧ c ≤ 122 ∧ x = let1 c) : Abc (Txt.join "" ws) ∧ (Txt.join "" ws).length = ws.length := by
  have e : (Txt.join "" ws).cps.toList = (ws.map fun x => x.cps.toList).flatten := by
    show tl (Txt.join "" ws) = _
    rw [join_eq, tl_join]
    exact joinL_nil _
  constructor
  · intro c m
    rw [e] at m
    obtain ⟨l, hl, hc⟩ := List.mem_flatten.mp m
    obtain ⟨x, hx, rfl⟩ := List.mem_map.mp hl
    obtain ⟨d, d1, d2, rfl⟩ := h x hx
    rw [List.mem_singleton.mp (show c ∈ [d] from hc)]
    exact ⟨d1, d2⟩
  · have l : (Txt.join "" ws).length = (Txt.join "" ws).cps.toList.length := Array.length_toList.symm
    rw [l, e]
    clear l e
    induction ws with
    | nil => rfl
    | cons x r ih =>
      obtain ⟨d, d1, d2, rfl⟩ := h x List.mem_cons_self
      show ([d] ++ (r.map fun x => x.cps.toList).flatten).length = r.length + 1
      rw [List.length_append, ih fun y hy => h y (List.mem_cons_of_mem _ hy)]
      exact Nat.add_comm _ _
theorem sum_ones {ws : List Str} (h : ∀ x ∈ ws, ∃ c : Nat, 97 ≤ c ∧ c ≤ 122 ∧ x = let1 c) : (ws.map (·.length)).sum = ws.length := by
  induction ws with
  | nil => rfl
  | cons x r ih =>
    obtain ⟨d, d1, d2, rfl⟩ := h x List.mem_cons_self
    show 1 + (r.map (·.length)).sum = r.length + 1
    rw [ih fun y hy => h y (List.mem_cons_of_mem _ hy)]
    exact Nat.add_comm _ _
theorem play_some {ks : List Str} {d : Deed} {n : Nat} {z : Str} (hz : z.length = n) (h : d.okb ks 0 (if d.hd = "put" then (n : Int) else (n : Int) - 1)) : playS z d ≠ none := by
  cases d with
  | stay => intro q; cases q
  | out m =>
    rw [if_neg (show ¬ (Deed.out m).hd = "put" by show ¬ ("out" : Str) = "put"; decide)] at h
    rw [playS_out, if_neg (by have := h.2.1; have := h.2.2; omega)]
    intro q; cases q
  | sig k m c =>
    obtain ⟨h1, h2, h3, h4, h5, h6⟩ := h
    have h4 : m ≤ if k = "put" then (n : Int) else (n : Int) - 1 := h4
    rw [playS_sig, if_neg (by unfold lastOf; rw [hz]; omega)]
    intro q; cases q
theorem sqt_chgP {K : PySem.W.Frag} {H H' : Hp} {p a : Addr} {xs : List V} (h : SqT K H a xs) (hp : Purse H p) (c : Chg p H H') : SqT K H' a xs := by
  obtain ⟨d, z, w, e⟩ := hp
  rcases h with (h | ⟨u, h⟩) | h
  · exact .inl (.inl (c _ _ (ne_of h e fun q => by cases q) h))
  · exact .inl (.inr ⟨u, c _ _ (ne_of h e fun q => by cases q) h⟩)
  · exact .inr h
theorem EditsV.chgP {K : PySem.W.Frag} {H H' : Hp} {p : Addr} {vs : List V} {fs : List Deed} (h : EditsV K H vs fs) (hp : Purse H p) (c : Chg p H H') : EditsV K H' vs fs := ⟨h.len, fun i d hd => by
  obtain ⟨a, h1, h2⟩ := h.at_ i d hd
  exact ⟨a, h1, sqt_chgP h2 hp c⟩⟩
theorem EditsV.snoc {K : PySem.W.Frag} {H : Hp} {vs : List V} {fs : List Deed} {a : Addr} {d : Deed} (h : EditsV K H vs fs) (ha : SqT K H a d.vs) : EditsV K H (vs ++ [.ref a]) (fs ++ [d]) := ⟨by rw [List.length_append, List.length_append, h.len]; rfl, fun i e he => by
  rcases Nat.lt_trichotomy i fs.length with q | q | q
  · rw [List.getElem?_append_left q] at he
    obtain ⟨b, h1, h2⟩ := h.at_ i e he
    exact ⟨b, by rw [List.getElem?_append_left (by rw [h.len]; exact q)]; exact h1, h2⟩
  · subst q
    rw [List.getElem?_append_right (Nat.le_refl _), Nat.sub_self] at he
    injection he with he
    subst he
    refine ⟨a, ?_, ha⟩
    rw [← h.len, List.getElem?_append_right (Nat.le_refl _), Nat.sub_self]
    rfl
  · rw [List.getElem?_eq_none (by rw [List.length_append]; show fs.length + 1 ≤ i; omega)] at he
    cases he⟩
section
variable {P : Program} {w : World} {K : PySem.W.Frag} {mg : Str → Option Value} {base : Heap} {C : Addr}
/-! ### _law_row -/
def spRow : Sp := fun vs H Q _ => ∃ (p : Addr) (n : Nat), vs = [.ref p, .int (n : Int)] ∧ Purse H p ∧ n ≤ 1000 ∧ ∀ z H', Abc z → z.length = n → Purse H' p → Chg p H H' → Q (.str z) H'
/-! ### _law_deed, with its bounds -/
def spLDeed2 (K : PySem.W.Frag) : Sp := fun vs H Q _ => ∃ (p a : Addr) (lo hi : Int) (ss ks : List Str), vs = [.ref p, .ref a, .int lo, .int hi] ∧ Purse H p ∧ SqL K H a (sl ss) ∧ a ≠ p ∧ ss ≠ [] ∧ ss.length ≤ 1000 ∧ (∀ s ∈ ss, s = "stay" ∨ s ∈ ks) ∧ ks ∈ kinds7 ∧ -9 ≤ lo ∧ lo ≤ hi ∧ hi ≤ 10 ^ 12 ∧
  ∀ (d : Deed) l H', d.okb ks lo hi → d.hd ∈ ss → Purse H' p → Chg p H H' → H' l = some (.tup d.vs) → l ≠ p → Q (.ref l) H'
/-! ### _law_made, _law_together -/
def spMade (K : PySem.W.Frag) : Sp := fun vs0 H Q _ => ∃ (p s : Addr) (n m : Nat) (ks : List Str), vs0 = [.ref p, .ref s, .int (n : Int), .int (m : Int)] ∧ Purse H p ∧ H s = some (.lst (sl ks)) ∧ s ≠ p ∧ ks ∈ kinds7 ∧ n ≤ 1000 ∧ m ≤ 1000 ∧
  ∀ a vs fs H', Purse H' p → Chg p H H' → SqT K H' a vs → EditsV K H' vs fs → fs.length = m → (∀ d ∈ fs, d.okb ks 0 (if d.hd = "put" then (n : Int) else (n : Int) - 1)) → Q (.ref a) H'
end
end T
namespace T
open PySem PySem.Spec PyProof.Rows L2 Evl XB TL XS XI XC ClX XQ
theorem list_choose {α β : Type} {R : α → β → Prop} : ∀ {bs : List α}, (∀ v ∈ bs, ∃ t, R v t) → ∃ ws : List β, ws.length = bs.length ∧ (∀ (i : Nat) (x : α) (t : β), bs[i]? = some x → ws[i]? = some t → R x t) ∧ ∀ t ∈ ws, ∃ v ∈ bs, R v t
  | [], _ => ⟨[], rfl, (fun _ _ _ z => by cases z), (fun _ z => by cases z)⟩
  | v :: r, h => by
    obtain ⟨t, ht⟩ := h v List.mem_cons_self
    obtain ⟨ws, e, f, g⟩ := list_choose (bs := r) fun x hx => h x (List.mem_cons_of_mem _ hx)
    refine ⟨t :: ws, congrArg (· + 1) e, fun i x y hi hy => ?_, fun y hy => ?_⟩
    · cases i with
      | zero =>
        cases hi
        cases hy
        exact ht
      | succ j => exact f j x y hi hy
    · rcases List.mem_cons.mp hy with rfl | hy
      · exact ⟨v, List.mem_cons_self, ht⟩
      · obtain ⟨x, hx, hr⟩ := g y hy
        exact ⟨x, List.mem_cons_of_mem _ hx, hr⟩
/-! ### the end of an arrival is of letters, and not long -/
def LetOk (d : Deed) : Prop := ∀ k n c, d = .sig k n c → 97 ≤ c ∧ c ≤ 122
theorem letok {ks : List Str} {lo hi : Int} {d : Deed} (h : d.okb ks lo hi) : LetOk d := fun k n c e => by
  subst e
  exact h.2.2.2.2
theorem formD_let {d : Deed} (h : LetOk d) (r : Str) : LetOk (formD d r) := by
  unfold formD
  split
  · intro k n c e
    cases e
  · split
    · cases d with
      | stay => exact h
      | out n => exact h
      | sig k n c =>
        intro k' n' c' e
        cases e
        exact h _ _ _ rfl
    · cases d with
      | stay => intro k n c e; cases e
      | out n => intro k n c e; cases e
      | sig k n c =>
        intro k' n' c' e
        cases e
        exact h _ _ _ rfl
theorem turnD_let {d : Deed} (h : LetOk d) (cs : List Cell) (e : Deed) (first : Bool) : LetOk (turnD cs d e first) := by
  unfold turnD
  split
  · exact h
  · exact formD_let h _
theorem turn1_let {cs : List Cell} {s o : Nat} {fs : List Deed} (h : ∀ d ∈ fs, LetOk d) : ∀ d ∈ turn1 cs s fs o, LetOk d := by
  unfold turn1
  split
  · rename_i d e hd he
    intro x hx
    rcases List.mem_or_eq_of_mem_set hx with q | q
    · exact h x q
    · rw [q]
      exact turnD_let (h d (List.mem_of_getElem? hd)) _ _ _
  · exact h
theorem turnAll_let {cs : List Cell} {s : Nat} : ∀ (l : List Nat) {fs : List Deed}, (∀ d ∈ fs, LetOk d) → ∀ d ∈ turnAll cs s fs l, LetOk d
  | [], _, h => h
  | o :: r, fs, h => by
    show ∀ d ∈ turnAll cs s (turn1 cs s fs o) r, LetOk d
    exact turnAll_let r (turn1_let h)
theorem endS_abc {cs : List Cell} : ∀ (l : List Nat) {z r : Str} {fs : List Deed}, Abc z → (∀ d ∈ fs, LetOk d) → endS cs z fs l = some r → Abc r ∧ r.length + 1 ≤ (z.length + 1) * 2 ^ l.length
  | [], z, r, fs, hz, _, e => by
    cases e
    exact ⟨hz, by show z.length + 1 ≤ (z.length + 1) * 1; omega⟩
  | s :: l, z, r, fs, hz, hf, e => by
    unfold endS at e
    split at e
    · cases e
    · rename_i d hd
      split at e
      · cases e
      · rename_i z' hp
        have a' := play_abc (ks := []) hz (hf d (List.mem_of_getElem? hd)) hp
        have l' := play_len hp
        obtain ⟨r1, r2⟩ := endS_abc l a' (turnAll_let l hf) e
        refine ⟨r1, Nat.le_trans r2 ?_⟩
        show (z'.length + 1) * 2 ^ l.length ≤ (z.length + 1) * 2 ^ (l.length + 1)
        rw [Nat.pow_succ, Nat.mul_comm (2 ^ l.length) 2, ← Nat.mul_assoc]
        exact Nat.mul_le_mul_right _ (by omega)
theorem perm_lnV {ys : List V} {l : List Nat} (h : ys.Perm (lnV l)) : ∃ line : List Nat, ys = lnV line ∧ line.Perm l := by
  have g := h.map (fun v => match v with | V.int n => n.toNat | _ => 0)
  refine ⟨ys.map (fun v => match v with | V.int n => n.toNat | _ => 0), ?_, ?_⟩
  · unfold lnV
    rw [List.map_map]
    have : ys.map id = ys.map ((fun n : Nat => V.int (n : Int)) ∘ fun v => match v with | V.int n => n.toNat | _ => 0) := List.map_congr_left fun v hv => by
      obtain ⟨n, _, rfl⟩ := List.mem_map.mp (h.mem_iff.mp hv)
      rfl
    rw [← this, List.map_id]
  · unfold lnV at g
    rw [List.map_map] at g
    have : l.map ((fun v => match v with | V.int n => n.toNat | _ => 0) ∘ fun n : Nat => V.int (n : Int)) = l.map id := List.map_congr_left fun n _ => rfl
    rw [this, List.map_id] at g
    exact g
def dO : Option Str → PyData
  | none => .none
  | some r => .str r
section
variable {P : Program} {w : World} {K : PySem.W.Frag} {mg : Str → Option Value} {base : Heap} {C : Addr}
variable {σ : L2.St} {H H' : Hp} {ta tb tc td te : TE} {tz ts : TS} {D' : Ends} {ks : List Str} {cs : List Cell} {x a b D l : Addr} {E : XK} {vs : List V} {fs : List Deed} {line : List Nat} {kvs : List (Nm × V)} {z : Str} {hi : Int} {o : Option Str}
theorem q_par {i j : Nat} {x y : V} (h1 : Ev ta σ H x) (h2 : Ev tb σ H y) (k : ∀ H1, Ex H H1 → tz D' ((σ.set i (some x)).set j (some y)) H1) : tSeq (tPar i j (tCons ta (tCons tb tNil))) tz D' σ H :=
  h1 H (Ex.refl H) _ fun H1 e1 => h2 H1 e1 _ fun H2 e2 => ⟨x, y, rfl, k H2 (e1.trans e2)⟩
theorem ev_reprO (h : Ev te σ H (oV o)) (ho : ∀ r, o = some r → Abc r ∧ r.length ≤ 100000) : Ev (tCB (XG.rRepr K) (tCons te tNil)) σ H (.str (dO o).shown) := by
  cases o with
  | none => exact ev_reprD (ed_non h) sh_non (by decide) (by decide)
  | some r => exact ev_reprD (ed_str h) (sh_str (ho r rfl).1.lo (ho r rfl).2) (by decide) (Nat.le_refl _)
theorem ev_lend (h1 : Ev ta σ H (.ref D)) (h2 : Ev tb σ H (.str z)) (h3 : Ev tc σ H (.ref a)) (h4 : Ev td σ H (.ref l)) (hD : H D = some (.dT kvs)) (hL : LDict H kvs cs) (hk : ks ∈ kinds7) (hC : Cells ks cs) (ha : SqT K H a vs) (hE : EditsV K H vs fs)
    (hb : ∀ d ∈ fs, d.okb ks 0 hi) (hhi : hi ≤ 2000) (h6 : fs.length ≤ 6) (hl : SqT K H l (lnV line)) (pm : line.Perm (List.range fs.length)) (hz : z.length ≤ 1000) :
    Ev (tCall (spEnd K fun x ks cs H => ∃ D kvs, x = .ref D ∧ H D = some (.dT kvs) ∧ LDict H kvs cs) [] E (tCons ta (tCons tb (tCons tc (tCons td tNil))))) σ H (oV (endS cs z fs line)) :=
  ev_call (ea_cons h1 (ea_cons h2 (ea_cons h3 (ea_cons h4 ea_nil)))) fun G g Q q E => ⟨.ref D, z, a, l, ks, cs, vs, fs, line, hi, rfl, ⟨D, kvs, rfl, g _ _ hD, hL.ex g⟩, hk, hC, ex_t g ha, hE.ex g, hb, hhi, h6, ex_t g hl, pm.nodup_iff.mpr List.nodup_range, by rw [pm.length_eq, List.length_range]; exact h6, fun t ht => List.mem_range.mp (pm.mem_iff.mp ht), hz, q⟩
theorem ended_sp (tw : TabW K C H x ks cs) (hk : ks ∈ kinds7) (hC : Cells ks cs) (ha : SqT K H a vs) (hE : EditsV K H vs fs) (hb : ∀ d ∈ fs, d.okb ks 0 hi) (hhi : hi ≤ 2000) (h0 : 0 < fs.length) (h6 : fs.length ≤ 6) (hpl : ∀ d ∈ fs, playS z d ≠ none) (hl : SqT K H l (lnV line)) (pm : line.Perm (List.range fs.length)) (hza : Abc z) (hz : z.length ≤ 1000)
    {G : Hp} (g : Ex H G) {Q : VK} (q : ∀ H', Ex G H' → Q (oV (endS cs z fs line)) H') : spEnded K C [.ref x, .str z, .ref a, .ref l] G Q E :=
  ⟨x, z, a, l, ks, cs, vs, fs, line, hi, rfl, tw.ex g, hk, hC, ex_t g ha, hE.ex g, hb, hhi, h0, h6, hpl, ex_t g hl, pm, hza, hz, q⟩
theorem ev_ended (h1 : Ev ta σ H (.ref x)) (h2 : Ev tb σ H (.str z)) (h3 : Ev tc σ H (.ref a)) (h4 : Ev td σ H (.ref l)) (tw : TabW K C H x ks cs) (hk : ks ∈ kinds7) (hC : Cells ks cs) (ha : SqT K H a vs) (hE : EditsV K H vs fs) (hb : ∀ d ∈ fs, d.okb ks 0 hi) (hhi : hi ≤ 2000) (h0 : 0 < fs.length) (h6 : fs.length ≤ 6) (hpl : ∀ d ∈ fs, playS z d ≠ none) (hl : SqT K H l (lnV line)) (pm : line.Perm (List.range fs.length)) (hza : Abc z) (hz : z.length ≤ 1000) :
    Ev (tCall (spEnded K C) [] E (tCons ta (tCons tb (tCons tc (tCons td tNil))))) σ H (oV (endS cs z fs line)) :=
  ev_call (ea_cons h1 (ea_cons h2 (ea_cons h3 (ea_cons h4 ea_nil)))) fun G g Q q E => ended_sp tw hk hC ha hE hb hhi h0 h6 hpl hl pm hza hz g q
theorem ev_endedK (h1 : Ev ta σ H (.ref x)) (h2 : Ev tb σ H (.str z)) (h3 : Ev tc σ H (.ref a)) (h4 : Ev td σ H (.ref l)) (tw : TabW K C H x ks cs) (hk : ks ∈ kinds7) (hC : Cells ks cs) (ha : SqT K H a vs) (hE : EditsV K H vs fs) (hb : ∀ d ∈ fs, d.okb ks 0 hi) (hhi : hi ≤ 2000) (h0 : 0 < fs.length) (h6 : fs.length ≤ 6) (hpl : ∀ d ∈ fs, playS z d ≠ none) (hl : SqT K H l (lnV line)) (pm : line.Perm (List.range fs.length)) (hza : Abc z) (hz : z.length ≤ 1000) :
    Ev (tCallK0 4 (spEnded K C) (fun vs zs => vs ++ zs.reverse) E (tCons td (tCons tc (tCons tb (tCons ta tNil))))) σ H (oV (endS cs z fs line)) := fun H1 g Q q =>
  (ea_cons h4 (ea_cons h3 (ea_cons h2 (ea_cons h1 ea_nil)))) H1 g _ fun H2 g2 => ⟨rfl, ended_sp tw hk hC ha hE hb hhi h0 h6 hpl hl pm hza hz (g.trans g2) fun H3 g3 => q H3 (g2.trans g3)⟩
end
end T
/-! Own: an own exception, some own classes below a built-in one, whose __init__ says super().__init__(TEXT) and keeps one value. -/
namespace XSp
open PySem PySem.Calls PyProof.Rows PySem.W
abbrev supScope (P : Str) : Scope := { kind := .function, names := [("self", .local), (P, .local), ("__class__", .free), ("super", .globalImplicit)], isGenerator := false, isCoroutine := false, more := [] }
abbrev supArgs (P : Str) (a1 a2 : Pos) : Arguments := { posonlyargs := [], args := [{ arg := "self", annotation := none, pos := a1 }, { arg := P, annotation := none, pos := a2 }], vararg := none, kwonlyargs := [], kw_defaults := [], kwarg := none, defaults := [] }
abbrev supBody (F P txt : Str) (p0 p1 p2 p3 p4 p5 p6 p7 p8 p9 : Pos) : List Stmt :=
  [.Expr (.Call (.Attribute (.Call (.Name "super" p0) [] [] p1) "__init__" p2) [.Constant (.str txt) 0 p3] [] p4) p5, .Assign [.Attribute (.Name "self" p6) F p7] (.Name P p8) p9]
/-- the form of a call of a method off super() -/
def SupForm (txt : Str) (p0 p1 p2 p3 p4 : Pos) : Prop := ∀ env : Env, ∃ pl : Sem Bool, eval (.Call (.Attribute (.Call (.Name "super" p0) [] [] p1) "__init__" p2) [.Constant (.str txt) 0 p3] [] p4) env = (do
      let ov ← attributeBase (.Call (.Name "super" p0) [] [] p1) "__init__" env (eval (.Call (.Name "super" p0) [] [] p1) env)
      standAt p2.atName
      let (f, first) ← holding [ov] (getMethod ov "__init__" pl)
      callWith p4 f first (backTo p4 (starEach [.Constant (.str txt) 0 p3] env)) [])
theorem supForm_ex : SupForm "a" ⟨7, 8, 7, 13⟩ ⟨7, 8, 7, 15⟩ ⟨7, 8, 7, 24⟩ ⟨7, 25, 7, 64⟩ ⟨7, 8, 7, 65⟩ := fun env => ⟨_, rfl⟩
/-- the parameter's name -/
structure PName (P : Str) : Prop where
  cls : (supScope P).names.lookup ("__class__" : Str) = some .free
  sup : (supScope P).names.lookup ("super" : Str) = some .globalImplicit
  own : (supScope P).names.lookup P = some .local
  cell : ∀ x ∈ (supScope P).names, x.2 ≠ .cell
  self_ : (("self" : Str) == P) = false
  dbg : (P == ("__debug__" : Str)) = false
theorem pn_given : PName "given" := ⟨by decide +kernel, by decide +kernel, by decide +kernel, by decide +kernel, by decide +kernel, by decide +kernel⟩
theorem pn_index : PName "index" := ⟨by decide +kernel, by decide +kernel, by decide +kernel, by decide +kernel, by decide +kernel, by decide +kernel⟩
section
variable {prog : Program} {w : World} {A : Around} {R : Result → Shared → Prop} {h : Heap} {g : Array GenState} {d : Drawn} {t : Nat} {os : OsState}
theorem sup_run {K : Frag} {mg : Str → Option Value} {base : Heap} (Mo : L2.Mod K mg base) (kb : ∀ b o, base.get? b = some o → h.get? b = some o)
    {C e t0 fI cc cda : Addr} {F P txt qual : Str} {a1 a2 p0 p1 p2 p3 p4 p5 p6 p7 p8 p9 : Pos} {dV kV doc pm ct oc ccl cl u : Value} {an od cdd cld : Option Addr} {osl ccs csl : Array (Option Value)} {cdC : ClassData} {vs : Array Value} {file : Str} {tf : Tok} {i B : String}
    (hroom : A.depth < recursionLimit)
    (hf : K.lookup fI = some ⟨oc, od, .func (ksFn "__init__" qual (supArgs P a1 a2) (supBody F P txt p0 p1 p2 p3 p4 p5 p6 p7 p8 p9) (supScope P) dV kV doc pm an (.ref cda) ct cc), osl⟩) (hcd : codeIn K (.ref cda) qual = true)
    (hcode : K.lookup cda = some ⟨ccl, cdd, .fields vs, ccs⟩) (hvs : vs[2]? = some (.str file tf)) (hfile : ((prog.main.file : Str) == file) = true)
    (hcell : K.lookup cc = some ⟨cl, cld, .cell (some (.ref C)), csl⟩) (hC : clsIn K C = some cdC) (hsub : mroIn K C (.ref C) = some true) (hsuper : mg "super" = none)
    (htop : (prog.main.scope.names.lookup ("super" : Str)).isSome = false) (hany : nsIn K cStatics "thirdparty.any" = some none)
    (KF : KxsFacts B i) (hm : ks_superIn K C C "__init__" = some (some (.builtin i))) (hB : subIn K (.ref C) (.type B) = some true)
    (he : h.get? e = some (PySem.HandSPX.excO C t0)) (pn : PName P)
    (hbind : BindsTo ⟨h, g, d, t, os⟩ (ksFn "__init__" qual (supArgs P a1 a2) (supBody F P txt p0 p1 p2 p3 p4 p5 p6 p7 p8 p9) (supScope P) dV kV doc pm an (.ref cda) ct cc) ⟨[.ref e, u], []⟩ [("self", .ref e), (P, u)])
    (hev : SupForm txt p0 p1 p2 p3 p4) {newId : String} {bmB : List Value} (FB : ExcBaseFacts B newId i bmB) (SF : StoreFacts B bmB "object.__setattr__" "object") (hI : excInitIn K C bmB newId = true) (hO : excOver K C bmB = true) (hhd : cdC.hasDict = true)
    (hsa : findIn K (.ref C) "__setattr__" = some (some (.builtin "object.__setattr__"))) (hta : takerIn K C F = some none) (hsw : ∀ env : Env, swapsWith (.Name P p8) (some (.Attribute (.Name "self" p6) F p7)) p9.line env = pure false)
    (hne : base.get? e = none) (hq : ∀ h' tk' dx t1, (∀ b o, b ≠ e → h.get? b = some o → h'.get? b = some o) → h.objs.size ≤ dx → h'.get? e = some ({ cls := .ref C, dict := some dx, data := .fields #[.ref t1, .none, .none, .none, .bool false, .none] } : Obj) → h'.Ns1 dx (fun y => if y = F then some u else none) → R (.ok (.ret .none)) ⟨h', g, d, tk', os⟩) :
    codeAny (model prog w) A (.call (.ref fI) ⟨[.ref e, u], []⟩) R ⟨h, g, d, t, os⟩ := by
  have X : K.In h := Mo.kin.keeps kb
  obtain ⟨mb, hb1, hb2⟩ := Mo.blt
  obtain ⟨oD, hD1, hD2⟩ : ∃ oD, h.get? C = some oD ∧ oD.data = .cls cdC := by
    unfold clsIn at hC
    split at hC
    · rename_i c d cd' sl ho
      cases hC
      exact ⟨_, X _ _ ho, rfl⟩
    · cases hC
  refine ks_codeAny_call_defAt (fd := ksFn "__init__" qual (supArgs P a1 a2) (supBody F P txt p0 p1 p2 p3 p4 p5 p6 p7 p8 p9) (supScope P) dV kV doc pm an (.ref cda) ct cc) (body := supBody F P txt p0 p1 p2 p3 p4 p5 p6 p7 p8 p9) (binds := [("self", .ref e), (P, u)]) hroom (X _ _ hf) rfl (Mo.nolimit.keeps kb) (codeRec_of X hcd) rfl hbind pn.cell ?_ (fun h₁ hns hk₁ => ?_)
  · intro x hx
    simp only [List.mem_cons, List.not_mem_nil, or_false] at hx
    rcases hx with rfl | rfl
    · rfl
    · exact pn.own
  · have X1 : K.In h₁ := X.keeps hk₁
    obtain ⟨pl, hev⟩ := hev (callEnv (ksFn "__init__" qual (supArgs P a1 a2) (supBody F P txt p0 p1 p2 p3 p4 p5 p6 p7 p8 p9) (supScope P) dV kV doc pm an (.ref cda) ct cc) h.objs.size fI)
    refine ks_wpAt_execs_cons (ks_wpAt_Expr_any (ks_wpAt_MethodCall ?_ hev))
    refine ks_wpAt_super_base pn.sup pn.cls (by decide) rfl (X1 _ _ hf) rfl rfl rfl (X1 _ _ hcode) rfl hvs hfile htop ?_
    refine ks_loadName_global rfl pn.sup (loadGlobal_builtin (Mo.glob.keeps fun b o z => hk₁ b o (kb b o z)) hsuper (hb1.keeps fun b o z => hk₁ b o (kb b o z)) ((hb2 _ (by decide)).trans (by kernel_rfl)) ⟨rfl, ?_⟩)
    refine wpAny_loadName_free rfl pn.cls rfl ⟨_, X1 _ _ hcell, rfl⟩ ?_
    refine wpAny_loadName_local (v := .ref e) rfl rfl hns ?_ ?_
    · show List.lookup ("self" : Str) [(P, u), ("self", Value.ref e)] = _
      simp [List.lookup, pn.self_]
    refine ks_wpAny_isType_cls (hk₁ _ _ hD1) hD2 ⟨rfl, ?_⟩
    refine ks_wpAny_call_super (hk₁ _ _ hD1) hD2 (hk₁ _ _ he) rfl (fun c z => by cases z) (looks_mroIn X1 hsub) (fun h₂ e2 k2 => ?_)
    have X2 : K.In h₂ := X1.keeps k2
    have he2 := k2 _ _ (hk₁ _ _ he)
    have I2 : InstAt h₂ e (PySem.HandSPX.excO C t0) C none := ⟨he2, rfl, rfl, trivial⟩
    have hI2 : Looks (model prog w) h₂ (isInstance (.ref e) (.type B)) true := I2.type.andThen (looks_subIn X2 hB)
    unfold ks_superIn at hm
    rw [hC] at hm
    refine kxs_getMethod KF e2 (looks_opaque X2 hany) (l₀ := cdC.mro) (fun A Q E s k q => wpAny_bind ((looks_clsIn X2 hC) A _ E s k (wpAny_pure q))) rfl X2 hm hI2 (ks_ne X2 I2 hC) rfl ?_
    refine kxs_callWith (i := i) (x := e) rfl ?_
    refine evalArgs_plain (spliced_more (wpAny_Constant_str (spliced_none ?_)) rfl)
    have hmw : (h₂.push (kxs_mw i e)).get? h₂.objs.size = some (kxs_mw i e) := Heap.get?_push_at rfl rfl
    refine ⟨hmw, ?_⟩
    have k3 : ∀ b o, h₂.get? b = some o → (h₂.push (kxs_mw i e)).get? b = some o := fun b o z => Heap.get?_push_of_some _ z
    have X3 := X2.keeps k3
    have he3 := k3 _ _ he2
    have kk : ∀ b o, h.get? b = some o → (h₂.push (kxs_mw i e)).get? b = some o := fun b o z => k3 _ _ (k2 _ _ (hk₁ _ _ z))
    have kns : ∀ b o, h₁.get? b = some o → (h₂.push (kxs_mw i e)).get? b = some o := fun b o z => k3 _ _ (k2 _ _ z)
    obtain ⟨nm, N', qn, bs, bm, hdct, sn, sub, ab, col, dd, k0, k1, k2', k3', k5, hCo, hT⟩ := excInit_of X3 hI
    generalize h₂.push (kxs_mw i e) = h₃ at hmw X3 he3 kk kns hCo ⊢
    refine wpAny_call (codeAny_of_tree ?_)
    show wpAny _ _ (callAny (.ref h₂.objs.size) ⟨_, []⟩) _ _ _
    simp only [callAny]
    refine wpAny_bind (wpAny_load hmw ?_)
    simp only [kxs_mw, show (Value.type "method-wrapper" == Value.type "method" || Value.type "method-wrapper" == Value.type "builtin_function_or_method" || Value.type "method-wrapper" == Value.type "method-wrapper") = true by decide, if_true]
    refine KFB.if_so (by decide) ?_
    refine wpAny_bind (check_bound_init FB.toExcCallFacts hCo he3 rfl ?_)
    refine wpAny_bind (wpAny_pure (wpAny_pure ?_))
    refine ⟨plainId_quiet FB.init.plain _, codeAny_builtin FB.initEntry ?_⟩
    refine exc_init_tree (cls := .ref C) (t0 := t0) (dv := none) (c2 := .none) (c3 := .none) (b4 := .bool false) he3 (by show 0 + 1 ≤ sizeLine; decide) (fun h₄ k4 e4 t4 => ?_)
    have eK : ∀ {b : Addr} {o : Obj}, K.lookup b = some o → b ≠ e := fun {b o} z y => by
      have := Mo.kin _ _ z
      rw [y, hne] at this
      cases this
    have X4 : K.In h₄ := fun b o z => k4 b o (eK z) (X3 b o z)
    have eL : h.objs.size ≠ e := Nat.ne_of_gt (Heap.lt_size he)
    have hns4 : h₄.Ns h.objs.size (fun x => [(("self" : Str), Value.ref e), (P, u)].reverse.lookup x) := by
      obtain ⟨oL, es, ep, hL, r⟩ := hns
      exact ⟨oL, es, ep, k4 _ _ eL (kns _ _ hL), r⟩
    have I4 : InstAt h₄ e (excRec (.ref C) h₃.objs.size none .none .none (.bool false)) C none := ⟨e4, rfl, rfl, trivial⟩
    refine ks_wpAt_execs_cons (ks_wpAt_Assign_Attr (wpAt_of_wpAny (wpAny_Name (wpAny_loadName_local (v := u) rfl pn.own hns4 ?_ (wpAny_Name (wpAny_loadName_local (v := .ref e) rfl rfl hns4 ?_ ?_) (by decide))) pn.dbg)) (hsw _))
    · show List.lookup P [(P, u), ("self", Value.ref e)] = _
      simp [List.lookup]
    · show List.lookup ("self" : Str) [(P, u), ("self", Value.ref e)] = _
      simp [List.lookup, pn.self_]
    refine set_plain X4 I4 hsa ?_
    refine osa_openX SF X4 I4 hO hta (fun b => ?_)
    show wpAny _ _ (Builtin.ObjectAttr.storeInOwnDict (.ref e) (.ref C) (.str F _) F u b) _ _ _
    have hcls : Looks (model prog w) h₄ (classData C) cdC := looks_clsIn X4 hC
    have hes : e ≠ h₄.objs.size := Nat.ne_of_lt (Heap.lt_size e4)
    have sz : h.objs.size ≤ h₄.objs.size := by
      obtain ⟨oL, es, ep, hL, r⟩ := id hns4
      exact Nat.le_of_lt (Heap.lt_size hL)
    have fin : ∀ h' tk' dx, (∀ b o, b ≠ e → h₄.get? b = some o → h'.get? b = some o) → h₄.objs.size ≤ dx → dx ≠ e → h'.get? e = some ({ cls := .ref C, dict := some dx, data := .fields #[.ref h₃.objs.size, .none, .none, .none, .bool false, .none] } : Obj) →
      h'.Ns1 dx (fun y => if y = F then some u else none) → R (.ok (.ret .none)) ⟨h', g, d, tk', os⟩ := fun h' tk' dx k5 z1 z2 e5 n5 => hq h' tk' dx _ (fun b o hb ho => k5 b o hb (k4 b o hb (kk b o ho))) (Nat.le_trans sz z1) e5 n5
    obtain ⟨nm', bs', mro', ns', qn', hd', sn', sb', ab', col', del'⟩ := cdC
    dsimp only at hhd
    subst hhd
    unfold Builtin.ObjectAttr.storeInOwnDict Builtin.ObjectAttr.ownDictForStores
    repeat (first | with_reducible refine PySem.HandSPX.store_in_new ?_ ?_ | with_reducible refine wpAny_loadPart_at e4 ?_ | with_reducible refine hcls.at ?_ | wp_step)
    · exact ⟨_, #[], _, (Heap.get?_update_ne _ _ _ _ hes.symm).trans (Heap.get?_push_at rfl rfl), rfl, fun e he => absurd he (by simp), fun _ => rfl⟩
    · intro h' tk' hn' hs
      have hx₁ : (h₄.push { cls := .type "dict", data := .dict #[] }).get? e = some (excRec (.ref C) h₃.objs.size none .none .none (.bool false)) := Heap.get?_push_of_some _ e4
      have fin' := fin h' tk' h₄.objs.size (fun b o hb ho => (hs.2 b (Nat.ne_of_lt (Heap.lt_size ho))).trans ((Heap.get?_update_ne _ _ _ _ hb).trans (Heap.get?_push_of_some _ ho))) (Nat.le_refl _) hes.symm ((hs.2 e hes).trans (Heap.get?_update_self _ hx₁ rfl)) hn'
      show PySem.wpAt (model prog w) _ _ (execs [] _) _ _ _
      exact wpAt_of_wpAny (wpAny_execs_nil fin')
end
end XSp
namespace XSp
open PySem PySem.Spec PyProof.Rows L2
/-- what __init__ of such a class does: the object's only field is kept -/
def InitS (prog : Program) (K : PySem.W.Frag) (mg : Str → Option Value) (C fI : Addr) (F : Str) : Prop :=
  ∀ (w : World) (A : Around) (R : Result → Shared → Prop) (h : Heap) (g : Array GenState) (d : Drawn) (t : Nat) (os : OsState) (base : Heap) (e t0 : Addr) (u : Value), L2.Mod K mg base → (∀ b o, base.get? b = some o → h.get? b = some o) → base.get? e = none → A.depth < recursionLimit →
    h.get? e = some (PySem.HandSPX.excO C t0) →
    (∀ h' tk' dx t1, (∀ b o, b ≠ e → h.get? b = some o → h'.get? b = some o) → h.objs.size ≤ dx → h'.get? e = some ({ cls := .ref C, dict := some dx, data := .fields #[.ref t1, .none, .none, .none, .bool false, .none] } : Obj) → h'.Ns1 dx (fun y => if y = F then some u else none) → R (.ok (.ret .none)) ⟨h', g, d, tk', os⟩) →
    codeAny (model prog w) A (.call (.ref fI) ⟨[.ref e, u], []⟩) R ⟨h, g, d, t, os⟩
/-- what is known of such a class -/
structure SupC (prog : Program) (K : PySem.W.Frag) (mg : Str → Option Value) (C : Addr) (F : Str) : Prop where
  init : ∃ fI, PySem.W.findIn K (.ref C) "__init__" = some (some (.ref fI)) ∧ PySem.W.typeIn K (.ref fI) = some (.type "function") ∧ InitS prog K mg C fI F
  base : ∃ (B newId initId : String) (bmB : List Value), ExcBaseFacts B newId initId bmB ∧ PySem.W.excInitIn K C bmB newId = true
  exC : PySem.W.subIn K (.ref C) (.type "BaseException") = some true
  tyC : PySem.W.typeIn K (.ref C) = some (.type "type")
  kC : PySem.W.keepIn K (.ref C) = true
/-- C(e) -/
def tMkS (C : Addr) (F : Str) (ta : TA) : L2.St → Hp → XK → Prop := fun σ H Q => ta σ H fun vs H1 => ∃ v, vs = [v] ∧ ∀ d, H1 d = none → Q (.ref C) (some d) (upd H1 d (.xd [(F, v)]))
section
variable {X : Cx} {e : Expr} {ta : TA} {F x : Str} {C : Addr} {p pos : Pos} {k : Nat}
theorem pmk_sup (T : SupC X.prog X.K X.mg C F) (hr : Room 1 X.A) (hg : Gl X x) (hm : X.mg x = some (.ref C)) (ha : PA X [e] ta)
    (hdb : (x == ("__debug__" : Str)) = false := by decide) (he : starEach [e] X.env = (false, eval e X.env) :: starEach [] X.env := by rfl) (hpl : (backTo pos (starEach [] X.env)).any (·.1) = false := by rfl) :
    PMk X (.Call (.Name x p) [e] [] pos) (tMkS C F ta) := by
  intro pins s σ H Q I h
  obtain ⟨fI, iC, tI, run⟩ := T.init
  obtain ⟨B, newId, initId, bmB, FB, hI⟩ := T.base
  refine wpAny_Call_Name_kw (ld_glob I hg hm ?_ hdb)
  refine PySem.W.callWith_K (h₀ := X.base) I.ok.mod.kin T.kC (thn (ha.run pos pins s σ H _ I h) fun us s1 ⟨vs, H1, I1, r1, v, ev, q1⟩ => ⟨I1.kIn, ?_⟩) he hpl
  show wpAny _ _ (call (.ref C) us) _ _ _
  subst ev
  obtain ⟨u, rfl, ru⟩ : ∃ u, us = [u] ∧ RelV v u := by
    cases r1 with
    | cons a r => cases r with
      | nil => exact ⟨_, rfl, a⟩
  obtain ⟨hp, g, dr, tk, os⟩ := s1
  obtain ⟨nm, N', qn, bs, bm, hdct, sn, sub, ab, col, dd, k0, k1, k2, k3, k5, hC, hT⟩ := PySem.W.excInit_of I1.kIn hI
  have kk : ∀ b o, hp.get? b = some o → ((hp.push (PySem.W.kdv_tup [u])).push (PySem.HandSPX.excO C hp.objs.size)).get? b = some o := fun b o e => Heap.get?_push_of_some _ (Heap.get?_push_of_some _ e)
  have hget : ((hp.push (PySem.W.kdv_tup [u])).push (PySem.HandSPX.excO C hp.objs.size)).get? (hp.objs.size + 1) = some (PySem.HandSPX.excO C hp.objs.size) := by heap_get
  have nB : X.base.get? (hp.objs.size + 1) = none := by
    cases z : X.base.get? (hp.objs.size + 1) with
    | none => rfl
    | some o =>
      exact absurd (Nat.lt_trans (Nat.lt_succ_self _) (Heap.lt_size (show hp.get? (hp.objs.size + 1) = some o from I1.bk _ _ z))) (Nat.lt_irrefl _)
  refine wpAny_call (PySem.HandSPX.call_own FB hT hC (PySem.W.looks_findIn I1.kIn iC) (fun self => PySem.W.bind_fn I1.kIn self tI) (by show 1 ≤ sizeLine; decide) ?_)
  refine run _ _ _ _ _ _ _ _ X.base (hp.objs.size + 1) hp.objs.size u I1.ok.mod (fun b o z => kk b o (I1.bk b o z)) nB (hr.make C [u] []).depth hget (fun h' tk' dx t1 k1 z1 e1 n1 => ⟨rfl, ?_⟩)
  obtain ⟨G, g1, g2⟩ := restrict h' fun b => decide (b ≠ hp.objs.size + 1)
  have gk : ∀ b, b ≠ hp.objs.size + 1 → G.get? b = h'.get? b := fun b hb => g1 b (decide_eq_true hb)
  have ge : G.get? (hp.objs.size + 1) = none := g2 _ (by simp)
  have nha : ∀ {b : Addr} {o : Obj}, hp.get? b = some o → b ≠ hp.objs.size + 1 := fun {b o} z => Nat.ne_of_lt (Nat.lt_succ_of_lt (Heap.lt_size z))
  have dne : dx ≠ hp.objs.size + 1 := fun z => by
    obtain ⟨o, es, ep, q1, q2, q3⟩ := n1
    rw [z, e1] at q1
    cases q1
    cases q2
  have hsz : hp.objs.size ≤ dx := by
    rw [Heap.size_push, Heap.size_push] at z1
    omega
  have n1' : G.Ns1 dx (fun y => if y = F then some u else none) := n1.at fun o y => (gk dx dne).trans y
  have J : Inv X pins σ (upd H1 dx (.xd [(F, v)])) ⟨G, g, dr, tk', os⟩ := I1.laid (t' := tk') (a := dx) (o := .xd [(F, v)]) (h' := G) (fun b o z => (gk b (nha z)).trans (k1 b o (nha z) (kk b o z))) hsz ⟨_, n1', fun f => relO_put (fs := []) (mA := fun _ => none) ru (fun _ => trivial) f⟩
  have hn : H1 dx = none := I1.hok.fresh hsz
  refine ⟨hp.objs.size + 1, _, _, ⟨G, g, dr, tk', os⟩, _, .ref C, some dx, rfl, J, fun b o z => ?_, ge, e1, ⟨rfl, rfl⟩, rfl, rfl, ?_, rfl, I1.bare, raises_own T.exC T.tyC, q1 dx hn⟩
  · by_cases hb : b = hp.objs.size + 1
    · rw [hb, ge] at z
      cases z
    · exact (gk b hb).symm.trans z
  · rw [upd_ne dne.symm]
    exact I1.hok.fresh (Nat.le_succ _)
end
end XSp
namespace T
open PySem PySem.Spec PyProof.Rows L2 Evl XB TL XS XI XC ClX XQ XSp
/-- an error of the class at S is what «except S» names -/
theorem exm_self {K : PySem.W.Frag} {S : Addr} (h1 : PySem.W.subIn K (.ref S) (.type "BaseException") = some true) (h2 : PySem.W.isClsIn K S = true) (h3 : PySem.W.typeIn K (.ref S) = some (.type "type")) (h4 : PySem.W.subIn K (.ref S) (.ref S) = some true) :
    PySem.W.exmOne K (.ref S) (.ref S) = some true := by
  have e1 : (PySem.W.subIn K (.ref S) (.type "BaseException") == some true) = true := by rw [h1] <;> rfl
  have e2 : ((PySem.W.clsIn K S).isSome && PySem.W.typeIn K (.ref S) == some (.type "type")) = true := by
    have h2' : (PySem.W.clsIn K S).isSome = true := h2
    rw [h2', h3] <;> rfl
  show (if (PySem.W.subIn K (.ref S) (.type "BaseException") == some true) = true then (if ((PySem.W.clsIn K S).isSome && PySem.W.typeIn K (.ref S) == some (.type "type")) = true then PySem.W.subIn K (.ref S) (.ref S) else none) else none) = some true
  rw [if_pos e1, if_pos e2]
  exact h4
section
variable {P : Program} {w : World} {K : PySem.W.Frag} {mg : Str → Option Value} {base : Heap} {C CD : Addr}
/-! ### done -/
def spDone (K : PySem.W.Frag) (CD : Addr) : Sp := fun vs H Q E => ∃ (z : Str) (a : Addr) (d : Deed) (ks : List Str), vs = [.str z, .ref a] ∧ SqT K H a d.vs ∧ d.ok ks ∧ ks ∈ kinds7 ∧ Abc z ∧ z.length ≤ 1000 ∧
  (∀ r H', playS z d = some r → Ex H H' → Q (.str r) H') ∧ ∀ dd H', playS z d = none → Ex H H' → H' dd = some (.xd [("given", .ref a)]) → E (.ref CD) (some dd) H'
/-! ### _law_after -/
def spAfter (K : PySem.W.Frag) : Sp := fun vs H Q _ => ∃ (z : Str) (a : Addr) (d : Deed) (ks : List Str), vs = [.str z, .ref a] ∧ SqT K H a d.vs ∧ d.ok ks ∧ ks ∈ kinds7 ∧ Abc z ∧ z.length ≤ 1000 ∧ ∀ H', Ex H H' → Q (oV (playS z d)) H'
end
end T
namespace XSp
open PySem PySem.Calls PyProof.Rows PySem.W
theorem exc_facts {K : Frag} {C : Addr} {nm q : Str} {N : Addr} {bs bm : List Value} {sn : List Str} {sub : List Value} {ab : Bool} {col : Option Bool} {dd : Option Addr} {m0 m1 m2 m3 m5 : Option Value} {newId : String} {bmB : List Value}
    (xL : K.lookup C = some (excClassObj nm q C N bs bm true sn sub ab col dd m0 m1 m2 m3 m5 newId)) (ht : excTail bmB bm = true) :
    excInitIn K C bmB newId = true ∧ excOver K C bmB = true ∧ ∃ cd, clsIn K C = some cd ∧ cd.hasDict = true := by
  have hcl : clsIn K C = some { name := nm, bases := bs, mro := .ref C :: bm, ns := N, qualname := q, hasDict := true, slotNames := sn, subclasses := sub, abstract := ab, collection := col, hasDel := false } := by unfold clsIn; rw [xL] <;> rfl
  refine ⟨?_, ?_, _, hcl, rfl⟩
  · unfold excInitIn
    rw [xL]
    show (C == C && newId == newId && !false && excTail bmB bm) = true
    rw [ht, beq_self_eq_true, beq_self_eq_true]
    rfl
  · unfold excOver
    rw [hcl]
    show (C == C && excTail bmB bm) = true
    rw [ht, beq_self_eq_true]
    rfl
theorem taker_none {K : Frag} {C : Addr} {name : Str} (h : findIn K (.ref C) name = some none) : takerIn K C name = some none := by
  unfold takerIn
  rw [h]
  rfl
theorem supC_mk {prog : Program} {K : Frag} {mg : Str → Option Value} {h : Heap} (X : K.In h) (G : h.Ns mainGlobals mg)
    {C fI cc cda : Addr} {F txt qual : Str} {a1 a2 p0 p1 p2 p3 p4 p5 p6 p7 p8 p9 : Pos} {dV kV doc pm ct oc ccl cl : Value} {an od cdd cld : Option Addr} {osl ccs csl : Array (Option Value)} {vs : Array Value} {file : Str} {tf : Tok} {i B newId : String} {bmB : List Value} {sA : Arguments} {sB : List Stmt} {sS : Scope}
    {nm q : Str} {N : Addr} {bs bm : List Value} {sn : List Str} {sub : List Value} {ab : Bool} {col : Option Bool} {dd : Option Addr} {m0 m1 m2 m3 m5 : Option Value}
    (eA : sA = supArgs F a1 a2) (eB : sB = supBody F F txt p0 p1 p2 p3 p4 p5 p6 p7 p8 p9) (eS : sS = supScope F) (pn : PName F)
    (iC : findIn K (.ref C) "__init__" = some (some (.ref fI))) (tI : typeIn K (.ref fI) = some (.type "function"))
    (hf : K.lookup fI = some ⟨oc, od, .func (ksFn "__init__" qual sA sB sS dV kV doc pm an (.ref cda) ct cc), osl⟩) (hcd : codeIn K (.ref cda) qual = true)
    (hcode : K.lookup cda = some ⟨ccl, cdd, .fields vs, ccs⟩) (hvs : vs[2]? = some (.str file tf)) (hfile : ((prog.main.file : Str) == file) = true)
    (hcell : K.lookup cc = some ⟨cl, cld, .cell (some (.ref C)), csl⟩) (xL : K.lookup C = some (excClassObj nm q C N bs bm true sn sub ab col dd m0 m1 m2 m3 m5 newId)) (ht : excTail bmB bm = true)
    (hsub : mroIn K C (.ref C) = some true) (zs : nsIn K mainGlobals "super" = some none) (htop : (prog.main.scope.names.lookup ("super" : Str)).isSome = false) (hany : nsIn K cStatics "thirdparty.any" = some none)
    (KF : KxsFacts B i) (hm : ks_superIn K C C "__init__" = some (some (.builtin i))) (hB : subIn K (.ref C) (.type B) = some true)
    (hev : SupForm txt p0 p1 p2 p3 p4) (FB : ExcBaseFacts B newId i bmB) (SF : StoreFacts B bmB "object.__setattr__" "object")
    (hsa : findIn K (.ref C) "__setattr__" = some (some (.builtin "object.__setattr__"))) (hno : findIn K (.ref C) F = some none) (hsw : ∀ env : Env, swapsWith (.Name F p8) (some (.Attribute (.Name "self" p6) F p7)) p9.line env = pure false)
    (hbd : ∀ (s : Shared) (e : Addr) (u : Value), BindsTo s (ksFn "__init__" qual sA sB sS dV kV doc pm an (.ref cda) ct cc) ⟨[.ref e, u], []⟩ [("self", .ref e), (F, u)])
    (exC : subIn K (.ref C) (.type "BaseException") = some true) (tyC : typeIn K (.ref C) = some (.type "type")) (kC : keepIn K (.ref C) = true) : SupC prog K mg C F := by
  subst eA eB eS
  obtain ⟨hI, hO, cd, hC, hhd⟩ := exc_facts xL ht
  refine ⟨⟨fI, iC, tI, ?_⟩, ⟨B, newId, i, bmB, FB, hI⟩, exC, tyC, kC⟩
  intro w A R h g d t os base e t0 u Mo kb hne hroom he hq
  exact sup_run Mo kb hroom hf hcd hcode hvs hfile hcell hC hsub (mg_none_of X G zs) htop hany KF hm hB he pn (hbd _ _ _) hev FB SF hI hO hhd hsa (taker_none hno) hsw hne hq
end XSp
/-! Own: a caught error that carries fields: its fields read, isinstance of it. -/
namespace XSp
open PySem PySem.Spec PyProof.Rows L2
/-- what the class at D says where an instance of it is asked -/
structure AskC (K : PySem.W.Frag) (D : Addr) : Prop where
  ga : PySem.W.findIn K (.ref D) "__getattribute__" = some (some (.builtin "BaseException.__getattribute__"))
  gg : PySem.W.findIn K (.ref D) "__getattr__" = some none
  ex : PySem.W.subIn K (.ref D) (.type "BaseException") = some true
  hd : PySem.W.hasDictIn K D = true
  ha : PySem.W.findIn K (.ref D) "__class__" = some (some (.builtin "object.__class__"))
  hn : PySem.W.specialIn K (.builtin "object.__class__") "__get__" = some (some (.builtin "getset_descriptor.__get__"))
  ht : PySem.W.takesIn K (.builtin "object.__class__") = some true
  hm : PySem.W.mroIn K D (.type "object") = some true
/-- the caught one is of D and has the fields fs -/
def Held (K : PySem.W.Frag) (cls : Value) (d : Option Addr) (D : Addr) (fs : List (Str × V)) (H : Hp) : Prop := cls = .ref D ∧ AskC K D ∧ ∃ dd, d = some dd ∧ H dd = some (.xd fs)
section
variable {X : Cx} {a D : Addr} {oe : Obj} {pn pins : List (Addr × Obj)} {cls : Value} {d : Option Addr} {σ : L2.St} {H : Hp} {s : Shared} {fs : List (Str × V)}
theorem held_at (hz : Zc cls d oe) (hf : ∃ vs, oe.data = .fields vs) (h : Held X.K cls d D fs H) (I : Inv (X.suite a ((a, oe) :: pn)) pins σ H s) : ∃ (od : Obj) (mA : Str → Option Value), PySem.W.InstAt s.heap a oe D (some od) ∧ (∀ f, PySem.W.lookIn f od = some (mA f)) ∧ ∀ f, RelO (fs.lookup f) (mA f) := by
  obtain ⟨rfl, _, dd, rfl, ea⟩ := h
  obtain ⟨ha, _⟩ := I.pin (a, oe) (List.mem_append_left _ List.mem_cons_self)
  obtain ⟨vs, hd⟩ := hf
  have hx : ObjOk X.prog X.w H s.heap dd (.xd fs) := I.hok dd _ ea
  obtain ⟨mA, hns, hr⟩ := hx
  obtain ⟨od, ho, hl⟩ := lookIn_ns hns
  exact ⟨od, mA, ⟨ha, hz.1, by unfold PySem.W.notCls; rw [hd] <;> rfl, by rw [hz.2]; exact ho⟩, hl, hr⟩
/-- e.f -/
def tOf (K : PySem.W.Frag) (a : Addr) (cls : Value) (d : Option Addr) (f : Str) (te : TE) : TE := fun σ H Q => te σ H fun x H1 => x = .ref a ∧ ∃ D fs v, Held K cls d D fs H1 ∧ PySem.W.findIn K (.ref D) f = some none ∧ fs.lookup f = some v ∧ Q v H1
theorem pe_of {e : Expr} {te : TE} {f : Str} {pos : Pos} (hz : Zc cls d oe) (hf : ∃ vs, oe.data = .fields vs) (he : PE (X.suite a ((a, oe) :: pn)) e te) (hb : attributeBase e f X.env (eval e X.env) = eval e X.env) :
    PE (X.suite a ((a, oe) :: pn)) (.Attribute e f pos) (tOf X.K a cls d f te) := by
  refine ⟨fun pins s σ H Q I h => ?_⟩
  refine attr_of hb (thn (he.run pins s σ H _ I h) fun u s1 ⟨x, H1, I1, rx, ex, D, fs, v, hh, no, hv, q⟩ => ?_)
  subst ex
  obtain rfl : u = Value.ref a := rx
  obtain ⟨od, mA, J, hl, hr⟩ := held_at hz hf hh I1
  obtain ⟨u, hu, ru⟩ := RelO.some_of (v := v) (o := mA f) (by rw [← hv]; exact hr f)
  have C := hh.2.1
  exact HandSPX.exc_get I1.kIn J C.ga C.gg C.ex (PySem.W.findObj_own C.hd no rfl (by rw [hl, hu])) (handed_of ru) ⟨v, H1, I1.tok _, ru, q⟩
/-- isinstance(e, c) -/
def rAsk (K : PySem.W.Frag) (a : Addr) (cls : Value) (d : Option Addr) : List V → Hp → VK → Prop := fun xs H Q => ∃ (c : V) (cv : Value) (b : Bool) (D : Addr) (fs : List (Str × V)), xs = [.ref a, c] ∧ (∀ u, RelV c u → u = cv) ∧ Held K cls d D fs H ∧ PySem.W.kitOne K (.ref D) cv = some b ∧ Q (.bl b) H
theorem call_ask (hz : Zc cls d oe) (hf : ∃ vs, oe.data = .fields vs) : CallR (X.suite a ((a, oe) :: pn)) (.builtin "isinstance") (rAsk X.K a cls d) := by
  intro pins s σ H xs us Q I r h
  obtain ⟨c, cv, b, D, fs, rfl, hcv, hh, e, q⟩ := h
  obtain ⟨od, mA, J, _⟩ := held_at hz hf hh I
  have C := hh.2.1
  have hcl : (PySem.W.clsIn X.K D).isSome = true := by
    obtain ⟨cd, hc, _⟩ := PySem.W.any_some C.hd
    rw [hc]
    rfl
  cases r with
  | cons rx rr =>
    cases rr with
    | cons rt rr =>
      cases rr
      cases rx
      have ec := hcv _ rt
      subst ec
      exact PySem.W.kia_one (PySem.W.kitx_exc hcl C.ga C.gg C.ex C.ha C.hn C.ht C.hm) I.kIn J e (fun z => nomatch z) fun tk => ⟨.bl b, H, I.kept (t' := tk) fun _ _ z => z, rfl, q⟩
end
end XSp
/-! Own: except (A, B, C) as e. -/
namespace XSp
open PySem PySem.Spec PyProof.Rows L2
theorem keeps_push {h : Heap} {o : Obj} : ∀ b u, h.get? b = some u → (h.push o).get? b = some u := fun _ _ z => Heap.get?_push_of_some _ z
theorem flying_push {B h : Heap} {l : List Env} {e : Addr} {Z : Obj → Prop} {o : Obj} (f : HandSPX.FlyingZ B l e Z h) : HandSPX.FlyingZ B l e Z (h.push o) := by
  obtain ⟨f1, f2, f3, oe, vs, T, oT, ts, g1, g2, g3, g4, g5, g6, g7, g8⟩ := f
  exact ⟨fun b u z => keeps_push b u (f1 b u z), f2, Heap.FunFrames.of_keeps (fun b u z _ => ⟨u, keeps_push b u z, rfl⟩) f3, oe, vs, T, oT, ts, keeps_push _ _ g1, g2, g3, g4, g5, g6, keeps_push _ _ g7, g8⟩
/-- what the clause wishes of an exception of the body -/
def wTup (K : PySem.W.Frag) (cs : List Value) (i len : Nat) (ts : Addr → Value → Option Addr → TS) (Wout : WX) (D : Ends) : WX := fun cls d σ H =>
  ∃ b, PySem.W.exmAny K cls cs = some b ∧ (b = true → ∀ a, H a = none → σ.length = len → ts a cls d { nx := fun σ' H' => D.nx (σ'.set i none) H', rt := D.rt, bk := fun σ' H' => D.bk (σ'.set i none) H', ct := fun σ' H' => D.ct (σ'.set i none) H' } (σ.set i (some (.ref a))) H) ∧
    (b = false → Wout cls d σ H)
section
variable {X : Cx} {n : Str} {c1 c2 c3 : Value} {i : Nat} {body suite : List Stmt} {b₀ : Stmt} {pos pos' : Pos} {tb : WX → TS} {ts : Addr → Value → Option Addr → TS} {Wout : WX} {x1 x2 x3 : Str} {p1 p2 p3 tp : Pos} {kk : Nat}
/-- a name of a class, read in a suite -/
theorem name_at {x : Str} {c : Value} {p : Pos} {Y : Cx} {E : Value → Shared → Prop} {Q : Value → Shared → Prop} {pins : List (Addr × Obj)} {σ : L2.St} {H : Hp} {s : Shared} (I : Inv Y pins σ H s) (hc : Names Y x c) (q : Q c s) : wpAny (model Y.prog Y.w) Y.A (eval (.Name x p) Y.env) Q E s := by
  obtain ⟨hg, hd, hm | ⟨hm, hv, hn⟩⟩ := hc
  · exact ld_glob I hg hm q hd
  · exact ld_blt I hg hm hv q hn hd
theorem ps_try_tup3 (hs : X.stack = X.env :: X.outer) (hf : X.env.frame = some X.env.locals) (hN : X.N.Nodup) (hi : X.N[i]? = some n) (hln : X.env.kindOf n = some .local) (n1 : Names X x1 c1) (n2 : Names X x2 c2) (n3 : Names X x3 c3) (tk : Takes X Wout)
    (hb : ∀ (W : WX) (pn : List (Addr × Obj)) (xe : Value → Shared → Prop), Takes (X.tr pn xe) W → PassesOwn (model X.prog X.w) X.A X.env xe → PSs (X.tr pn xe) body (tb W))
    (hsu : ∀ (a : Addr) (oe : Obj) (cls : Value) (d : Option Addr) (pn : List (Addr × Obj)), Zc cls d oe → (∃ vs, oe.data = .fields vs) → PSs (X.suite a ((a, oe) :: pn)) (b₀ :: suite) (ts a cls d)) :
    PS X (.Try body [.ExceptHandler (some (.Tuple [.Name x1 p1, .Name x2 p2, .Name x3 p3] kk tp)) (some n) (b₀ :: suite) pos'] [] [] pos) (fun D σ H => tb (wTup X.K [c1, c2, c3] i X.N.length ts Wout D) D σ H) := by
  refine ⟨fun pins s σ H D I h => wpAny_Try_except ?_⟩
  have ok := I.ok
  have frs_ : X.A.frames = some (X.env :: X.outer) := by rw [ok.frames, hs]
  refine wpAny_mono ((hb _ (X.pn ++ pins) _ ?takes PassesOwn.looking).run [] s σ H D (I.toTry _) h) (fun f s1 hsp => ?after) (fun e s1 he => he)
  case after =>
    cases f with
    | next =>
      obtain ⟨_, _, J, q⟩ := hsp
      exact wpAny_execs_nil ⟨_, _, J.ofTry ok, q⟩
    | brk =>
      obtain ⟨_, _, J, q⟩ := hsp
      exact ⟨_, _, J.ofTry ok, q⟩
    | cont =>
      obtain ⟨_, _, J, q⟩ := hsp
      exact ⟨_, _, J.ofTry ok, q⟩
    | ret u =>
      obtain ⟨_, _, _, J, r, q⟩ := hsp
      exact ⟨_, _, _, J.ofTry ok, r, q⟩
  case takes =>
    intro u s' xx
    obtain ⟨a, B, sI, pins', σ', H', cls, d, rfl, J', nb, up, sky, na, os, ag, b, hb1, hyes, hno⟩ := xx
    have J : Inv X pins σ' H' sI := J'.ofTry ok
    rw [hs] at sky
    refine Sky.land Zc.steady frs_ hf sky fun h3 fl3 up3 => ?_
    have up13 := up.trans up3
    have J3 : Inv X pins σ' H' { s' with heap := h3 } := J.landed nb fl3.1 up13 os ag
    obtain ⟨oe3, vs3, he3, hz3, hd3⟩ := fl3.there
    have out : a ∉ frs (X.env :: X.outer) := fun m => by
      obtain ⟨_, o', e', nf⟩ := fl3.2.2.1.mem m
      rw [he3] at e'
      cases e'
      exact nf _ hd3
    have nL : a ≠ X.env.locals := fun z => out (List.mem_filterMap.mpr ⟨X.env, List.mem_cons_self, by rw [hf, z]⟩)
    have nF : a ∉ X.fs := fun m => by
      obtain ⟨e, he, q⟩ := List.mem_filterMap.mp m
      exact out (List.mem_filterMap.mpr ⟨e, List.mem_cons_of_mem _ he, q⟩)
    have S3 := J3.suite he3 hd3 na nL nF
    refine wpAny_handleBy_cons (codeAny_handlers_test (wpAny_Tuple ?_)) (by intro q; cases q)
    have N : ∀ {x c}, Names X x c → Names (X.suite a ((a, oe3) :: (X.pn ++ pins))) x c := fun h => h
    refine wpAny_items_cons (name_at (Y := X.suite a ((a, oe3) :: (X.pn ++ pins))) S3 (N n1) (wpAny_items_cons (name_at (Y := X.suite a ((a, oe3) :: (X.pn ++ pins))) S3 (N n2) (wpAny_items_cons (name_at (Y := X.suite a ((a, oe3) :: (X.pn ++ pins))) S3 (N n3) (wpAny_items_nil ⟨by show 3 ≤ sizeLine; decide, ?_⟩))))))
    have LT : PySem.W.Looks (model X.prog X.w) (h3.push { cls := .type "tuple", data := .seq [c1, c2, c3].toArray }) (typeOf (.ref a)) cls := fun A Q E s k q => wpAny_typeOf_ref (k _ _ (keeps_push _ _ he3)) (by rw [hz3.1]; exact q)
    refine (PySem.W.exm_tup3 (M := model X.prog X.w) (J3.kIn.keeps keeps_push) LT (Heap.get?_push_size h3 rfl) hb1).here ?_
    have fl5 := flying_push (o := { cls := .type "tuple", data := .seq [c1, c2, c3].toArray }) fl3
    have up5 := up13.trans (Heap.UpToSlots.of_keeps (keeps_push (h := h3) (o := { cls := .type "tuple", data := .seq [c1, c2, c3].toArray })))
    cases b with
    | true =>
      refine codeAny_handlers_suite_as (HandSPX.lands_againZ fl5 fun h4 fl4 up4 => ?_)
      have J4 : Inv X pins σ' H' { s' with heap := h4 } := J.landed nb fl4.1 (up5.trans up4) os ag
      obtain ⟨oe4, vs4, he4, hz4, hd4⟩ := fl4.there
      refine store_ok (X := X.suite a ((a, oe4) :: (X.pn ++ pins))) (v := .ref a) (J4.suite he4 hd4 na nL nF) hN hi (.inl hln) rfl (fun s5 S5 => ?_) (.inr hln)
      refine wpAny_mono ((hsu a oe4 cls d (X.pn ++ pins) hz4 ⟨_, hd4⟩).run [] s5 _ H' _ S5 (hyes rfl a na J.len)) (fun f s6 hsp => ?_) (fun _ _ z => False.elim z)
      cases f with
      | next =>
        obtain ⟨_, _, S6, q6⟩ := hsp
        exact gone_ok (S6.unsuite ok) hN hi hln fun s7 J7 => ⟨_, _, J7, q6⟩
      | brk =>
        obtain ⟨_, _, S6, q6⟩ := hsp
        exact gone_ok (S6.unsuite ok) hN hi hln fun s7 J7 => ⟨_, _, J7, q6⟩
      | cont =>
        obtain ⟨_, _, S6, q6⟩ := hsp
        exact gone_ok (S6.unsuite ok) hN hi hln fun s7 J7 => ⟨_, _, J7, q6⟩
      | ret u =>
        obtain ⟨_, _, _, S6, r6, q6⟩ := hsp
        exact gone_ok (S6.unsuite ok) hN hi hln fun s7 J7 => ⟨_, _, _, J7, r6, q6⟩
    | false =>
      refine wpAny_handleBy_nil ?_
      obtain ⟨_, _, _, oe, vs, T, oT, ts', he, hz, hd, h1, _⟩ := id fl5
      unfold PySem.passOn
      refine wpAny_bind (wpAny_field he hd h1 ?_)
      rw [if_neg (show ¬ ((Value.ref T == Value.none) = true) from by simp), hf]
      have fin : wpAny (model X.prog X.w) X.A (setFlight (.ref a) (some X.env.locals)) (fun _ s4 => wpAny (model X.prog X.w) X.A (throw (.ref a) : Sem Flow) (SP X pins D) X.xe s4) X.xe { s' with heap := h3.push { cls := .type "tuple", data := .seq [c1, c2, c3].toArray } } :=
        HandSPX.setFlight_upZ fl5 fun h4 hh4 up4 => wpAny_throw (tk _ _ ⟨a, B, sI, pins, σ', H', cls, d, rfl, J, nb, up5.trans up4, .inr (.inr (by rw [hs]; exact hh4)), na, os, ag, hno rfl⟩)
      first
        | exact wpAny_bind (wpAny_pure (wpAny_bind fin))
        | exact wpAny_bind fin
end
end XSp
/-! Own: xs.count(y), flat items. -/
namespace XSp
open PySem PySem.Spec PyProof.Rows L2
def rCntF (K : PySem.W.Frag) : V → List V → Hp → VK → Prop := fun x xs H Q => ∃ (a : Addr) (ys : List V) (y : V), x = V.ref a ∧ xs = [y] ∧ SqL K H a ys ∧ flatV y = true ∧ ys.all flatV = true ∧ Q (.int (ys.countP fun z => eqV z y : Nat)) H
theorem countP_vals {y : V} {ys : List V} {its : List Value} (r : Vals ys its) (f : ys.all flatV = true) : its.countP (eqU y) = ys.countP fun z => eqV z y := by
  induction r with
  | nil => rfl
  | cons h r ih =>
    rw [List.all_cons, Bool.and_eq_true] at f
    rw [List.countP_cons, List.countP_cons, ih f.2, eqU_of h f.1]
theorem mt_cntF {X : Cx} : MtR X "list.count" (rCntF X.K) := by
  intro pins s σ H x xs v us Q I rx rxs h
  obtain ⟨a, ys, y, rfl, rfl, hs, fy, fys, q⟩ := h
  cases rx
  cases rxs with
  | cons ry rt =>
    rename_i uy ut
    cases rt
    obtain ⟨its, rv, ⟨⟨cls, dd, data, sl⟩, n, ho, hc, hdn, hd⟩, hlen⟩ := I.list hs
    simp only at hc hd
    subst hc hd
    refine call_meets PySem.F.slot_list_count ⟨_, ho, rfl⟩ PySem.F.entry_list_count (PySem.F.args_list_count_2 _ _)
      (SeqAt.list_countAt a its.toArray n dd sl uy (eqU y)) ⟨ho, fun u hu => mem_eqAt ry fy rv fys u (by simpa using hu), ?_⟩
    have ec : its.toArray.toList.countP (eqU y) = ys.countP fun z => eqV z y := countP_vals rv fys
    refine ⟨.int (ys.countP fun z => eqV z y : Nat), H, I.tok _, ⟨s.toks, ?_⟩, q⟩
    show Value.int ((its.toArray.toList.countP (eqU y) : Nat) : Int) s.toks = _
    rw [ec]
end XSp
/-! Own: the end of a law whose defs make lambdas and which is called where no repr runs. -/
namespace XG
open PySem PySem.Spec PyProof.Rows L2
/-- cs: code objects of defs with their tables, which are empty in h and stand outside K -/
structure Tabd (K : PySem.W.Frag) (cs : List (Addr × Addr)) (h : Heap) : Prop where
  hd : ∀ p ∈ cs, PySem.W.CodeHd h p.1 p.2
  no : ∀ p ∈ cs, h.get? p.2 = some (PySem.W.tabObj #[])
  out : ∀ p ∈ cs, K.lookup p.2 = none
section
variable {K : PySem.W.Frag} {cs : List (Addr × Addr)} {h : Heap}
theorem Tabd.mem (T : Tabd K cs h) {b : Addr} (m : b ∈ cs.map (·.2)) : h.get? b = some (PySem.W.tabObj #[]) ∧ K.lookup b = none := by
  obtain ⟨p, hp, rfl⟩ := List.mem_map.mp m
  exact ⟨T.no p hp, T.out p hp⟩
theorem Tabd.nil : Tabd K [] h := ⟨fun _ m => (List.not_mem_nil m).elim, fun _ m => (List.not_mem_nil m).elim, fun _ m => (List.not_mem_nil m).elim⟩
theorem Tabd.cons {c p : Addr} (T : Tabd K cs h) (h1 : PySem.W.CodeHd h c p) (h2 : h.get? p = some (PySem.W.tabObj #[])) (h3 : K.lookup p = none) : Tabd K ((c, p) :: cs) h :=
  ⟨fun _ m => (List.mem_cons.mp m).elim (fun e => by rw [e]; exact h1) (T.hd _), fun _ m => (List.mem_cons.mp m).elim (fun e => by rw [e]; exact h2) (T.no _), fun _ m => (List.mem_cons.mp m).elim (fun e => by rw [e]; exact h3) (T.out _)⟩
/-- what the walk may hold at the start: the empty tables, and the script at a -/
def Begun (K : PySem.W.Frag) (cs : List (Addr × Addr)) (a : Addr) (H : Hp) : Prop :=
  (∀ p ∈ cs, H p.2 = some (.tbl #[])) ∧ ∀ b u, H b = some u → (b ∈ cs.map (·.2) ∧ u = .tbl #[]) ∨ (b = a ∧ K.lookup a = none ∧ ∃ o xs, u = .frz o (.lst xs))
end
theorem end_tab {P : Program} {w : World} {K : PySem.W.Frag} {mg mb : Str → Option Value} {k : Nat} {fa a : Addr} {fd : FuncData} {x : Str} {sp : Sp} {z : Shared} {vs : List Value} {ns : List Int} {cs : List (Addr × Addr)}
    (KX : K.In z.heap) (hns : z.heap.Ns mainGlobals mg) (hb : z.heap.Ns builtinsNs mb) (hbb : ∀ x : Str, x ≠ "__name__" → mb x = bootBuiltins x) (hlim : z.heap.NoLimit) (hg : z.gens = #[]) (T : Tabd K cs z.heap)
    (hmod : ∃ (m : Addr) (ob : Obj), mg "__builtins__" = some (.ref m) ∧ m ≠ builtinsNs ∧ z.heap.get? m = some ob ∧ ob.cls = .type "module" ∧ ob.dict = some builtinsNs ∧ ob.data = .plain)
    (ha : z.heap.get? a = some { cls := .type "list", data := .seq vs.toArray }) (hi : IntsAre vs ns) (hl : ns.length ≤ sizeLine) (hr : Room k callerA)
    (F : ∀ base : Heap, K.In base → base.Ns mainGlobals mg → (∀ p ∈ cs, LamX.TabB base mg p.1 p.2) → FnG P w K mg base CX0 k fa fd [x] sp) (hbind : ∀ (s : Shared) (u : Value), BindsTo s fd ⟨[u], []⟩ [(x, u)])
    (hsp : ∀ H : Hp, (∀ p ∈ cs, H p.2 = some (.tbl #[])) → SqL K H a (ns.map V.int) → sp [.ref a] H (fun v _ => v = .bl true) fun _ _ _ => False) :
    codeAny (model P w) callerA (.call (.ref fa) ⟨[.ref a], []⟩) (fun r s' => r = .ok (.ret (.bool true)) ∧ OldK z.heap s'.heap ∧ s'.os = z.os ∧ AllBare s'.gens) z := by
  have aOut : a ∉ cs.map (·.2) := fun m => by
    have e := (T.mem m).1
    rw [ha] at e
    exact absurd (congrArg Obj.data (Option.some.inj e)) (fun y => by cases y)
  have go : ∀ H : Hp, Begun K cs a H → SqL K H a (ns.map V.int) → HOk P w H z.heap →
      codeAny (model P w) callerA (.call (.ref fa) ⟨[.ref a], []⟩) (fun r s' => r = .ok (.ret (.bool true)) ∧ OldK z.heap s'.heap ∧ s'.os = z.os ∧ AllBare s'.gens) z := by
    intro H hB hS hok
    obtain ⟨hT, hO⟩ := hB
    -- what is neither a list nor an empty table is not held
    have free : ∀ {b : Addr} {o : Obj}, z.heap.get? b = some o → (∀ us n, o.data ≠ .seq us n) → o.data ≠ .fields #[] → H b = none := fun {b o} e d1 d2 => by
      cases q : H b with
      | none => rfl
      | some u =>
        rcases hO b u q with ⟨m, _⟩ | ⟨rfl, _⟩
        · rw [(T.mem m).1] at e
          exact absurd (by rw [← Option.some.inj e]) d2
        · rw [ha] at e
          exact absurd (by rw [← Option.some.inj e]) (d1 vs.toArray 0)
    have keep : ∀ {b : Addr} {o : Obj}, z.heap.get? b = some o → (∀ us n, o.data ≠ .seq us n) → o.data ≠ .fields #[] → (hidT z.heap H).get? b = some o := fun e d1 d2 => hidT_get e (free e d1 d2)
    have nsO : ∀ {b : Addr} {m : Str → Option Value}, z.heap.Ns b m → (hidT z.heap H).Ns b m := fun {b m} n => by
      obtain ⟨o, es, ep, e, d, r⟩ := n
      exact ⟨o, es, ep, keep e (fun us n q => by rw [d] at q; cases q) (fun q => by rw [d] at q; cases q), d, r⟩
    have kb : K.In (hidT z.heap H) := fun b o e => by
      refine hidT_get (KX b o e) ?_
      cases q : H b with
      | none => rfl
      | some u =>
        rcases hO b u q with ⟨m, _⟩ | ⟨rfl, n, _⟩
        · rw [(T.mem m).2] at e; cases e
        · rw [n] at e; cases e
    obtain ⟨mc, c1, c2⟩ := hlim
    have M : Mod K mg (hidT z.heap H) := ⟨kb, nsO hns, ⟨mb, nsO hb, hbb⟩, mc, nsO c1, c2⟩
    have gN : ∀ p ∈ cs, mainGlobals ≠ p.2 := fun p hp e => by
      obtain ⟨o, es, ep, e1, d, _⟩ := hns
      rw [e, T.no p hp] at e1
      rw [← Option.some.inj e1] at d
      cases d
    have TB : ∀ p ∈ cs, LamX.TabB (hidT z.heap H) mg p.1 p.2 := fun p hp => by
      refine ⟨?_, ?_, gN p hp⟩
      · obtain ⟨o, us, q⟩ := T.hd p hp
        obtain ⟨fl, tf, fg, tg, inF, tx, tt, e1, r1, r2, r3, q⟩ := q
        refine ⟨o, us, fl, tf, fg, tg, inF, tx, tt, keep e1 (fun us n y => by rw [r2] at y; cases y) (fun y => ?_), r1, r2, r3, q⟩
        rw [r2] at y
        have y : us = #[] := by injection y
        rw [y] at r3
        simp at r3
      · obtain ⟨m, ob, b1, b2, b3, b4, b5, b6⟩ := hmod
        refine ⟨m, ob, b1, b2, fun e => ?_, fun e => ?_, keep b3 (fun us n y => by rw [b6] at y; cases y) (fun y => by rw [b6] at y; cases y), b4, b5, b6⟩
        · obtain ⟨o, es, ep, e1, d, _⟩ := hns
          rw [e, e1] at b3
          rw [Option.some.inj b3, b6] at d
          cases d
        · rw [e, T.no p hp] at b3
          rw [← Option.some.inj b3] at b6
          cases b6
    have e0 : Env0 P w K mg (hidT z.heap H) callerA [] z H := ⟨rfl, M, fun b o e => of_hidT e, Nat.le_of_eq (hidT_size _ _), trivial, fun b hb => absurd (show b ∈ ([] : List Addr) from hb) (by simp), hok, .of_eq hg⟩
    refine codeAny_mono ((F _ kb (nsO hns) TB).run callerA [] z H ⟨[.ref a], []⟩ [.ref a] [.ref a] _ _ rfl hr e0 (hbind z (.ref a)) (.cons rfl .nil) (hsp H hT hS)) fun r s' h => ?_
    cases r with
    | error e => exact h.elim
    | ok fl =>
      cases fl with
      | ret u =>
        obtain ⟨v, H', os, bare, un, hok', r', q⟩ := h
        obtain rfl : v = .bl true := q
        obtain rfl : u = Value.bool true := r'
        have same : ∀ b o, b ∉ cs.map (·.2) → z.heap.get? b = some o → s'.heap.get? b = some o := fun b o nb e => by
          cases q : H b with
          | none => exact un.keep b o e q (fun i => absurd (show b ∈ ([] : List Addr) from i) (by simp)) (by simp)
          | some u =>
            rcases hO b u q with ⟨m, _⟩ | ⟨_, _, ob, xs, rfl⟩
            · exact absurd m nb
            · have e1 := (hok b _ q).1
              rw [e] at e1
              rw [Option.some.inj e1]
              exact (hok' b _ (un.frzs b ob _ q)).1
        have more : ∀ p ∈ cs, ∃ ms : Array Value, s'.heap.get? p.2 = some (PySem.W.tabObj ms) := fun p hp => by
          obtain ⟨ms, y⟩ := un.tbls p.2 #[] (hT p hp)
          exact ⟨_, hok' p.2 _ y⟩
        refine ⟨rfl, ⟨fun b o e => ?_, fun b o e => ?_⟩, os, bare⟩
        · by_cases m : b ∈ cs.map (·.2)
          · obtain ⟨p, hp, rfl⟩ := List.mem_map.mp m
            obtain ⟨ms, y⟩ := more p hp
            obtain rfl := Option.some.inj (e.symm.trans (T.no p hp))
            exact .inr (.inl ⟨((T.hd p hp).tab (T.no p hp)).isCodeTable, rfl, #[], ms, rfl, by rw [Array.empty_append]; exact y⟩)
          · exact .inl (same b o m e)
        · by_cases m : b ∈ cs.map (·.2)
          · obtain ⟨p, hp, rfl⟩ := List.mem_map.mp m
            obtain ⟨ms, y⟩ := more p hp
            exact ⟨_, y⟩
          · exact ⟨o, same b o m e⟩
      | _ => exact False.elim h
  have rv := vals_ints hi
  have mT : ∀ p ∈ cs, p.2 ∈ cs.map (·.2) := fun p hp => List.mem_map.mpr ⟨p, hp, rfl⟩
  cases hk : K.lookup a with
  | some o =>
    have e := KX a o hk
    rw [ha] at e
    cases e
    refine go (fun b => if b ∈ cs.map (·.2) then some (.tbl #[]) else none) ⟨fun p hp => if_pos (mT p hp), fun b u q => ?_⟩ (.inr ⟨_, vs.toArray, _, hk, rfl, rfl, rfl, by rw [List.size_toArray, hi.length]; exact hl, by simpa using rv⟩) (fun b u q => ?_)
    · by_cases m : b ∈ cs.map (·.2)
      · exact .inl ⟨m, (Option.some.inj ((if_pos m).symm.trans q)).symm⟩
      · cases (if_neg m).symm.trans q
    · by_cases m : b ∈ cs.map (·.2)
      · rw [← Option.some.inj ((if_pos m).symm.trans q)]
        exact (T.mem m).1
      · cases (if_neg m).symm.trans q
  | none =>
    refine go (fun b => if b ∈ cs.map (·.2) then some (.tbl #[]) else if b = a then some (.frz { cls := .type "list", data := .seq vs.toArray } (.lst (ns.map V.int))) else none) ⟨fun p hp => if_pos (mT p hp), fun b u q => ?_⟩
      (.inl (.inr ⟨{ cls := .type "list", data := .seq vs.toArray }, (if_neg aOut).trans (if_pos rfl)⟩)) (fun b u q => ?_)
    · by_cases m : b ∈ cs.map (·.2)
      · exact .inl ⟨m, (Option.some.inj ((if_pos m).symm.trans q)).symm⟩
      · have q := (if_neg m).symm.trans q
        by_cases hb : b = a
        · have q := (if_pos hb).symm.trans q
          exact .inr ⟨hb, hk, _, _, (Option.some.inj q).symm⟩
        · cases (if_neg hb).symm.trans q
    · by_cases m : b ∈ cs.map (·.2)
      · rw [← Option.some.inj ((if_pos m).symm.trans q)]
        exact (T.mem m).1
      · have q := (if_neg m).symm.trans q
        by_cases hb : b = a
        · rw [← Option.some.inj ((if_pos hb).symm.trans q)]
          subst hb
          exact ⟨ha, by rw [List.length_map]; exact hl, vs, _, rv, ha⟩
        · cases (if_neg hb).symm.trans q
/-- the tables of the defs named xs -/
def tabsIn (K : PySem.W.Frag) : List Str → List (Addr × Addr) → Prop
  | [], [] => True
  | x :: xs, p :: ps => PySem.W.tabIn K x = some p ∧ tabsIn K xs ps
  | _, _ => False
theorem walk_tab {l : PySem.W.OpenLaw} {n k : Nat} {q : Program} {loose : List Str} {XP : (Str → Option Value) → Heap → Prop} {YP : World → Heap → Prop} {d : DefRec} {K : Params → PySem.W.Frag} {sp : World → List (Addr × Addr) → Sp} {x : Str} {xs : List Str}
    (hn : l.most = some n) (hn2 : n ≤ sizeLine) (hdf : d.params.defaults = []) (hr : Room k callerA) (hxs : ∀ y ∈ xs, ((recsOf q).find? (fun e => e.name == y)).isSome = true)
    (hY : ∀ (w : World) (h : Heap), YP w h → (K w.params).In h) (hK : ∀ w : World, PySem.W.noTabs (K w.params) = true)
    (F : ∀ (w : World) (mg : Str → Option Value) (fa : Addr) (h : Heap), (K w.params).In h → h.Ns mainGlobals mg → mg d.name = some (.ref fa) →
      ∃ (fd : FuncData) (cs : List (Addr × Addr)), tabsIn (K w.params) xs cs ∧ (∀ (s : Shared) (u : Value), BindsTo s fd ⟨[u], []⟩ [(x, u)]) ∧
        ∀ base : Heap, (K w.params).In base → base.Ns mainGlobals mg → (∀ p ∈ cs, LamX.TabB base mg p.1 p.2) → FnG l.prog w (K w.params) mg base CX0 k fa fd [x] (sp w cs))
    (hsp : ∀ (w : World) (cs : List (Addr × Addr)) (H : Hp) (a : Addr) (ns : List Int), ns.length ≤ n → (∀ z ∈ ns, Builtin.Int.intBits z ≤ 1048576) → (∀ p ∈ cs, H p.2 = some (.tbl #[])) → SqL (K w.params) H a (ns.map V.int) → sp w cs [.ref a] H (fun v _ => v = .bl true) fun _ _ _ => False) :
    PySem.W.WalkO q loose XP YP l.row.toRowW d [] (fun f vs => PySem.call f vs) := by
  refine Att.attach_callB hn hdf fun w s₀ s₁ mg mb fa o pm cd doc a vs ns G Y ho hd hcd hmg hobj hints hlen hbits hg => ?_
  have KX := hY w _ Y
  obtain ⟨fd, cs, ht, hb, hF⟩ := F w mg fa _ KX G.T.g hmg
  have T : Tabd (K w.params) cs s₁.heap := by
    have rec_ : ∀ (ys : List Str) (ps : List (Addr × Addr)), (∀ y ∈ ys, y ∈ xs) → tabsIn (K w.params) ys ps → Tabd (K w.params) ps s₁.heap := by
      intro ys
      induction ys with
      | nil =>
        intro ps _ e
        cases ps with
        | nil => exact Tabd.nil
        | cons p r => exact e.elim
      | cons y r ih =>
        intro ps m e
        cases ps with
        | nil => exact e.elim
        | cons p t =>
          obtain ⟨d', hd'⟩ := Option.isSome_iff_exists.mp (hxs y (m y List.mem_cons_self))
          have z := PySem.W.tab_of G.T KX hd' e.1
          refine (ih t (fun u hu => m u (List.mem_cons_of_mem _ hu)) e.2).cons z.1 z.2 ?_
          cases hk : (K w.params).lookup p.2 with
          | none => rfl
          | some o =>
            have e1 := KX _ _ hk
            rw [z.2] at e1
            have e2 := List.all_eq_true.mp (hK w) (p.2, o) (PySem.W.mem_of_lookupK hk)
            rw [← Option.some.inj e1] at e2
            exact absurd (show false = true from e2) Bool.false_ne_true
    exact rec_ xs cs (fun _ m => m) ht
  exact end_tab KX G.T.g G.T.b G.T.builtins G.T.nolimit hg T G.T.bmain hobj hints (Nat.le_trans hlen hn2) hr hF hb fun H hH hS => hsp w cs H a ns hlen hbits hH hS
end XG
/-! Own: values of any sort (none, bools, ints, texts, lists, tuples, dicts with flat members), kept apart from the drawer. -/
namespace XO2
open PySem PySem.Spec PyProof.Rows L2 Evl XB
def flatD : V → Option PyData
  | .non => some .none
  | .bl b => some (.bool b)
  | .int i => some (.int i)
  | .str x => some (.str x)
  | _ => none
def keyD : Key → PyData
  | .inl i => .int i
  | .inr x => .str x
/-- keys and flat members as data -/
inductive KvD : List (Key × V) → List (PyData × PyData) → Prop
  | nil : KvD [] []
  | cons {k : Key} {v : V} {d : PyData} {r : List (Key × V)} {ds : List (PyData × PyData)} : flatD v = some d → KvD r ds → KvD ((k, v) :: r) ((keyD k, d) :: ds)
theorem reads_flat {h : Heap} {v : V} {u : Value} {d : PyData} (e : flatD v = some d) (r : RelV v u) : Reads h u d [] := by
  cases v with
  | non => cases e; cases r; exact .none
  | bl b => cases e; cases r; exact .bool b
  | int i => cases e; obtain ⟨t, rfl⟩ := r; exact .int i t
  | str x => cases e; obtain ⟨t, rfl⟩ := r; exact .str x t
  | _ => cases e
theorem reads_key {h : Heap} {k : Key} {u : Value} (e : keyIs k u = true) : Reads h u (keyD k) [] := by
  rcases keyIs_shape e with ⟨i, t, rfl, rfl⟩ | ⟨x, t, rfl, rfl⟩
  · exact .int i t
  · exact .str x t
section
variable {X : Cx} {pins : List (Addr × Obj)} {σ : L2.St} {H : Hp} {s : Shared}
theorem kv_reads {h : Heap} {P : Program} {w : World} : ∀ {kvs : List (Key × V)} {ds : List (PyData × PyData)} {vs : List (Key × Value)} {es : List DictEntry}, KvD kvs ds → KV kvs vs → Pairs (mixKind P w) es vs →
    ReadsAll h (es.map (·.key)) (ds.map (·.1)) [] ∧ ReadsAll h (es.map (·.val)) (ds.map (·.2)) [] := by
  intro kvs ds vs es a
  induction a generalizing vs es with
  | nil =>
    intro b c
    cases b
    cases c
    exact ⟨.nil, .nil⟩
  | cons e r ih =>
    intro b c
    cases b with
    | cons hb b =>
      cases c with
      | cons h1 h2 c =>
        obtain ⟨z1, z2⟩ := ih b c
        have k := reads_key (h := h) (by have y := h1; rw [← hb.1] at y; exact y)
        have v := reads_flat (h := h) e hb.2
        rw [← h2] at v
        exact ⟨.cons k z1, .cons v z2⟩
theorem dict_reads {a : Addr} {kvs : List (Key × V)} {ds : List (PyData × PyData)} (I : Inv X pins σ H s) (h : H a = some (.dK kvs)) (g : KvD kvs ds) : ∃ as, Reads s.heap (.ref a) (.dict ds) as ∧ sysModules ∉ as := by
  obtain ⟨_, hd, vs, rel, o, es, ep, ho, hx, hdat, _, hp, _⟩ := dk_of I.hok h
  obtain ⟨z1, z2⟩ := kv_reads (h := s.heap) g rel hp
  refine ⟨_, .dict ho hx.1 hdat z1 z2, fun m => ?_⟩
  have m := List.mem_singleton.mp (show sysModules ∈ [a] from m)
  rw [m] at hd
  simp at hd
end
/-! ### texts whose signs are code points -/
def OkS (x : Str) : Prop := ∀ c ∈ x.cps.toList, c < 0x110000
theorem okS_ok {x : Str} (h : OkS x) : PyData.strOk x = true := by
  unfold PyData.strOk
  rw [← Array.all_toList, List.all_eq_true]
  exact fun c m => decide_eq_true (h c m)
theorem okS_app {x y : Str} (h : OkS x) (g : OkS y) : OkS (x ++ y) := fun c m => by
  have m : c ∈ (x.cps ++ y.cps).toList := m
  rw [Array.toList_append] at m
  exact (List.mem_append.mp m).elim (h c) (g c)
theorem okS_of (s : String) : OkS (Str.ofString s) := fun c m => by
  rw [Str.ofString_eq_toList] at m
  obtain ⟨k, _, rfl⟩ := List.mem_map.mp (show c ∈ s.toList.map Char.toNat by simpa using m)
  have v : k.val.toNat.isValidChar := k.valid
  show k.val.toNat < 0x110000
  rcases v with v | ⟨_, v⟩
  · omega
  · exact v
theorem okS_nil : OkS ⟨#[]⟩ := fun c m => by simp at m
theorem okC_repr {q c : Nat} (hc : c < 0x110000) : ∀ n ∈ Builtin.Str.reprChar q c, n < 0x110000 := by
  have hx : ∀ wd n, n ∈ List.replicate wd 48 ++ (Nat.toDigits 16 c).map Char.toNat → n < 0x110000 := fun wd n m => by
    rcases List.mem_append.mp m with m | m
    · rw [(List.mem_replicate.mp m).2]
      decide
    · obtain ⟨k, _, rfl⟩ := List.mem_map.mp m
      have v : k.val.toNat.isValidChar := k.valid
      show k.val.toNat < 0x110000
      rcases v with v | ⟨_, v⟩
      · omega
      · exact v
  intro n m
  unfold Builtin.Str.reprChar at m
  simp only at m
  split at m
  · simp only [List.mem_cons, List.not_mem_nil, or_false] at m
    rcases m with rfl | rfl
    · decide
    · exact hc
  split at m
  · simp only [List.mem_cons, List.not_mem_nil, or_false] at m
    rcases m with rfl | rfl <;> decide
  split at m
  · simp only [List.mem_cons, List.not_mem_nil, or_false] at m
    rcases m with rfl | rfl <;> decide
  split at m
  · simp only [List.mem_cons, List.not_mem_nil, or_false] at m
    rcases m with rfl | rfl <;> decide
  split at m
  · rw [List.mem_singleton.mp m]
    exact hc
  all_goals
    first
      | (split at m
         · rcases List.mem_append.mp m with m | m
           · simp only [List.mem_cons, List.not_mem_nil, or_false] at m
             rcases m with rfl | rfl <;> decide
           · exact hx _ _ m
         split at m
         · rcases List.mem_append.mp m with m | m
           · simp only [List.mem_cons, List.not_mem_nil, or_false] at m
             rcases m with rfl | rfl <;> decide
           · exact hx _ _ m
         · rcases List.mem_append.mp m with m | m
           · simp only [List.mem_cons, List.not_mem_nil, or_false] at m
             rcases m with rfl | rfl <;> decide
           · exact hx _ _ m)
theorem okS_repr {x : Str} (h : OkS x) : OkS (reprText x) := by
  have hq : reprQuote x < 0x110000 := by
    unfold reprQuote
    split <;> decide
  have go : ∀ (l : List Nat) (acc : Array Nat), (∀ c ∈ l, c < 0x110000) → (∀ c ∈ acc.toList, c < 0x110000) → ∀ c ∈ (l.foldl (fun out c => out ++ (Builtin.Str.reprChar (reprQuote x) c).toArray) acc).toList, c < 0x110000 := by
    intro l
    induction l with
    | nil => exact fun acc _ h2 => h2
    | cons a r ih =>
      intro acc h1 h2
      refine ih _ (fun c m => h1 c (List.mem_cons_of_mem _ m)) fun c m => ?_
      rw [Array.toList_append] at m
      rcases List.mem_append.mp m with m | m
      · exact h2 c m
      · exact okC_repr (h1 a List.mem_cons_self) c m
  intro c m
  have m : c ∈ ((x.cps.foldl (fun out c => out ++ (Builtin.Str.reprChar (reprQuote x) c).toArray) #[reprQuote x]).push (reprQuote x)).toList := m
  rw [Array.toList_push, ← Array.foldl_toList] at m
  rcases List.mem_append.mp m with m | m
  · exact go _ _ h (fun c m => by rw [List.mem_singleton.mp m]; exact hq) c m
  · rw [List.mem_singleton.mp m]
    exact hq
theorem okS_join {sep : Str} (hs : OkS sep) : ∀ {ts : List Str}, (∀ t ∈ ts, OkS t) → OkS (Str.join sep ts)
  | [], _ => okS_nil
  | [t], h => h t List.mem_cons_self
  | t :: u :: r, h => okS_app (okS_app (h t List.mem_cons_self) hs) (okS_join hs (ts := u :: r) fun y m => h y (List.mem_cons_of_mem _ m))
theorem okS_from : ∀ {ts : List Str} {k : Nat} {acc : Str}, OkS acc → (∀ t ∈ ts, OkS t) → OkS (textFrom k acc ts)
  | [], _, _, h, _ => h
  | t :: r, k, acc, h, g => okS_from (ts := r) (okS_app (okS_app h (okS_of _)) (g t List.mem_cons_self)) fun y m => g y (List.mem_cons_of_mem _ m)
mutual
def OkD : PyData → Prop
  | .none | .bool _ | .int _ => True
  | .str x => OkS x
  | .list xs | .tuple xs => OkDs xs
  | .dict kvs => OkKv kvs
def OkDs : List PyData → Prop
  | [] => True
  | x :: xs => OkD x ∧ OkDs xs
def OkKv : List (PyData × PyData) → Prop
  | [] => True
  | (k, v) :: r => OkD k ∧ OkD v ∧ OkKv r
end
mutual
theorem okS_shown : ∀ d : PyData, OkD d → OkS d.shown
  | .none, _ => okS_of "None"
  | .bool b, _ => by cases b <;> exact okS_of _
  | .int i, _ => okS_of (toString i)
  | .str x, h => okS_repr h
  | .list xs, h => okS_app (okS_from (okS_of "[") (okS_shownAll xs h)) (okS_of "]")
  | .tuple xs, h => okS_app (okS_app (okS_of "(") (okS_join (okS_of ", ") (okS_shownAll xs h))) (okS_of _)
  | .dict kvs, h => okS_app (okS_app (okS_of "{") (okS_join (okS_of ", ") (okS_shownKv kvs h))) (okS_of "}")
theorem okS_shownAll : ∀ xs : List PyData, OkDs xs → ∀ t ∈ PyData.shownAll xs, OkS t
  | [], _, _, m => (List.not_mem_nil m).elim
  | x :: xs, h, t, m => by
    rcases List.mem_cons.mp m with rfl | m
    · exact okS_shown x h.1
    · exact okS_shownAll xs h.2 t m
theorem okS_shownKv : ∀ xs : List (PyData × PyData), OkKv xs → ∀ t ∈ PyData.shownKv xs, OkS t
  | [], _, _, m => (List.not_mem_nil m).elim
  | (k, v) :: r, h, t, m => by
    rcases List.mem_cons.mp m with rfl | m
    · exact okS_app (okS_app (okS_shown k h.1) (okS_of ": ")) (okS_shown v h.2.1)
    · exact okS_shownKv r h.2.2 t m
end
/-- the text that repr gives for the value -/
def Shw (K : PySem.W.Frag) (H : Hp) (v : V) (z : Str) : Prop := ∃ d : PyData, z = d.shown ∧ d.showable = true ∧ d.depth ≤ 32 ∧ d.shown.length ≤ sizeLine ∧ OkD d ∧ ((d.hasDict = false ∧ Dp K H v d) ∨ ∃ a kvs ds, v = .ref a ∧ d = .dict ds ∧ H a = some (.dK kvs) ∧ KvD kvs ds)
def rReprQ (K : PySem.W.Frag) : List V → Hp → VK → Prop := fun xs H Q => ∃ v z, xs = [v] ∧ Shw K H v z ∧ Q (.str z) H
section
variable {X : Cx}
theorem call_reprQ (hc : XG.Calm X.A) (hu : X.A.units + 64 < cLine) : CallR X (.builtin "repr") (rReprQ X.K) := by
  intro pins s σ H xs us Q I r h
  obtain ⟨v, z, rfl, ⟨d, rfl, hs, hdp, hz, _, hk⟩, q⟩ := h
  rcases hk with ⟨hn, hd⟩ | ⟨a, kvs, ds, rfl, rfl, ha, hkv⟩
  · exact XG.call_repr hc hu pins s σ H [v] us Q I r ⟨v, d, rfl, hd, hs, hn, hdp, hz, q⟩
  · obtain ⟨u, rfl, ru⟩ := Vals.one r
    cases ru
    obtain ⟨as, rd, hm⟩ := dict_reads I ha hkv
    exact repr_of_reads' rd hs (fun _ => hm) hc (by omega) (fun _ _ z => z) (fun h' u tk hk => ⟨.str _, H, I.kept hk, ⟨u, rfl⟩, q⟩) hz
end
theorem shw_of {K : PySem.W.Frag} {H : Hp} {v : V} {d : PyData} (h : Dp K H v d) (h1 : d.showable = true) (h2 : d.hasDict = false) (h3 : d.depth ≤ 32) (h4 : d.shown.length ≤ sizeLine) (h5 : OkD d) : Shw K H v d.shown := ⟨d, rfl, h1, h3, h4, h5, .inl ⟨h2, h⟩⟩
theorem Shw.ok {K : PySem.W.Frag} {H : Hp} {v : V} {z : Str} (h : Shw K H v z) : OkS z := by
  obtain ⟨d, rfl, _, _, _, h, _⟩ := h
  exact okS_shown d h
end XO2
namespace T
open PySem PySem.Spec PyProof.Rows L2 Evl XB XSp LamX
def errN : List Str := ["InvalidKinds", "InvalidText", "InvalidEdit", "InvalidFirst", "InvalidChange", "InvalidArrival", "NotATable", "InvalidRows", "InvalidEdits", "UnknownName", "CannotDo"]
def basN : List Str := ["BadValue", "BadName", "NoAnswer"]
def basOf (j : Nat) : Nat := if j < 9 then 0 else if j = 9 then 1 else 2
/-- the errors that keep an index -/
def idxF (j : Nat) : Bool := j == 7 || j == 8
def fieldOf (j : Nat) : Str := if idxF j = true then "index" else "given"
/-- the classes of the errors, at c, their bases at b -/
structure ErrM (mg : Str → Option Value) (c b : Nat → Addr) : Prop where
  cls : ∀ (j : Nat) (n : Str), errN[j]? = some n → mg n = some (.ref (c j))
  bas : ∀ (j : Nat) (n : Str), basN[j]? = some n → mg n = some (.ref (b j))
structure BlE (mg : Str → Option Value) : Prop where
  isin : mg "isinstance" = none
  repr : mg "repr" = none
section
variable {K : PySem.W.Frag} {σ : L2.St} {H : Hp} {ta tb : TE} {a D C l : Addr} {cls : Value} {d : Option Addr} {fs : List (Str × V)} {bb : Bool} {v y : V} {ys zs : List V} {j : Nat} {f : Str}
theorem el_catV {xs : List V} {a : Addr} (ha : Ev ta σ H (.ref a)) (h : H a = some (.lst xs)) (hb : EvL tb σ H ys) (hz : xs.length + ys.length ≤ 100000) : EvL (tOp rCat ta tb) σ H (xs ++ ys) := fun H1 e Q q =>
  ha H1 e _ fun H2 e2 => hb H2 (e.trans e2) _ fun r H3 n3 e3 h3 =>
    ⟨a, r, xs, ys, rfl, rfl, e3 _ _ (e2 _ _ (e _ _ h)), h3, sz_of hz, fun l nl => q l _ (fresh_back (e2.trans e3) nl) ((e2.trans e3).trans (Ex.new nl)) upd_same⟩
theorem ev_ixN {xs : List V} {i : Int} (ha : EvL ta σ H xs) (hb : Ev tb σ H (.int i)) (hi : atI xs i = some v) : Ev (tOp (rIxL K) ta tb) σ H v := fun H1 e Q q =>
  ha H1 e _ fun p H2 n2 e2 h2 => hb H2 (e.trans e2) _ fun H3 e3 => rv_ixL (SqL.of (e3 _ _ h2)) hi H3 (Ex.refl _) _ fun H4 e4 => q H4 ((e2.trans e3).trans e4)
theorem ev_inN {xs : List V} {r : Bool} (ha : Ev ta σ H v) (hb : EvL tb σ H xs) (f1 : flatV v = true) (f2 : xs.all flatV = true) (hr : inV v xs = r) : Ev (tOp (rIn K false) ta tb) σ H (.bl r) := fun H1 e Q q =>
  ha H1 e _ fun H2 e2 => hb H2 (e.trans e2) _ fun p H3 n3 e3 h3 => ⟨p, xs, rfl, .inl (SqL.of h3), f1, f2, by subst hr; exact q H3 (e2.trans e3)⟩
theorem ev_reprV {z : Str} (ha : Ev ta σ H v) (dp : ∀ {H' : Hp}, Ex H H' → XO2.Shw K H' v z) : Ev (tCB (XO2.rReprQ K) (tCons ta tNil)) σ H (.str z) := fun H1 e Q q =>
  ha H1 e _ fun H2 e2 => ⟨v, z, rfl, dp (e.trans e2), q H2 e2⟩
theorem in78 : ∀ j : Nat, j < 11 → inV (.int (j : Nat)) [.int 7, .int 8] = idxF j
  | 0, _ | 1, _ | 2, _ | 3, _ | 4, _ | 5, _ | 6, _ | 7, _ | 8, _ | 9, _ | 10, _ => rfl
theorem bas_at : ∀ j, j < 11 → ([.int 0, .int 0, .int 0, .int 0, .int 0, .int 0, .int 0, .int 0, .int 0, .int 1, .int 2] : List V)[j]? = some (.int (basOf j : Nat))
  | 0, _ | 1, _ | 2, _ | 3, _ | 4, _ | 5, _ | 6, _ | 7, _ | 8, _ | 9, _ | 10, _ => rfl
theorem err_at : ∀ j, j < 11 → ([.str "InvalidKinds", .str "InvalidText", .str "InvalidEdit", .str "InvalidFirst", .str "InvalidChange", .str "InvalidArrival"] ++ [.str "NotATable", .str "InvalidRows", .str "InvalidEdits", .str "UnknownName", .str "CannotDo"] : List V)[j]? = some (.str (errN.getD j ""))
  | 0, _ | 1, _ | 2, _ | 3, _ | 4, _ | 5, _ | 6, _ | 7, _ | 8, _ | 9, _ | 10, _ => rfl
theorem held_ex {H' : Hp} (h : Held K cls d D fs H) (e : Ex H H') : Held K cls d D fs H' := by
  obtain ⟨h1, h2, dd, h3, h4⟩ := h
  exact ⟨h1, h2, dd, h3, e _ _ h4⟩
theorem ev_ask (h1 : Ev ta σ H (.ref a)) (hh : Held K cls d D fs H) (e : PySem.W.kitOne K (.ref D) (.ref C) = some bb) : Ev (tCB (rAsk K a cls d) (tCons ta (tCons (tC (.ref C)) tNil))) σ H (.bl bb) := fun H1 g Q q =>
  h1 H1 g _ fun H2 g2 => (show Ev (tC (.ref C)) σ H (.ref C) from ev_c) H2 (g.trans g2) _ fun H3 g3 => ⟨.ref C, .ref C, bb, D, fs, rfl, (fun u r => r), held_ex hh ((g.trans g2).trans g3), e, q H3 (g2.trans g3)⟩
theorem ev_of (h1 : Ev ta σ H (.ref a)) (hh : Held K cls d D fs H) (no : PySem.W.findIn K (.ref D) f = some none) (hv : fs.lookup f = some v) : Ev (tOf K a cls d f ta) σ H v := fun H1 g Q q =>
  h1 H1 g _ fun H2 g2 => ⟨rfl, D, fs, v, held_ex hh (g.trans g2), no, hv, q H2 g2⟩
theorem ev_cnt (h1 : Ev ta σ H (.ref l)) (hl : H l = some (.lst ys)) (h2 : Ev tb σ H y) (fy : flatV y = true) (fys : ys.all flatV = true) : Ev (tBM K "list" (rCntF K) ta (tCons tb tNil)) σ H (.int (ys.countP fun z => eqV z y : Nat)) := fun H1 g Q q =>
  h1 H1 g _ fun H2 g2 => ⟨.inl ⟨rfl, _, SqL.of ((g.trans g2) _ _ hl)⟩, h2 H2 (g.trans g2) _ fun H3 g3 => ⟨l, ys, y, rfl, rfl, SqL.of (((g.trans g2).trans g3) _ _ hl), fy, fys, q H3 (g2.trans g3)⟩⟩
theorem ev_lix {z : V} (h1 : Ev ta σ H (.ref l)) (hl : H l = some (.lst ys)) (h2 : Ev tb σ H y) (fy : flatV y = true) (fys : ys.all flatV = true) (hz : ys[j]? = some z) (ez : eqV z y = true) (no : ∀ (m : Nat) (z' : V), m < j → ys[m]? = some z' → eqV z' y = false) : Ev (tBM K "list" (rIndex K) ta (tCons tb tNil)) σ H (.int (j : Nat)) := fun H1 g Q q =>
  h1 H1 g _ fun H2 g2 => ⟨.inl ⟨rfl, _, SqL.of ((g.trans g2) _ _ hl)⟩, h2 H2 (g.trans g2) _ fun H3 g3 => ⟨l, ys, y, j, z, rfl, rfl, SqL.of (((g.trans g2).trans g3) _ _ hl), fy, fys, hz, ez, no, q H3 (g2.trans g3)⟩⟩
end
def tSuite (K : PySem.W.Frag) (c b : Nat → Addr) (a : Addr) (cls : Value) (d : Option Addr) : TS := (tSeq (tAsg (tLst (tCons (tCB (rAsk K a cls d) (tCons (tVar 1) (tCons (tC (V.ref (c 0))) tNil))) (tCons (tCB (rAsk K a cls d) (tCons (tVar 1) (tCons (tC (V.ref (c 1))) tNil))) (tCons (tCB (rAsk K a cls d) (tCons (tVar 1) (tCons (tC (V.ref (c 2))) tNil))) tNil)))) (gName 2)) (tSeq (tAsg (tOp rCat (tVar 2) (tLst (tCons (tCB (rAsk K a cls d) (tCons (tVar 1) (tCons (tC (V.ref (c 3))) tNil))) (tCons (tCB (rAsk K a cls d) (tCons (tVar 1) (tCons (tC (V.ref (c 4))) tNil))) (tCons (tCB (rAsk K a cls d) (tCons (tVar 1) (tCons (tC (V.ref (c 5))) tNil))) tNil))))) (gName 2)) (tSeq (tAsg (tOp rCat (tVar 2) (tLst (tCons (tCB (rAsk K a cls d) (tCons (tVar 1) (tCons (tC (V.ref (c 6))) tNil))) (tCons (tCB (rAsk K a cls d) (tCons (tVar 1) (tCons (tC (V.ref (c 7))) tNil))) (tCons (tCB (rAsk K a cls d) (tCons (tVar 1) (tCons (tC (V.ref (c 8))) tNil))) tNil))))) (gName 2)) (tSeq (tAsg (tOp rCat (tVar 2) (tLst (tCons (tCB (rAsk K a cls d) (tCons (tVar 1) (tCons (tC (V.ref (c 9))) tNil))) (tCons (tCB (rAsk K a cls d) (tCons (tVar 1) (tCons (tC (V.ref (c 10))) tNil))) tNil)))) (gName 2)) (tSeq (tAsg (tLst (tCons (tCB (rAsk K a cls d) (tCons (tVar 1) (tCons (tC (V.ref (b 0))) tNil))) (tCons (tCB (rAsk K a cls d) (tCons (tVar 1) (tCons (tC (V.ref (b 1))) tNil))) (tCons (tCB (rAsk K a cls d) (tCons (tVar 1) (tCons (tC (V.ref (b 2))) tNil))) tNil)))) (gName 3)) (tSeq (tIfS (tOr (tTest (tOp rNe (tBM K "list" (rCntF K) (tVar 2) (tCons (tC (V.bl true)) tNil)) (tC (V.int 1)))) (tTest (tOp rNe (tBM K "list" (rCntF K) (tVar 3) (tCons (tC (V.bl true)) tNil)) (tC (V.int 1))))) (tRet (tLst (tCons (tC (V.str (Str.ofString "another class"))) tNil))) tNext) (tSeq (tAsg (tBM K "list" (rIndex K) (tVar 2) (tCons (tC (V.bl true)) tNil)) (gName 4)) (tSeq (tIfS (tTest (tOp rNe (tBM K "list" (rIndex K) (tVar 3) (tCons (tC (V.bl true)) tNil)) (tOp (rIxL K) (tLst (tCons (tC (V.int 0)) (tCons (tC (V.int 0)) (tCons (tC (V.int 0)) (tCons (tC (V.int 0)) (tCons (tC (V.int 0)) (tCons (tC (V.int 0)) (tCons (tC (V.int 0)) (tCons (tC (V.int 0)) (tCons (tC (V.int 0)) (tCons (tC (V.int 1)) (tCons (tC (V.int 2)) tNil)))))))))))) (tVar 4)))) (tRet (tLst (tCons (tC (V.str (Str.ofString "another base"))) tNil))) tNext) (tSeq (tAsg (tLst (tCons (tC (V.str (Str.ofString "InvalidKinds"))) (tCons (tC (V.str (Str.ofString "InvalidText"))) (tCons (tC (V.str (Str.ofString "InvalidEdit"))) (tCons (tC (V.str (Str.ofString "InvalidFirst"))) (tCons (tC (V.str (Str.ofString "InvalidChange"))) (tCons (tC (V.str (Str.ofString "InvalidArrival"))) tNil))))))) (gName 5)) (tSeq (tAsg (tOp rCat (tVar 5) (tLst (tCons (tC (V.str (Str.ofString "NotATable"))) (tCons (tC (V.str (Str.ofString "InvalidRows"))) (tCons (tC (V.str (Str.ofString "InvalidEdits"))) (tCons (tC (V.str (Str.ofString "UnknownName"))) (tCons (tC (V.str (Str.ofString "CannotDo"))) tNil))))))) (gName 5)) (tRet (tLst (tCons (tOp (rIxL K) (tVar 5) (tVar 4)) (tCons (tIf (tTest (tOp (rIn K false) (tVar 4) (tLst (tCons (tC (V.int 7)) (tCons (tC (V.int 8)) tNil))))) (tCB (XO2.rReprQ K) (tCons (tOf K a cls d (Str.ofString "index") (tVar 1)) tNil)) (tCB (XO2.rReprQ K) (tCons (tOf K a cls d (Str.ofString "given") (tVar 1)) tNil))) tNil))))))))))))))
def bl11 (j : Nat) : List V := [.bl (decide (0 = j)), .bl (decide (1 = j)), .bl (decide (2 = j)), .bl (decide (3 = j)), .bl (decide (4 = j)), .bl (decide (5 = j)), .bl (decide (6 = j)), .bl (decide (7 = j)), .bl (decide (8 = j)), .bl (decide (9 = j)), .bl (decide (10 = j))]
def bl3 (j : Nat) : List V := [.bl (decide (0 = basOf j)), .bl (decide (1 = basOf j)), .bl (decide (2 = basOf j))]
theorem bl11_at (j : Nat) : ∀ m, m < 11 → (bl11 j)[m]? = some (.bl (decide (m = j)))
  | 0, _ | 1, _ | 2, _ | 3, _ | 4, _ | 5, _ | 6, _ | 7, _ | 8, _ | 9, _ | 10, _ => rfl
theorem bl3_at (j : Nat) : ∀ m, m < 3 → (bl3 j)[m]? = some (.bl (decide (m = basOf j)))
  | 0, _ | 1, _ | 2, _ => rfl
theorem bl_facts : ∀ j, j < 11 → ((bl11 j).countP fun z => eqV z (.bl true)) = 1 ∧ ((bl3 j).countP fun z => eqV z (.bl true)) = 1 ∧ (bl11 j)[j]? = some (.bl true) ∧ (bl3 j)[basOf j]? = some (.bl true) ∧ (bl11 j).all flatV = true ∧ (bl3 j).all flatV = true ∧
    (∀ m z', m < j → (bl11 j)[m]? = some z' → eqV z' (.bl true) = false) ∧ (∀ m z', m < basOf j → (bl3 j)[m]? = some z' → eqV z' (.bl true) = false) := by
  have no : ∀ {b : Bool}, b = false → eqV (.bl b) (.bl true) = false := fun h => by rw [h]; rfl
  intro j hj
  match j, hj with
  | 0, _ | 1, _ | 2, _ | 3, _ | 4, _ | 5, _ | 6, _ | 7, _ | 8, _ | 9, _ | 10, _ => exact ⟨rfl, rfl, rfl, rfl, rfl, rfl, fun m z' hm hz => by rw [bl11_at _ m (by omega)] at hz; cases hz; exact no (decide_eq_false (by omega)), fun m z' hm hz => by rw [bl3_at _ m (by unfold basOf at hm; simp at hm <;> omega)] at hz; cases hz; exact no (decide_eq_false (by omega))⟩
/-- what the class at D says of itself: it is the j-th error -/
structure ErrF (K : PySem.W.Frag) (c b : Nat → Addr) (D : Addr) (j : Nat) : Prop where
  no : PySem.W.findIn K (.ref D) (fieldOf j) = some none
  ex : PySem.W.exmAny K (.ref D) [.ref (b 0), .ref (b 1), .ref (b 2)] = some true
  kc : ∀ i, i < 11 → PySem.W.kitOne K (.ref D) (.ref (c i)) = some (decide (i = j))
  kb : ∀ i, i < 3 → PySem.W.kitOne K (.ref D) (.ref (b i)) = some (decide (i = basOf j))
/-- what comes of the reading of the lambda -/
def TCaught (K : PySem.W.Frag) (c b : Nat → Addr) : (XK → Hp → VK → Prop) → Hp → VK → Prop := fun tl H Q =>
  tl (fun cls d H' => ∃ (D : Addr) (j : Nat) (v : V) (z : Str), j < 11 ∧ Held K cls d D [(fieldOf j, v)] H' ∧ ErrF K c b D j ∧ (∀ H2, Ex H' H2 → XO2.Shw K H2 v z) ∧ ∀ l H'', Ex H' H'' → H'' l = some (.lst [.str (errN.getD j ""), .str z]) → Q (.ref l) H'')
    H fun _ H' => tLst tNil [] H' Q
theorem caught_gives {X : Cx} {c b : Nat → Addr} {g : Addr} {cdg : Value} {q : Str} (M : ErrM X.mg c b) (B : BlE X.mg) (hc : XG.Calm X.A) (hr : Room 2 X.A) :
    GivesTo X N__law_caught "_law_caught" (defScope s__law_caught) g cdg (defBody s__law_caught) "act" q (TCaught X.K c b) := by
  intro f c' s H Q tl act hco h
  have huS : X.A.units + 3 + 64 < cLine := by have := hr.un; omega
  refine' ⟨_, pss_cons (ps_try_tup3 (X := (cxOf C8.CX0 X.prog X.w X.K X.mg X.base N__law_caught "_law_caught" (defScope s__law_caught) g cdg X.A X.stack s H C8.E0).nox)
      (tb := fun W D σ H => ∃ Ech : XK, (∀ cls d σ' H', Ech cls d H' → W cls d σ' H') ∧ σ[0]? = some (some (.ref f)) ∧ H c' = some (CodeO c' q) ∧ tl Ech H fun _ H' => D.nx σ H')
      (i := 1) (ts := tSuite X.K c b) rfl rfl sc__law_caught.nd rfl rfl ⟨rfl, by decide, .inl (M.bas 0 "BadValue" rfl)⟩ ⟨rfl, by decide, .inl (M.bas 1 "BadName" rfl)⟩ ⟨rfl, by decide, .inl (M.bas 2 "NoAnswer" rfl)⟩ LamX.takes0 ?body ?suite)
      ?ret, ?sem⟩

  case suite =>
    intro a oe cls d pn hz hf
    exact pss_cons (ps_set (i := 2) sc__law_caught.nd rfl (.inl rfl) (pe_lst (pa_cons (pe_callB (XSp.call_ask hz hf) (by rfl) B.isin (by decide +kernel) (pa_cons (pv 1) (pa_cons (pe_glob (v := .ref (c 0)) (by rfl) (M.cls 0 "InvalidKinds" (by rfl)) rfl) pa_nil))) (pa_cons (pe_callB (XSp.call_ask hz hf) (by rfl) B.isin (by decide +kernel) (pa_cons (pv 1) (pa_cons (pe_glob (v := .ref (c 1)) (by rfl) (M.cls 1 "InvalidText" (by rfl)) rfl) pa_nil))) (pa_cons (pe_callB (XSp.call_ask hz hf) (by rfl) B.isin (by decide +kernel) (pa_cons (pv 1) (pa_cons (pe_glob (v := .ref (c 2)) (by rfl) (M.cls 2 "InvalidEdit" (by rfl)) rfl) pa_nil))) pa_nil)))))
      (pss_cons (ps_set (i := 2) sc__law_caught.nd rfl (.inl rfl) (pe_op op_cat (pv 2) (pe_lst (pa_cons (pe_callB (XSp.call_ask hz hf) (by rfl) B.isin (by decide +kernel) (pa_cons (pv 1) (pa_cons (pe_glob (v := .ref (c 3)) (by rfl) (M.cls 3 "InvalidFirst" (by rfl)) rfl) pa_nil))) (pa_cons (pe_callB (XSp.call_ask hz hf) (by rfl) B.isin (by decide +kernel) (pa_cons (pv 1) (pa_cons (pe_glob (v := .ref (c 4)) (by rfl) (M.cls 4 "InvalidChange" (by rfl)) rfl) pa_nil))) (pa_cons (pe_callB (XSp.call_ask hz hf) (by rfl) B.isin (by decide +kernel) (pa_cons (pv 1) (pa_cons (pe_glob (v := .ref (c 5)) (by rfl) (M.cls 5 "InvalidArrival" (by rfl)) rfl) pa_nil))) pa_nil))))))
      (pss_cons (ps_set (i := 2) sc__law_caught.nd rfl (.inl rfl) (pe_op op_cat (pv 2) (pe_lst (pa_cons (pe_callB (XSp.call_ask hz hf) (by rfl) B.isin (by decide +kernel) (pa_cons (pv 1) (pa_cons (pe_glob (v := .ref (c 6)) (by rfl) (M.cls 6 "NotATable" (by rfl)) rfl) pa_nil))) (pa_cons (pe_callB (XSp.call_ask hz hf) (by rfl) B.isin (by decide +kernel) (pa_cons (pv 1) (pa_cons (pe_glob (v := .ref (c 7)) (by rfl) (M.cls 7 "InvalidRows" (by rfl)) rfl) pa_nil))) (pa_cons (pe_callB (XSp.call_ask hz hf) (by rfl) B.isin (by decide +kernel) (pa_cons (pv 1) (pa_cons (pe_glob (v := .ref (c 8)) (by rfl) (M.cls 8 "InvalidEdits" (by rfl)) rfl) pa_nil))) pa_nil))))))
      (pss_cons (ps_set (i := 2) sc__law_caught.nd rfl (.inl rfl) (pe_op op_cat (pv 2) (pe_lst (pa_cons (pe_callB (XSp.call_ask hz hf) (by rfl) B.isin (by decide +kernel) (pa_cons (pv 1) (pa_cons (pe_glob (v := .ref (c 9)) (by rfl) (M.cls 9 "UnknownName" (by rfl)) rfl) pa_nil))) (pa_cons (pe_callB (XSp.call_ask hz hf) (by rfl) B.isin (by decide +kernel) (pa_cons (pv 1) (pa_cons (pe_glob (v := .ref (c 10)) (by rfl) (M.cls 10 "CannotDo" (by rfl)) rfl) pa_nil))) pa_nil)))))
      (pss_cons (ps_set (i := 3) sc__law_caught.nd rfl (.inl rfl) (pe_lst (pa_cons (pe_callB (XSp.call_ask hz hf) (by rfl) B.isin (by decide +kernel) (pa_cons (pv 1) (pa_cons (pe_glob (v := .ref (b 0)) (by rfl) (M.bas 0 "BadValue" (by rfl)) rfl) pa_nil))) (pa_cons (pe_callB (XSp.call_ask hz hf) (by rfl) B.isin (by decide +kernel) (pa_cons (pv 1) (pa_cons (pe_glob (v := .ref (b 1)) (by rfl) (M.bas 1 "BadName" (by rfl)) rfl) pa_nil))) (pa_cons (pe_callB (XSp.call_ask hz hf) (by rfl) B.isin (by decide +kernel) (pa_cons (pv 1) (pa_cons (pe_glob (v := .ref (b 2)) (by rfl) (M.bas 2 "NoAnswer" (by rfl)) rfl) pa_nil))) pa_nil)))))
      (pss_cons (ps_if (PW.pt (by exact (pw_or (pt_cmpR op_ne (pe_bm PySem.F.plainAttrs_list PySem.F.slot_list_count PySem.F.type_list_count XSp.mt_cntF (pv 2) (pa_cons pe_bl pa_nil)) pe_int (nomark _)) (pw_or1 (pt_cmpR op_ne (pe_bm PySem.F.plainAttrs_list PySem.F.slot_list_count PySem.F.type_list_count XSp.mt_cntF (pv 3) (pa_cons pe_bl pa_nil)) pe_int (nomark _)))))) (pss_one (ps_ret (pe_lst (pa_cons pe_str pa_nil)))) pss_nil)
      (pss_cons (ps_set (i := 4) sc__law_caught.nd rfl (.inl rfl) (pe_bm PySem.F.plainAttrs_list PySem.F.slot_list_index PySem.F.type_list_index mt_index (pv 2) (pa_cons pe_bl pa_nil)))
      (pss_cons (ps_if (pt_cmpR op_ne (pe_bm PySem.F.plainAttrs_list PySem.F.slot_list_index PySem.F.type_list_index mt_index (pv 3) (pa_cons pe_bl pa_nil)) (pe_ix ix_list (pe_lst (pa_cons pe_int (pa_cons pe_int (pa_cons pe_int (pa_cons pe_int (pa_cons pe_int (pa_cons pe_int (pa_cons pe_int (pa_cons pe_int (pa_cons pe_int (pa_cons pe_int (pa_cons pe_int pa_nil)))))))))))) (pv 4) (fun _ _ => rfl)) (nomark _)) (pss_one (ps_ret (pe_lst (pa_cons pe_str pa_nil)))) pss_nil)
      (pss_cons (ps_set (i := 5) sc__law_caught.nd rfl (.inl rfl) (pe_lst (pa_cons pe_str (pa_cons pe_str (pa_cons pe_str (pa_cons pe_str (pa_cons pe_str (pa_cons pe_str pa_nil))))))))
      (pss_cons (ps_set (i := 5) sc__law_caught.nd rfl (.inl rfl) (pe_op op_cat (pv 5) (pe_lst (pa_cons pe_str (pa_cons pe_str (pa_cons pe_str (pa_cons pe_str (pa_cons pe_str pa_nil))))))))
      (pss_one (ps_ret (pe_lst (pa_cons (pe_ix ix_list (pv 5) (pv 4) (fun _ _ => rfl)) (pa_cons (pe_ifExp (pt_cmpR op_in_seq (pv 4) (pe_lst (pa_cons pe_int (pa_cons pe_int pa_nil))) (by rfl)) (pe_callB (XO2.call_reprQ (by exact hc) (by exact huS)) (by rfl) B.repr (by decide +kernel) (pa_cons (XSp.pe_of (f := "index") hz hf (pv 1) (by rfl)) pa_nil)) (pe_callB (XO2.call_reprQ (by exact hc) (by exact huS)) (by rfl) B.repr (by decide +kernel) (pa_cons (XSp.pe_of (f := "given") hz hf (pv 1) (by rfl)) pa_nil))) pa_nil))))))))))))))
  case ret => exact pss_one (ps_ret (pe_lst pa_nil))
  case body =>
    intro W pn xe tk _
    exact ⟨fun pins s' σ H' D I ⟨Ech, hW, h1, h2, h3⟩ => (pss_one (ps_expr (act W pn xe Ech _ _ tk hW))).run pins s' σ H' D I ⟨h1, h2, h3⟩⟩
  case sem =>
    refine ⟨fun cls d H' => ∃ (D : Addr) (j : Nat) (v : V) (z : Str), j < 11 ∧ Held X.K cls d D [(fieldOf j, v)] H' ∧ ErrF X.K c b D j ∧ (∀ H2, Ex H' H2 → XO2.Shw X.K H2 v z) ∧ ∀ l H'', Ex H' H'' → H'' l = some (.lst [.str (errN.getD j ""), .str z]) → Q (.ref l) H'', ?_, rfl, hco, ?_⟩
    · rintro cls d σ' H' ⟨D, j, v, z, hj, hh, ⟨no, ex, kc, kb⟩, dp, q⟩
      have hcls := hh.1
      refine ⟨true, by rw [hcls]; exact ex, fun _ a na hl => ?_, fun z => by cases z⟩
      obtain ⟨s0, s1, s2, s3, s4, s5, rfl⟩ : ∃ s0 s1 s2 s3 s4 s5, σ' = [s0, s1, s2, s3, s4, s5] := by
        match σ', hl with
        | [s0, s1, s2, s3, s4, s5], _ => exact ⟨_, _, _, _, _, _, rfl⟩
      have kA : ∀ {i : Nat} {G : Hp} {σ : L2.St}, i < 11 → Ex H' G → σ[1]? = some (some (.ref a)) → Ev (tCB (rAsk X.K a cls d) (tCons (tVar 1) (tCons (tC (.ref (c i))) tNil))) σ G (.bl (decide (i = j))) := fun hi e h1 => ev_ask (ev_var h1) (held_ex hh e) (kc _ hi)
      have kB : ∀ {i : Nat} {G : Hp} {σ : L2.St}, i < 3 → Ex H' G → σ[1]? = some (some (.ref a)) → Ev (tCB (rAsk X.K a cls d) (tCons (tVar 1) (tCons (tC (.ref (b i))) tNil))) σ G (.bl (decide (i = basOf j))) := fun hi e h1 => ev_ask (ev_var h1) (held_ex hh e) (kb _ hi)
      unfold tSuite
      refine q_asgL (xs := [.bl (decide (0 = j)), .bl (decide (1 = j)), .bl (decide (2 = j))]) (el_lst (ea_cons (kA (by decide) (Ex.refl _) rfl) (ea_cons (kA (by decide) (Ex.refl _) rfl) (ea_cons (kA (by decide) (Ex.refl _) rfl) ea_nil))) (by show 3 ≤ 100000; decide)) fun p1 G1 n1 e1 h1 => ?_
      refine q_asgL (xs := [.bl (decide (0 = j)), .bl (decide (1 = j)), .bl (decide (2 = j))] ++ [.bl (decide (3 = j)), .bl (decide (4 = j)), .bl (decide (5 = j))]) (el_catV (ev_var rfl) h1 (el_lst (ea_cons (kA (by decide) e1 rfl) (ea_cons (kA (by decide) e1 rfl) (ea_cons (kA (by decide) e1 rfl) ea_nil))) (by show 3 ≤ 100000; decide)) (by show 3 + 3 ≤ 100000; decide)) fun p2 G2 n2 e2 h2 => ?_
      have e12 := e1.trans e2
      refine q_asgL (xs := ([.bl (decide (0 = j)), .bl (decide (1 = j)), .bl (decide (2 = j))] ++ [.bl (decide (3 = j)), .bl (decide (4 = j)), .bl (decide (5 = j))]) ++ [.bl (decide (6 = j)), .bl (decide (7 = j)), .bl (decide (8 = j))]) (el_catV (ev_var rfl) h2 (el_lst (ea_cons (kA (by decide) e12 rfl) (ea_cons (kA (by decide) e12 rfl) (ea_cons (kA (by decide) e12 rfl) ea_nil))) (by show 3 ≤ 100000; decide)) (by show 6 + 3 ≤ 100000; decide)) fun p3 G3 n3 e3 h3 => ?_
      have e13 := e12.trans e3
      refine q_asgL (xs := (([.bl (decide (0 = j)), .bl (decide (1 = j)), .bl (decide (2 = j))] ++ [.bl (decide (3 = j)), .bl (decide (4 = j)), .bl (decide (5 = j))]) ++ [.bl (decide (6 = j)), .bl (decide (7 = j)), .bl (decide (8 = j))]) ++ [.bl (decide (9 = j)), .bl (decide (10 = j))]) (el_catV (ev_var rfl) h3 (el_lst (ea_cons (kA (by decide) e13 rfl) (ea_cons (kA (by decide) e13 rfl) ea_nil)) (by show 2 ≤ 100000; decide)) (by show 9 + 2 ≤ 100000; decide)) fun p4 G4 n4 e4 h4 => ?_
      have e14 := e13.trans e4
      refine q_asgL (xs := [.bl (decide (0 = basOf j)), .bl (decide (1 = basOf j)), .bl (decide (2 = basOf j))]) (el_lst (ea_cons (kB (by decide) e14 rfl) (ea_cons (kB (by decide) e14 rfl) (ea_cons (kB (by decide) e14 rfl) ea_nil))) (by show 3 ≤ 100000; decide)) fun p5 G5 n5 e5 h5 => ?_
      have e15 := e14.trans e5
      have hA : G5 p4 = some (.lst (bl11 j)) := e5 _ _ h4
      have hB : G5 p5 = some (.lst (bl3 j)) := h5
      obtain ⟨f1, f2, f3, f4, f5, f6, f7, f8⟩ := bl_facts j hj
      refine q_when (b := false) (et_is (et_or (et_test (ev_op (ev_cnt (ev_var rfl) hA ev_c rfl f5) ev_c (rv_ne rfl))) (fun _ => et_test (ev_op (ev_cnt (ev_var rfl) hB ev_c rfl f6) ev_c (rv_ne rfl)))) (by rw [f1, f2]; rfl)) (fun z => by cases z) (fun _ G6 e6 => ?_)
      have e16 := e15.trans e6
      refine q_asg (v := .int (j : Nat)) (ev_lix (ev_var rfl) (e6 _ _ hA) ev_c rfl f5 f3 rfl f7) fun G7 e7 => ?_
      have e17 := e16.trans e7
      refine q_when (b := false) (et_is (et_test (ev_op (ev_lix (j := basOf j) (ev_var rfl) ((e6.trans e7) _ _ hB) ev_c rfl f6 f4 rfl f8) (ev_ixN (v := .int (basOf j : Nat)) (el_lst (vs := [.int 0, .int 0, .int 0, .int 0, .int 0, .int 0, .int 0, .int 0, .int 0, .int 1, .int 2]) (ea_cons ev_c (ea_cons ev_c (ea_cons ev_c (ea_cons ev_c (ea_cons ev_c (ea_cons ev_c (ea_cons ev_c (ea_cons ev_c (ea_cons ev_c (ea_cons ev_c (ea_cons ev_c ea_nil))))))))))) (by show 11 ≤ 100000; decide)) (ev_var rfl) (atI_nat (bas_at j hj))) (rv_ne rfl))) (by rw [decide_eq_true rfl]; rfl)) (fun z => by cases z) (fun _ G8 e8 => ?_)
      have e18 := e17.trans e8
      refine q_asgL (xs := [.str "InvalidKinds", .str "InvalidText", .str "InvalidEdit", .str "InvalidFirst", .str "InvalidChange", .str "InvalidArrival"]) (el_lst (ea_cons ev_c (ea_cons ev_c (ea_cons ev_c (ea_cons ev_c (ea_cons ev_c (ea_cons ev_c ea_nil)))))) (by show 6 ≤ 100000; decide)) fun p9 G9 n9 e9 h9 => ?_
      refine q_asgL (xs := [.str "InvalidKinds", .str "InvalidText", .str "InvalidEdit", .str "InvalidFirst", .str "InvalidChange", .str "InvalidArrival"] ++ [.str "NotATable", .str "InvalidRows", .str "InvalidEdits", .str "UnknownName", .str "CannotDo"]) (el_catV (ev_var rfl) h9 (el_lst (ea_cons ev_c (ea_cons ev_c (ea_cons ev_c (ea_cons ev_c (ea_cons ev_c ea_nil))))) (by show 5 ≤ 100000; decide)) (by show 6 + 5 ≤ 100000; decide)) fun pw Gw nw ew hw => ?_
      have e1w := (e18.trans e9).trans ew
      refine (el_lst (vs := [.str (errN.getD j ""), .str z]) (ea_cons (ev_op (ev_var rfl) (ev_var rfl) (rv_ixL (SqL.of hw) (atI_nat (err_at j hj)))) (ea_cons (ev_if (b := idxF j) (et_test (ev_inN (v := .int (j : Nat)) (xs := [.int 7, .int 8]) (ev_var rfl) (el_lst (ea_cons ev_c (ea_cons ev_c ea_nil)) (by show 2 ≤ 100000; decide)) rfl rfl (in78 j hj)))
        (fun y => ev_reprV (ev_of (f := "index") (ev_var rfl) (held_ex hh e1w) (by unfold fieldOf at no; rw [if_pos y] at no; exact no) (by unfold fieldOf; rw [if_pos y]; rfl)) (fun e => dp _ (e1w.trans e))) (fun y => ev_reprV (ev_of (f := "given") (ev_var rfl) (held_ex hh e1w) (by unfold fieldOf at no; rw [if_neg (by rw [y]; decide)] at no; exact no) (by unfold fieldOf; rw [if_neg (by rw [y]; decide)]; rfl)) (fun e => dp _ (e1w.trans e)))) ea_nil)) (by show 2 ≤ 100000; decide)) Gw (Ex.refl _) _ fun l G' n' e' h' => q l G' (e1w.trans e') h'
    · exact h
end T
/-! Own: defs whose code object is told, heaps in which tables of code objects may grow. -/
namespace XB
open PySem PySem.Spec PyProof.Rows L2 Evl LamX
/-- the def st under its name x, its code object cd told -/
structure AtV (K : PySem.W.Frag) (mg : Str → Option Value) (x : Str) (st : Stmt) (ps : List Str) (cd : Value) : Prop where
  ex : ∃ (f : Addr) (oc kV doc pm ct : Value) (od an : Option Addr) (osl : Array (Option Value)), K.lookup f = some ⟨oc, od, .func (PySem.W.fnOf x x (defArgs st) (defBody st) (defScope st) .none kV doc pm an cd ct), osl⟩ ∧
    PySem.W.codeIn K cd x = true ∧ PySem.W.keepIn K (.ref f) = true ∧ mg x = some (.ref f) ∧ Binds K (PySem.W.fnOf x x (defArgs st) (defBody st) (defScope st) .none kV doc pm an cd ct) ps []
theorem atV_mk {K : PySem.W.Frag} {h : Heap} {mg : Str → Option Value} {x : Str} {st : Stmt} {ps : List Str} {f : Addr} {oc : Value} {od an : Option Addr} {osl : Array (Option Value)} {kV doc pm cdv ct : Value} (X : K.In h) (G : h.Ns mainGlobals mg)
    (a : PySem.W.nsIn K mainGlobals x = some (some (.ref f))) (l : K.lookup f = some ⟨oc, od, .func (PySem.W.fnOf x x (defArgs st) (defBody st) (defScope st) .none kV doc pm an cdv ct), osl⟩) (c : PySem.W.codeIn K cdv x = true) (k : PySem.W.keepIn K (.ref f) = true)
    (hb : ∀ (kV doc pm : Value) (an : Option Addr) (cdv ct : Value) (us : List Value), us.length = ps.length → bindArgs (PySem.W.fnOf x x (defArgs st) (defBody st) (defScope st) .none kV doc pm an cdv ct) ⟨us, []⟩ = pure (ps.zip us)) : AtV K mg x st ps cdv := by
  have F := fun_mk (st := st) l c k
  exact ⟨f, oc, kV, doc, pm, ct, od, an, osl, l, c, k, PySem.W.mg_of X G a, F.binds hb⟩
/-- the code object is the one that the table of x is told by -/
theorem cd_of {K : PySem.W.Frag} {x : Str} {f c P : Addr} {oc : Value} {od : Option Addr} {fd : FuncData} {osl : Array (Option Value)} (a : PySem.W.nsIn K mainGlobals x = some (some (.ref f))) (l : K.lookup f = some ⟨oc, od, .func fd, osl⟩) (t : PySem.W.tabIn K x = some (c, P)) : fd.code = .ref c := by
  unfold PySem.W.tabIn at t
  rw [a] at t
  simp only at t
  rw [l] at t
  simp only at t
  split at t
  · rename_i c2 hc
    rw [hc]
    split at t
    · split at t
      · cases t
        rfl
      · cases t
    · cases t
  · cases t
theorem tab_mk {K : PySem.W.Frag} {x : Str} {f c P : Addr} {oc e : Value} {od d2 : Option Addr} {fd : FuncData} {osl sl2 : Array (Option Value)} {vs : Array Value} (a : PySem.W.nsIn K mainGlobals x = some (some (.ref f))) (l : K.lookup f = some ⟨oc, od, .func fd, osl⟩) (hc : fd.code = .ref c)
    (o : K.lookup c = some ⟨e, d2, .fields vs, sl2⟩) (v : vs[11]? = some (.ref P)) : PySem.W.tabIn K x = some (c, P) := by
  unfold PySem.W.tabIn
  rw [a]
  simp only
  rw [l]
  simp only
  rw [hc]
  simp only
  rw [o]
  simp only
  rw [v]
section
variable {P : Program} {w : World} {K : PySem.W.Frag} {mg : Str → Option Value} {base : Heap} {k : Nat}
theorem calG_ofV {x : Str} {st : Stmt} {N ps : List Str} {sp : Sp} {cd : Value} (D : AtV K mg x st ps cd) (S : FnScope N ps (defScope st)) (len : ∀ vs H Q E, sp vs H Q E → vs.length = ps.length)
    (hbody : ∀ (f : Addr) (A : Around) (outer : List Env) (s : Shared) (H : Hp) (vs : List V) (Q : VK) (E : XK), XG.Calm (A.deeper (envOfC x (defScope st) s.heap.objs.size f cd)) → Room k (A.deeper (envOfC x (defScope st) s.heap.objs.size f cd)) → sp vs H Q E →
      ∃ t, PSs (cxOf CX0 P w K mg base N x (defScope st) f cd A outer s H E).nox (defBody st) t ∧ t { nx := fun _ H' => Q .non H', rt := Q } (start N vs) H) : CalG P w K mg base (k + 1) x sp := by
  obtain ⟨f, oc, kV, doc, pm, ct, od, an, osl, l, c, kp, hm, b⟩ := D.ex
  refine ⟨f, _, ps, XG.fn_calm l c S len fun A outer s H vs Q E hc hr hsp => ?_, hm, kp, b⟩
  obtain ⟨t, h, q⟩ := hbody f A outer s H vs Q E hc hr hsp
  exact ⟨t, h.nox, q⟩
end
/-! ### what is kept but at p and in tables -/
def Kp (p : Addr) (H H' : Hp) : Prop := ∀ b o, b ≠ p → (∀ ps, o ≠ .tbl ps) → H b = some o → H' b = some o
section
variable {p : Addr} {K : PySem.W.Frag} {H H' H1 H2 : Hp} {a : Addr} {xs : List V}
theorem Kp.refl (p : Addr) (H : Hp) : Kp p H H := fun _ _ _ _ h => h
theorem Kp.trans (a : Kp p H H1) (b : Kp p H1 H2) : Kp p H H2 := fun c o n t h => b c o n t (a c o n t h)
theorem Kp.ext (e : ExtN H H') : Kp p H H' := fun b o _ t h => e b o h t
theorem Kp.ex (e : Ex H H') : Kp p H H' := fun b o _ _ h => e b o h
theorem Kp.chg (e : Chg p H H') : Kp p H H' := fun b o n _ h => e b o n h
theorem Kp.lst {a : Addr} (c : Kp p H H') (n : a ≠ p) (h : H a = some (.lst xs)) : H' a = some (.lst xs) := c _ _ n (fun _ z => by cases z) h
theorem Kp.seq (c : Kp p H H') (n : a ≠ p) (h : SqL K H a xs) : SqL K H' a xs := by
  rcases h with (h | ⟨o, h⟩) | h
  · exact .inl (.inl (c _ _ n (fun _ z => by cases z) h))
  · exact .inl (.inr ⟨o, c _ _ n (fun _ z => by cases z) h⟩)
  · exact .inr h
theorem Kp.tup (c : Kp p H H') (n : a ≠ p) (h : SqT K H a xs) : SqT K H' a xs := by
  rcases h with (h | ⟨o, h⟩) | h
  · exact .inl (.inl (c _ _ n (fun _ z => by cases z) h))
  · exact .inl (.inr ⟨o, c _ _ n (fun _ z => by cases z) h⟩)
  · exact .inr h
theorem xn_l (c : ExtN H H') (h : SqL K H a xs) : SqL K H' a xs := by
  rcases h with (h | ⟨o, h⟩) | h
  · exact .inl (.inl (c _ _ h (fun _ z => by cases z)))
  · exact .inl (.inr ⟨o, c _ _ h (fun _ z => by cases z)⟩)
  · exact .inr h
theorem xn_t (c : ExtN H H') (h : SqT K H a xs) : SqT K H' a xs := by
  rcases h with (h | ⟨o, h⟩) | h
  · exact .inl (.inl (c _ _ h (fun _ z => by cases z)))
  · exact .inl (.inr ⟨o, c _ _ h (fun _ z => by cases z)⟩)
  · exact .inr h
theorem xn_ex (e : Ex H H') : ExtN H H' := fun b o h _ => e b o h
theorem purse_xn (h : Purse H p) (e : ExtN H H') : Purse H' p := by
  obtain ⟨d, s, c, h⟩ := h
  exact ⟨d, s, c, e _ _ h (fun _ z => by cases z)⟩
theorem purse_ex (h : Purse H p) (e : Ex H H') : Purse H' p := by
  obtain ⟨d, s, c, h⟩ := h
  exact ⟨d, s, c, e _ _ h⟩
theorem tabs_ex {T : List (Addr × Str)} (t : Tabs T H) (e : Ex H H') : Tabs T H' := t.ext e
theorem tabs_chg {T : List (Addr × Str)} (t : Tabs T H) (h : Purse H p) (e : Chg p H H') : Tabs T H' := fun q hq => by
  obtain ⟨d, s, c, h⟩ := h
  obtain ⟨ps, h1, h2, h3⟩ := t q hq
  refine ⟨ps, e _ _ (ne_of h1 h (fun z => by cases z)) h1, h2, fun pos cv hc => ?_⟩
  obtain ⟨c', e1, e2⟩ := h3 pos cv hc
  exact ⟨c', e1, e _ _ (ne_of e2 h (fun z => by cases z)) e2⟩
/-! data at another heap -/
mutual
theorem dp_map (hl : ∀ a xs, SqL K H a xs → SqL K H' a xs) (ht : ∀ a xs, SqT K H a xs → SqT K H' a xs) : ∀ (d : PyData) (v : V), Dp K H v d → Dp K H' v d
  | .none, _, h => by cases h; exact .non
  | .bool b, _, h => by cases h; exact .bl b
  | .int i, _, h => by cases h; exact .int i
  | .str x, _, h => by cases h; exact .str x
  | .list ds, _, h => by
    cases h with
    | lst h1 h2 => exact .lst (hl _ _ h1) (dp_maps hl ht ds _ h2)
  | .tuple ds, _, h => by
    cases h with
    | tup h1 h2 => exact .tup (ht _ _ h1) (dp_maps hl ht ds _ h2)
  | .dict kvs, _, h => by cases h
theorem dp_maps (hl : ∀ a xs, SqL K H a xs → SqL K H' a xs) (ht : ∀ a xs, SqT K H a xs → SqT K H' a xs) : ∀ (ds : List PyData) (vs : List V), DpAll K H vs ds → DpAll K H' vs ds
  | [], _, h => by cases h; exact .nil
  | d :: ds, _, h => by
    cases h with
    | cons h1 h2 => exact .cons (dp_map hl ht d _ h1) (dp_maps hl ht ds _ h2)
end
theorem dp_xn (e : ExtN H H') {v : V} {d : PyData} (h : Dp K H v d) : Dp K H' v d := dp_map (fun _ _ => xn_l e) (fun _ _ => xn_t e) d v h
theorem dp_ex' (e : Ex H H') {v : V} {d : PyData} (h : Dp K H v d) : Dp K H' v d := dp_xn (xn_ex e) h
theorem shw_xn (e : ExtN H H') {v : V} {z : Str} (h : XO2.Shw K H v z) : XO2.Shw K H' v z := by
  obtain ⟨d, e1, e2, e3, e4, e5, h⟩ := h
  refine ⟨d, e1, e2, e3, e4, e5, ?_⟩
  rcases h with ⟨n, h⟩ | ⟨a, kvs, ds, rfl, rfl, ha, g⟩
  · exact .inl ⟨n, dp_xn e h⟩
  · exact .inr ⟨a, kvs, ds, rfl, rfl, e _ _ ha (fun _ z => by cases z), g⟩
theorem shw_ex (e : Ex H H') {v : V} {z : Str} (h : XO2.Shw K H v z) : XO2.Shw K H' v z := shw_xn (xn_ex e) h
end
end XB
namespace T
open PySem PySem.Spec PyProof.Rows L2 Evl XB TL XS XI XC ClX XQ XSp LamX
/-- a call of _law_caught, or another one in which a lambda is made, gives a new list of these texts -/
def GivesW (K : PySem.W.Frag) (T : List (Addr × Str)) (te : TE) (σ : L2.St) (H : Hp) (ws : List Str) : Prop := ∀ Q : VK, (∀ l H2, ExtN H H2 → Tabs T H2 → H2 l = some (.lst (sl ws)) → Q (.ref l) H2) → te σ H Q
section
variable {K : PySem.W.Frag} {T : List (Addr × Str)} {t : XK → TE} {te ta tb : TE} {σ : L2.St} {H : Hp} {c b : Nat → Addr} {D : Addr} {j : Nat} {v : V} {z : Str} {ws us : List Str}
theorem gives_err (hT : Tabs T H) (hj : j < 11) (A : AskC K D) (F : ErrF K c b D j) (sh : ∀ H2, ExtN H H2 → XO2.Shw K H2 v z)
    (he : ∀ H1, ExtN H H1 → ∀ (E : XK) (Q : VK), (∀ dd H2, Ex H1 H2 → H2 dd = some (.xd [(fieldOf j, v)]) → E (.ref D) (some dd) H2) → t E σ H1 Q) : GivesW K T (tLam T (TCaught K c b) t) σ H [errN.getD j "", z] := fun Q q => by
  refine ⟨hT, fun H1 e1 T1 => ?_⟩
  show t _ σ H1 _
  refine he H1 e1 _ _ fun dd H2 e2 hd => ?_
  exact ⟨D, j, v, z, hj, ⟨rfl, A, dd, rfl, hd⟩, F, fun H3 e3 => sh H3 (e1.trans ((xn_ex e2).trans (xn_ex e3))), fun l H3 e3 hl => q l H3 (e1.trans ((xn_ex e2).trans (xn_ex e3))) (tabs_ex T1 (e2.trans e3)) hl⟩
theorem gives_fine (hT : Tabs T H) (hf : ∀ H1, ExtN H H1 → ∀ (E : XK) (Q : VK), (∀ v H2, Ex H1 H2 → Q v H2) → t E σ H1 Q) : GivesW K T (tLam T (TCaught K c b) t) σ H [] := fun Q q => by
  refine ⟨hT, fun H1 e1 T1 => ?_⟩
  show t _ σ H1 _
  refine hf H1 e1 _ _ fun v H2 e2 => ?_
  exact (el_lst (σ := []) (vs := []) ea_nil (Nat.zero_le _)) H2 (Ex.refl _) _ fun l H3 n e3 h3 => q l H3 (e1.trans ((xn_ex e2).trans (xn_ex e3))) (tabs_ex T1 (e2.trans e3)) h3
def OkW (ws : List Str) : Prop := ∀ x ∈ ws, XO2.OkS x
theorem shp_ok {ws : List Str} (h : OkW ws) : SeqAt.shaped (.list (ws.map PyData.str)) = true := by
  have e : ∀ {ws : List Str}, OkW ws → PyData.canLayAll0 (ws.map PyData.str) = true := fun {ws} => by
    induction ws with
    | nil => exact fun _ => rfl
    | cons x r ih =>
      intro h
      show (PyData.strOk x && PyData.canLayAll0 (r.map PyData.str)) = true
      rw [XO2.okS_ok (h x List.mem_cons_self), ih fun y m => h y (List.mem_cons_of_mem _ m)]
      rfl
  show (PyData.canLayAll0 (ws.map PyData.str) && decide (PyData.depthAll (ws.map PyData.str) + 1 ≤ 64)) = true
  rw [e h, dep_strs]
  rfl
theorem okW_err (hj : j < 11) (h : XO2.OkS z) : OkW [errN.getD j "", z] := by
  have e : ∀ j, j < 11 → XO2.OkS (errN.getD j "") := by
    intro j hj
    match j, hj with
    | 0, _ | 1, _ | 2, _ | 3, _ | 4, _ | 5, _ | 6, _ | 7, _ | 8, _ | 9, _ | 10, _ => exact XO2.okS_of _
  intro x m
  simp only [List.mem_cons, List.not_mem_nil, or_false] at m
  rcases m with rfl | rfl
  · exact e j hj
  · exact h
theorem dp_slL {H : Hp} {l : Addr} (h : SqL K H l (sl ws)) : Dp K H (.ref l) (.list (ws.map PyData.str)) := .lst h (dp_sl ws)
/-- caught(lambda: ..) != a list of texts -/
theorem tt_neW {R : Bool → Hp → Prop} (h : GivesW K T ta σ H ws) (ow : OkW ws) (ou : OkW us) (hb : ∀ H1, ExtN H H1 → EvM tb σ H1 (sl us)) (k : ∀ H1, ExtN H H1 → Tabs T H1 → R (!decide (ws = us)) H1) : (tTest (tOp (rNeD K) ta tb)) σ H R := by
  refine h _ fun l H1 e1 T1 hl => ?_
  refine hb H1 e1 H1 (Ex.refl _) _ fun l2 H2 e2 hl2 => ?_
  refine ⟨_, _, dp_slL (SqL.of (e2 _ _ hl)), dp_slL (SqL.of hl2), shp_ok ow, shp_ok ou, _, rfl, ?_⟩
  rw [show PyData.eqv (.list (ws.map PyData.str)) (.list (us.map PyData.str)) = decide (ws = us) from eqv_strs ws us]
  exact k H2 (e1.trans (xn_ex e2)) (tabs_ex T1 e2)
theorem em_of {xs : List V} (h : EvL te σ H xs) : EvM te σ H xs := fun H1 e Q q => h H1 e _ fun p H2 _ e2 hp => q p H2 e2 hp
theorem em_at {xs : List V} {l : Addr} (h : Ev te σ H (.ref l)) (hl : H l = some (.lst xs)) : EvM te σ H xs := fun H1 e Q q => h H1 e _ fun H2 e2 => q l H2 e2 (e2 _ _ (e _ _ hl))
end
end T
namespace T
open PySem PySem.Spec PyProof.Rows L2 Evl XB XSp LamX
/-! ### the facts of the errors, put together -/
def cOf (a0 a1 a2 a3 a4 a5 a6 a7 a8 a9 a10 : Addr) : Nat → Addr
  | 0 => a0 | 1 => a1 | 2 => a2 | 3 => a3 | 4 => a4 | 5 => a5 | 6 => a6 | 7 => a7 | 8 => a8 | 9 => a9 | _ => a10
def bOf (b0 b1 b2 : Addr) : Nat → Addr
  | 0 => b0 | 1 => b1 | _ => b2
section
variable {K : PySem.W.Frag} {mg : Str → Option Value} {a0 a1 a2 a3 a4 a5 a6 a7 a8 a9 a10 b0 b1 b2 D : Addr} {j : Nat}
theorem errM_mk (h0 : mg "InvalidKinds" = some (.ref a0)) (h1 : mg "InvalidText" = some (.ref a1)) (h2 : mg "InvalidEdit" = some (.ref a2)) (h3 : mg "InvalidFirst" = some (.ref a3)) (h4 : mg "InvalidChange" = some (.ref a4)) (h5 : mg "InvalidArrival" = some (.ref a5))
    (h6 : mg "NotATable" = some (.ref a6)) (h7 : mg "InvalidRows" = some (.ref a7)) (h8 : mg "InvalidEdits" = some (.ref a8)) (h9 : mg "UnknownName" = some (.ref a9)) (h10 : mg "CannotDo" = some (.ref a10))
    (g0 : mg "BadValue" = some (.ref b0)) (g1 : mg "BadName" = some (.ref b1)) (g2 : mg "NoAnswer" = some (.ref b2)) : ErrM mg (cOf a0 a1 a2 a3 a4 a5 a6 a7 a8 a9 a10) (bOf b0 b1 b2) :=
  ⟨fun j n h => match j, h with
    | 0, h => by cases h; exact h0
    | 1, h => by cases h; exact h1
    | 2, h => by cases h; exact h2
    | 3, h => by cases h; exact h3
    | 4, h => by cases h; exact h4
    | 5, h => by cases h; exact h5
    | 6, h => by cases h; exact h6
    | 7, h => by cases h; exact h7
    | 8, h => by cases h; exact h8
    | 9, h => by cases h; exact h9
    | 10, h => by cases h; exact h10
    | _ + 11, h => (by cases h),
   fun j n h => match j, h with
    | 0, h => by cases h; exact g0
    | 1, h => by cases h; exact g1
    | 2, h => by cases h; exact g2
    | _ + 3, h => by cases h⟩
theorem errF_mk (no : PySem.W.findIn K (.ref D) (fieldOf j) = some none) (ex : PySem.W.exmAny K (.ref D) [.ref b0, .ref b1, .ref b2] = some true)
    (k0 : PySem.W.kitOne K (.ref D) (.ref a0) = some (decide (0 = j))) (k1 : PySem.W.kitOne K (.ref D) (.ref a1) = some (decide (1 = j))) (k2 : PySem.W.kitOne K (.ref D) (.ref a2) = some (decide (2 = j))) (k3 : PySem.W.kitOne K (.ref D) (.ref a3) = some (decide (3 = j)))
    (k4 : PySem.W.kitOne K (.ref D) (.ref a4) = some (decide (4 = j))) (k5 : PySem.W.kitOne K (.ref D) (.ref a5) = some (decide (5 = j))) (k6 : PySem.W.kitOne K (.ref D) (.ref a6) = some (decide (6 = j))) (k7 : PySem.W.kitOne K (.ref D) (.ref a7) = some (decide (7 = j)))
    (k8 : PySem.W.kitOne K (.ref D) (.ref a8) = some (decide (8 = j))) (k9 : PySem.W.kitOne K (.ref D) (.ref a9) = some (decide (9 = j))) (k10 : PySem.W.kitOne K (.ref D) (.ref a10) = some (decide (10 = j)))
    (m0 : PySem.W.kitOne K (.ref D) (.ref b0) = some (decide (0 = basOf j))) (m1 : PySem.W.kitOne K (.ref D) (.ref b1) = some (decide (1 = basOf j))) (m2 : PySem.W.kitOne K (.ref D) (.ref b2) = some (decide (2 = basOf j))) :
    ErrF K (cOf a0 a1 a2 a3 a4 a5 a6 a7 a8 a9 a10) (bOf b0 b1 b2) D j :=
  ⟨no, ex, fun i hi => match i, hi with
    | 0, _ => k0 | 1, _ => k1 | 2, _ => k2 | 3, _ => k3 | 4, _ => k4 | 5, _ => k5 | 6, _ => k6 | 7, _ => k7 | 8, _ => k8 | 9, _ => k9 | 10, _ => k10,
   fun i hi => match i, hi with
    | 0, _ => m0 | 1, _ => m1 | 2, _ => m2⟩
end
end T
namespace T
open PySem PySem.Spec PyProof.Rows L2 Evl XB TL XS XI XC ClX XQ XSp LamX
/-! ### the lambda handed to _law_caught, in a def -/
theorem pe_caught {X : Cx} {c b : Nat → Addr} {cdc : Value} {T : List (Addr × Str)} {cR Pt : Addr} {k : Nat} {params : Arguments} {body : Expr} {scope : Scope} {t : XK → TE} {p lpos pos : Pos}
    (V : AtV X.K X.mg "_law_caught" s__law_caught ["act"] cdc) (M : ErrM X.mg c b) (B : BlE X.mg) (hc : XG.Calm X.A) (hr : Room (k + 2) X.A) (TB : TabB X.base X.mg cR Pt) (hg : Gl X "_law_caught") (hcode : X.env.code = .ref cR)
    (hmT : (Pt, X.env.qual ++ "<lambda>") ∈ T) (hu : ∀ p ∈ T, p.1 = Pt → p.2 = X.env.qual ++ "<lambda>") (L : lamSB X.env.scope scope = true) (hdef : defaultsOf params X.env = ([], []))
    (hbind : ∀ (q : Str) (cl : List (Str × Addr)) (pm cv ctv : Value), bindArgs (PySem.W.kla_fn "<lambda>" q params body scope cl pm cv ctv) ⟨[], []⟩ = pure [])
    (hbody : ∀ (A : Around) (outer : List Env) (s : Shared) (H : Hp) (E : XK) (f c' : Addr), Room k (A.deeper (lamEnv X scope s.heap.objs.size f c')) → PE (lamCx X A outer s H E scope f c') body (t E)) :
    PE X (.Call (.Name "_law_caught" p) [.Lambda params body scope lpos] [] pos) (tLam T (TCaught X.K c b) t) := by
  obtain ⟨f, oc, kV, doc, pm, ct, od, an, osl, lk, hcd, kp, hm, bd⟩ := V.ex
  exact pe_lamcall hg hm kp lk hcd bd sc__law_caught rfl (.inl rfl) (caught_gives M B hc (hr.mono (Nat.le_add_left 2 k))) TB hcode hmT hu hr (lamS_by L) hdef hbind hbody
/-- what is raised in the lambda's body goes to the one who calls it -/
theorem pass_lam {X : Cx} {A : Around} {outer : List Env} {s : Shared} {H : Hp} {E : XK} {scope : Scope} {f c' : Addr} : Passes (L2.CX X.prog X.w) (lamCx X A outer s H E scope f c') E := passes_call (takes_of (E := E) rfl rfl rfl rfl) fun _ _ _ _ h => h
/-! ### repr by the wider rule -/
section
variable {K : PySem.W.Frag} {σ : L2.St} {H : Hp} {ta tb te : TE} {x y : Str} {n : Int} {a : Addr} {d : Deed} {ks : List Str} {xs : List V}
theorem ev_reprQ {v : V} {z : Str} (h : Ev ta σ H v) (s : XO2.Shw K H v z) : Ev (tCB (XO2.rReprQ K) (tCons ta tNil)) σ H (.str z) := ev_reprV h fun e => shw_ex e s
theorem okD_fl : ∀ {xs : List V}, (∀ v ∈ xs, Fl v) → XO2.OkDs (xs.map dpv)
  | [], _ => trivial
  | v :: r, h => by
    refine ⟨?_, okD_fl fun y hy => h y (List.mem_cons_of_mem _ hy)⟩
    rcases h v List.mem_cons_self with ⟨x, rfl, lx, _⟩ | ⟨n, rfl, _⟩
    · exact fun c m => Nat.lt_trans (lx c m) (by decide)
    · trivial
theorem shw_fl (hp : SqT K H a xs) (fl : ∀ v ∈ xs, Fl v) (hl : xs.length ≤ 3) : XO2.Shw K H (.ref a) (shownT xs) := by
  obtain ⟨i1, i2, i3, i4, i5⟩ := fl_all fl
  refine ⟨PyData.tuple (xs.map dpv), rfl, i1, ?_, ?_, okD_fl fl, .inl ⟨i2, .tup hp (dp_fl fl)⟩⟩
  · show PyData.depthAll (xs.map dpv) + 1 ≤ 32
    rw [i3]
    decide
  · have z := PyData.shown_le 20 (by decide) (PyData.tuple (xs.map dpv)) i4
    have y : PyData.weight (PyData.tuple (xs.map dpv)) ≤ xs.length * 101 := i5
    refine Nat.le_trans z ?_
    rw [sizeLine_eq]
    omega
theorem shw_deed (ha : SqT K H a d.vs) (ok : d.ok ks) (hk : ks ∈ kinds7) : XO2.Shw K H (.ref a) (shownT d.vs) := shw_fl ha (fl_deed ok hk).1 (fl_deed ok hk).2
/-- text * number -/
def rMulS : R2 := fun x y H Q => ∃ (a : Str) (n : Int), x = .str a ∧ y = .int n ∧ 2 ≤ n ∧ n ≤ 100000 ∧ 0 < a.length ∧ a.length * n.toNat ≤ 16777216 ∧ Q (.str ⟨(List.replicate n.toNat a.cps).foldl (· ++ ·) #[]⟩) H
theorem op_mulS {X : Cx} : OpR X (binaryOp .Mult) rMulS := by
  intro pins s σ H x y v u Q I rx ry h
  obtain ⟨a, n, rfl, rfl, n1, n2, a0, hz, q⟩ := h
  obtain ⟨t, rfl⟩ := rx
  obtain ⟨t', rfl⟩ := ry
  have M := PyProof.Rows.mulOk_of (x := a) (n := n) a.length n.toNat (Nat.le_refl _) (by omega) (by omega) (by omega) hz
  refine PySem.P.mul_str M.1 M.2.1 M.2.2 ?_
  have h1 : ¬ n < 1 := by omega
  have h2 : ¬ (n == 1 || a.length == 0) = true := by
    rw [Bool.or_eq_true, beq_iff_eq, beq_iff_eq]
    omega
  rw [if_neg h1, if_neg h2]
  refine ⟨?_, .str _, H, I.tok _, ⟨_, rfl⟩, q⟩
  show ((List.replicate n.toNat a.cps).foldl (· ++ ·) #[]).size ≤ sizeLine
  rw [PyProof.Rows.len_reps]
  have : n.toNat * a.cps.size = a.length * n.toNat := Nat.mul_comm _ _
  have e0 : (#[] : Array Nat).size = 0 := rfl
  rw [this, sizeLine_eq]
  omega
def repS (a : Str) (n : Nat) : Str := ⟨(List.replicate n a.cps).foldl (· ++ ·) #[]⟩
theorem repS_len (a : Str) (n : Nat) : (repS a n).length = n * a.length := by
  show ((List.replicate n a.cps).foldl (· ++ ·) #[]).size = _
  rw [PyProof.Rows.len_reps]
  show 0 + _ = _
  rw [Nat.zero_add]
  rfl
theorem repS_abc {a : Str} (h : Abc a) (n : Nat) : Abc (repS a n) := by
  have go : ∀ (n : Nat) (acc : Array Nat), (∀ c ∈ acc.toList, 97 ≤ c ∧ c ≤ 122) → ∀ c ∈ ((List.replicate n a.cps).foldl (· ++ ·) acc).toList, 97 ≤ c ∧ c ≤ 122 := by
    intro n
    induction n with
    | zero => exact fun acc h2 => h2
    | succ n ih =>
      intro acc h2
      refine ih _ fun c m => ?_
      rw [Array.toList_append] at m
      exact (List.mem_append.mp m).elim (h2 c) (h c)
  exact go n #[] (fun c m => by simp at m)
theorem rv_mulS {H : Hp} (n1 : 2 ≤ n) (n2 : n ≤ 100000) (a0 : 0 < x.length) (hz : x.length * n.toNat ≤ 16777216) : RV rMulS (.str x) (.int n) H (.str (repS x n.toNat)) := fun H1 _ _ q => ⟨x, n, rfl, rfl, n1, n2, a0, hz, q H1 (Ex.refl H1)⟩
end
end T
/-! Own: values of any sort, apart from the drawer p: what they are as data, menus of them, their types. -/
namespace XO2
open PySem PySem.Spec PyProof.Rows L2 Evl XB LamX
mutual
inductive Od (K : PySem.W.Frag) (p : Addr) (H : Hp) : V → PyData → Prop
  | non : Od K p H .non .none
  | bl (b : Bool) : Od K p H (.bl b) (.bool b)
  | int (i : Int) : Od K p H (.int i) (.int i)
  | str (x : Str) : Od K p H (.str x) (.str x)
  | lst {a : Addr} {xs : List V} {ds : List PyData} : a ≠ p → SqL K H a xs → OdAll K p H xs ds → Od K p H (.ref a) (.list ds)
  | tup {a : Addr} {xs : List V} {ds : List PyData} : a ≠ p → SqT K H a xs → OdAll K p H xs ds → Od K p H (.ref a) (.tuple ds)
  | dct {a : Addr} {kvs : List (Key × V)} {ds : List (PyData × PyData)} : a ≠ p → H a = some (.dK kvs) → KvD kvs ds → Od K p H (.ref a) (.dict ds)
inductive OdAll (K : PySem.W.Frag) (p : Addr) (H : Hp) : List V → List PyData → Prop
  | nil : OdAll K p H [] []
  | cons {v : V} {vs : List V} {d : PyData} {ds : List PyData} : Od K p H v d → OdAll K p H vs ds → OdAll K p H (v :: vs) (d :: ds)
end
section
variable {K : PySem.W.Frag} {p : Addr} {H H' : Hp} {v : V} {d : PyData} {vs : List V} {ds : List PyData}
mutual
theorem od_kp (c : Kp p H H') : ∀ (d : PyData) (v : V), Od K p H v d → Od K p H' v d
  | .none, _, h => by cases h; exact .non
  | .bool b, _, h => by cases h; exact .bl b
  | .int i, _, h => by cases h; exact .int i
  | .str x, _, h => by cases h; exact .str x
  | .list ds, _, h => by
    cases h with
    | lst n h1 h2 => exact .lst n (c.seq n h1) (ods_kp c ds _ h2)
  | .tuple ds, _, h => by
    cases h with
    | tup n h1 h2 => exact .tup n (c.tup n h1) (ods_kp c ds _ h2)
  | .dict ds, _, h => by
    cases h with
    | dct n h1 h2 => exact .dct n (c _ _ n (fun _ z => by cases z) h1) h2
theorem ods_kp (c : Kp p H H') : ∀ (ds : List PyData) (vs : List V), OdAll K p H vs ds → OdAll K p H' vs ds
  | [], _, h => by cases h; exact .nil
  | d :: ds, _, h => by
    cases h with
    | cons h1 h2 => exact .cons (od_kp c d _ h1) (ods_kp c ds _ h2)
end
theorem Od.kp (h : Od K p H v d) (c : Kp p H H') : Od K p H' v d := od_kp c d v h
theorem OdAll.kp (h : OdAll K p H vs ds) (c : Kp p H H') : OdAll K p H' vs ds := ods_kp c ds vs h
theorem Od.ex (h : Od K p H v d) (e : Ex H H') : Od K p H' v d := h.kp (Kp.ex e)
theorem OdAll.ex (h : OdAll K p H vs ds) (e : Ex H H') : OdAll K p H' vs ds := h.kp (Kp.ex e)
mutual
theorem od_dp : ∀ (d : PyData) (v : V), d.hasDict = false → Od K p H v d → Dp K H v d
  | .none, _, _, h => by cases h; exact .non
  | .bool b, _, _, h => by cases h; exact .bl b
  | .int i, _, _, h => by cases h; exact .int i
  | .str x, _, _, h => by cases h; exact .str x
  | .list ds, _, n, h => by
    cases h with
    | lst _ h1 h2 => exact .lst h1 (ods_dp ds _ n h2)
  | .tuple ds, _, n, h => by
    cases h with
    | tup _ h1 h2 => exact .tup h1 (ods_dp ds _ n h2)
  | .dict ds, _, n, h => by cases n
theorem ods_dp : ∀ (ds : List PyData) (vs : List V), PyData.hasDictAll ds = false → OdAll K p H vs ds → DpAll K H vs ds
  | [], _, _, h => by cases h; exact .nil
  | d :: ds, _, n, h => by
    have n : (d.hasDict || PyData.hasDictAll ds) = false := n
    rw [Bool.or_eq_false_iff] at n
    cases h with
    | cons h1 h2 => exact .cons (od_dp d _ n.1 h1) (ods_dp ds _ n.2 h2)
end
theorem OdAll.len (h : OdAll K p H vs ds) : vs.length = ds.length := by
  induction ds generalizing vs with
  | nil => cases h; rfl
  | cons d ds ih =>
    cases h with
    | cons _ h2 => rw [List.length_cons, List.length_cons, ih h2]
theorem OdAll.at (h : OdAll K p H vs ds) {i : Nat} {v : V} (hv : vs[i]? = some v) : ∃ d, ds[i]? = some d ∧ Od K p H v d := by
  induction ds generalizing vs i with
  | nil => cases h; cases hv
  | cons d ds ih =>
    cases h with
    | cons h1 h2 =>
      cases i with
      | zero => cases hv; exact ⟨d, rfl, h1⟩
      | succ i => exact ih h2 hv
theorem OdAll.atD (h : OdAll K p H vs ds) {i : Nat} {d : PyData} (hd : ds[i]? = some d) : ∃ v, vs[i]? = some v ∧ Od K p H v d := by
  induction ds generalizing vs i with
  | nil => cases hd
  | cons d ds ih =>
    cases h with
    | cons h1 h2 =>
      cases i with
      | zero => cases hd; exact ⟨_, rfl, h1⟩
      | succ i => exact ih h2 hd
theorem OdAll.mem (h : OdAll K p H vs ds) (hv : v ∈ vs) : ∃ d ∈ ds, Od K p H v d := by
  obtain ⟨i, hi⟩ := List.getElem?_of_mem hv
  obtain ⟨d, hd, o⟩ := h.at hi
  exact ⟨d, List.mem_of_getElem? hd, o⟩
theorem OdAll.app {us : List V} {es : List PyData} (h : OdAll K p H vs ds) (g : OdAll K p H us es) : OdAll K p H (vs ++ us) (ds ++ es) := by
  induction ds generalizing vs with
  | nil => cases h; exact g
  | cons d ds ih =>
    cases h with
    | cons h1 h2 => exact .cons h1 (ih h2)
theorem OdAll.take (h : OdAll K p H vs ds) (n : Nat) : OdAll K p H (vs.take n) (ds.take n) := by
  induction ds generalizing vs n with
  | nil => cases h; rw [List.take_nil, List.take_nil]; exact .nil
  | cons d ds ih =>
    cases h with
    | cons h1 h2 =>
      cases n with
      | zero => exact .nil
      | succ n => exact .cons h1 (ih h2 n)
theorem OdAll.drop (h : OdAll K p H vs ds) (n : Nat) : OdAll K p H (vs.drop n) (ds.drop n) := by
  induction ds generalizing vs n with
  | nil => cases h; rw [List.drop_nil, List.drop_nil]; exact .nil
  | cons d ds ih =>
    cases h with
    | cons h1 h2 =>
      cases n with
      | zero => exact .cons h1 h2
      | succ n => exact ih h2 n
/-! ### the type -/
def isStrD : PyData → Bool | .str _ => true | _ => false
def isTupD : PyData → Bool | .tuple _ => true | _ => false
def isBoolD : PyData → Bool | .bool _ => true | _ => false
def isIntD : PyData → Bool | .int _ | .bool _ => true | _ => false
def isNumD : PyData → Bool | .int _ => true | _ => false
theorem tyx_sql {a : Addr} {xs : List V} (h : SqL K H a xs) : TyX K H (.ref a) (.type "list") := by
  rcases h with (h | ⟨o, h⟩) | ⟨o, its, n, h, hc, _⟩
  · exact .base (.lst h)
  · exact .base (.frz h)
  · exact .kList h hc
def tyD : PyData → String
  | .none => "NoneType" | .bool _ => "bool" | .int _ => "int" | .str _ => "str" | .list _ => "list" | .tuple _ => "tuple" | .dict _ => "dict"
theorem Od.ty (h : Od K p H v d) : TyX K H v (.type (tyD d)) := by
  cases h with
  | non => exact .base .non
  | bl b => exact .base (.bl b)
  | int i => exact .base (.int i)
  | str x => exact .base (.str x)
  | lst _ h1 _ => exact tyx_sql h1
  | tup _ h1 _ => exact tyx_sqt h1
  | dct _ h1 _ => exact .base (.dK h1)
theorem kit_str : ∀ d : PyData, kitB (tyD d) "str" = some (isStrD d)
  | .none => (by decide +kernel : kitB "NoneType" "str" = some false)
  | .bool _ => (by decide +kernel : kitB "bool" "str" = some false)
  | .int _ => (by decide +kernel : kitB "int" "str" = some false)
  | .str _ => (by decide +kernel : kitB "str" "str" = some true)
  | .list _ => (by decide +kernel : kitB "list" "str" = some false)
  | .tuple _ => (by decide +kernel : kitB "tuple" "str" = some false)
  | .dict _ => (by decide +kernel : kitB "dict" "str" = some false)
theorem kit_tup : ∀ d : PyData, kitB (tyD d) "tuple" = some (isTupD d)
  | .none => (by decide +kernel : kitB "NoneType" "tuple" = some false)
  | .bool _ => (by decide +kernel : kitB "bool" "tuple" = some false)
  | .int _ => (by decide +kernel : kitB "int" "tuple" = some false)
  | .str _ => (by decide +kernel : kitB "str" "tuple" = some false)
  | .list _ => (by decide +kernel : kitB "list" "tuple" = some false)
  | .tuple _ => (by decide +kernel : kitB "tuple" "tuple" = some true)
  | .dict _ => (by decide +kernel : kitB "dict" "tuple" = some false)
theorem kit_bool : ∀ d : PyData, kitB (tyD d) "bool" = some (isBoolD d)
  | .none => (by decide +kernel : kitB "NoneType" "bool" = some false)
  | .bool _ => (by decide +kernel : kitB "bool" "bool" = some true)
  | .int _ => (by decide +kernel : kitB "int" "bool" = some false)
  | .str _ => (by decide +kernel : kitB "str" "bool" = some false)
  | .list _ => (by decide +kernel : kitB "list" "bool" = some false)
  | .tuple _ => (by decide +kernel : kitB "tuple" "bool" = some false)
  | .dict _ => (by decide +kernel : kitB "dict" "bool" = some false)
theorem kit_int : ∀ d : PyData, kitB (tyD d) "int" = some (isIntD d)
  | .none => (by decide +kernel : kitB "NoneType" "int" = some false)
  | .bool _ => (by decide +kernel : kitB "bool" "int" = some true)
  | .int _ => (by decide +kernel : kitB "int" "int" = some true)
  | .str _ => (by decide +kernel : kitB "str" "int" = some false)
  | .list _ => (by decide +kernel : kitB "list" "int" = some false)
  | .tuple _ => (by decide +kernel : kitB "tuple" "int" = some false)
  | .dict _ => (by decide +kernel : kitB "dict" "int" = some false)
end
section
variable {K : PySem.W.Frag} {σ : L2.St} {p : Addr} {H H' : Hp} {v : V} {d : PyData} {vs xs : List V} {ds es : List PyData} {ta tb te : TE} {tl tr : TA} {a : Addr}
theorem ev_isStrO (ha : Ev ta σ H v) (h : Od K p H v d) : Ev (tCB (rIsi K) (tCons ta (tCons (tC (.ty "str")) tNil))) σ H (.bl (isStrD d)) := ev_isi ha (fun _ e => (h.ex e).ty) (kit_str d)
theorem ev_isTupO (ha : Ev ta σ H v) (h : Od K p H v d) : Ev (tCB (rIsi K) (tCons ta (tCons (tC (.ty "tuple")) tNil))) σ H (.bl (isTupD d)) := ev_isi ha (fun _ e => (h.ex e).ty) (kit_tup d)
theorem ev_isBoolO (ha : Ev ta σ H v) (h : Od K p H v d) : Ev (tCB (rIsi K) (tCons ta (tCons (tC (.ty "bool")) tNil))) σ H (.bl (isBoolD d)) := ev_isi ha (fun _ e => (h.ex e).ty) (kit_bool d)
theorem ev_isIntO (ha : Ev ta σ H v) (h : Od K p H v d) : Ev (tCB (rIsi K) (tCons ta (tCons (tC (.ty "int")) tNil))) σ H (.bl (isIntD d)) := ev_isi ha (fun _ e => (h.ex e).ty) (kit_int d)
/-! ### making such values -/
/-- d comes, apart from p -/
def EvO (K : PySem.W.Frag) (p : Addr) (te : TE) (σ : L2.St) (H : Hp) (d : PyData) : Prop := ∀ H1, Ex H H1 → ∀ Q : VK, (∀ v H2, Ex H1 H2 → Od K p H2 v d → Q v H2) → te σ H1 Q
def EvOs (K : PySem.W.Frag) (p : Addr) (ta : TA) (σ : L2.St) (H : Hp) (ds : List PyData) : Prop := ∀ H1, Ex H H1 → ∀ Q : List V → Hp → Prop, (∀ vs H2, Ex H1 H2 → OdAll K p H2 vs ds → Q vs H2) → ta σ H1 Q
/-- a new list of ds -/
def EvLo (K : PySem.W.Frag) (p : Addr) (te : TE) (σ : L2.St) (H : Hp) (ds : List PyData) : Prop := ∀ H1, Ex H H1 → ∀ Q : VK, (∀ l vs H2, H1 l = none → Ex H1 H2 → H2 l = some (.lst vs) → OdAll K p H2 vs ds → Q (.ref l) H2) → te σ H1 Q
theorem EvO.mono (h : EvO K p te σ H d) (e : Ex H H') : EvO K p te σ H' d := fun H1 e1 Q q => h H1 (e.trans e1) Q q
theorem eo_is {d' : PyData} (h : EvO K p te σ H d) (e : d = d') : EvO K p te σ H d' := e ▸ h
theorem eo_at (h : Ev te σ H v) (g : Od K p H v d) : EvO K p te σ H d := fun H1 e Q q => h H1 e _ fun H2 e2 => q v H2 e2 (g.ex (e.trans e2))
theorem eo_str {x : Str} (h : Ev te σ H (.str x)) : EvO K p te σ H (.str x) := eo_at h (.str x)
theorem eo_int {x : Int} (h : Ev te σ H (.int x)) : EvO K p te σ H (.int x) := eo_at h (.int x)
theorem eo_bl {x : Bool} (h : Ev te σ H (.bl x)) : EvO K p te σ H (.bool x) := eo_at h (.bl x)
theorem eo_non (h : Ev te σ H .non) : EvO K p te σ H .none := eo_at h .non
theorem eo_cs {x : Str} : EvO K p (tC (.str x)) σ H (.str x) := eo_str ev_c
theorem eo_ci {x : Int} : EvO K p (tC (.int x)) σ H (.int x) := eo_int ev_c
theorem eo_cb {x : Bool} : EvO K p (tC (.bl x)) σ H (.bool x) := eo_bl ev_c
theorem eo_cn : EvO K p (tC .non) σ H .none := eo_non ev_c
theorem eos_nil : EvOs K p tNil σ H [] := fun H1 e Q q => q [] H1 (Ex.refl H1) .nil
theorem eos_cons (h : EvO K p te σ H d) (hs : EvOs K p tr σ H ds) : EvOs K p (tCons te tr) σ H (d :: ds) := fun H1 e Q q => h H1 e _ fun v H2 e2 g => hs H2 (e.trans e2) _ fun vs H3 e3 gs => q (v :: vs) H3 (e2.trans e3) (.cons (g.ex e3) gs)
theorem elo_lst (h : EvOs K p tl σ H ds) (hz : ds.length ≤ 100000) : EvLo K p (tLst tl) σ H ds := fun H1 e Q q => h H1 e _ fun vs H2 e2 g => ⟨by rw [g.len]; exact sz_of hz, fun l hl => q l vs _ (fresh_back e2 hl) (e2.trans (Ex.new hl)) upd_same (g.ex (Ex.new hl))⟩
theorem elo_cat (ha : EvLo K p ta σ H ds) (hb : EvLo K p tb σ H es) (hz : ds.length + es.length ≤ 100000) : EvLo K p (tOp rCat ta tb) σ H (ds ++ es) := fun H1 e Q q =>
  ha H1 e _ fun l1 vs H2 _ e2 h2 o2 => hb H2 (e.trans e2) _ fun l2 us H3 _ e3 h3 o3 =>
    ⟨l1, l2, vs, us, rfl, rfl, e3 _ _ h2, h3, by rw [o2.len, o3.len]; exact sz_of hz, fun l hl => q l _ _ (fresh_back (e2.trans e3) hl) ((e2.trans e3).trans (Ex.new hl)) upd_same (((o2.ex e3).app o3).ex (Ex.new hl))⟩
theorem elo_catV (ha : Ev ta σ H (.ref a)) (hl : H a = some (.lst xs)) (ho : OdAll K p H xs ds) (hb : EvLo K p tb σ H es) (hz : ds.length + es.length ≤ 100000) : EvLo K p (tOp rCat ta tb) σ H (ds ++ es) := fun H1 e Q q =>
  ha H1 e _ fun H2 e2 => hb H2 (e.trans e2) _ fun l2 us H3 _ e3 h3 o3 =>
    ⟨a, l2, xs, us, rfl, rfl, e3 _ _ (e2 _ _ (e _ _ hl)), h3, by rw [ho.len, o3.len]; exact sz_of hz, fun l hl => q l _ _ (fresh_back (e2.trans e3) hl) ((e2.trans e3).trans (Ex.new hl)) upd_same (((ho.ex ((e.trans e2).trans e3)).app o3).ex (Ex.new hl))⟩
section
variable {o : HO}
theorem eo_lo (hp : H p = some o) (h : EvLo K p te σ H ds) : EvO K p te σ H (.list ds) := fun H1 e Q q => h H1 e _ fun l vs H2 n e2 hl od => q _ H2 e2 (.lst (ne_of_none (e _ _ hp) n).symm (SqL.of hl) od)
theorem eo_lst (hp : H p = some o) (h : EvOs K p tl σ H ds) (hz : ds.length ≤ 100000) : EvO K p (tLst tl) σ H (.list ds) := eo_lo hp (elo_lst h hz)
theorem eo_tup (hp : H p = some o) (h : EvOs K p tl σ H ds) (hz : ds.length ≤ 100000) : EvO K p (tTup tl) σ H (.tuple ds) := fun H1 e Q q => h H1 e _ fun vs H2 e2 g => ⟨by rw [g.len]; exact sz_of hz, fun l hl =>
  q _ _ (e2.trans (Ex.new hl)) (.tup (ne_of_none (e2 _ _ (e _ _ hp)) hl).symm (st_of upd_same) (g.ex (Ex.new hl)))⟩
theorem eo_d0 (hp : H p = some o) : EvO K p tDNewK σ H (.dict []) := fun H1 e Q q => fun l hl => q _ _ (Ex.new hl) (.dct (ne_of_none (e _ _ hp) hl).symm upd_same .nil)
/-- list(x) of a tuple, of a list -/
theorem eo_listT (hp : H p = some o) (h : Ev ta σ H (.ref a)) (hs : SqL K H a xs ∨ SqT K H a xs) (od : OdAll K p H xs ds) : EvO K p (tCB (rListS K) (tCons ta tNil)) σ H (.list ds) := fun H1 e Q q =>
  h H1 e _ fun H2 e2 => ⟨a, xs, rfl, hs.elim (fun z => .inl (ex_l (e.trans e2) z)) (fun z => .inr (ex_t (e.trans e2) z)), fun l nl =>
    q _ _ (e2.trans (Ex.new nl)) (.lst (ne_of_none (e2 _ _ (e _ _ hp)) nl).symm (SqL.of upd_same) (od.ex ((e.trans e2).trans (Ex.new nl))))⟩
/-- a part of a tuple; two tuples, one behind the other -/
theorem eo_slA (hp : H p = some o) {t1 t2 : TO} {lo hi : Option Int} (h : Ev te σ H (.ref a)) (hx : SqT K H a xs) (np : a ≠ p) (h1 : Evl.EvO t1 σ H lo) (h2 : Evl.EvO t2 σ H hi) (od : OdAll K p H (cutV xs lo hi) es) : EvO K p (tSl (rSlA K) te t1 t2) σ H (.tuple es) := fun H1 e Q q =>
  h H1 e _ fun H2 e2 => h1 H2 (e.trans e2) _ fun H3 e3 => h2 H3 ((e.trans e2).trans e3) _ fun H4 e4 => by
    have x4 := ex_t (((e.trans e2).trans e3).trans e4) hx
    have o4 := od.ex (((e.trans e2).trans e3).trans e4)
    have e14 := (e2.trans e3).trans e4
    refine ⟨a, xs, rfl, x4, fun hw => ?_, fun hw l nl => ?_⟩
    · have : cutV xs lo hi = xs := by
        unfold cutV
        rw [hw.1, hw.2]
        simp
      rw [this] at o4
      exact q _ H4 e14 (.tup np x4 o4)
    · exact q _ _ (e14.trans (Ex.new nl)) (.tup (ne_of_none (e14 _ _ (e _ _ hp)) nl).symm (st_of upd_same) (o4.ex (Ex.new nl)))
theorem eo_catA (hp : H p = some o) (ha : EvO K p ta σ H (.tuple ds)) (hb : EvO K p tb σ H (.tuple es)) (hz : ds.length + es.length ≤ 100000) : EvO K p (tOp (rCatA K) ta tb) σ H (.tuple (ds ++ es)) := fun H1 e Q q =>
  ha H1 e _ fun v H2 e2 o2 => hb H2 (e.trans e2) _ fun u H3 e3 o3 => by
    have o2 := o2.ex e3
    cases o2 with
    | tup n1 s1 d1 =>
      cases o3 with
      | tup n2 s2 d2 =>
        rename_i a xs b ys
        refine ⟨a, b, xs, ys, rfl, rfl, s1, s2, by rw [d1.len, d2.len]; exact sz_of hz, fun z => ?_, fun _ z => ?_, fun _ _ l nl => ?_⟩
        · subst z
          cases d1
          exact q _ H3 (e2.trans e3) (.tup n2 s2 d2)
        · subst z
          cases d2
          exact q _ H3 (e2.trans e3) (by rw [List.append_nil]; exact .tup n1 s1 d1)
        · exact q _ _ ((e2.trans e3).trans (Ex.new nl)) (.tup (ne_of_none ((e2.trans e3) _ _ (e _ _ hp)) nl).symm (st_of upd_same) ((d1.app d2).ex (Ex.new nl)))
end
end
/-! ### what repr can show -/
def okSB (x : Str) : Bool := x.cps.toList.all fun c => decide (c < 0x110000)
theorem okSB_ok {x : Str} (h : okSB x = true) : OkS x := fun c m => of_decide_eq_true (List.all_eq_true.mp h c m)
mutual
def okB : PyData → Bool
  | .none | .bool _ | .int _ => true
  | .str x => okSB x
  | .list xs | .tuple xs => okBs xs
  | .dict kvs => okBk kvs
def okBs : List PyData → Bool
  | [] => true
  | x :: xs => okB x && okBs xs
def okBk : List (PyData × PyData) → Bool
  | [] => true
  | (k, v) :: r => okB k && okB v && okBk r
end
mutual
theorem okB_ok : ∀ d : PyData, okB d = true → OkD d
  | .none, _ | .bool _, _ | .int _, _ => trivial
  | .str x, h => okSB_ok h
  | .list xs, h => okBs_ok xs h
  | .tuple xs, h => okBs_ok xs h
  | .dict kvs, h => okBk_ok kvs h
theorem okBs_ok : ∀ xs : List PyData, okBs xs = true → OkDs xs
  | [], _ => trivial
  | x :: xs, h => by
    have h : (okB x && okBs xs) = true := h
    rw [Bool.and_eq_true] at h
    exact ⟨okB_ok x h.1, okBs_ok xs h.2⟩
theorem okBk_ok : ∀ xs : List (PyData × PyData), okBk xs = true → OkKv xs
  | [], _ => trivial
  | (k, v) :: r, h => by
    have h : (okB k && okB v && okBk r) = true := h
    rw [Bool.and_eq_true, Bool.and_eq_true] at h
    exact ⟨okB_ok k h.1.1, okB_ok v h.1.2, okBk_ok r h.2⟩
end
/-- shown without a dict, not deeper than a, not heavier than b -/
structure Nc (d : PyData) (a b : Nat) : Prop where
  s : d.showable = true
  l : PyData.leavesShort 50 d = true
  dd : d.depth ≤ a
  w : d.weight ≤ b
  o : OkD d
  n : d.hasDict = false
def ncB (a b : Nat) (d : PyData) : Bool := d.showable && PyData.leavesShort 50 d && decide (d.depth ≤ a) && decide (d.weight ≤ b) && okB d && !d.hasDict
theorem nc_b {a b : Nat} {d : PyData} (h : ncB a b d = true) : Nc d a b := by
  unfold ncB at h
  simp only [Bool.and_eq_true, decide_eq_true_eq, Bool.not_eq_true'] at h
  obtain ⟨⟨⟨⟨⟨h1, h2⟩, h3⟩, h4⟩, h5⟩, h6⟩ := h
  exact ⟨h1, h2, h3, h4, okB_ok _ h5, h6⟩
section
variable {d : PyData} {ds : List PyData} {a b a' b' : Nat}
theorem Nc.mono (h : Nc d a b) (h1 : a ≤ a') (h2 : b ≤ b') : Nc d a' b' := ⟨h.s, h.l, Nat.le_trans h.dd h1, Nat.le_trans h.w h2, h.o, h.n⟩
theorem nc_all (h : ∀ d ∈ ds, Nc d a b) : PyData.showableAll ds = true ∧ PyData.leavesShortAll 50 ds = true ∧ PyData.depthAll ds ≤ a ∧ PyData.weightAll ds ≤ ds.length * (b + 1) ∧ OkDs ds ∧ PyData.hasDictAll ds = false := by
  induction ds with
  | nil => exact ⟨rfl, rfl, Nat.zero_le _, Nat.zero_le _, trivial, rfl⟩
  | cons x r ih =>
    obtain ⟨i1, i2, i3, i4, i5, i6⟩ := ih fun y m => h y (List.mem_cons_of_mem _ m)
    have g := h x List.mem_cons_self
    refine ⟨?_, ?_, ?_, ?_, ⟨g.o, i5⟩, ?_⟩
    · show (x.showable && PyData.showableAll r) = true
      rw [g.s, i1]; rfl
    · show (PyData.leavesShort 50 x && PyData.leavesShortAll 50 r) = true
      rw [g.l, i2]; rfl
    · show max x.depth (PyData.depthAll r) ≤ a
      exact Nat.max_le.mpr ⟨g.dd, i3⟩
    · show x.weight + 1 + PyData.weightAll r ≤ (r.length + 1) * (b + 1)
      have := g.w
      rw [Nat.succ_mul]
      omega
    · show (x.hasDict || PyData.hasDictAll r) = false
      rw [g.n, i6]; rfl
theorem nc_tup (h : ∀ d ∈ ds, Nc d a b) : Nc (.tuple ds) (a + 1) (ds.length * (b + 1)) := by
  obtain ⟨i1, i2, i3, i4, i5, i6⟩ := nc_all h
  exact ⟨i1, i2, Nat.succ_le_succ i3, i4, i5, i6⟩
theorem nc_lst (h : ∀ d ∈ ds, Nc d a b) : Nc (.list ds) (a + 1) (ds.length * (b + 1)) := by
  obtain ⟨i1, i2, i3, i4, i5, i6⟩ := nc_all h
  exact ⟨i1, i2, Nat.succ_le_succ i3, i4, i5, i6⟩
theorem nc_str {x : Str} (h : ∀ c ∈ x.cps.toList, c < 128) (hl : x.length ≤ b) : Nc (.str x) 0 b :=
  ⟨rfl, List.all_eq_true.mpr fun c m => decide_eq_true (Nat.lt_trans (h c m) (by decide)), Nat.zero_le _, hl, fun c m => Nat.lt_trans (h c m) (by decide), rfl⟩
theorem nc_int {i : Int} (h : i.natAbs < 10 ^ 13) : Nc (.int i) 0 64 := by
  have lg : i.natAbs.log2 < 63 := by
    by_cases z : i.natAbs = 0
    · rw [z]; decide
    · exact (Nat.log2_lt z).mpr (Nat.lt_trans h (by decide))
  refine ⟨decide_eq_true (by omega), decide_eq_true ?_, Nat.zero_le _, ?_, trivial, rfl⟩
  · have e := int_text_length_le10 (k := 13) (by decide) h
    show (Str.ofString (toString i)).length ≤ 50
    rw [PySem.ofString_length]
    omega
  · show (if i == 0 then 0 else i.natAbs.log2 + 1) ≤ 64
    split <;> omega
/-- also a dict, as it stands -/
def ncD (d : PyData) : Bool := d.showable && PyData.leavesShort 50 d && decide (d.depth ≤ 8) && decide (d.weight ≤ 20000) && okB d && (match d with | .dict _ => true | _ => false)
def NcV (d : PyData) : Prop := Nc d 8 20000 ∨ ncD d = true
theorem NcV.w (h : NcV d) : d.weight ≤ 20000 := by
  rcases h with h | h
  · exact h.w
  · unfold ncD at h
    simp only [Bool.and_eq_true, decide_eq_true_eq] at h
    exact h.1.1.2
theorem shw_odd {K : PySem.W.Frag} {p : Addr} {H : Hp} {v : V} (h : Od K p H v d) (n : NcV d) : Shw K H v d.shown := by
  have fit : PyData.leavesShort 50 d = true → d.weight ≤ 20000 → d.shown.length ≤ sizeLine := fun l w => by
    have z := PyData.shown_le 50 (by decide) d l
    rw [sizeLine_eq]
    omega
  rcases n with n | n
  · exact ⟨d, rfl, n.s, Nat.le_trans n.dd (by decide), fit n.l n.w, n.o, .inl ⟨n.n, od_dp d v n.n h⟩⟩
  · unfold ncD at n
    simp only [Bool.and_eq_true, decide_eq_true_eq] at n
    obtain ⟨⟨⟨⟨⟨h1, h2⟩, h3⟩, h4⟩, h5⟩, h6⟩ := n
    refine ⟨d, rfl, h1, Nat.le_trans h3 (by decide), fit h2 h4, okB_ok _ h5, .inr ?_⟩
    cases h with
    | dct np ha hk => exact ⟨_, _, _, rfl, rfl, ha, hk⟩
    | _ => cases h6
end
/-! ### list(a text) -/
theorem vals_sgn {z : Str} : ∀ {l : List Nat} {acc : List Value}, acc.length = l.length → (∀ (j : Nat) (v : Value), acc[j]? = some v → ∃ (c : Nat) (u : Tok), l[j]? = some c ∧ v = Value.str ⟨#[c]⟩ u) → Vals (l.map fun c => V.str ⟨#[c]⟩) acc
  | [], [], _, _ => .nil
  | c :: l, v :: acc, hl, h => by
    obtain ⟨c', u, e, rfl⟩ := h 0 v rfl
    cases e
    exact .cons ⟨_, rfl⟩ (vals_sgn (z := z) (by simpa using hl) fun j v e => h (j + 1) v e)
def sgnV (z : Str) : List V := z.cps.toList.map fun c => V.str ⟨#[c]⟩
def rListStr : List V → Hp → VK → Prop := fun xs H Q => ∃ z : Str, xs = [.str z] ∧ z.length ≤ 100000 ∧ ∀ l, H l = none → Q (.ref l) (upd H l (.lst (sgnV z)))
theorem call_listS {X : Cx} (hcalm : X.calm = true) : CallR X (.type "list") rListStr := by
  intro pins s σ H xs us Q I r h
  obtain ⟨z, rfl, hz, q⟩ := h
  obtain ⟨u, rfl, ru⟩ := Vals.one r
  obtain ⟨t, rfl⟩ := ru
  have hz' : z.cps.size ≤ sizeLine := sz_of hz
  refine call_list_str (I.ok.hd hcalm) z t (hn := hz') fun h' tk acc c' hk hS hacc => ?_
  have hv : Vals (sgnV z) acc.toList := vals_sgn (z := z) (by rw [Array.length_toList, Array.length_toList]; exact hacc.1) fun j v e => by
    obtain ⟨c, u, hc, rfl⟩ := hacc.2 j v (by rw [← Array.getElem?_toList]; exact e)
    exact ⟨c, u, by rw [Array.getElem?_toList]; exact hc, rfl⟩
  refine ⟨.ref s.heap.objs.size, upd H s.heap.objs.size (.lst (sgnV z)), I.laid (t' := tk) hk (Nat.le_refl _)
    (show ObjOk X.prog X.w _ _ _ (.lst (sgnV z)) from ⟨by unfold sgnV; rw [List.length_map, Array.length_toList]; exact hz', acc.toList, c', hv, by rw [Array.toArray_toList]; exact hS⟩), rfl, q _ (I.hok.fresh (Nat.le_refl _))⟩
section
variable {K : PySem.W.Frag} {σ : L2.St} {p : Addr} {H : Hp} {te : TE} {z : Str} {o : HO}
theorem od_sgn : ∀ l : List Nat, OdAll K p H (l.map fun c => V.str ⟨#[c]⟩) (l.map fun c => PyData.str ⟨#[c]⟩)
  | [] => .nil
  | _ :: r => .cons (.str _) (od_sgn r)
theorem eo_listS (hp : H p = some o) (h : Ev te σ H (.str z)) (hz : z.length ≤ 100000) : EvO K p (tCB rListStr (tCons te tNil)) σ H (.list (z.cps.toList.map fun c => PyData.str ⟨#[c]⟩)) := fun H1 e Q q =>
  h H1 e _ fun H2 e2 => ⟨z, rfl, hz, fun l nl => q _ _ (e2.trans (Ex.new nl)) (.lst (ne_of_none (e2 _ _ (e _ _ hp)) nl).symm (SqL.of upd_same) (od_sgn _))⟩
end
end XO2
namespace T
open PySem PySem.Spec PyProof.Rows L2 Evl XB TL XS XI XC ClX XQ XSp LamX XO2
/-! ### forms of values, told of data -/
def wordD (ws : List Str) : PyData → Bool
  | .str x => decide (x ∈ ws)
  | _ => false
def isPlaceD : PyData → Bool
  | .int n => decide (-9 ≤ n) && decide (n ≤ 10 ^ 12)
  | _ => false
def isSignD : PyData → Bool
  | .str x => (match x.cps.toList with | [c] => decide (97 ≤ c) && decide (c ≤ 122) | _ => false)
  | _ => false
def sigD : List PyData → Bool
  | [x, y] => isPlaceD x && isSignD y
  | _ => false
def outD : List PyData → Bool
  | [x] => isPlaceD x
  | _ => false
def isEditD : PyData → Bool
  | .tuple (d0 :: r) => if wordD ["put", "set"] d0 = true then sigD r else if wordD ["out"] d0 = true then outD r else wordD ["stay"] d0 && decide (r.length = 0)
  | _ => false
def isListD : PyData → Bool
  | .str z => decide (z.length ≤ 1000) && z.cps.toList.all fun c => decide (97 ≤ c) && decide (c ≤ 122)
  | _ => false
/-- the edit that the data tell -/
def deedOf : PyData → Deed
  | .tuple [.str k, .int n] => .out n
  | .tuple [.str k, .int n, .str x] => .sig k n (x.cps.toList.getD 0 0)
  | _ => .stay
def strOf : PyData → Str
  | .str z => z
  | _ => ""
def ks3E : List Str := ["put", "out", "set"]
theorem let1_of {x : Str} {c : Nat} (h : x.cps.toList = [c]) : x = let1 c := by
  obtain ⟨a⟩ := x
  show Str.mk a = Str.mk #[c]
  have h : a.toList = [c] := h
  rw [← Array.toArray_toList (xs := a), h]
theorem isSign_of {d : PyData} (h : isSignD d = true) : ∃ c, d = .str (let1 c) ∧ 97 ≤ c ∧ c ≤ 122 := by
  cases d with
  | str x =>
    have h : (match x.cps.toList with | [c] => decide (97 ≤ c) && decide (c ≤ 122) | _ => false) = true := h
    cases e : x.cps.toList with
    | nil => rw [e] at h; cases h
    | cons c r =>
      rw [e] at h
      cases r with
      | nil =>
        rw [Bool.and_eq_true, decide_eq_true_eq, decide_eq_true_eq] at h
        exact ⟨c, by rw [let1_of e], h.1, h.2⟩
      | cons _ _ => cases h
  | _ => cases h
theorem isPlace_of {d : PyData} (h : isPlaceD d = true) : ∃ n : Int, d = .int n ∧ -9 ≤ n ∧ n ≤ 10 ^ 12 := by
  cases d with
  | int n =>
    have h : (decide (-9 ≤ n) && decide (n ≤ 10 ^ 12)) = true := h
    rw [Bool.and_eq_true, decide_eq_true_eq, decide_eq_true_eq] at h
    exact ⟨n, rfl, h.1, h.2⟩
  | _ => cases h
theorem word_of {ws : List Str} {d : PyData} (h : wordD ws d = true) : ∃ x, d = .str x ∧ x ∈ ws := by
  cases d with
  | str x => exact ⟨x, rfl, of_decide_eq_true h⟩
  | _ => cases h
theorem abc_of {d : PyData} (h : isListD d = true) : ∃ z, d = .str z ∧ Abc z ∧ z.length ≤ 1000 := by
  cases d with
  | str z =>
    have h : (decide (z.length ≤ 1000) && z.cps.toList.all fun c => decide (97 ≤ c) && decide (c ≤ 122)) = true := h
    rw [Bool.and_eq_true, decide_eq_true_eq, List.all_eq_true] at h
    refine ⟨z, rfl, fun c m => ?_, h.1⟩
    have := h.2 c m
    rw [Bool.and_eq_true, decide_eq_true_eq, decide_eq_true_eq] at this
    exact this
  | _ => cases h
/-- an edit's data -/
def Deed.dat : Deed → PyData
  | .stay => .tuple [.str "stay"]
  | .out n => .tuple [.str "out", .int n]
  | .sig k n c => .tuple [.str k, .int n, .str (let1 c)]
section
variable {K : PySem.W.Frag} {p : Addr} {H : Hp} {v : V} {d : PyData}
theorem edit_of (h : isEditD d = true) : (deedOf d).ok ks3E ∧ d = (deedOf d).dat := by
  cases d with
  | tuple ds =>
    cases ds with
    | nil => cases h
    | cons d0 r =>
      have g : (if wordD ["put", "set"] d0 = true then sigD r else if wordD ["out"] d0 = true then outD r else wordD ["stay"] d0 && decide (r.length = 0)) = true := h
      clear h
      by_cases h1 : wordD ["put", "set"] d0 = true
      · rw [if_pos h1] at g
        obtain ⟨k, rfl, hk⟩ := word_of h1
        rcases r with _ | ⟨x, _ | ⟨y, _ | ⟨y2, r⟩⟩⟩
        · cases g
        · cases g
        · have g : (isPlaceD x && isSignD y) = true := g
          rw [Bool.and_eq_true] at g
          obtain ⟨n, rfl, n1, n2⟩ := isPlace_of g.1
          obtain ⟨c, rfl, c1, c2⟩ := isSign_of g.2
          refine ⟨⟨hk, ?_, n1, n2, c1, c2⟩, rfl⟩
          simp only [List.mem_cons, List.not_mem_nil, or_false] at hk
          rcases hk with rfl | rfl
          · decide
          · decide
        · cases g
      · rw [if_neg h1] at g
        by_cases h2 : wordD ["out"] d0 = true
        · rw [if_pos h2] at g
          obtain ⟨k, rfl, hk⟩ := word_of h2
          rw [List.mem_singleton.mp hk]
          rcases r with _ | ⟨x, _ | ⟨y, r⟩⟩
          · cases g
          · obtain ⟨n, rfl, n1, n2⟩ := isPlace_of (show isPlaceD x = true from g)
            exact ⟨⟨by decide, n1, n2⟩, rfl⟩
          · cases g
        · rw [if_neg h2, Bool.and_eq_true, decide_eq_true_eq] at g
          obtain ⟨k, rfl, hk⟩ := word_of g.1
          rw [List.mem_singleton.mp hk, List.eq_nil_of_length_eq_zero g.2]
          exact ⟨trivial, rfl⟩
  | _ => cases h
theorem od_deed {d : Deed} (h : Od K p H v d.dat) : ∃ a, v = .ref a ∧ a ≠ p ∧ SqT K H a d.vs := by
  cases d with
  | stay =>
    cases h with
    | tup n h1 h2 =>
      cases h2 with
      | cons a r =>
        cases a
        cases r
        exact ⟨_, rfl, n, h1⟩
  | out m =>
    cases h with
    | tup n h1 h2 =>
      cases h2 with
      | cons a r =>
        cases a
        cases r with
        | cons b r =>
          cases b
          cases r
          exact ⟨_, rfl, n, h1⟩
  | sig k m c =>
    cases h with
    | tup n h1 h2 =>
      cases h2 with
      | cons a r =>
        cases a
        cases r with
        | cons b r =>
          cases b
          cases r with
          | cons e r =>
            cases e
            cases r
            exact ⟨_, rfl, n, h1⟩
theorem od_of_deed {d : Deed} {a : Addr} (n : a ≠ p) (h : SqT K H a d.vs) : Od K p H (.ref a) d.dat := by
  cases d with
  | stay => exact .tup n h (.cons (.str _) .nil)
  | out m => exact .tup n h (.cons (.str _) (.cons (.int _) .nil))
  | sig k m c => exact .tup n h (.cons (.str _) (.cons (.int _) (.cons (.str _) .nil)))
theorem w_mem : ∀ {ds : List PyData} {d : PyData}, d ∈ ds → d.weight + 1 ≤ PyData.weightAll ds
  | x :: r, d, m => by
    show d.weight + 1 ≤ x.weight + 1 + PyData.weightAll r
    rcases List.mem_cons.mp m with rfl | m
    · omega
    · have := w_mem m
      omega
end
section
variable {P : Program} {w : World} {K : PySem.W.Frag} {mg : Str → Option Value} {base : Heap} {C CD CE CT : Addr}
variable {σ : L2.St} {H H' : Hp} {ta tb tc te : TE} {p a : Addr} {E : XK} {d du dv : PyData} {v u : V} {ws : List Str} {z : Str}
/-! ### is_word -/
def spWordO (K : PySem.W.Frag) : Sp := fun vs H Q _ => ∃ (p b : Addr) (v : V) (d : PyData) (ws : List Str), vs = [v, .ref b] ∧ Od K p H v d ∧ SqT K H b (sl ws) ∧ ∀ H', Ex H H' → Q (.bl (wordD ws d)) H'
theorem c_wordO (D : At K mg "is_word" s_is_word ["value", "words"]) (B : Bl mg) : C8.Cal P w K mg base 1 "is_word" (spWordO K) [] := by
  refine cal_of D sc_is_word (fun vs H Q E h => ?_) (fun f cdv A outer s H vs Q E hr h => ?_)
  · obtain ⟨p, b, v, d, ws, rfl, _⟩ := h
    rfl
  · obtain ⟨p, b, v, d, ws, rfl, hv, hS, q⟩ := h
    refine ⟨_, pss_one (ps_ret (pe_and (pe_callB call_isi (by rfl) B.isin (by decide +kernel) (pa_cons (pv 0) (pa_cons (pe_bltn (v := .ty "str") (by rfl) B.str (by decide +kernel) rfl) pa_nil))) (pe_one (pe_cmpR op_in_seq (pv 0) (pv 1) (by rfl))))), ?_⟩
    cases d with
    | str x =>
      cases hv
      exact s_ret (ev_andV (ev_isStr (ev_var rfl)) (fun _ => ev_inT (ev_var rfl) (ev_var rfl) hS)) fun H1 e1 => by rw [Bool.true_and]; exact q H1 e1
    | _ => exact s_ret (ev_andV (b := false) (ev_isStrO (ev_var rfl) hv) (fun y => by cases y)) fun H1 e1 => q H1 e1
theorem ev_wordO (h1 : Ev ta σ H v) (hv : Od K p H v d) (h2 : EvS K tb σ H (sl ws)) : Ev (tCall (spWordO K) [] E (tCons ta (tCons tb tNil))) σ H (.bl (wordD ws d)) := fun H1 e Q q =>
  h1 H1 e _ fun H2 e2 => h2 H2 (e.trans e2) _ fun b H3 e3 hb => ⟨p, b, v, d, ws, rfl, hv.ex ((e.trans e2).trans e3), hb, fun H4 e4 => q H4 ((e2.trans e3).trans e4)⟩
/-! ### is_integer, is_place, is_sign -/
def spIntO (K : PySem.W.Frag) : Sp := fun vs H Q _ => ∃ (p : Addr) (v : V) (d : PyData), vs = [v] ∧ Od K p H v d ∧ ∀ H', Ex H H' → Q (.bl (isNumD d)) H'
theorem ev_intO (h : Ev ta σ H v) (hv : Od K p H v d) : Ev (tCall (spIntO K) [] E (tCons ta tNil)) σ H (.bl (isNumD d)) := ev_call (ea_cons h ea_nil) fun H1 e Q q E => ⟨p, v, d, rfl, hv.ex e, q⟩
def spPlaceO (K : PySem.W.Frag) : Sp := fun vs H Q _ => ∃ (p : Addr) (v : V) (d : PyData), vs = [v] ∧ Od K p H v d ∧ ∀ H', Ex H H' → Q (.bl (isPlaceD d)) H'
theorem ev_placeO (h : Ev ta σ H v) (hv : Od K p H v d) : Ev (tCall (spPlaceO K) [] E (tCons ta tNil)) σ H (.bl (isPlaceD d)) := ev_call (ea_cons h ea_nil) fun H1 e Q q E => ⟨p, v, d, rfl, hv.ex e, q⟩
def spSignO (K : PySem.W.Frag) : Sp := fun vs H Q _ => ∃ (p : Addr) (v : V) (d : PyData), vs = [v] ∧ Od K p H v d ∧ d.weight ≤ 40000 ∧ ∀ H', Ex H H' → Q (.bl (isSignD d)) H'
theorem ev_signO (h : Ev ta σ H v) (hv : Od K p H v d) (hw : d.weight ≤ 40000) : Ev (tCall (spSignO K) [] E (tCons ta tNil)) σ H (.bl (isSignD d)) := ev_call (ea_cons h ea_nil) fun H1 e Q q E => ⟨p, v, d, rfl, hv.ex e, hw, q⟩
/-! ### is_edit -/
def spEditO (K : PySem.W.Frag) : Sp := fun vs H Q _ => ∃ (p : Addr) (v : V) (d : PyData), vs = [v] ∧ Od K p H v d ∧ d.weight ≤ 40000 ∧ ∀ H', Ex H H' → Q (.bl (isEditD d)) H'
theorem len_ev {n m : Nat} : V.bl (decide (V.int (n : Int) = V.int (m : Int))) = V.bl (decide (n = m)) := by
  by_cases h : n = m
  · rw [decide_eq_true h, decide_eq_true (by rw [h])]
  · rw [decide_eq_false h, decide_eq_false (fun z => by injection z with z; omega)]
theorem ev_editO (h : Ev ta σ H v) (hv : Od K p H v d) (hw : d.weight ≤ 40000) : Ev (tCall (spEditO K) [] E (tCons ta tNil)) σ H (.bl (isEditD d)) := ev_call (ea_cons h ea_nil) fun H1 e Q q E => ⟨p, v, d, rfl, hv.ex e, hw, q⟩
/-! ### is_list -/
def spListO (K : PySem.W.Frag) : Sp := fun vs H Q _ => ∃ (p : Addr) (v : V) (d : PyData), vs = [v] ∧ Od K p H v d ∧ d.weight ≤ 40000 ∧ ∀ H', Ex H H' → Q (.bl (isListD d)) H'
theorem ev_listO (h : Ev ta σ H v) (hv : Od K p H v d) (hw : d.weight ≤ 40000) : Ev (tCall (spListO K) [] E (tCons ta tNil)) σ H (.bl (isListD d)) := ev_call (ea_cons h ea_nil) fun H1 e Q q E => ⟨p, v, d, rfl, hv.ex e, hw, q⟩
/-! ### done, of anything -/
def spDoneO (K : PySem.W.Frag) (CT CE CD : Addr) : Sp := fun vs H Q E => ∃ (p : Addr) (u v : V) (du dv : PyData), vs = [u, v] ∧ Od K p H u du ∧ Od K p H v dv ∧ du.weight ≤ 40000 ∧ dv.weight ≤ 40000 ∧
  (isListD du = false → ∀ dd H', Ex H H' → H' dd = some (.xd [("given", u)]) → E (.ref CT) (some dd) H') ∧ (isListD du = true → isEditD dv = false → ∀ dd H', Ex H H' → H' dd = some (.xd [("given", v)]) → E (.ref CE) (some dd) H') ∧
  (isListD du = true → isEditD dv = true → playS (strOf du) (deedOf dv) = none → ∀ dd H', Ex H H' → H' dd = some (.xd [("given", v)]) → E (.ref CD) (some dd) H') ∧
  (isListD du = true → isEditD dv = true → ∀ r, playS (strOf du) (deedOf dv) = some r → ∀ H', Ex H H' → Q (.str r) H')
theorem ks3E_in : ks3E ∈ kinds7 := by decide
end
end T
namespace T
open PySem PySem.Spec PyProof.Rows L2 Evl XB TL XS XI XC ClX XQ XSp LamX XO2
/-! ### edits as the law sees them -/
def isDeedD (ss : List Str) : PyData → Bool
  | .tuple (.str k :: r) => if k = "stay" then decide (r.length = 0) else if k ∈ ss then (if k = "out" then outD r else sigD r) else false
  | _ => false
theorem isDeed_edit (d : PyData) : isDeedD ks3E d = isEditD d := by
  cases d with
  | tuple ds =>
    cases ds with
    | nil => rfl
    | cons d0 r =>
      cases d0 with
      | str k =>
        show (if k = "stay" then decide (r.length = 0) else if k ∈ ks3E then (if k = "out" then outD r else sigD r) else false) = (if decide (k ∈ [("put" : Str), "set"]) = true then sigD r else if decide (k ∈ [("out" : Str)]) = true then outD r else decide (k ∈ [("stay" : Str)]) && decide (r.length = 0))
        by_cases h1 : k = "stay"
        · subst h1
          rfl
        by_cases h2 : k = "out"
        · subst h2
          rfl
        by_cases h3 : k = "put"
        · subst h3
          rfl
        by_cases h4 : k = "set"
        · subst h4
          rfl
        have n1 : k ∉ ks3E := fun m => by
          simp only [ks3E, List.mem_cons, List.not_mem_nil, or_false] at m
          rcases m with m | m | m
          · exact h3 m
          · exact h2 m
          · exact h4 m
        have n2 : ¬ k ∈ [("put" : Str), "set"] := fun m => by
          simp only [List.mem_cons, List.not_mem_nil, or_false] at m
          exact m.elim h3 h4
        rw [if_neg h1, if_neg n1, decide_eq_false n2, if_neg (by decide), decide_eq_false (fun m => h2 (List.mem_singleton.mp m)), if_neg (by decide), decide_eq_false (fun m => h1 (List.mem_singleton.mp m))]
        rfl
      | _ => rfl
  | _ => rfl
theorem abc_mem (c : Nat) : decide (c ∈ ("abcdefghijklmnopqrstuvwxyz" : Str).cps.toList) = (decide (97 ≤ c) && decide (c ≤ 122)) := by
  have e : ("abcdefghijklmnopqrstuvwxyz" : Str).cps.toList = List.range' 97 26 := by decide +kernel
  rw [e]
  by_cases h1 : 97 ≤ c <;> by_cases h2 : c ≤ 122 <;> simp [h1, h2, List.mem_range'_1] <;> omega
def Deed.ds : Deed → List PyData
  | .stay => [.str "stay"]
  | .out n => [.str "out", .int n]
  | .sig k n c => [.str k, .int n, .str (let1 c)]
theorem Deed.dat_ds (d : Deed) : d.dat = .tuple d.ds := by cases d <;> rfl
theorem Deed.ds_len : ∀ d : Deed, 0 < d.ds.length ∧ d.ds.length ≤ 3
  | .stay => ⟨(by decide : 0 < 1), (by decide : 1 ≤ 3)⟩
  | .out _ => ⟨(by decide : 0 < 2), (by decide : 2 ≤ 3)⟩
  | .sig _ _ _ => ⟨(by decide : 0 < 3), (by decide : 3 ≤ 3)⟩
theorem ods_of_deed {K : PySem.W.Frag} {p : Addr} {H : Hp} (d : Deed) : OdAll K p H d.vs d.ds := by
  cases d with
  | stay => exact .cons (.str _) .nil
  | out m => exact .cons (.str _) (.cons (.int _) .nil)
  | sig k m c => exact .cons (.str _) (.cons (.int _) (.cons (.str _) .nil))
theorem nc_ds {d : Deed} {ks : List Str} (ok : d.ok ks) (hk : ks ∈ kinds7) : ∀ x ∈ d.ds, Nc x 0 64 := by
  have out9 : Nc (.str "out") 0 64 := nc_b (by decide +kernel)
  cases d with
  | stay => intro x m; rw [List.mem_singleton.mp m]; exact nc_b (by decide +kernel)
  | out n =>
    obtain ⟨o1, o2, o3⟩ := ok
    intro x m
    simp only [Deed.ds, List.mem_cons, List.not_mem_nil, or_false] at m
    rcases m with rfl | rfl
    · exact out9
    · exact nc_int (by omega)
  | sig k n c =>
    obtain ⟨o1, o2, o3, o4, o5, o6⟩ := ok
    intro x m
    simp only [Deed.ds, List.mem_cons, List.not_mem_nil, or_false] at m
    rcases m with rfl | rfl | rfl
    · simp only [List.mem_cons, List.not_mem_nil, or_false] at o1
      rcases o1 with rfl | rfl <;> exact nc_b (by decide +kernel)
    · exact nc_int (by omega)
    · exact nc_str (fun n m => by
        have : n ∈ [c] := m
        rw [List.mem_singleton.mp this]
        omega) (by show 1 ≤ 64; decide)
theorem nc_dat {d : Deed} {ks : List Str} (ok : d.ok ks) (hk : ks ∈ kinds7) : Nc d.dat 1 195 := by
  rw [Deed.dat_ds]
  exact (nc_tup (nc_ds ok hk)).mono (by decide) (by have := d.ds_len.2; exact Nat.le_trans (Nat.mul_le_mul_right 65 this) (by decide))
theorem ncv_dat {d : Deed} {ks : List Str} (ok : d.ok ks) (hk : ks ∈ kinds7) : NcV d.dat := .inl ((nc_dat ok hk).mono (by decide) (by decide))
theorem cut_to (xs : List V) (n : Nat) : cutV xs none (some (n : Int)) = xs.take n := by
  unfold cutV
  rw [HT.sIx_none, HT.sIx_nat, List.drop_zero, Nat.sub_zero]
  by_cases h : n ≤ xs.length
  · rw [Nat.min_eq_left h]
  · rw [Nat.min_eq_right (by omega), List.take_length, List.take_of_length_le (by omega)]
theorem cut_fr (xs : List V) (n : Nat) : cutV xs (some (n : Int)) none = xs.drop n := by
  unfold cutV
  rw [HT.sIx_none, HT.sIx_nat]
  by_cases h : n ≤ xs.length
  · rw [Nat.min_eq_left h, List.take_of_length_le (by rw [List.length_drop]; exact Nat.le_refl _)]
  · rw [Nat.min_eq_right (by omega), List.drop_length, List.drop_of_length_le (by omega), List.take_nil]
section
variable {P : Program} {w : World} {K : PySem.W.Frag} {mg : Str → Option Value} {base : Heap} {C CD CE CT : Addr}
variable {σ : L2.St} {H H' : Hp} {ta tb tc te : TE} {p a l : Addr} {E : XK} {d du dv : PyData} {v u : V} {vs : List V} {ds es : List PyData} {ws : List Str} {z : Str} {Q : VK} {D' : Ends} {tz : TS} {t : TT} {x : Str}
/-! ### more rules -/
theorem ev_notInL (hx : Ev ta σ H (.str x)) (ha : Ev tb σ H (.ref a)) (h : SqL K H a (sl ws)) : Ev (tOp (rIn K true) ta tb) σ H (.bl (!decide (x ∈ ws))) := fun H1 e Q q =>
  hx H1 e _ fun H2 e2 => ha H2 (e.trans e2) _ fun H3 e3 => ⟨a, sl ws, rfl, .inl (ex_l ((e.trans e2).trans e3) h), rfl, flat_sl ws, by rw [inV_sl]; exact q H3 (e2.trans e3)⟩
theorem pick_sp (hp : Purse H p) (hl : SqL K H l vs) (lp : l ≠ p) (od : OdAll K p H vs ds) (ne : ds ≠ []) (hz : ds.length ≤ 1000) (k : ∀ v d H', d ∈ ds → Od K p H' v d → Purse H' p → Chg p H H' → Q v H') : spPick K [.ref p, .ref l] H Q E := by
  refine ⟨p, .ref l, rfl, hp, .inl ⟨l, vs, rfl, lp, hl, (fun e => ne (by subst e; cases od; rfl)), by rw [od.len]; exact hz, fun v hv H' hp' c => ?_⟩⟩
  obtain ⟨d, hd, o⟩ := od.mem hv
  exact k v d H' hd (o.kp (Kp.chg c)) hp' c
theorem q_asgLo {i : Nat} (h : EvLo K p te σ H ds) (k : ∀ l vs H1, H l = none → Ex H H1 → H1 l = some (.lst vs) → OdAll K p H1 vs ds → tz D' (σ.set i (some (.ref l))) H1) : tSeq (tAsg te (gName i)) tz D' σ H := h H (Ex.refl H) _ k
theorem s_retO (h : EvO K p te σ H d) (k : ∀ v H1, Ex H H1 → Od K p H1 v d → D'.rt v H1) : tRet te D' σ H := h H (Ex.refl H) _ k
theorem eo_if {b : Bool} (h : EvT t σ H b) (h1 : b = true → EvO K p ta σ H d) (h2 : b = false → EvO K p tb σ H d) : EvO K p (tIf t ta tb) σ H d := fun H1 e Q q => h H1 e _ fun H2 e2 => by
  cases b with
  | true => exact iteT (h1 rfl H2 (e.trans e2) Q fun v H3 e3 h3 => q v H3 (e2.trans e3) h3)
  | false => exact iteF (h2 rfl H2 (e.trans e2) Q fun v H3 e3 h3 => q v H3 (e2.trans e3) h3)
theorem catA_O (o1 : Od K p H u (.tuple ds)) (o2 : Od K p H v (.tuple es)) {o : HO} (hp : H p = some o) (hz : ds.length + es.length ≤ 100000) (k : ∀ v H', Ex H H' → Od K p H' v (.tuple (ds ++ es)) → Q v H') : rCatA K u v H Q := by
  cases o1 with
  | tup n1 s1 d1 =>
    cases o2 with
    | tup n2 s2 d2 =>
      rename_i a xs b ys
      refine ⟨a, b, xs, ys, rfl, rfl, s1, s2, by rw [d1.len, d2.len]; exact sz_of hz, fun z => ?_, fun _ z => ?_, fun _ _ l nl => ?_⟩
      · subst z
        cases d1
        exact k _ H (Ex.refl H) (.tup n2 s2 d2)
      · subst z
        cases d2
        exact k _ H (Ex.refl H) (by rw [List.append_nil]; exact .tup n1 s1 d1)
      · exact k _ _ (Ex.new nl) (.tup (ne_of_none hp nl).symm (st_of upd_same) ((d1.app d2).ex (Ex.new nl)))
/-- a comprehension over the signs of a text, with a test -/
theorem el_lcTf {z : Str} {tl : TE} {j : Nat} {vs : List Nat} (f : Nat → Bool) (v : Nat → V) (h : Ev tl σ H (.str z)) (hz : z.cps.size ≤ 40000) (hw : ∀ x, wipe ((wipe σ vs).set j (some x)) vs = wipe σ vs)
    (ht : ∀ c H1, Ex H H1 → c ∈ z.cps.toList → EvT t ((wipe σ vs).set j (some (.str ⟨#[c]⟩))) H1 (f c)) (he : ∀ c H1, Ex H H1 → c ∈ z.cps.toList → Ev te ((wipe σ vs).set j (some (.str ⟨#[c]⟩))) H1 (v c)) :
    EvL (tLc (iStr tl) (gName j) t te vs) σ H ((z.cps.toList.filter f).map v) := fun H0 e Q q => h H0 e _ fun H1 e1 => ⟨z, rfl, fun D hD => by
  refine lc_it walk_str (fun i G => Ex H1 G ∧ G D = some (.lst (((z.cps.toList.take i).filter f).map v))) ⟨Ex.new hD, upd_same⟩ (fun i G _ p => trivial) ?_ ?_
  · rintro i x G' G hi ⟨g1, g2⟩ ⟨rfl, c, hc, rfl⟩
    have hcl : z.cps.toList[i]? = some c := by rw [Array.getElem?_toList]; exact hc
    have m := List.mem_of_getElem? hcl
    have tk : z.cps.toList.take (i + 1) = z.cps.toList.take i ++ [c] := by rw [List.take_succ, hcl]; rfl
    have ee := (e.trans e1).trans g1
    refine ⟨hw _, ht c _ ee m _ (Ex.refl _) _ fun G2 k2 => ?_⟩
    cases hf : f c with
    | true =>
      refine iteT (he c _ (ee.trans k2) m _ (Ex.refl _) _ fun G3 g3 => ⟨_, g3 _ _ (k2 _ _ g2), ?_, Ex.mut ((g1.trans k2).trans g3) hD, ?_⟩)
      · refine sz_lt ?_
        have l1 : (List.filter f (List.take i z.cps.toList)).length ≤ z.cps.toList.length := Nat.le_trans (List.length_filter_le _ _) (List.length_take_le' _ _)
        have l2 : z.cps.toList.length = z.cps.size := Array.length_toList
        rw [List.length_map]
        omega
      · rw [upd_same, tk, List.filter_append, List.map_append, List.filter_cons, if_pos hf]
        rfl
    | false =>
      refine iteF ⟨g1.trans k2, ?_⟩
      rw [tk, List.filter_append, List.map_append, List.filter_cons, if_neg (by rw [hf]; decide)]
      show _ = some (HO.lst (_ ++ []))
      rw [List.append_nil]
      exact k2 _ _ g2
  · rintro G ⟨g1, g2⟩
    refine q D G (fresh_back e1 hD) (e1.trans g1) ?_
    rw [g2, List.take_of_length_le (by rw [Array.length_toList]; exact Nat.le_refl _)]⟩
/-! ### _law_signs -/
def signsW : Str := " !#$&()*+,-./0123456789:;<=>?@ABCDEFGHIJKLMNOPQRSTUVWXYZ[]^_abcdefghijklmnopqrstuvwxyz{|}~\n   <=>:"
def spSigns : Sp := fun vs H Q _ => vs = [] ∧ ∀ H', Ex H H' → Q (.str signsW) H'
/-! ### _law_is_deed -/
def spIsDeed (K : PySem.W.Frag) : Sp := fun vs H Q _ => ∃ (p b : Addr) (v : V) (d : PyData) (ss : List Str), vs = [v, .ref b] ∧ Od K p H v d ∧ d.weight ≤ 40000 ∧ SqL K H b (sl ss) ∧ ∀ H', Ex H H' → Q (.bl (isDeedD ss d)) H'
theorem place_neg (n : Int) : (!true || (false || (decide (n < -9) || decide (10 ^ 12 < n)))) = !(decide (-9 ≤ n) && decide (n ≤ 10 ^ 12)) := by
  have e1 : decide (n < -9) = !decide (-9 ≤ n) := by rw [← decide_not]; exact decide_eq_decide.mpr (by omega)
  have e2 : decide (10 ^ 12 < n) = !decide (n ≤ 10 ^ 12) := by rw [← decide_not]; exact decide_eq_decide.mpr (by omega)
  rw [e1, e2, Bool.not_and]
  rfl
theorem isPlace_num {d : PyData} (h : isNumD d = false) : isPlaceD d = false := by cases d <;> first | rfl | cases h
theorem ev_isDeed (h1 : Ev ta σ H v) (hv : Od K p H v d) (hw : d.weight ≤ 40000) (h2 : EvM tb σ H (sl ws)) : Ev (tCall (spIsDeed K) [] E (tCons ta (tCons tb tNil))) σ H (.bl (isDeedD ws d)) := fun H1 e Q q =>
  h1 H1 e _ fun H2 e2 => h2 H2 (e.trans e2) _ fun b H3 e3 hb => ⟨p, b, v, d, ws, rfl, hv.ex ((e.trans e2).trans e3), hw, SqL.of hb, fun H4 e4 => q H4 ((e2.trans e3).trans e4)⟩
end
end T
namespace T
open PySem PySem.Spec PyProof.Rows L2 Evl XB TL XS XI XC ClX XQ XSp LamX XO2
def menuA (ds : List PyData) : List PyData := [.none, .int 0, .bool true, .str "", .str "stay", .str "put", .tuple [], .list [.str "stay"], .dict [], .list ds, .tuple [.str "stay", .int 0], .tuple [.str "stay"], .tuple [.tuple ds]]
def menuB : List PyData := [.none, .bool true, .bool false, .int 0, .int (-9), .int (-10), .int (10 ^ 12), .int (10 ^ 12 + 1), .int (10 ^ 39), .str "a", .str "z", .str "A", .str "", .str "ab", .str "{", .str "1", .str "_"]
def menuC : List PyData := [.str "put", .str "out", .str "set", .str "Put", .str "stay", .list [], .tuple [.int 1], .str "0"]
theorem menuBC_nc : ∀ x ∈ menuB ++ menuC, Nc x 1 200 := by
  have all : ∀ x ∈ menuB ++ menuC, ncB 1 200 x = true := by decide +kernel
  exact fun x m => nc_b (all x m)
theorem menuA_nc {d : Deed} {ks : List Str} (ok : d.ok ks) (hk : ks ∈ kinds7) : ∀ x ∈ menuA d.ds, NcV x := by
  have l3 := d.ds_len.2
  have h1 := nc_dat ok hk
  rw [Deed.dat_ds] at h1
  intro x m
  simp only [menuA, List.mem_cons, List.not_mem_nil, or_false] at m
  rcases m with rfl | rfl | rfl | rfl | rfl | rfl | rfl | rfl | rfl | rfl | rfl | rfl | rfl
  · exact .inl (nc_b (by decide +kernel))
  · exact .inl (nc_b (by decide +kernel))
  · exact .inl (nc_b (by decide +kernel))
  · exact .inl (nc_b (by decide +kernel))
  · exact .inl (nc_b (by decide +kernel))
  · exact .inl (nc_b (by decide +kernel))
  · exact .inl (nc_b (by decide +kernel))
  · exact .inl (nc_b (by decide +kernel))
  · exact .inr (by decide +kernel)
  · exact .inl ((nc_lst (nc_ds ok hk)).mono (by decide) (by omega))
  · exact .inl (nc_b (by decide +kernel))
  · exact .inl (nc_b (by decide +kernel))
  · exact .inl ((nc_tup (ds := [PyData.tuple d.ds]) (fun y my => by rw [List.mem_singleton.mp my]; exact h1)).mono (by decide) (show 1 * (195 + 1) ≤ 20000 by decide))
section
variable {P : Program} {w : World} {K : PySem.W.Frag} {mg : Str → Option Value} {base : Heap} {C CD CE CT : Addr}
variable {σ : L2.St} {H H' : Hp} {ta tb tc te : TE} {p a l : Addr} {E : XK} {d du dv : PyData} {v u : V} {vs : List V} {ds es : List PyData} {ws : List Str} {z : Str} {Q : VK} {D' : Ends} {tz : TS} {t : TT} {x : Str} {o : HO}
theorem eo_to (hp : H p = some o) {n : Nat} (h : Ev te σ H (.ref a)) (hn : Ev tb σ H (.int (n : Int))) (hx : SqT K H a vs) (np : a ≠ p) (od : OdAll K p H vs ds) : XO2.EvO K p (tSl (rSlA K) te tNoPart (tPart tb)) σ H (.tuple (ds.take n)) :=
  eo_slA hp h hx np eo_none (eo_some hn) (by rw [cut_to]; exact od.take n)
theorem eo_fr (hp : H p = some o) {n : Nat} (h : Ev te σ H (.ref a)) (hn : Ev tb σ H (.int (n : Int))) (hx : SqT K H a vs) (np : a ≠ p) (od : OdAll K p H vs ds) : XO2.EvO K p (tSl (rSlA K) te (tPart tb) tNoPart) σ H (.tuple (ds.drop n)) :=
  eo_slA hp h hx np (eo_some hn) eo_none (by rw [cut_fr]; exact od.drop n)
/-! ### _law_bent_deed -/
def spBent (K : PySem.W.Frag) : Sp := fun vs H Q _ => ∃ (p a : Addr) (d : Deed) (ks : List Str), vs = [.ref p, .ref a] ∧ Purse H p ∧ a ≠ p ∧ SqT K H a d.vs ∧ d.ok ks ∧ ks ∈ kinds7 ∧ ∀ v dt H', Od K p H' v dt → NcV dt → Purse H' p → Chg p H H' → Q v H'
end
end T
namespace T
open PySem PySem.Spec PyProof.Rows L2 Evl XB TL XS XI XC ClX XQ XSp LamX XO2
def menuV (z : Str) : List PyData := [.none, .int 0, .bool true, .tuple [], .tuple [.str "a", .str "b"], .list [.str "a"], .dict [], .list (z.cps.toList.map fun c => PyData.str ⟨#[c]⟩), .int (-7)]
theorem lo_abc {z : Str} (h : Abc z) : ∀ c ∈ z.cps.toList, c < 128 := fun c m => by have := (h c m).2; omega
theorem menuV_nc {z : Str} (h : Abc z) (hz : z.length ≤ 6) : ∀ x ∈ menuV z, NcV x := by
  intro x m
  simp only [menuV, List.mem_cons, List.not_mem_nil, or_false] at m
  rcases m with rfl | rfl | rfl | rfl | rfl | rfl | rfl | rfl | rfl
  · exact .inl (nc_b (by decide +kernel))
  · exact .inl (nc_b (by decide +kernel))
  · exact .inl (nc_b (by decide +kernel))
  · exact .inl (nc_b (by decide +kernel))
  · exact .inl (nc_b (by decide +kernel))
  · exact .inl (nc_b (by decide +kernel))
  · exact .inr (by decide +kernel)
  · refine .inl ((nc_lst (a := 0) (b := 1) fun x m => ?_).mono (by decide) ?_)
    · obtain ⟨c, hc, rfl⟩ := List.mem_map.mp m
      exact nc_str (fun n mn => by
        have : n ∈ [c] := mn
        rw [List.mem_singleton.mp this]
        exact lo_abc h c hc) (show 1 ≤ 1 by decide)
    · rw [List.length_map, Array.length_toList]
      have : z.cps.size ≤ 6 := hz
      omega
  · exact .inl (nc_b (by decide +kernel))
theorem signs_lo : 0 < signsW.length ∧ signsW.length ≤ 1000 ∧ ∀ c ∈ signsW.cps.toList, c < 128 := by decide +kernel
theorem ncv_str {x : Str} (h : ∀ c ∈ x.cps.toList, c < 128) (hl : x.length ≤ 20000) : NcV (.str x) := .inl ((nc_str h hl).mono (by decide) (Nat.le_refl _))
theorem lo_app {x y : Str} (h : ∀ c ∈ x.cps.toList, c < 128) (g : ∀ c ∈ y.cps.toList, c < 128) : ∀ c ∈ (x ++ y).cps.toList, c < 128 := fun c m => by
  have m : c ∈ (x.cps ++ y.cps).toList := m
  rw [Array.toList_append] at m
  exact (List.mem_append.mp m).elim (h c) (g c)
theorem cutS_to (z : Str) (n : Nat) : (cutS z none (some (n : Int))).length ≤ n := by
  show (((z.cps.toList.drop (HT.sIx z.length 0 none)).take (HT.sIx z.length z.length (some (n : Int)) - HT.sIx z.length 0 none)).toArray).size ≤ n
  rw [List.size_toArray, List.length_take]
  have h1 : HT.sIx z.length z.length (some (n : Int)) ≤ n := by
    unfold HT.sIx
    simp only
    split <;> omega
  omega
section
variable {P : Program} {w : World} {K : PySem.W.Frag} {mg : Str → Option Value} {base : Heap} {C CD CE CT : Addr}
variable {σ : L2.St} {H H' : Hp} {ta tb tc te : TE} {p a l : Addr} {E : XK} {d du dv : PyData} {v u : V} {vs : List V} {ds es : List PyData} {ws : List Str} {z : Str} {Q : VK} {D' : Ends} {tz : TS} {t : TT} {x : Str} {o : HO}
/-! ### _law_value -/
def spValue (K : PySem.W.Frag) : Sp := fun vs H Q _ => ∃ (p : Addr), vs = [.ref p] ∧ Purse H p ∧ ∀ v dt H', Od K p H' v dt → NcV dt → Purse H' p → Chg p H H' → Q v H'
/-! ### _law_is_list -/
def spIsListL (K : PySem.W.Frag) : Sp := fun vs H Q _ => ∃ (p : Addr) (v : V) (d : PyData), vs = [v] ∧ Od K p H v d ∧ NcV d ∧ ∀ H', Ex H H' → Q (.bl (isListD d)) H'
theorem ncv_of {z : Str} (h : NcV (.str z)) : OkS z ∧ z.length ≤ 20000 := by
  refine ⟨?_, h.w⟩
  rcases h with h | h
  · exact h.o
  · unfold ncD at h
    simp only [Bool.and_eq_true] at h
    exact absurd h.2 (by decide)
theorem shp_sgn {l : List Nat} (h : ∀ c ∈ l, c < 0x110000) : SeqAt.shaped (.list (l.map fun c => PyData.str ⟨#[c]⟩)) = true := by
  have : (l.map fun c => PyData.str ⟨#[c]⟩) = (l.map fun c => (⟨#[c]⟩ : Str)).map PyData.str := by rw [List.map_map]; rfl
  rw [this]
  refine shp_ok fun x m => ?_
  obtain ⟨c, hc, rfl⟩ := List.mem_map.mp m
  intro n mn
  have : n ∈ [c] := mn
  rw [List.mem_singleton.mp this]
  exact h c hc
theorem dp_sgn : ∀ l : List Nat, DpAll K H (l.map fun c => V.str ⟨#[c]⟩) (l.map fun c => PyData.str ⟨#[c]⟩)
  | [] => .nil
  | _ :: r => .cons (.str _) (dp_sgn r)
theorem ev_isListL (h : Ev ta σ H v) (hv : Od K p H v d) (hn : NcV d) : Ev (tCall (spIsListL K) [] E (tCons ta tNil)) σ H (.bl (isListD d)) := ev_call (ea_cons h ea_nil) fun H1 e Q q E => ⟨p, v, d, rfl, hv.ex e, hn, q⟩
/-! ### _law_due -/
def dueW (du dv : PyData) : List Str := if isListD du = false then ["InvalidText", du.shown] else if isEditD dv = false then ["InvalidEdit", dv.shown] else match playS (strOf du) (deedOf dv) with | none => ["CannotDo", dv.shown] | some _ => []
def spDue (K : PySem.W.Frag) : Sp := fun vs H Q _ => ∃ (p : Addr) (u v : V) (du dv : PyData), vs = [u, v] ∧ Od K p H u du ∧ Od K p H v dv ∧ NcV du ∧ NcV dv ∧ ∀ l H', H l = none → Ex H H' → H' l = some (.lst (sl (dueW du dv))) → Q (.ref l) H'
end
end T
namespace T
open PySem PySem.Spec PyProof.Rows L2 Evl XB TL XS XI XC ClX XQ XSp LamX XO2
/-! ### tables where tables of code objects grow -/
section
variable {K : PySem.W.Frag} {C : Addr} {H H' : Hp} {x : Addr} {ks : List Str} {cs : List Cell} {kvs : List (Nm × V)}
theorem DictOf.xn (h : DictOf H kvs cs) (e : ExtN H H') : DictOf H' kvs cs := ⟨h.1, fun i c hc => by
  obtain ⟨t, h1, h2⟩ := h.2 i c hc
  exact ⟨t, h1, e _ _ h2 (fun _ z => by cases z)⟩⟩
theorem TabW.xn (h : TabW K C H x ks cs) (e : ExtN H H') : TabW K C H' x ks cs := by
  obtain ⟨dx, D, a, r, kvs, f⟩ := h
  exact ⟨dx, D, a, r, kvs, e _ _ f.hx (fun _ z => by cases z), xn_t e f.ha, xn_t e f.hr, e _ _ f.hD (fun _ z => by cases z), f.d.xn e, f.c⟩
theorem LDict.xn (h : LDict H kvs cs) (e : ExtN H H') : LDict H' kvs cs := ⟨h.keys, fun i c hc => by
  obtain ⟨t, h1, h2⟩ := h.at_ i c hc
  exact ⟨t, h1, e _ _ h2 (fun _ z => by cases z)⟩⟩
theorem LDict.chgP {p : Addr} (h : LDict H kvs cs) (hC : Cells ks cs) (hp : Purse H p) (c : Chg p H H') : LDict H' kvs cs := by
  obtain ⟨d, z, w, e⟩ := hp
  exact h.chgU hC e notx_int c
end
/-! ### edits of kinds -/
theorem isDeed_mono {ss ts : List Str} (hs : ∀ x ∈ ss, x ∈ ts) {d : PyData} (h : isDeedD ss d = true) : isDeedD ts d = true := by
  cases d with
  | tuple ds =>
    cases ds with
    | nil => cases h
    | cons d0 r =>
      cases d0 with
      | str k =>
        have g : (if k = "stay" then decide (r.length = 0) else if k ∈ ss then (if k = "out" then outD r else sigD r) else false) = true := h
        show (if k = "stay" then decide (r.length = 0) else if k ∈ ts then (if k = "out" then outD r else sigD r) else false) = true
        by_cases h1 : k = "stay"
        · rw [if_pos h1] at g ⊢
          exact g
        · rw [if_neg h1] at g ⊢
          by_cases h2 : k ∈ ss
          · rw [if_pos h2] at g
            rw [if_pos (hs k h2)]
            exact g
          · rw [if_neg h2] at g
            cases g
      | _ => cases h
  | _ => cases h
theorem ks_sub {ks : List Str} (hk : ks ∈ kinds7) : ∀ x ∈ ks, x ∈ ks3E := by
  have all : ∀ ks ∈ kinds7, ∀ x ∈ ks, x ∈ ks3E := by decide +kernel
  exact all ks hk
theorem editOf_eq {ks : List Str} (hk : ks ∈ kinds7) {d : PyData} (h : isEditD d = true) : isDeedD ks d = (decide ((deedOf d).hd = "stay") || decide ((deedOf d).hd ∈ ks)) := by
  obtain ⟨ok, ed⟩ := edit_of h
  have g : isDeedD ks3E d = true := by rw [isDeed_edit]; exact h
  rw [ed] at g ⊢
  have ee : deedOf ((deedOf d).dat) = deedOf d := by rw [← ed]
  rw [ee]
  generalize deedOf d = e at ok g
  cases e with
  | stay => rfl
  | out n =>
    have g : (if ("out" : Str) ∈ ks3E then outD [.int n] else false) = true := g
    rw [if_pos (by decide)] at g
    show (if ("out" : Str) ∈ ks then outD [.int n] else false) = (false || decide (("out" : Str) ∈ ks))
    rw [g]
    by_cases m : ("out" : Str) ∈ ks
    · rw [if_pos m, decide_eq_true m]; rfl
    · rw [if_neg m, decide_eq_false m]; rfl
  | sig k n c =>
    have hk2 := ok.1
    have ns : k ≠ "stay" := fun z => by rw [z] at hk2; exact absurd hk2 (by decide)
    have no : k ≠ "out" := fun z => by rw [z] at hk2; exact absurd hk2 (by decide)
    have g : (if k = "stay" then decide (2 = 0) else if k ∈ ks3E then (if k = "out" then outD [.int n, .str (let1 c)] else sigD [.int n, .str (let1 c)]) else false) = true := g
    rw [if_neg ns, if_pos ok.2.1, if_neg no] at g
    show (if k = "stay" then decide (2 = 0) else if k ∈ ks then (if k = "out" then outD [.int n, .str (let1 c)] else sigD [.int n, .str (let1 c)]) else false) = (decide (k = "stay") || decide (k ∈ ks))
    rw [if_neg ns, if_neg no, g, decide_eq_false ns]
    by_cases m : k ∈ ks
    · rw [if_pos m, decide_eq_true m]; rfl
    · rw [if_neg m, decide_eq_false m]; rfl
/-- an edit of these kinds, out of its data -/
theorem deed_of {ks : List Str} (hk : ks ∈ kinds7) {d : PyData} (h : isDeedD ks d = true) : isEditD d = true ∧ d = (deedOf d).dat ∧ (deedOf d).ok ks := by
  have h1 : isEditD d = true := by
    rw [← isDeed_edit]
    exact isDeed_mono (ks_sub hk) h
  obtain ⟨ok, ed⟩ := edit_of h1
  refine ⟨h1, ed, ?_⟩
  rw [editOf_eq hk h1, Bool.or_eq_true, decide_eq_true_eq, decide_eq_true_eq] at h
  generalize deedOf d = e at ok h
  cases e with
  | stay => trivial
  | out n => exact ⟨h.resolve_left (show ¬ ("out" : Str) = "stay" by decide), ok.2⟩
  | sig k n c =>
    have hk2 := ok.1
    have ns : k ≠ "stay" := fun z => by rw [z] at hk2; exact absurd hk2 (by decide)
    exact ⟨hk2, h.resolve_left ns, ok.2.2⟩
theorem isDeed_edit2 {ks : List Str} (hk : ks ∈ kinds7) {d : PyData} (h : isEditD d = false) : isDeedD ks d = false := by
  cases e : isDeedD ks d with
  | false => rfl
  | true => rw [(deed_of hk e).1] at h; cases h
/-! ### is not True -/
def thatB (b : Bool) : PyData → Bool
  | .bool c => decide (c = b)
  | _ => false
def rIsNotO (K : PySem.W.Frag) : R2 := fun x y H Q => ∃ (p : Addr) (d : PyData) (b : Bool), Od K p H x d ∧ y = .bl b ∧ Q (.bl (!thatB b d)) H
theorem op_isnot_bO {X : Cx} : OpR X (compareOp .IsNot) (rIsNotO X.K) := by
  intro pins s σ H x y v u Q I rx ry h
  obtain ⟨p, d, b, ox, rfl, q⟩ := h
  cases (show u = Value.bool b from ry)
  cases ox with
  | bl c =>
    cases (show v = Value.bool c from rx)
    have q : Q (.bl (!decide (c = b))) H := q
    by_cases e : c = b
    · subst e
      exact wpAny_isNot_self rfl ⟨.bl false, H, I, rfl, by simpa using q⟩
    · exact wpAny_isNot_other rfl (fun z => e (Value.bool.inj z)) ⟨.bl true, H, I, rfl, by simpa [e] using q⟩
  | non =>
    cases (show v = Value.none from rx)
    exact wpAny_isNot_other rfl (fun z => by cases z) ⟨.bl true, H, I, rfl, q⟩
  | int i =>
    obtain ⟨t, rfl⟩ := rx
    exact wpAny_isNot_other rfl (fun z => by cases z) ⟨.bl true, H, I, rfl, q⟩
  | str x =>
    obtain ⟨t, rfl⟩ := rx
    exact wpAny_isNot_other rfl (fun z => by cases z) ⟨.bl true, H, I, rfl, q⟩
  | lst n h1 h2 =>
    cases rx
    exact wpAny_isNot_other rfl (fun z => by cases z) ⟨.bl true, H, I, rfl, q⟩
  | tup n h1 h2 =>
    cases rx
    exact wpAny_isNot_other rfl (fun z => by cases z) ⟨.bl true, H, I, rfl, q⟩
  | dct n h1 h2 =>
    cases rx
    exact wpAny_isNot_other rfl (fun z => by cases z) ⟨.bl true, H, I, rfl, q⟩
section
variable {P : Program} {w : World} {K : PySem.W.Frag} {mg : Str → Option Value} {base : Heap} {C CE CF : Addr}
variable {σ : L2.St} {H H' : Hp} {ta tb tc te : TE} {p a b l x : Addr} {E : XK} {d du dv dt : PyData} {v u t : V} {vs : List V} {ks : List Str} {cs : List Cell} {Q : VK}
theorem rv_isnotO {bb : Bool} (h : Od K p H v d) : RV (rIsNotO K) v (.bl bb) H (.bl (!thatB bb d)) := fun H1 e Q q => ⟨p, d, bb, h.ex e, rfl, q H1 (Ex.refl H1)⟩
/-! ### is_edit_of -/
def spEditOfO (K : PySem.W.Frag) : Sp := fun vs H Q _ => ∃ (p b : Addr) (v : V) (d : PyData) (ks : List Str), vs = [v, .ref b] ∧ Od K p H v d ∧ d.weight ≤ 40000 ∧ SqT K H b (sl ks) ∧ ks ∈ kinds7 ∧ ∀ H', Ex H H' → Q (.bl (isDeedD ks d)) H'
theorem ev_editOfO (h1 : Ev ta σ H v) (hv : Od K p H v d) (hw : d.weight ≤ 40000) (h2 : Ev tb σ H (.ref b)) (hb : SqT K H b (sl ks)) (hk : ks ∈ kinds7) : Ev (tCall (spEditOfO K) [] E (tCons ta (tCons tb tNil))) σ H (.bl (isDeedD ks d)) :=
  ev_call (ea_cons h1 (ea_cons h2 ea_nil)) fun H1 e Q q E => ⟨p, b, v, d, ks, rfl, hv.ex e, hw, ex_t e hb, hk, q⟩
/-! ### passed, of anything -/
def spPassedO (K : PySem.W.Frag) (C CE CF : Addr) : Sp := fun vs H Q E => ∃ (p x : Addr) (u v t : V) (du dv dt : PyData) (ks : List Str) (cs : List Cell), vs = [.ref x, u, v, t] ∧ TabW K C H x ks cs ∧ ks ∈ kinds7 ∧ Od K p H u du ∧ Od K p H v dv ∧ Od K p H t dt ∧ du.weight ≤ 40000 ∧ dv.weight ≤ 40000 ∧
  (isDeedD ks du = false → ∀ dd H', Ex H H' → H' dd = some (.xd [("given", u)]) → E (.ref CE) (some dd) H') ∧ (isDeedD ks du = true → isDeedD ks dv = false → ∀ dd H', Ex H H' → H' dd = some (.xd [("given", v)]) → E (.ref CE) (some dd) H') ∧
  (isDeedD ks du = true → isDeedD ks dv = true → isBoolD dt = false → ∀ dd H', Ex H H' → H' dd = some (.xd [("given", t)]) → E (.ref CF) (some dd) H') ∧
  (isDeedD ks du = true → isDeedD ks dv = true → ∀ first, dt = .bool first → ∀ l H', Ex H H' → SqT K H' l (turnedOf cs (deedOf du) (deedOf dv) first) → Q (.ref l) H')
theorem el_catR' {ws : List Str} {x : Str} {s : Addr} (hs : H s = some (.lst (sl ws))) (hz : ws.length ≤ 1000) (h1 : σ[1]? = some (some (.ref s)) := by rfl) : EvL (tOp rCat (tVar 1) (tLst (tCons (tC (.str x)) tNil))) σ H (sl (ws ++ [x])) := fun H1 e Q q =>
  ⟨_, h1, (by show 1 ≤ sizeLine; decide), fun c nc => ⟨s, c, sl ws, [.str x], rfl, rfl, kp (e _ _ hs) nc, upd_same, (by rw [XB.len_sl, sizeLine_eq]; show _ + 1 ≤ _; omega), fun r nr => q r _ (fresh_back (Ex.new nc) nr) ((Ex.new nc).trans (Ex.new nr)) (by rw [upd_same]; exact congrArg (fun z => some (HO.lst z)) (sl_cat ws [x]))⟩⟩
/-! ### _law_odd -/
def spOdd (K : PySem.W.Frag) : Sp := fun vs H Q _ => ∃ (p s : Addr) (ks : List Str), vs = [.ref p, .ref s] ∧ Purse H p ∧ H s = some (.lst (sl ks)) ∧ s ≠ p ∧ ks ∈ kinds7 ∧ ∀ v dt H', Od K p H' v dt → NcV dt → Purse H' p → Chg p H H' → Q v H'
theorem stay_ks {ks : List Str} : ∀ s ∈ ks ++ [("stay" : Str)], s = "stay" ∨ s ∈ ks := fun s m => by
  rcases List.mem_append.mp m with m | m
  · exact .inr m
  · exact .inl (List.mem_singleton.mp m)
end
end T
/-! Own: o[i] by an own __getitem__ that may raise. -/
namespace XGt
open PySem PySem.Spec PyProof.Rows L2
section
variable {X : Cx} {CX : CXT} {k : Nat} {C f : Addr} {fd : FuncData} {sp : Sp} {a b : Expr} {pos : Pos} {ta tb : TE}
def rGetX (C : Addr) (sp : Sp) (E : XK) : R2 := fun x y H Q => ∃ o dx fs, x = .ref o ∧ H o = some (.ins C dx fs) ∧ sp [.ref o, y] H Q E
theorem pe_getX {E : XK} (c : GetC X.K C f) (F : FnOk X.prog X.w X.K X.mg X.base CX k f fd ["self", "at"] sp) (hr : Room (k + 1) X.A) (hb : Binds X.K fd ["self", "at"] []) (hx : Passes CX X E) (ha : PE X a ta) (hi : PE X b tb)
    (hsl : ∀ (x : Addr) (i : Value), subscripted b true (.ref x) i = runValue (.builtin "lifetime.subscript" ⟨[.ref x, i], []⟩) := by intro _ _; with_unfolding_all rfl) : PE X (.Subscript a b pos) (tOp (rGetX C sp E) ta tb) := by
  refine ⟨fun pins s σ H Q I h => ?_⟩
  refine Subscript_ (binT ha hi I h fun v u s2 x y H2 I2 rx ry q => ?_)
  obtain ⟨o, dx, fs, rfl, ea, q⟩ := q
  obtain rfl : v = Value.ref o := rx
  obtain ⟨od, J⟩ := XO.inst_look I2 ea
  obtain ⟨m, hF⟩ := I2.fr
  refine PySem.W.sub_K hF I2.ok.mod.kin J c.get c.fi c.fn ?_ (hsl o u)
  refine wpAny_call (codeAny_mono (F.run X.A.in1 X.stack s2 H2 ⟨[.ref o, u], []⟩ [.ref o, u] [.ref o, y] Q E hr.in1 I2.env0.in1 (hb s2 [.ref o, u] I2.kIn rfl) (.cons rfl (.cons ry .nil)) q) fun r s' hq => ?_)
  cases r with
  | error er => exact hx pins σ H2 s2 er s' I2 hq
  | ok fl =>
    cases fl with
    | ret w => exact I2.after hq
    | _ => exact False.elim hq
end
end XGt
namespace T
open PySem PySem.Spec PyProof.Rows L2 Evl XB TL XS XI XC ClX XQ XSp LamX XO2
/-! ### cells asked with anything -/
def isCellD (ks : List Str) : PyData → Bool
  | .tuple [x, y, z] => wordD ks x && (wordD ks y && wordD rels z)
  | _ => false
section
variable {P : Program} {w : World} {K : PySem.W.Frag} {mg : Str → Option Value} {base : Heap} {C CU : Addr}
variable {σ : L2.St} {H H' : Hp} {ta tb tc te : TE} {p a b l x : Addr} {E : XK} {d : PyData} {v : V} {ks : List Str} {cs : List Cell} {Q : VK}
theorem isCell_len {ds : List PyData} (h : ds.length ≠ 3) : isCellD ks (.tuple ds) = false := by
  rcases ds with _ | ⟨d0, _ | ⟨d1, _ | ⟨d2, _ | ⟨d3, r⟩⟩⟩⟩
  · rfl
  · rfl
  · rfl
  · exact (h rfl).elim
  · rfl
def spCellO (K : PySem.W.Frag) : Sp := fun vs H Q _ => ∃ (p b : Addr) (v : V) (d : PyData) (ks : List Str), vs = [v, .ref b] ∧ Od K p H v d ∧ SqT K H b (sl ks) ∧ ∀ H', Ex H H' → Q (.bl (isCellD ks d)) H'
theorem c_isCellO (D : At K mg "is_cell" s_is_cell ["value", "kinds"]) (B : Bl mg) (T : TupC K mg "RELATIONS" rels) (Cw : C8.Cal P w K mg base 1 "is_word" (spWordO K) []) : C8.Cal P w K mg base 2 "is_cell" (spCellO K) [] := by
  obtain ⟨ak, mk, hK⟩ := T.ex
  refine cal_of D sc_is_cell (fun vs H Q E h => ?_) (fun f cdv A outer s H vs Q E hr h => ?_)
  · obtain ⟨p, b, v, d, ks, rfl, _⟩ := h
    rfl
  · obtain ⟨p, b, v, d, ks, rfl, hv, hS, q⟩ := h
    refine ⟨_, pss_cons (ps_if (PW.pt (pw_or (pt_not (pt_val (pe_callB call_isi (by rfl) B.isin (by decide +kernel) (pa_cons (pv 0) (pa_cons (pe_bltn (v := .ty "tuple") (by rfl) B.tuple (by decide +kernel) rfl) pa_nil))))) (pw_or1 (pt_cmpR op_ne (pe_callB call_len_seq (by rfl) B.len (by decide +kernel) (pa_cons (pv 0) pa_nil)) pe_int (nomark _))))) (pss_one (ps_ret pe_bl)) pss_nil)
      (pss_cons (ps_asg (pv 0) (pg_tup (by rfl) (pgs_cons (pg_name (i := 2) sc_is_cell.nd rfl (.inl rfl)) (pgs_cons (pg_name (i := 3) sc_is_cell.nd rfl (.inl rfl)) (pgs_cons (pg_name (i := 4) sc_is_cell.nd rfl (.inl rfl)) pgs_nil)))))
      (pss_one (ps_ret (pe_and (C8.pe_c Cw hr (by decide) (by rfl) (pa_cons (pv 2) (pa_cons (pv 1) pa_nil))) (pe_and (C8.pe_c Cw hr (by decide) (by rfl) (pa_cons (pv 3) (pa_cons (pv 1) pa_nil))) (pe_one (C8.pe_c Cw hr (by decide) (by rfl) (pa_cons (pv 4) (pa_cons (pe_glob (v := .ref ak) (by rfl) mk rfl) pa_nil))))))))), ?_⟩
    cases d with
    | tuple ds =>
      cases hv with
      | tup na hs ho =>
        rename_i a xs
        have hlen := ho.len
        have gl : ∀ {H1 : Hp} {σ : L2.St} (m : Nat), Ex H H1 → σ[0]? = some (some (.ref a)) → EvT (tTest (tOp rNe (tCB (rLenS K) (tCons (tVar 0) tNil)) (tC (.int (m : Int))))) σ H1 (!decide (ds.length = m)) := fun m e h0 => et_is (et_test (ev_op (ev_is (ev_lenS (ev_var h0) (.inr (ex_t e hs))) (by rw [hlen])) ev_c (rv_ne rfl))) (congrArg (!·) (V.bl.inj len_ev))
        refine q_when (b := !decide (ds.length = 3)) (et_is (et_or (et_not (et_B (ev_isTup (ev_var rfl) hs))) (fun _ => gl 3 (Ex.refl H) rfl)) (by rfl)) (fun y H1 e1 => ?_) (fun y H1 e1 => ?_)
        · have y : ds.length ≠ 3 := fun z => by rw [decide_eq_true z] at y; cases y
          rw [isCell_len y] at q
          exact s_ret ev_c fun H2 e2 => q H2 (e1.trans e2)
        · rcases ds with _ | ⟨d0, _ | ⟨d1, _ | ⟨d2, _ | ⟨d3, r⟩⟩⟩⟩
          · cases y
          · cases y
          · cases y
          · cases ho with
            | cons o0 ho => cases ho with
              | cons o1 ho => cases ho with
                | cons o2 ho =>
                  cases ho
                  refine ⟨_, rfl, a, _, rfl, ex_t e1 hs, rfl, _, _, rfl, _, _, rfl, _, _, rfl, rfl, ?_⟩
                  exact s_ret (v := .bl (wordD ks d0 && (wordD ks d1 && wordD rels d2))) (ev_andV (ev_wordO (ev_var rfl) (o0.ex e1) (es_at (ev_var rfl) (ex_t e1 hS))) (fun _ => ev_andV (ev_wordO (ev_var rfl) (o1.ex e1) (es_at (ev_var rfl) (ex_t e1 hS))) (fun _ => ev_wordO (ev_var rfl) (o2.ex e1) (es_at ev_c (hK _))))) fun H2 e2 => q H2 (e1.trans e2)
          · exfalso
            have : (d0 :: d1 :: d2 :: d3 :: r).length ≠ 3 := by show r.length + 4 ≠ 3; omega
            rw [decide_eq_false this] at y
            cases y
    | _ => exact q_when (b := true) (et_is (et_or (et_not (et_B (ev_isTupO (ev_var rfl) hv))) (b := true) (fun y => by cases y)) (by rfl)) (fun _ H1 e1 => s_ret ev_c fun H2 e2 => q H2 (e1.trans e2)) (fun y => by cases y)
theorem ev_cellO (h1 : Ev ta σ H v) (hv : Od K p H v d) (h2 : Ev tb σ H (.ref b)) (hb : SqT K H b (sl ks)) : Ev (tCall (spCellO K) [] E (tCons ta (tCons tb tNil))) σ H (.bl (isCellD ks d)) :=
  ev_call (ea_cons h1 (ea_cons h2 ea_nil)) fun H1 e Q q E => ⟨p, b, v, d, ks, rfl, hv.ex e, ex_t e hb, q⟩
def spGetO (K : PySem.W.Frag) (C CU : Addr) : Sp := fun vs H Q E => ∃ (p x : Addr) (v : V) (d : PyData) (ks : List Str) (cs : List Cell), vs = [.ref x, v] ∧ TabW K C H x ks cs ∧ Od K p H v d ∧
  (isCellD ks d = false → ∀ dd H', Ex H H' → H' dd = some (.xd [("given", v)]) → E (.ref CU) (some dd) H') ∧
  (isCellD ks d = true → ∃ (t : Addr) (m i s : Str), v = .ref t ∧ H t = some (.tup ((nm3 m i s).map kV)) ∧ ∀ l H', Ex H H' → SqT K H' l (sl (optsFor cs (nm3 m i s))) → Q (.ref l) H')
theorem c_getO {f : Addr} {fd : FuncData} (F : Fun K "__getitem__" "Table.__getitem__" s_Table___getitem__ f fd) (T : TabC K mg C) (SU : SupC P K mg CU "given") (gU : mg "UnknownName" = some (.ref CU)) (C1 : C8.Cal P w K mg base 2 "is_cell" (spCellO K) []) : FnOk P w K mg base (L2.CX P w) 3 f fd ["self", "at"] (spGetO K C CU) := by
  refine F.okX sc_Table___getitem__ (fun vs H Q E h => ?_) (fun cdv A outer s H vs Q E hr h => ?_)
  · obtain ⟨p, x, v, d, ks, cs, rfl, _⟩ := h
    rfl
  · obtain ⟨p, x, v, d, ks, cs, rfl, tw, hv, q1, q2⟩ := h
    obtain ⟨dx, D, a, r, kvs, f⟩ := id tw
    refine ⟨_, pss_cons (ps_if (pt_not (pt_val (C8.pe_c C1 hr (by decide) (by rfl) (pa_cons (pv 1) (pa_cons (pe_fld (pv 0) rfl) pa_nil))))) (pss_one (ps_raise rfl (takes_of rfl rfl rfl rfl) (pmk_sup SU (hr.mono (by decide)) (by rfl) gU (by exact (pa_cons (pv 1) pa_nil))))) pss_nil)
      (pss_cons (ps_if (pt_cmp (pc_din (by have := hr.units; exact Nat.lt_of_le_of_lt (Nat.add_le_add_left (by decide) _) this) (pv 1) (pe_fld (pv 0) rfl))) (pss_one (ps_ret (pe_dget (by have := hr.units; exact Nat.lt_of_le_of_lt (Nat.add_le_add_left (by decide) _) this) (pe_fld (pv 0) rfl) (pv 1) (fun _ _ => rfl)))) pss_nil)
      (pss_one (ps_ret (pe_tup (pa_cons pe_str pa_nil))))), ?_⟩
    refine q_when (et_not (et_B (ev_cellO (ev_var rfl) hv (ev_fld (ev_var rfl) f.hx T.cl T.k rfl) f.ha))) (fun y H1 e1 => ?_) (fun y H1 e1 => ?_)
    · rw [Bool.not_eq_true'] at y
      exact ⟨_, rfl, _, rfl, fun dd hd => q1 y dd _ (e1.trans (Ex.new hd)) upd_same⟩
    · rw [Bool.not_eq_false'] at y
      obtain ⟨t, m, i, s, rfl, ht, q⟩ := q2 y
      have hx1 := e1 _ _ f.hx
      have hD1 := e1 _ _ f.hD
      have ht1 := e1 _ _ ht
      rcases (f.d.ex e1).val f.c.nd (nm3 m i s) with ⟨u, hv, hu⟩ | ⟨hv, ho⟩
      · refine q_when (b := true) (et_B (ev_din (o := some (.ref u)) (ev_var rfl) (ev_fld (ev_var rfl) hx1 T.cl T.c rfl) hD1 ht1 hv)) (fun _ H2 e2 => ?_) (fun z => by cases z)
        exact s_ret (ev_dget (ev_fld (ev_var rfl) (e2 _ _ hx1) T.cl T.c rfl) (ev_var rfl) (.inl (e2 _ _ hD1)) (e2 _ _ ht1) hv) fun H3 e3 => q u H3 ((e1.trans e2).trans e3) (SqT.of (e3 _ _ (e2 _ _ hu)))
      · refine q_when (b := false) (et_B (ev_din (o := none) (ev_var rfl) (ev_fld (ev_var rfl) hx1 T.cl T.c rfl) hD1 ht1 hv)) (fun z => by cases z) (fun _ H2 e2 => ?_)
        rw [ho] at q
        exact s_retS (es_new (K := K) (eu_tup (ea_str ea_nil) (by decide))) fun p H3 e3 h3 => q p H3 ((e1.trans e2).trans e3) h3
/-! ### keys that are no cell's -/
def menuW : List PyData := ((([.none, .int 0, .bool true, .str "", .str "put put =", .tuple [], .list [.str "put", .str "put", .str "="], .dict [], .tuple [.str "put"], .tuple [.str "put", .str "put"], .int 7, .int (-1), .str "put"] : List PyData) ++ ([.tuple [.str "put", .str "put", .str "=", .str "="], .tuple [.str "put", .str "put", .str "=="], .tuple [.str "put", .str "put", .str ""], .tuple [.str "put", .str "put", .none]] : List PyData)) ++ ([.tuple [.str "stay", .str "put", .str "="], .tuple [.str "put", .str "stay", .str "="], .tuple [.str "Put", .str "put", .str "="], .tuple [.str "put", .int 1, .str "="], .tuple [.int 1, .int 2, .int 3]] : List PyData)) ++ ([.tuple [.str "=", .str "put", .str "put"], .tuple [.str "put", .list [.str "put"], .str "="], .tuple [.str "put", .str "put ", .str "<"], .tuple [.str "", .str "", .str ""], .tuple [.str "put", .str "out", .str "<>"]] : List PyData)
theorem menuW_nc : ∀ x ∈ menuW, NcV x := by
  have all : ∀ x ∈ menuW, (ncB 8 20000 x || ncD x) = true := by decide +kernel
  intro x m
  rcases Bool.or_eq_true _ _ ▸ all x m with h | h
  · exact .inl (nc_b h)
  · exact .inr h
theorem menuW_not {ks : List Str} (hk : ks ∈ kinds7) : ∀ x ∈ menuW, isCellD ks x = false := by
  have all : ∀ ks ∈ kinds7, ∀ x ∈ menuW, isCellD ks x = false := by decide +kernel
  exact all ks hk
def spWrong (K : PySem.W.Frag) : Sp := fun vs H Q _ => ∃ (p : Addr), vs = [.ref p] ∧ Purse H p ∧ ∀ v d H', Od K p H' v d → d ∈ menuW → Purse H' p → Chg p H H' → Q v H'
end
end T
namespace T
open PySem PySem.Spec PyProof.Rows L2 Evl XB TL XS XI XC ClX XQ XSp LamX XO2
/-! ### rows, any text or other value -/
def testedOf (m i : Str) (ks : List Str) : List Str := (condsOf m i).flatMap fun a => (resultsOf m ks).map fun r => a ++ ":" ++ r
def optsB (m i : Str) (ks : List Str) (ws : List Str) : Bool :=
  match ws.getLast? with
  | none => false
  | some z => decide (ws.length ≤ 5) && ((ws.dropLast.all fun o => decide (o ∈ testedOf m i ks)) && decide (z ∈ resultsOf m ks))
def rowB (ks : List Str) : List Str → Bool
  | m :: i :: r :: ws => (decide (m ∈ ks) && (decide (i ∈ ks) && decide (r ∈ rels))) && optsB m i ks ws
  | _ => false
def rowD (ks : List Str) : PyData → Bool
  | .str x => rowB ks (Txt.split x " ")
  | _ => false
theorem snoc {α : Type} (ws : List α) : ws = [] ∨ ∃ pre z, ws = pre ++ [z] := by
  rcases List.eq_nil_or_concat ws with h | ⟨L, b, h⟩
  · exact .inl h
  · exact .inr ⟨L, b, by rw [h, List.concat_eq_append]⟩
theorem opts_nil (m i : Str) (ks : List Str) : optsB m i ks [] = false := rfl
theorem opts_cat (m i : Str) (ks pre : List Str) (z : Str) : optsB m i ks (pre ++ [z]) = (decide (pre.length + 1 ≤ 5) && ((pre.all fun o => decide (o ∈ testedOf m i ks)) && decide (z ∈ resultsOf m ks))) := by
  unfold optsB
  rw [List.getLast?_concat, List.dropLast_concat, List.length_append]
  rfl
theorem opts_is {m i : Str} {ks ws : List Str} (h : optsB m i ks ws = true) : IsOpts m i ks ws := by
  rcases snoc ws with rfl | ⟨pre, z, rfl⟩
  · cases h
  · rw [opts_cat, Bool.and_eq_true, Bool.and_eq_true, decide_eq_true_eq, decide_eq_true_eq, List.all_eq_true] at h
    refine ⟨pre, z, rfl, by omega, fun o ho => ?_, h.2.2⟩
    obtain ⟨a, ha, hr⟩ := List.mem_flatMap.mp (of_decide_eq_true (h.2.1 o ho))
    obtain ⟨r, hr, e⟩ := List.mem_map.mp hr
    exact ⟨a, ha, r, hr, e.symm⟩
theorem is_opts {m i : Str} {ks ws : List Str} (h : IsOpts m i ks ws) : optsB m i ks ws = true := by
  obtain ⟨pre, z, rfl, hl, hp, hz⟩ := h
  rw [opts_cat, Bool.and_eq_true, Bool.and_eq_true, decide_eq_true_eq, decide_eq_true_eq, List.all_eq_true]
  refine ⟨by omega, fun o ho => ?_, hz⟩
  obtain ⟨c, hc, r, hr, rfl⟩ := hp o ho
  exact decide_eq_true (List.mem_flatMap.mpr ⟨c, hc, List.mem_map.mpr ⟨r, hr, rfl⟩⟩)
/-- a row, out of its text -/
theorem row_of {ks : List Str} {x : Str} (h : rowB ks (Txt.split x " ") = true) : ∃ c : Cell, GoodC ks c ∧ x = lineOf c ∧ Txt.split x " " = partsOf c := by
  have j : Txt.join " " (Txt.split x " ") = x := by rw [join_eq]; exact PySem.StrLaws.join_split x " "
  generalize Txt.split x " " = ps at h j
  rcases ps with _ | ⟨m, _ | ⟨i, _ | ⟨r, ws⟩⟩⟩
  · cases h
  · cases h
  · cases h
  · have h : ((decide (m ∈ ks) && (decide (i ∈ ks) && decide (r ∈ rels))) && optsB m i ks ws) = true := h
    rw [Bool.and_eq_true, Bool.and_eq_true, Bool.and_eq_true, decide_eq_true_eq, decide_eq_true_eq, decide_eq_true_eq] at h
    exact ⟨(m, i, r, ws), ⟨h.1.1, h.1.2.1, h.1.2.2, opts_is h.2⟩, j.symm, rfl⟩
section
variable {P : Program} {w : World} {K : PySem.W.Frag} {mg : Str → Option Value} {base : Heap} {C CU : Addr}
variable {σ : L2.St} {H H' : Hp} {ta tb tc te : TE} {p a b l x : Addr} {E E' : XK} {d : PyData} {v : V} {ks ws : List Str} {cs : List Cell} {Q : VK} {z : Str}
theorem ods_strs (p : Addr) (H : Hp) : ∀ ws : List Str, OdAll K p H (sl ws) (ws.map PyData.str)
  | [] => .nil
  | w :: r => .cons (.str w) (ods_strs p H r)
theorem split_len {x : Str} : (Txt.split x " ").length ≤ x.length + 1 := by
  have := PyProof.Rows.split_weight x " " (by decide)
  omega
/-- is_cell of a new tuple of texts -/
theorem ev_cellN (h : EvU ta σ H (sl ws)) (h2 : Ev tb σ H (.ref b)) (hb : SqT K H b (sl ks)) : Ev (tCall (spCellO K) [] E (tCons ta (tCons tb tNil))) σ H (.bl (isCellD ks (.tuple (ws.map PyData.str)))) := fun H1 e Q q =>
  h H1 e _ fun l H2 n2 e2 hl => h2 H2 (e.trans e2) _ fun H3 e3 => ⟨l + 1, b, .ref l, .tuple (ws.map PyData.str), ks, rfl, .tup (Nat.ne_of_lt (Nat.lt_succ_self l)) (SqT.of (e3 _ _ hl)) (ods_strs _ _ ws), ex_t ((e.trans e2).trans e3) hb, fun H4 e4 => q H4 ((e2.trans e3).trans e4)⟩
def spIsRowO (K : PySem.W.Frag) : Sp := fun vs H Q _ => ∃ (p b : Addr) (v : V) (d : PyData) (ks : List Str), vs = [v, .ref b] ∧ Od K p H v d ∧ (∀ x, d = .str x → x.length ≤ 1000) ∧ SqT K H b (sl ks) ∧ ks ∈ kinds7 ∧ ∀ H', Ex H H' → Q (.bl (rowD ks d)) H'
theorem c_isRowO (D : At K mg "is_row" s_is_row ["value", "kinds"]) (B : Bl mg) {t : Tok} (mo : mg "MOST_OPTIONS" = some (.int 5 t)) (C1 : C8.Cal P w K mg base 2 "is_cell" (spCellO K) []) (C2 : C8.Cal P w K mg base 1 "cell_of" (spCellOf List.take) []) (C3 : C8.Cal P w K mg base 1 "options_of" (spCellOf List.drop) [])
    (C4 : C8.Cal P w K mg base 1 "conditions_for" (spConds K) []) (C5 : C8.Cal P w K mg base 1 "results_for" (spRes K) []) : C8.Cal P w K mg base 3 "is_row" (spIsRowO K) [] := by
  refine cal_of D sc_is_row (fun vs H Q E h => ?_) (fun f cdv A outer s H vs Q E hr h => ?_)
  · obtain ⟨p, b, v, d, ks, rfl, _⟩ := h
    rfl
  · obtain ⟨p, b, v, d, ks, rfl, hv, hx, hb, hks, q⟩ := h
    refine ⟨_, pss_cons (ps_if (PW.pt (pw_or (pt_not (pt_val (pe_callB call_isi (by rfl) B.isin (by decide +kernel) (pa_cons (pv 0) (pa_cons (pe_bltn (v := .ty "str") (by rfl) B.str (by decide +kernel) rfl) pa_nil))))) (pw_or1 (pt_not (pt_val (C8.pe_c C1 hr (by decide) (by rfl) (pa_cons (C8.pe_c C2 hr (by decide) (by rfl) (pa_cons (pv 0) pa_nil)) (pa_cons (pv 1) pa_nil)))))))) (pss_one (ps_ret pe_bl)) pss_nil)
      (pss_cons (ps_asg (C8.pe_c C2 hr (by decide) (by rfl) (pa_cons (pv 0) pa_nil)) (pg_tup (by rfl) (pgs_cons (pg_name (i := 2) sc_is_row.nd rfl (.inl rfl)) (pgs_cons (pg_name (i := 3) sc_is_row.nd rfl (.inl rfl)) (pgs_cons (pg_name (i := 4) sc_is_row.nd rfl (.inl rfl)) pgs_nil)))))
      (pss_cons (ps_set (i := 5) sc_is_row.nd rfl (.inl rfl) (C8.pe_c C3 hr (by decide) (by rfl) (pa_cons (pv 0) pa_nil)))
      (pss_cons (ps_if (PW.pt (pw_or (pt_cmpR op_eq (pe_callB call_len_seq (by rfl) B.len (by decide +kernel) (pa_cons (pv 5) pa_nil)) pe_int (nomark _)) (pw_or1 (pt_cmpR op_gt (pe_callB call_len_seq (by rfl) B.len (by decide +kernel) (pa_cons (pv 5) pa_nil)) (pe_glob (v := .int 5) (by rfl) mo ⟨_, rfl⟩) (nomark _))))) (pss_one (ps_ret pe_bl)) pss_nil)
      (pss_cons (ps_set (i := 6) sc_is_row.nd rfl (.inr rfl) (C8.pe_c C5 hr (by decide) (by rfl) (pa_cons (pv 2) (pa_cons (pv 1) pa_nil))))
      (pss_cons (ps_set (i := 7) sc_is_row.nd rfl (.inr rfl) (pe_lc2 (own := [("condition", 8), ("result", 9)]) (vs1 := [9]) (g := gName 8) (g1 := gName 9) (tt := tYes) (tt1 := tYes) (wi1 := iTup K (tVar 6)) (te := tOp (fun x y H Q => ∃ i j, x = .str i ∧ y = .str j ∧ i.length + j.length ≤ sizeLine ∧ Q (.str (i ++ j)) H) (tOp (fun x y H Q => ∃ i j, x = .str i ∧ y = .str j ∧ i.length + j.length ≤ sizeLine ∧ Q (.str (i ++ j)) H) (tVar 8) (tC (.str ":"))) (tVar 9))
          rfl sc_is_row.nd (pi_tup (C8.pe_c C4 hr (by decide) (by rfl) (pa_cons (pv 2) (pa_cons (pv 3) pa_nil))))
          (blkOk_by (own := [("condition", 8), ("result", 9)]) (N := N_is_row) (sc := defScope s_is_row) (by decide +kernel)) (by decide) (fun _ _ _ _ _ => pg_name (i := 8) sc_is_row.nd rfl (Or.inl rfl)) (fun _ _ _ _ _ => pts_nil)
          (fun _ _ _ _ _ => pi_tup (pv 6)) (fun _ _ _ _ _ => pg_name (i := 9) sc_is_row.nd rfl (Or.inl rfl)) (fun _ _ _ _ _ => pts_nil) (fun _ _ _ _ _ => pe_op op_add_str (pe_op op_add_str (pv 8) pe_str) (pv 9))))
      (pss_one (ps_ret (pe_and (pe_callB (cr_all rfl) (by rfl) B.all_ (by decide +kernel) (pa_cons
        (pe_lc (own := [("option", 10)]) (g := gName 10) (tt := tYes) (te := tOp (rIn K false) (tVar 10) (tVar 7)) rfl sc_is_row.nd (pi_tup (pe_slice sl_tup (pv 5) po_none (po_some (pe_un un_neg pe_int))))
            (blkOk_by (own := [("option", 10)]) (N := N_is_row) (sc := defScope s_is_row) (by decide +kernel)) (fun _ _ _ _ _ => pg_name (i := 10) sc_is_row.nd rfl (Or.inl rfl)) (fun _ _ _ _ _ => pts_nil)
            (fun _ _ _ _ _ => pe_cmpR op_in_seq (pv 10) (pv 7) (by rfl))) pa_nil)) (pe_one (pe_cmpR op_in_seq (pe_ix ix_tup (pv 5) (pe_un un_neg pe_int) (fun _ _ => rfl)) (pv 6) (by rfl))))))))))), ?_⟩
    cases d with
    | str x =>
      cases hv
      have hx := hx x rfl
      have q : ∀ H', Ex H H' → Q (.bl (rowB ks (Txt.split x " "))) H' := q
      have cellT : ∀ {H1 : Hp} {σ : L2.St} {E : XK}, σ[0]? = some (some (.str x)) → EvU (tCall (spCellOf List.take) [] E (tCons (tVar 0) tNil)) σ H1 (sl ((Txt.split x " ").take 3)) := fun e => eu_cell (n := List.take) (ev_var e) hx
      have cellD : ∀ {H1 : Hp} {σ : L2.St} {E : XK}, σ[0]? = some (some (.str x)) → EvU (tCall (spCellOf List.drop) [] E (tCons (tVar 0) tNil)) σ H1 (sl ((Txt.split x " ").drop 3)) := fun e => eu_cell (n := List.drop) (ev_var e) hx
      have sl3 := split_len (x := x)
      generalize Txt.split x " " = ps at q cellT cellD sl3
      have tst : EvT (tOr (tNot (tB (tCB (rIsi K) (tCons (tVar 0) (tCons (tC (.ty "str")) tNil))))) (tNot (tB (tCall (spCellO K) [] C8.E0 (tCons (tCall (spCellOf List.take) [] C8.E0 (tCons (tVar 0) tNil)) (tCons (tVar 1) tNil)))))) [some (.str x), some (.ref b), none, none, none, none, none, none, none, none, none] H (!true || !isCellD ks (.tuple ((ps.take 3).map PyData.str))) :=
        et_or (et_not (et_B (ev_isStr (ev_var rfl)))) (fun _ => et_not (et_B (ev_cellN (cellT rfl) (ev_var rfl) hb)))
      rcases ps with _ | ⟨m, _ | ⟨i, _ | ⟨r, ws⟩⟩⟩
      · exact q_when (b := true) (et_is tst (by rfl)) (fun _ H1 e1 => s_ret ev_c fun H2 e2 => q H2 (e1.trans e2)) (fun y => by cases y)
      · exact q_when (b := true) (et_is tst (by rfl)) (fun _ H1 e1 => s_ret ev_c fun H2 e2 => q H2 (e1.trans e2)) (fun y => by cases y)
      · exact q_when (b := true) (et_is tst (by rfl)) (fun _ H1 e1 => s_ret ev_c fun H2 e2 => q H2 (e1.trans e2)) (fun y => by cases y)
      · have q : ∀ H', Ex H H' → Q (.bl ((decide (m ∈ ks) && (decide (i ∈ ks) && decide (r ∈ rels))) && optsB m i ks ws)) H' := q
        refine q_when (b := !(decide (m ∈ ks) && (decide (i ∈ ks) && decide (r ∈ rels)))) tst (fun y H1 e1 => ?_) (fun y H1 e1 => ?_)
        · rw [Bool.not_eq_true'] at y
          rw [y] at q
          exact s_ret ev_c fun H2 e2 => q H2 (e1.trans e2)
        · rw [Bool.not_eq_false'] at y
          rw [y] at q
          rw [Bool.and_eq_true, Bool.and_eq_true, decide_eq_true_eq, decide_eq_true_eq, decide_eq_true_eq] at y
          obtain ⟨g1, g2, g3⟩ := y
          refine q_asgT3 (es_new (cellT rfl)) fun H2 e2 => ?_
          refine q_asgU (cellD rfl) fun po H3 n3 e3 h3 => ?_
          have h3 : H3 po = some (.tup (sl ws)) := h3
          have wsl : (sl ws).length = ws.length := XB.len_sl ws
          have ws3 : ws.length ≤ 1000 := by
            have : ws.length + 1 + 1 + 1 ≤ x.length + 1 := sl3
            omega
          have e13 := (e1.trans e2).trans e3
          refine q_when (b := decide (ws.length = 0) || decide (5 < ws.length)) (et_is (et_or (et_test (ev_op (ev_lenS (ev_var rfl) (.inr (st_of h3))) ev_c (rv_eq rfl))) (fun _ => et_test (ev_op (ev_lenS (ev_var rfl) (.inr (st_of h3))) ev_c rv_I0))) ?_) (fun y H4 e4 => ?_) (fun y H4 e4 => ?_)
          · rw [wsl]
            have z0 : decide (V.int ((ws.length : Nat) : Int) = V.int 0) = decide (ws.length = 0) := V.bl.inj (len_ev (m := 0))
            have z5 : decide ((5 : Int) < ((ws.length : Nat) : Int)) = decide (5 < ws.length) := decide_eq_decide.mpr (by omega)
            show (decide (V.int ((ws.length : Nat) : Int) = V.int 0) || decide ((5 : Int) < ((ws.length : Nat) : Int))) = _
            rw [z0, z5]
          · have no : optsB m i ks ws = false := by
              rcases snoc ws with rfl | ⟨pre, z, rfl⟩
              · rfl
              · rw [opts_cat]
                rw [Bool.or_eq_true, decide_eq_true_eq, decide_eq_true_eq, List.length_append, List.length_singleton] at y
                rw [decide_eq_false (show ¬ pre.length + 1 ≤ 5 by omega), Bool.false_and]
            rw [no] at q
            exact s_ret ev_c fun H5 e5 => q H5 ((e13.trans e4).trans e5)
          · rw [Bool.or_eq_false_iff, decide_eq_false_iff_not, decide_eq_false_iff_not] at y
            rcases snoc ws with rfl | ⟨pre, z, rfl⟩
            · exact (y.1 rfl).elim
            rw [List.length_append, List.length_singleton] at y
            rw [opts_cat, decide_eq_true (show pre.length + 1 ≤ 5 by omega), Bool.true_and, Bool.true_and] at q
            have rl := res_len m ks
            have cl := cond_len m i
            have e14 := e13.trans e4
            refine q_asgS (es_res (ev_var rfl) (ev_var rfl) (ex_t e14 hb)) fun pr H5 e5 h5 => ?_
            refine q_asgL (el_lc2S (ws := condsOf m i) (us := resultsOf m ks) (fun a b => a ++ ":" ++ b) (es_conds (ev_var rfl) (ev_var rfl) hks g1 g2) ?_ (fun _ => rfl) (fun _ _ => rfl) (fun a G eG _ => es_at (ev_var rfl) (ex_t eG h5)) (fun a r G eG ma mr => ev_addS (ev_addS (ev_var rfl) ev_c ?_) (ev_var rfl) ?_)) fun pt H6 n6 e6 h6 => ?_
            · have : (condsOf m i).length * (resultsOf m ks).length ≤ 4 * 5 := Nat.mul_le_mul cl rl
              omega
            · have := cond_sm a ma
              show _ + 1 ≤ _
              omega
            · rw [show (a ++ ":" : Str).length = a.length + 1 from by rw [Str.length_append] <;> rfl]
              have := cond_sm a ma
              have := res_sm r mr
              omega
            have h36 := (e4.trans e5).trans e6 _ _ h3
            have hpt : SqT K H6 po (sl pre ++ [.str z]) := by
              have : sl (pre ++ [z]) = sl pre ++ [.str z] := (sl_cat pre [z]).symm
              rw [← this]
              exact st_of h36
            refine s_ret (ev_is (ev_andV (b := decide (z ∈ resultsOf m ks)) (ev_all (bs := pre.map fun o => decide (o ∈ testedOf m i ks)) (el_is (el_lcS (ws := pre) (fun _ => true) (fun o => .bl (decide (o ∈ testedOf m i ks))) (es_is (es_new (eu_slT (ev_var rfl) hpt eo_none (eo_some (ev_un ev_c ru_neg)) ?_)) (cut_init _ _)) (by omega) (fun _ => rfl) (fun _ _ _ _ => fun H1 _ _ z => z H1 (Ex.refl H1)) (fun o G eG mo _ => ev_inL (ev_var rfl) (ev_var rfl) (sq_of (eG _ _ h6)))) ?_)) (fun _ => ev_inT (x := z) (ev_ixT (ev_var rfl) (ev_un ev_c ru_neg) hpt ?_) (ev_var rfl) (ex_t e6 h5))) ?_) fun H7 e7 => q H7 (((e14.trans e5).trans e6).trans e7)
            · rw [List.length_append]
              exact cut_not _
            · rw [List.filter_eq_self.mpr (fun _ _ => rfl), List.map_map]
              rfl
            · exact atI_last _ _
            · rw [List.all_map]
              rfl
    | _ => exact q_when (b := true) (et_is (et_or (et_not (et_B (ev_isStrO (ev_var rfl) hv))) (b := true) (fun y => by cases y)) (by rfl)) (fun _ H1 e1 => s_ret ev_c fun H2 e2 => q H2 (e1.trans e2)) (fun y => by cases y)
theorem ev_rowO (h1 : Ev ta σ H v) (hv : Od K p H v d) (hx : ∀ x, d = .str x → x.length ≤ 1000) (h2 : Ev tb σ H (.ref b)) (hb : SqT K H b (sl ks)) (hk : ks ∈ kinds7) : Ev (tCall (spIsRowO K) [] E (tCons ta (tCons tb tNil))) σ H (.bl (rowD ks d)) :=
  ev_call (ea_cons h1 (ea_cons h2 ea_nil)) fun H1 e Q q E => ⟨p, b, v, d, ks, rfl, hv.ex e, hx, ex_t e hb, hk, q⟩
end
end T
namespace T
open PySem PySem.Spec PyProof.Rows L2 Evl XB TL XS XI XC ClX XQ XSp LamX XO2
theorem mem_joinL {S : List Nat} : ∀ {ps : List (List Nat)} {p : List Nat} {c : Nat}, p ∈ ps → c ∈ p → c ∈ joinL S ps
  | [], _, _, h, _ => by cases h
  | [p], q, c, h, m => by rw [List.mem_singleton.mp h] at m; exact m
  | p :: q :: r, x, c, h, m => by
    show c ∈ p ++ (S ++ joinL S (q :: r))
    rcases List.mem_cons.mp h with h | h
    · rw [h] at m
      exact List.mem_append_left _ m
    · exact List.mem_append_right _ (List.mem_append_right _ (mem_joinL h m))
theorem split_chars {x w : Str} {c : Nat} (h : w ∈ Txt.split x " ") (m : c ∈ tl w) : c ∈ tl x := by
  have j : Txt.join " " (Txt.split x " ") = x := by rw [join_eq]; exact PySem.StrLaws.join_split x " "
  rw [← j, join_eq, tl_join]
  exact mem_joinL (List.mem_map.mpr ⟨w, h, rfl⟩) m
def keyB (ks ps : List Str) : List Str := if rowB ks ps = true then ps.take 3 else []
def keyD2 (ks : List Str) : PyData → List Str
  | .str x => keyB ks (Txt.split x " ")
  | _ => []
section
variable {P : Program} {w : World} {K : PySem.W.Frag} {mg : Str → Option Value} {base : Heap} {C CU : Addr}
variable {σ : L2.St} {H H' : Hp} {ta tb tc te tl' : TE} {t : TT} {p a b l x : Addr} {E E' : XK} {d : PyData} {v : V} {ks ws us : List Str} {cs : List Cell} {Q : VK} {z : Str} {xs : List V}
theorem em_ifC {b : Bool} {tt : TT} (h : EvT tt σ H b) (h1 : b = true → EvM ta σ H xs) (h2 : b = false → EvM tb σ H xs) : EvM (tIf tt ta tb) σ H xs := fun H1 e Q q => h H1 e _ fun H2 e2 => by
  cases b with
  | true => exact iteT (h1 rfl H2 (e.trans e2) Q fun l H3 e3 h3 => q l H3 (e2.trans e3) h3)
  | false => exact iteF (h2 rfl H2 (e.trans e2) Q fun l H3 e3 h3 => q l H3 (e2.trans e3) h3)
theorem em_isC {ys : List V} (h : EvM te σ H xs) (e : xs = ys) : EvM te σ H ys := e ▸ h
theorem q_asgM {tz : TS} {D : Ends} {i : Nat} (h : EvM te σ H xs) (k : ∀ l H1, Ex H H1 → H1 l = some (.lst xs) → tz D (σ.set i (some (.ref l))) H1) : tSeq (tAsg te (gName i)) tz D σ H := h H (Ex.refl H) _ k
theorem s_retM {D : Ends} (h : EvM te σ H xs) (k : ∀ l H1, Ex H H1 → H1 l = some (.lst xs) → D.rt (.ref l) H1) : tRet te D σ H := h H (Ex.refl H) _ k
/-- a comprehension over a list of texts -/
theorem el_lcM {ws : List Str} {tl : TE} {j : Nat} {vs : List Nat} (f : Str → Bool) (v : Str → V) (h : EvM tl σ H (sl ws)) (hz : ws.length ≤ 40000) (hw : ∀ x, wipe ((wipe σ vs).set j (some x)) vs = wipe σ vs)
    (ht : ∀ c H1, Ex H H1 → c ∈ ws → EvT t ((wipe σ vs).set j (some (.str c))) H1 (f c)) (he : ∀ c H1, Ex H H1 → c ∈ ws → f c = true → Ev te ((wipe σ vs).set j (some (.str c))) H1 (v c)) :
    EvL (tLc (iList K tl) (gName j) t te vs) σ H ((ws.filter f).map v) := fun H0 e Q q => h H0 e _ fun a H1 e1 hx => ⟨a, rfl, ⟨_, SqL.of hx⟩, fun D hD =>
  lc_list (xs := sl ws) (fun i G => Ex H1 G ∧ G D = some (.lst (((ws.take i).filter f).map v))) ⟨Ex.new hD, upd_same⟩ (fun i G _ p => SqL.of (p.1 _ _ hx)) (fun i x G hi p => ⟨hw x, by
    obtain ⟨c, hc, rfl⟩ := mem_at hi
    have m := List.mem_of_getElem? hc
    have hi2 := (List.getElem?_eq_some_iff.mp hc).1
    have e2 := (e.trans e1).trans p.1
    refine ht c G e2 m G (Ex.refl G) _ fun G2 g2 => ?_
    have tk : ws.take (i + 1) = ws.take i ++ [c] := by rw [List.take_succ, hc]; rfl
    cases hf : f c with
    | true =>
      refine iteT (he c G2 (e2.trans g2) m hf G2 (Ex.refl G2) _ fun G3 g3 => ⟨_, g3 _ _ (g2 _ _ p.2), ?_, Ex.mut ((p.1.trans g2).trans g3) hD, ?_⟩)
      · refine sz_lt ?_
        have := List.length_filter_le f (ws.take i)
        rw [List.length_take] at this
        rw [List.length_map]
        omega
      · rw [upd_same, tk, List.filter_append, List.map_append, List.filter_cons, if_pos hf]
        rfl
    | false =>
      refine iteF ⟨p.1.trans g2, ?_⟩
      rw [g2 _ _ p.2, tk, List.filter_append, List.filter_cons, if_neg (by rw [hf]; decide), List.filter_nil, List.append_nil]⟩) fun G p => by
        have e3 := p.2
        rw [show (sl ws).length = ws.length from XB.len_sl ws, List.take_length] at e3
        exact q D G (fresh_back e1 hD) (e1.trans p.1) e3⟩
/-- lists of texts, unlike -/
theorem et_neM (h : EvM ta σ H (sl ws)) (g : EvM tb σ H (sl us)) (ow : OkW ws) (ou : OkW us) : EvT (tTest (tOp (rNeD K) ta tb)) σ H (!decide (ws = us)) := fun H1 e Q q => by
  refine h H1 e _ fun l H2 e2 hl => ?_
  refine g H2 (e.trans e2) _ fun l2 H3 e3 hl2 => ?_
  refine ⟨_, _, dp_slL (SqL.of (e3 _ _ hl)), dp_slL (SqL.of hl2), shp_ok ow, shp_ok ou, _, rfl, ?_⟩
  rw [show PyData.eqv (.list (ws.map PyData.str)) (.list (us.map PyData.str)) = decide (ws = us) from eqv_strs ws us]
  exact q H3 (e2.trans e3)
theorem cut_2 (xs : List V) : cutV xs none (some 2) = xs.take 2 := by
  unfold cutV
  rw [HT.sIx_none, show (some (2 : Int)) = some ((2 : Nat) : Int) from rfl, HT.sIx_nat, List.drop_zero, Nat.sub_zero]
  by_cases h : 2 ≤ xs.length
  · rw [Nat.min_eq_left h]
  · rw [Nat.min_eq_right (by omega), List.take_length, List.take_of_length_le (by omega)]
theorem cut_mid (a b c z : V) (xs : List V) : cutV (a :: b :: c :: (xs ++ [z])) (some 3) (some (-1)) = xs := by
  have e : cutV (a :: b :: c :: (xs ++ [z])) none (some (-1)) = a :: b :: c :: xs := cut_init (a :: b :: c :: xs) z
  unfold cutV at e ⊢
  rw [HT.sIx_none] at e
  have l : (a :: b :: c :: (xs ++ [z])).length = xs.length + 4 := by
    show (xs ++ [z]).length + 3 = _
    rw [List.length_append]
    rfl
  have h3 : HT.sIx (a :: b :: c :: (xs ++ [z])).length 0 (some ((3 : Nat) : Int)) = 3 := by
    rw [HT.sIx_nat, l]
    omega
  have hm : HT.sIx (a :: b :: c :: (xs ++ [z])).length (a :: b :: c :: (xs ++ [z])).length (some (-1)) = xs.length + 3 := by
    rw [l]
    show (if (-1 : Int) < 0 then ((-1 : Int) + ((xs.length + 4 : Nat) : Int)).toNat else min (-1 : Int).toNat (xs.length + 4)) = _
    rw [if_pos (by decide)]
    omega
  rw [show (some (3 : Int)) = some ((3 : Nat) : Int) from rfl, h3, hm]
  show ((xs ++ [z])).take (xs.length + 3 - 3) = xs
  rw [Nat.add_sub_cancel, List.take_left']
  rfl
theorem ev_inM (hx : Ev ta σ H (.str z)) (h : EvM tb σ H (sl ws)) : Ev (tOp (rIn K false) ta tb) σ H (.bl (decide (z ∈ ws))) := fun H1 e Q q =>
  hx H1 e _ fun H2 e2 => h H2 (e.trans e2) _ fun l H3 e3 hl => ⟨l, sl ws, rfl, .inl (SqL.of hl), rfl, flat_sl ws, by rw [inV_sl]; exact q H3 (e2.trans e3)⟩
theorem ev_notInM (hx : Ev ta σ H (.str z)) (h : EvM tb σ H (sl ws)) : Ev (tOp (rIn K true) ta tb) σ H (.bl (!decide (z ∈ ws))) := fun H1 e Q q =>
  hx H1 e _ fun H2 e2 => h H2 (e.trans e2) _ fun l H3 e3 hl => ⟨l, sl ws, rfl, .inl (SqL.of hl), rfl, flat_sl ws, by rw [inV_sl]; exact q H3 (e2.trans e3)⟩
theorem el_catM {ys : List V} (ha : EvM ta σ H xs) (hb : EvM tb σ H ys) (hz : xs.length + ys.length ≤ 100000) : EvL (tOp rCat ta tb) σ H (xs ++ ys) := fun H1 e Q q =>
  ha H1 e _ fun p H2 e2 h2 => hb H2 (e.trans e2) _ fun r H3 e3 h3 =>
    ⟨p, r, xs, ys, rfl, rfl, e3 _ _ h2, h3, sz_of hz, fun l nl => q l _ (fresh_back (e2.trans e3) nl) ((e2.trans e3).trans (Ex.new nl)) upd_same⟩
theorem el_slM {tl th : TO} {lo hi : Option Int} (h : EvM te σ H xs) (h1 : Evl.EvO tl σ H lo) (h2 : Evl.EvO th σ H hi) : EvL (tSl (rSlL K) te tl th) σ H (cutV xs lo hi) := fun H1 e Q q =>
  h H1 e _ fun p H2 e2 hp => h1 H2 (e.trans e2) _ fun H3 e3 => h2 H3 ((e.trans e2).trans e3) _ fun H4 e4 =>
    ⟨p, xs, rfl, SqL.of (e4 _ _ (e3 _ _ hp)), fun l nl => q l _ (fresh_back ((e2.trans e3).trans e4) nl) (((e2.trans e3).trans e4).trans (Ex.new nl)) upd_same⟩
theorem q_two {tz : TS} {D : Ends} {i j : Nat} {ys : List V} (h1 : EvM ta σ H xs) (h2 : EvL tb σ H ys) (k : ∀ l m H1, Ex H H1 → H1 l = some (.lst xs) → H1 m = some (.lst ys) → tz D ((σ.set i (some (.ref l))).set j (some (.ref m))) H1) :
    tSeq (tAsg (tTup (tCons ta (tCons tb tNil))) (gTup K 2 (gCons (gName i) (gCons (gName j) gNil)))) tz D σ H :=
  h1 H (Ex.refl _) _ fun l H1 e1 hl => h2 H1 e1 _ fun m H2 n2 e2 hm => ⟨(by show 2 ≤ sizeLine; decide), fun tt nt => ⟨tt, _, rfl, SqT.of upd_same, rfl, _, _, rfl, _, _, rfl, rfl, k l m _ ((e1.trans e2).trans (Ex.new nt)) (kp (e2 _ _ hl) nt) (kp hm nt)⟩⟩
theorem s_asgM {D : Ends} {i : Nat} (h : EvM te σ H xs) (k : ∀ l H1, Ex H H1 → H1 l = some (.lst xs) → D.nx (σ.set i (some (.ref l))) H1) : tAsg te (gName i) D σ H := h H (Ex.refl H) _ k
theorem flat_le {f : Str → List Str} {n : Nat} (h : ∀ a, (f a).length ≤ n) : ∀ l : List Str, (l.flatMap f).length ≤ l.length * n
  | [] => Nat.zero_le _
  | a :: l => by
    rw [List.flatMap_cons, List.length_append, List.length_cons, Nat.succ_mul]
    have := h a
    have := flat_le h l
    omega
def spKey (K : PySem.W.Frag) : Sp := fun vs H Q _ => ∃ (p a : Addr) (v : V) (d : PyData) (ks : List Str), vs = [v, .ref a] ∧ Od K p H v d ∧ (∀ x, d = .str x → x.length ≤ 1000 ∧ OkS x) ∧ H a = some (.lst (sl ks)) ∧ ks ∈ kinds7 ∧ ∀ l H', Ex H H' → H' l = some (.lst (sl (keyD2 ks d))) → Q (.ref l) H'
end
end T
namespace T
open PySem PySem.Spec PyProof.Rows L2 Evl XB TL XS XI XC ClX XQ XSp LamX XO2
def menuR1 : List Str := ["", "keep", "up", "down", "stay", "put", "out", "set", "<", "=", ">", "first", "less", "<=", "=="]
def menuR2 : List Str := ["first:keep", "first:stay", "less:down", "same:up", "more:up", "first:put", "same:put"]
def menuR3 : List Str := ["first:", ":keep", "keep:first", "First:keep", "KEEP", "first:keep:up", "first:first", "\n"]
def menuR : List Str := (menuR1 ++ menuR2) ++ menuR3
theorem menuR_ok : ∀ w ∈ menuR, Lo w ∧ w.length ≤ 13 := by
  have all : ∀ w ∈ menuR, ((tl w).all (fun c => decide (c < 128)) && decide (w.length ≤ 13)) = true := by decide +kernel
  intro w m
  have := all w m
  rw [Bool.and_eq_true, List.all_eq_true, decide_eq_true_eq] at this
  exact ⟨fun c mc => of_decide_eq_true (this.1 c mc), this.2⟩
theorem lo_cutS {z : Str} (h : Lo z) (lo hi : Option Int) : Lo (cutS z lo hi) := fun c m => by
  have m2 : c ∈ (z.cps.toList.drop (HT.sIx z.length 0 lo)).take (HT.sIx z.length z.length hi - HT.sIx z.length 0 lo) := by
    have e : (cutS z lo hi).cps.toList = (z.cps.toList.drop (HT.sIx z.length 0 lo)).take (HT.sIx z.length z.length hi - HT.sIx z.length 0 lo) := by unfold cutS; simp
    have m : c ∈ (cutS z lo hi).cps.toList := m
    rw [e] at m
    exact m
  exact h c (List.mem_of_mem_drop (List.mem_of_mem_take m2))
theorem weight_strs : ∀ ws : List Str, PyData.weightAll (ws.map PyData.str) = (ws.map (·.length)).sum + ws.length
  | [] => rfl
  | x :: r => by
    show x.length + 1 + PyData.weightAll (r.map PyData.str) = x.length + (r.map (·.length)).sum + (r.length + 1)
    rw [weight_strs r]
    omega
theorem sum_app (as bs : List Str) : ((as ++ bs).map (·.length)).sum = (as.map (·.length)).sum + (bs.map (·.length)).sum := by rw [List.map_append, List.sum_append]
theorem sum_take (ws : List Str) (n m : Nat) (h : n ≤ m) : ((ws.take n).map (·.length)).sum + ((ws.drop m).map (·.length)).sum ≤ (ws.map (·.length)).sum := by
  have e : ws = ws.take n ++ ws.drop n := (List.take_append_drop n ws).symm
  have e2 : ws.drop n = (ws.drop n).take (m - n) ++ ws.drop m := by
    have := (List.take_append_drop (m - n) (ws.drop n)).symm
    rw [List.drop_drop, show n + (m - n) = m by omega] at this
    exact this
  have s1 := congrArg (fun l : List Str => (l.map (·.length)).sum) e
  have s2 := congrArg (fun l : List Str => (l.map (·.length)).sum) e2
  simp only [sum_app] at s1 s2
  omega
theorem mem_sum {w : Str} : ∀ {ps : List Str}, w ∈ ps → w.length ≤ (ps.map (·.length)).sum
  | p :: r, h => by
    show w.length ≤ p.length + (r.map (·.length)).sum
    rcases List.mem_cons.mp h with rfl | h
    · omega
    · have := mem_sum h
      omega
def menuZ (x : Str) (ps : List Str) : List PyData := [.none, .int 0, .bool true, .str "", .str " ", .tuple [], .tuple [.str x], .list [.str x], .dict [], .tuple (ps.map PyData.str), .int (-7)]
theorem menuZ_nc {x : Str} {ps : List Str} (lx : Lo x) (hx : x.length ≤ 500) (lp : ∀ w ∈ ps, Lo w) (hs : (ps.map (·.length)).sum + ps.length ≤ 501) : ∀ d ∈ menuZ x ps, NcV d := by
  intro d m
  simp only [menuZ, List.mem_cons, List.not_mem_nil, or_false] at m
  rcases m with rfl | rfl | rfl | rfl | rfl | rfl | rfl | rfl | rfl | rfl | rfl
  · exact .inl (nc_b (by decide +kernel))
  · exact .inl (nc_b (by decide +kernel))
  · exact .inl (nc_b (by decide +kernel))
  · exact .inl (nc_b (by decide +kernel))
  · exact .inl (nc_b (by decide +kernel))
  · exact .inl (nc_b (by decide +kernel))
  · exact .inl ((nc_tup (a := 0) (b := 500) (ds := [.str x]) fun d hd => by rw [List.mem_singleton.mp hd]; exact nc_str lx hx).mono (by decide) (by show 1 * 501 ≤ 20000; decide))
  · exact .inl ((nc_lst (a := 0) (b := 500) (ds := [.str x]) fun d hd => by rw [List.mem_singleton.mp hd]; exact nc_str lx hx).mono (by decide) (by show 1 * 501 ≤ 20000; decide))
  · exact .inr (by decide +kernel)
  · have hl : ∀ w ∈ ps, w.length ≤ 501 := fun w hw => by
      have := mem_sum hw
      omega
    have h := nc_tup (a := 0) (b := 501) (ds := ps.map PyData.str) fun d hd => by
      obtain ⟨w, hw, rfl⟩ := List.mem_map.mp hd
      exact nc_str (lp w hw) (hl w hw)
    exact .inl ⟨h.s, h.l, Nat.le_trans h.dd (by decide), by
      show PyData.weightAll (ps.map PyData.str) ≤ 20000
      rw [weight_strs]
      omega, h.o, h.n⟩
  · exact .inl (nc_b (by decide +kernel))
section
variable {P : Program} {w : World} {K : PySem.W.Frag} {mg : Str → Option Value} {base : Heap} {C CU : Addr}
variable {σ : L2.St} {H H' : Hp} {ta tb tc te t1 t2 t3 : TE} {t : TT} {p a b l : Addr} {E E' : XK} {d : PyData} {v : V} {ks ws us as bs menu : List Str} {cs : List Cell} {Q : VK} {z x : Str} {xs : List V} {o : HO}
theorem eo_tupS (hp : H p = some o) (h : Ev ta σ H (.ref l)) (hl : H l = some (.lst (sl ws))) : EvO K p (tCB (rTup K) (tCons ta tNil)) σ H (.tuple (ws.map PyData.str)) := fun H1 e Q q =>
  h H1 e _ fun H2 e2 => ⟨l, sl ws, rfl, .inl ⟨SqL.of (e2 _ _ (e _ _ hl)), fun r nr => q _ _ (e2.trans (Ex.new nr)) (.tup (ne_of_none (e2 _ _ (e _ _ hp)) nr).symm (SqT.of upd_same) (ods_strs _ _ ws))⟩⟩
theorem ne_pur {G : Hp} (hp : Purse G p) (h : G l = some (.lst (sl ws))) : l ≠ p := fun z => by
  obtain ⟨x1, x2, x3, y⟩ := hp
  rw [z, y] at h
  injection h with h
  injection h with h
  cases ws with
  | nil => cases h
  | cons q r =>
    have h : V.int x1 :: _ = V.str q :: _ := h
    injection h with h _
    cases h
/-- a text, drawn from a list of texts -/
def PickS (p : Addr) (menu : List Str) (te : TE) (σ : L2.St) (H : Hp) : Prop := ∀ H1, Ex H H1 → ∀ Q : VK, (∀ w G, w ∈ menu → Purse G p → Chg p H1 G → Q (.str w) G) → te σ H1 Q
theorem q_joinP (h1 : EvM t1 σ H (sl as)) (hz : as.length + 1 + bs.length ≤ 100000) (h2 : PickS p menu t2 σ H) (hb : H b = some (.lst (sl bs))) (bp : b ≠ p) (nl : ∀ {G : Hp}, Ex H G → Purse G p) (h3 : ∀ {G : Hp}, Ev t3 σ G (.ref b))
    (hj : ∀ w, w ∈ menu → ((as ++ [w] ++ bs).map (·.length)).sum + (as ++ [w] ++ bs).length * (" " : Str).length ≤ 16777216) (k : ∀ w G, w ∈ menu → Purse G p → Chg p H G → Q (.str (Txt.join " " (as ++ [w] ++ bs))) G) :
    tM1 (rJoin K) (tC (.str " ")) (tOp rCat (tOp rCat t1 (tLst (tCons t2 tNil))) t3) σ H Q := by
  refine ⟨⟨_, rfl⟩, h1 H (Ex.refl _) _ fun l1 H1 e1 hl1 => h2 H1 e1 _ fun w G mw hpG c => ⟨(by show 1 ≤ sizeLine; decide), fun l2 n2 => ?_⟩⟩
  have l1p : l1 ≠ p := fun z => by
    obtain ⟨x1, x2, x3, y⟩ := nl e1
    rw [z, y] at hl1
    injection hl1 with hl1
    injection hl1 with hl1
    cases as with
    | nil => cases hl1
    | cons q r =>
      have hl1 : V.int x1 :: _ = V.str q :: _ := hl1
      injection hl1 with hl1 _
      cases hl1
  have g1 : G l1 = some (.lst (sl as)) := c _ _ l1p hl1
  have hbG : G b = some (.lst (sl bs)) := c _ _ bp (e1 _ _ hb)
  refine ⟨l1, l2, sl as, [.str w], rfl, rfl, kp g1 n2, upd_same, by rw [XB.len_sl, sizeLine_eq]; show as.length + 1 ≤ _; omega, fun l3 n3 => ?_⟩
  have e3 : Ex G (upd (upd G l2 (.lst [.str w])) l3 (.lst (sl as ++ [.str w]))) := (Ex.new n2).trans (Ex.new n3)
  refine h3 _ (Ex.refl _) _ fun G4 e4 => ⟨l3, b, sl as ++ [.str w], sl bs, rfl, rfl, e4 _ _ upd_same, e4 _ _ (e3 _ _ hbG), by rw [List.length_append, XB.len_sl, XB.len_sl, sizeLine_eq]; show as.length + 1 + bs.length ≤ _; omega, fun l5 n5 => ?_⟩
  refine ⟨" ", l5, as ++ [w] ++ bs, rfl, rfl, .inl (SqL.of (by
    rw [List.map_append, List.map_append]
    exact upd_same)), hj w mw, k w _ mw (purse_ex (purse_ex (purse_ex hpG e3) e4) (Ex.new n5)) (((Same.chg e1).trans c).trans (((Same.chg e3).trans (Same.chg e4)).trans (Same.chg (Ex.new n5))))⟩
theorem pick_str (hp : ∀ {G : Hp}, Ex H G → Purse G p) (h0 : σ[0]? = some (some (.ref p))) (h5 : Ev te σ H (.ref l)) (hl : H l = some (.lst (sl menu))) (lp : l ≠ p) (ne : menu ≠ []) (hz : menu.length ≤ 1000) : PickS p menu (tCall (spPick K) [] E (tCons (tVar 0) (tCons te tNil))) σ H := fun H1 e Q q =>
  ⟨_, h0, h5 H1 e _ fun H2 e2 => ⟨p, .ref l, rfl, hp (e.trans e2), .inl ⟨l, sl menu, rfl, lp, SqL.of (e2 _ _ (e _ _ hl)), (fun z => ne (List.map_eq_nil_iff.mp z)), by rw [XB.len_sl]; exact hz, fun v hv G hpG c => by
    obtain ⟨w, hw, rfl⟩ := List.mem_map.mp hv
    exact q w G hw hpG ((Same.chg e2).trans c)⟩⟩⟩
theorem cut_tk {xs : List V} {n : Nat} (h : n ≤ xs.length) : cutV xs none (some (n : Int)) = xs.take n := by
  unfold cutV
  rw [HT.sIx_none, HT.sIx_nat, List.drop_zero, Nat.sub_zero, Nat.min_eq_left h]
theorem cut_dr {xs : List V} {n : Nat} (h : n ≤ xs.length) : cutV xs (some (n : Int)) none = xs.drop n := by
  unfold cutV
  rw [HT.sIx_none, HT.sIx_nat, Nat.min_eq_left h, List.take_of_length_le (by rw [List.length_drop]; exact Nat.le_refl _)]
theorem cutS_tol {z : Str} {n : Nat} : (cutS z none (some (n : Int))).length ≤ n := by
  show (((z.cps.toList.drop (HT.sIx z.length 0 none)).take (HT.sIx z.length z.length (some (n : Int)) - HT.sIx z.length 0 none)).toArray).size ≤ n
  rw [List.size_toArray, List.length_take, HT.sIx_none, HT.sIx_nat]
  omega
theorem cutS_fr {z : Str} {n : Nat} : (cutS z (some (n : Int)) none).length ≤ z.length - n := by
  show (((z.cps.toList.drop (HT.sIx z.length 0 (some (n : Int)))).take (HT.sIx z.length z.length none - HT.sIx z.length 0 (some (n : Int)))).toArray).size ≤ z.length - n
  rw [List.size_toArray, List.length_take, HT.sIx_none, HT.sIx_nat]
  omega
theorem s_retV {D : Ends} (h : te σ H D.rt) : tRet te D σ H := h
theorem lo_nil : Lo "" := fun c m => by
  have : c ∈ ([] : List Nat) := m
  cases this
theorem q_fresh {tz : TS} {D : Ends} {b : Bool} {i : Nat} (hb : EvT t σ H b) (hp : ∀ {G : Hp}, Ex H G → Purse G p) (h2 : ∀ H1, Ex H H1 → ∀ Q : VK, (∀ c G, c < 128 → Purse G p → Chg p H1 G → Q (.str ⟨#[c]⟩) G) → t2 σ H1 Q)
    (k : ∀ fr G, Lo fr → fr.length ≤ 1 → Purse G p → Chg p H G → tz D (σ.set i (some (.str fr))) G) : tSeq (tAsg (tIf t (tC (.str "")) t2) (gName i)) tz D σ H := hb H (Ex.refl _) _ fun H1 e1 => by
  cases b with
  | true => exact iteT (k "" H1 lo_nil (by decide) (hp e1) (Same.chg e1))
  | false => exact iteF (h2 H1 e1 _ fun c G hc hpG ch => k ⟨#[c]⟩ G (fun n m => by
      have : n ∈ [c] := m
      rw [List.mem_singleton.mp this]
      exact hc) (Nat.le_refl 1) hpG ((Same.chg e1).trans ch))
def spBentR (K : PySem.W.Frag) : Sp := fun vs H Q _ => ∃ (p : Addr) (x : Str), vs = [.ref p, .str x] ∧ Purse H p ∧ Lo x ∧ x.length ≤ 500 ∧ ∀ v d H', Od K p H' v d → NcV d → (∀ y, d = .str y → Lo y ∧ y.length ≤ x.length + 15) → Purse H' p → Chg p H H' → Q v H'
end
end T
namespace T
open PySem PySem.Spec PyProof.Rows L2 Evl XB TL XS XI XC ClX XQ XSp LamX XO2
/-! ### the first wrong row -/
/-- the cell of a row, none if it is no row -/
def cellD (ks : List Str) : PyData → Option Nm
  | .str x => if rowB ks (Txt.split x " ") = true then (match Txt.split x " " with | m :: i :: r :: _ => some (nm3 m i r) | _ => none) else none
  | _ => none
def goodB (ks : List Str) (ds : List PyData) (i : Nat) : Bool :=
  match ds[i]?.bind (cellD ks) with
  | none => false
  | some n => !decide (n ∈ (ds.take i).filterMap (cellD ks))
def FirstR (ks : List Str) (ds : List PyData) : Option Nat → Prop
  | none => ∀ j < ds.length, goodB ks ds j = true
  | some i => i < ds.length ∧ goodB ks ds i = false ∧ ∀ j < i, goodB ks ds j = true
def foV : Option Nat → V
  | none => .non
  | some i => .int (i : Nat)
theorem first_uniq {ks : List Str} {ds : List PyData} {o u : Option Nat} (h : FirstR ks ds o) (g : FirstR ks ds u) : o = u := by
  cases o with
  | none => cases u with
    | none => rfl
    | some j =>
      obtain ⟨g1, g2, _⟩ := g
      rw [h j g1] at g2
      cases g2
  | some i => cases u with
    | none =>
      obtain ⟨h1, h2, _⟩ := h
      rw [g i h1] at h2
      cases h2
    | some j =>
      obtain ⟨h1, h2, h3⟩ := h
      obtain ⟨g1, g2, g3⟩ := g
      rcases Nat.lt_trichotomy i j with l | l | l
      · rw [g3 i l] at h2; cases h2
      · rw [l]
      · rw [h3 j l] at g2; cases g2
theorem cellD_none {ks : List Str} {d : PyData} (h : rowD ks d = false) : cellD ks d = none := by
  cases d with
  | str x => exact if_neg (by rw [show rowB ks (Txt.split x " ") = false from h]; decide)
  | _ => rfl
theorem cellD_some {ks : List Str} {d : PyData} (h : rowD ks d = true) : ∃ x c, d = .str x ∧ GoodC ks c ∧ x = lineOf c ∧ Txt.split x " " = partsOf c ∧ cellD ks d = some (nmOf c) := by
  cases d with
  | str x =>
    obtain ⟨c, g, e1, e2⟩ := row_of (show rowB ks (Txt.split x " ") = true from h)
    refine ⟨x, c, rfl, g, e1, e2, ?_⟩
    show (if rowB ks (Txt.split x " ") = true then _ else none) = _
    rw [if_pos (show rowB ks (Txt.split x " ") = true from h), e2]
    rfl
  | _ => cases h
section
variable {P : Program} {w : World} {K : PySem.W.Frag} {mg : Str → Option Value} {base : Heap} {C : Addr}
variable {σ : L2.St} {H H' : Hp} {ta tb : TE} {p a b r : Addr} {E : XK} {d : PyData} {ds : List PyData} {v : V} {ks : List Str} {xs : List V}
def spFirstO (K : PySem.W.Frag) : Sp := fun vs H Q _ => ∃ (p r b : Addr) (ks : List Str) (xs : List V) (ds : List PyData), vs = [.ref r, .ref b] ∧ SqT K H r xs ∧ OdAll K p H xs ds ∧ (∀ y, PyData.str y ∈ ds → y.length ≤ 1000) ∧ ds.length ≤ 60 ∧ SqT K H b (sl ks) ∧ ks ∈ kinds7 ∧ ∀ o H', Ex H H' → FirstR ks ds o → Q (foV o) H'
theorem c_firstO (D : At K mg "first_wrong_row" s_first_wrong_row ["rows", "kinds"]) (B : Bl mg) (C1 : C8.Cal P w K mg base 3 "is_row" (spIsRowO K) []) (C2 : C8.Cal P w K mg base 1 "cell_of" (spCellOf List.take) []) : C8.Cal P w K mg base 4 "first_wrong_row" (spFirstO K) [] := by
  refine cal_of D sc_first_wrong_row (fun vs H Q E h => ?_) (fun f cdv A outer s H vs Q E hr h => ?_)
  · obtain ⟨p, r, b, ks, xs, ds, rfl, _⟩ := h
    rfl
  · obtain ⟨p, r, b, ks, xs, ds, rfl, hrr, ho, hy, hn, hb, hks, q⟩ := h
    have hu : (cxOf CX0 P w K mg base N_first_wrong_row "first_wrong_row" (defScope s_first_wrong_row) f cdv A outer s H E).nox.A.units + 1 < cLine := by have := hr.units; exact Nat.lt_of_le_of_lt (Nat.add_le_add_left (by decide) _) this
    have hlen := ho.len
    refine ⟨_, pss_cons (ps_set (i := 2) sc_first_wrong_row.nd rfl (.inl rfl) (pe_callTy0 cr_setNew (by rfl) B.set_ (by decide +kernel)))
      (pss_cons (ps_for PassesOwn.never rfl (pi_enumT (by rfl) B.enum (pa_cons (pv 0) pa_nil)) (pg_tup (by rfl) (pgs_cons (pg_name (i := 3) sc_first_wrong_row.nd rfl (.inl rfl)) (pgs_cons (pg_name (i := 4) sc_first_wrong_row.nd rfl (.inl rfl)) pgs_nil)))
        (pss_cons (ps_if (PW.pt (pw_or (pt_not (pt_val (C8.pe_c C1 hr (by decide) (by rfl) (pa_cons (pv 4) (pa_cons (pv 1) pa_nil))))) (pw_or1 (pt_cmpR (op_setIn hu) (C8.pe_c C2 hr (by decide) (by rfl) (pa_cons (pv 4) pa_nil)) (pv 2) (by rfl))))) (pss_one (ps_ret (pv 3))) pss_nil)
        (pss_one (ps_expr (pe_setAdd hu (pv 2) (pa_cons (C8.pe_c C2 hr (by decide) (by rfl) (pa_cons (pv 4) pa_nil)) pa_nil))))))
      (pss_one (ps_ret pe_non))), ?_⟩
    refine ⟨rfl, fun D nD => ?_⟩
    have sD : Same H (upd H D (SetN P w D [])) := Same.new (Same.refl H) nD
    refine ⟨_, rfl, r, _, rfl, Same.tup sD hrr, for_it walk_enumT
      (fun i σ G => ∃ y3 y4 L, σ = [some (.ref r), some (.ref b), some (.ref D), y3, y4] ∧ Same H G ∧ G D = some (SetN P w D L) ∧ XS.Rows G L ∧ (∀ n, n ∈ names L ↔ n ∈ (ds.take i).filterMap (cellD ks)) ∧ L.length ≤ i ∧ ∀ j < i, goodB ks ds j = true)
      ⟨none, none, [], rfl, sD, upd_same, (fun _ z => by cases z), (fun n => ⟨fun z => (by cases z), fun z => (by cases z)⟩), Nat.zero_le _, (fun j z => absurd z (Nat.not_lt_zero j))⟩ (fun i σ G _ ⟨_, _, _, _, e, _⟩ => Same.tup e hrr) ?_ ?_⟩
    · rintro i x σ G G' hi ⟨y3, y4, L, rfl, sG, hD, hR, hN, hL, hG⟩ ⟨T, a1, a2, rfl, nT, rfl, e1, e2⟩
      injection e1 with e1
      subst e1
      obtain ⟨d, hd, od⟩ := ho.at e2
      have hi2 : i < ds.length := (List.getElem?_eq_some_iff.mp hd).1
      have sT : Ex G (upd G T (.tup [.int (i : Nat), a2])) := Ex.new nT
      refine ⟨T, _, rfl, SqT.of upd_same, rfl, _, _, rfl, _, _, rfl, rfl, ?_⟩
      have hD1 := sT _ _ hD
      have hR1 := Rows.ex hR sT
      have sH1 : Same H _ := sG.trans sT
      have od1 := od.ex sH1
      have hx : ∀ y, d = .str y → y.length ≤ 1000 := fun y e => hy y (e ▸ List.mem_of_getElem? hd)
      have gB : goodB ks ds i = (match cellD ks d with | none => false | some n => !decide (n ∈ (ds.take i).filterMap (cellD ks))) := by
        unfold goodB
        rw [hd]
        rfl
      cases e : rowD ks d with
      | false =>
        rw [cellD_none e] at gB
        refine q_when (b := true) (et_is (et_or (a := true) (b := false) (et_is (et_not (et_B (ev_rowO (ev_var rfl) od1 hx (ev_var rfl) (Same.tup sH1 hb) hks))) (by rw [e]; rfl)) (fun y => by cases y)) rfl) (fun _ H2 e2 => ?_) (fun y => by cases y)
        exact s_ret (ev_var rfl) fun H3 e3 => q (some i) H3 ((sH1.trans e2).trans e3) ⟨hi2, gB, hG⟩
      | true =>
        obtain ⟨y, c, rfl, hg, hl, hsp, hcell⟩ := cellD_some e
        cases od1
        rw [hcell] at gB
        have gB : goodB ks ds i = !decide (nmOf c ∈ (ds.take i).filterMap (cellD ks)) := gB
        have cel : ∀ {H1 : Hp} {σ : L2.St} {E : XK}, σ[4]? = some (some (.str y)) → EvU (tCall (spCellOf List.take) [] E (tCons (tVar 4) tNil)) σ H1 ((nmOf c).map kV) := fun {H1 σ E} h0 => by
          have z := eu_cell (n := List.take) (H := H1) (E := E) (ev_var h0) (hx y rfl)
          rw [hsp] at z
          exact z
        have hb' : hasN L (nmOf c) = decide (nmOf c ∈ (ds.take i).filterMap (cellD ks)) := by
          by_cases m : nmOf c ∈ names L
          · rw [hasN_pos m, decide_eq_true ((hN _).mp m)]
          · rw [hasN_neg m, decide_eq_false (fun z => m ((hN _).mpr z))]
        refine q_when (b := hasN L (nmOf c)) (et_is (et_or (a := false) (b := hasN L (nmOf c)) (et_is (et_not (et_B (ev_rowO (p := p) (ev_var rfl) (.str y) hx (ev_var rfl) (Same.tup sH1 hb) hks))) (by rw [e]; rfl)) (fun _ => et_test fun G1 g1 Q1 q1 => cel rfl G1 g1 _ fun p G2 n2 e2 hp => ⟨_, rfl, D, p, nmOf c, L, rfl, rfl, e2 _ _ (g1 _ _ hD1), Rows.ex (Rows.ex hR1 g1) e2, hp, q1 G2 e2⟩)) (Bool.false_or _)) (fun yy H2 e2 => ?_) (fun yy G1 g1 => ?_)
        · rw [hb'] at yy
          exact s_ret (ev_var rfl) fun H3 e3 => q (some i) H3 ((sH1.trans e2).trans e3) ⟨hi2, by rw [gB, yy]; rfl, hG⟩
        · have nin : nmOf c ∉ names L := fun m => by rw [hasN_pos m] at yy; cases yy
          rw [hb'] at yy
          have hD2 := g1 _ _ hD1
          have hR2 := Rows.ex hR1 g1
          refine ⟨_, rfl, ⟨D, L, rfl, hD2, hR2⟩, cel rfl G1 (Ex.refl _) _ fun p G2 n2 e2 hp => ⟨D, p, nmOf c, L, rfl, rfl, e2 _ _ hD2, Rows.ex hR2 e2, hp, by omega, fun L' h1 h2 => ?_⟩⟩
          have pm := h2 nin
          have hD3 := e2 _ _ hD2
          have tk : (ds.take (i + 1)).filterMap (cellD ks) = (ds.take i).filterMap (cellD ks) ++ [nmOf c] := by
            rw [List.take_succ, hd, List.filterMap_append]
            show _ ++ List.filterMap (cellD ks) [PyData.str y] = _
            rw [List.filterMap_cons, hcell]
            rfl
          refine ⟨_, _, L', rfl, Same.own ((sH1.trans g1).trans e2) nD, upd_same, ?_, ?_, ?_, ?_⟩
          · intro y hy
            rcases List.mem_cons.mp (pm.mem_iff.mp hy) with rfl | z
            · exact kpm hp (ne_of hp hD3 fun q => by cases q)
            · exact kpm ((Rows.ex hR2 e2) y z) (ne_of ((Rows.ex hR2 e2) y z) hD3 fun q => by cases q)
          · intro n
            rw [tk, List.mem_append, List.mem_singleton]
            have : n ∈ names L' ↔ n ∈ names ((p, nmOf c) :: L) := (pm.map _).mem_iff
            rw [this]
            show n ∈ nmOf c :: names L ↔ _
            rw [List.mem_cons, hN n]
            exact Or.comm
          · rw [pm.length_eq]
            exact Nat.succ_le_succ hL
          · intro j hj
            rcases Nat.lt_succ_iff_lt_or_eq.mp hj with z | z
            · exact hG j z
            · rw [z, gB, yy]
              rfl
    · rintro σ G ⟨y3, y4, L, rfl, sG, hD, hR, hN, hL, hG⟩
      rw [hlen] at hG
      exact q none G sG hG
end
end T
namespace T
open PySem PySem.Spec PyProof.Rows L2 Evl XB TL XS XI XC ClX XQ XSp LamX XO2
/-! ### tables, made of any rows -/
theorem nd_snoc {α : Type} {l : List α} {x : α} (h : l.Nodup) (n : x ∉ l) : (l ++ [x]).Nodup := by
  rw [List.nodup_append]
  exact ⟨h, List.nodup_cons.mpr ⟨List.not_mem_nil, List.nodup_nil⟩, fun a ha b hb e => n (by rw [List.mem_singleton.mp hb] at e; rw [← e]; exact ha)⟩
/-- rows, none of them wrong -/
theorem rows_of {ks : List Str} {ds : List PyData} (hk : ks ∈ kinds7) (h : FirstR ks ds none) : ∃ cs : List Cell, ds = cs.map (fun c => PyData.str (lineOf c)) ∧ Cells ks cs := by
  have go : ∀ n, n ≤ ds.length → ∃ cs : List Cell, ds.take n = cs.map (fun c => PyData.str (lineOf c)) ∧ (∀ c ∈ cs, GoodC ks c) ∧ (cs.map nmOf).Nodup ∧ (ds.take n).filterMap (cellD ks) = cs.map nmOf := by
    intro n
    induction n with
    | zero => exact fun _ => ⟨[], rfl, (fun _ z => by cases z), List.nodup_nil, rfl⟩
    | succ n ih =>
      intro hn
      obtain ⟨cs, e1, e2, e3, e4⟩ := ih (by omega)
      have hg := h n hn
      have hd : ds[n]? = some ds[n] := List.getElem?_eq_getElem hn
      unfold goodB at hg
      rw [hd] at hg
      have hg : (match cellD ks ds[n] with | none => false | some m => !decide (m ∈ (ds.take n).filterMap (cellD ks))) = true := hg
      cases e : rowD ks ds[n] with
      | false => rw [cellD_none e] at hg; cases hg
      | true =>
        obtain ⟨x, c, hx, g, hl, _, hc⟩ := cellD_some e
        rw [hc] at hg
        have hg : (!decide (nmOf c ∈ (ds.take n).filterMap (cellD ks))) = true := hg
        rw [Bool.not_eq_true', decide_eq_false_iff_not, e4] at hg
        refine ⟨cs ++ [c], ?_, fun y hy => ?_, ?_, ?_⟩
        · rw [List.take_succ, hd, e1, List.map_append, hx, hl]
          rfl
        · rcases List.mem_append.mp hy with m | m
          · exact e2 y m
          · rw [List.mem_singleton.mp m]
            exact g
        · rw [List.map_append]
          exact nd_snoc e3 hg
        · rw [List.take_succ, hd, List.filterMap_append, e4, List.map_append]
          show _ ++ List.filterMap (cellD ks) [ds[n]] = _
          rw [List.filterMap_cons, hc]
          rfl
  obtain ⟨cs, e1, e2, e3, _⟩ := go ds.length (Nat.le_refl _)
  rw [List.take_length] at e1
  refine ⟨cs, e1, e3, e2, ?_⟩
  have := nd_le e3 (m := allNms ks) fun n hn => by
    obtain ⟨c, hc, rfl⟩ := List.mem_map.mp hn
    exact all_in (e2 c hc)
  rw [List.length_map] at this
  exact Nat.le_trans this (all_few hk)
section
variable {P : Program} {w : World} {K : PySem.W.Frag} {mg : Str → Option Value} {base : Heap}
variable {H : Hp} {p : Addr} {xs : List V}
theorem ods_sl {cs : List Cell} (h : OdAll K p H xs (cs.map fun c => PyData.str (lineOf c))) : xs = sl (cs.map lineOf) := by
  induction cs generalizing xs with
  | nil => cases h; rfl
  | cons c r ih =>
    cases h with
    | cons o h =>
      cases o
      rw [ih h]
      rfl
theorem q_first {σ : L2.St} {te : TE} {tz : TS} {D : Ends} {i : Nat} {ks : List Str} {ds : List PyData} (h : ∀ Q : VK, (∀ o H', Ex H H' → FirstR ks ds o → Q (foV o) H') → te σ H Q) (k : ∀ o H1, Ex H H1 → FirstR ks ds o → tz D (σ.set i (some (foV o))) H1) : tSeq (tAsg te (gName i)) tz D σ H := h _ k
def spInitR (K : PySem.W.Frag) (C CR : Addr) : Sp := fun vs H Q E => ∃ (p x a dx : Addr) (rv : V) (dr : PyData) (ks : List Str), vs = [.ref x, .ref a, rv] ∧ H x = some (.ins C dx []) ∧ ks ∈ kinds7 ∧ SqT K H a (sl ks) ∧ Od K p H rv dr ∧ (∀ ds, dr = .tuple ds → (∀ y, PyData.str y ∈ ds → y.length ≤ 1000) ∧ ds.length ≤ 60) ∧
  (isTupD dr = false → ∀ dd H', Ex H H' → H' dd = some (.xd [("index", .non)]) → E (.ref CR) (some dd) H') ∧
  (∀ ds i, dr = .tuple ds → FirstR ks ds (some i) → ∀ dd H', Ex H H' → H' dd = some (.xd [("index", .int (i : Nat))]) → E (.ref CR) (some dd) H') ∧
  (∀ ds cs r, dr = .tuple ds → rv = .ref r → FirstR ks ds none → ds = cs.map (fun c => PyData.str (lineOf c)) → Cells ks cs → ∀ D kvs H', H D = none → Chg x H H' → TabF K C H' x dx D a r kvs ks cs → Q .non H')
theorem c_initR {C CR f : Addr} {fd : FuncData} {dvs : List V} (F : FunD K "__init__" "Table.__init__" (defArgs s_Table___init__) (defBody s_Table___init__) (defScope s_Table___init__) dvs [] f fd) (B : Bl mg) (T : TabC K mg C) (SR : SupC P K mg CR "index") (gR : mg "InvalidRows" = some (.ref CR))
    (C1 : C8.Cal P w K mg base 2 "are_kinds" (spKinds K) []) (C2 : C8.Cal P w K mg base 4 "first_wrong_row" (spFirstO K) []) (C3 : C8.Cal P w K mg base 1 "cell_of" (spCellOf List.take) []) (C4 : C8.Cal P w K mg base 1 "options_of" (spCellOf List.drop) []) :
    FnOk P w K mg base (L2.CX P w) 6 f fd ["self", "kinds", "rows"] (spInitR K C CR) := by
  refine F.ok (CX := L2.CX P w) sc_Table___init__ (fun vs H Q E h => ?_) (fun cdv A outer s H vs Q E hr h => ?_)
  · obtain ⟨p, x, a, dx, rv, dr, ks, rfl, _⟩ := h
    rfl
  · obtain ⟨p, x, a, dx, rv, dr, ks, rfl, hx, hks, ha, hrv, hds, q1, q2, q3⟩ := h
    refine ⟨_, (pss_cons (ps_if (pt_not (pt_val (C8.pe_c C1 hr (by decide) (by rfl) (pa_cons (pv 1) pa_nil)))) pss_never pss_nil)
      (pss_cons (ps_if (pt_not (pt_val (pe_callB call_isi (by rfl) B.isin (by decide +kernel) (pa_cons (pv 2) (pa_cons (pe_bltn (v := .ty "tuple") (by rfl) B.tuple (by decide +kernel) rfl) pa_nil))))) (pss_one (ps_raise rfl (takes_of rfl rfl rfl rfl) (pmk_sup SR (hr.mono (by decide)) (by rfl) gR (by exact (pa_cons pe_non pa_nil))))) pss_nil)
      (pss_cons (ps_set (i := 3) sc_Table___init__.nd rfl (.inl rfl) (C8.pe_c C2 hr (by decide) (by rfl) (pa_cons (pv 2) (pa_cons (pv 1) pa_nil))))
      (pss_cons (ps_if (pt_cmpR op_notN (pv 3) pe_non (nomark _)) (pss_one (ps_raise rfl (takes_of rfl rfl rfl rfl) (pmk_sup SR (hr.mono (by decide)) (by rfl) gR (by exact (pa_cons (pv 3) pa_nil))))) pss_nil)
      (pss_cons (ps_fld (pv 0) (pv 1) rfl)
      (pss_cons (ps_fld (pv 0) (pv 2) rfl)
      (pss_one (ps_fld (pv 0) (pe_dcT (own := [("row", 4)]) (g := gName 4) (tt := tYes) (tk := tCall (spCellOf List.take) [] C8.E0 (tCons (tVar 4) tNil)) (tv := tCall (spCellOf List.drop) [] C8.E0 (tCons (tVar 4) tNil)) (by have := hr.units; exact Nat.lt_of_le_of_lt (Nat.add_le_add_left (by decide) _) this) rfl sc_Table___init__.nd (pi_tup (pv 2))
          (blkOk_by (own := [("row", 4)]) (N := N_Table___init__) (sc := defScope s_Table___init__) (by decide +kernel)) (fun _ _ _ _ _ => pg_name (i := 4) sc_Table___init__.nd rfl (Or.inl rfl)) (fun _ _ _ _ _ => pts_nil)
          (fun _ _ _ _ _ => C8.pe_c C3 hr (by decide) (by rfl) (pa_cons (pv 4) pa_nil)) (fun _ _ _ _ _ => C8.pe_c C4 hr (by decide) (by rfl) (pa_cons (pv 4) pa_nil))) rfl)))))))), ?_⟩
    refine q_when (b := false) (et_not (et_B (ev_kinds (ev_var rfl) ha hks))) (fun z => by cases z) (fun _ H1 e1 => ?_)
    refine q_when (b := !isTupD dr) (et_not (et_B (ev_isTupO (ev_var rfl) (hrv.ex e1)))) (fun y H2 e2 => ?_) (fun y H2 e2 => ?_)
    · rw [Bool.not_eq_true'] at y
      exact ⟨_, rfl, fun dd hd => q1 y dd _ ((e1.trans e2).trans (Ex.new hd)) upd_same⟩
    rw [Bool.not_eq_false'] at y
    obtain ⟨ds, rfl⟩ : ∃ ds, dr = .tuple ds := by
      cases dr with
      | tuple ds => exact ⟨ds, rfl⟩
      | _ => cases y
    obtain ⟨hy, hn⟩ := hds ds rfl
    cases hrv with
    | tup np hrr ho =>
      rename_i r xs
      have e12 := e1.trans e2
      refine q_first (ks := ks) (ds := ds) (fun Q qq => ⟨_, rfl, _, rfl, p, r, a, ks, xs, ds, rfl, ex_t e12 hrr, ho.ex e12, hy, hn, ex_t e12 ha, hks, qq⟩) fun o H3 e3 fo => ?_
      have tst : EvT (tTest (tOp (fun x y H Q => y = .non ∧ Q (.bl (!decide (x = .non))) H) (tVar 3) (tC .non))) [some (.ref x), some (.ref a), some (.ref r), some (foV o), none] H3 (!decide (foV o = .non)) := et_test (ev_op (ev_var rfl) ev_c fun H1 e Q q => ⟨rfl, q H1 (Ex.refl H1)⟩)
      refine q_when tst (fun z H4 e4 => ?_) (fun z H4 e4 => ?_)
      · cases o with
        | none => cases z
        | some i => exact ⟨_, rfl, _, rfl, fun dd hd => q2 ds i rfl fo dd _ (((e12.trans e3).trans e4).trans (Ex.new hd)) upd_same⟩
      cases o with
      | some i => rw [decide_eq_false (by intro z; cases z)] at z; cases z
      | none =>
      obtain ⟨cs, hcs, hC⟩ := rows_of hks fo
      have q := q3 ds cs r rfl rfl fo hcs hC
      subst hcs
      have hxs := ods_sl ho
      subst hxs
      have e14 := (e12.trans e3).trans e4
      have hx4 := e14 _ _ hx
      refine ⟨_, rfl, _, rfl, x, C, dx, [], rfl, hx4, T.cl, T.k, by decide, ?_⟩
      refine ⟨_, rfl, _, rfl, x, C, dx, _, rfl, upd_same, T.cl, T.r, by show 1 < 1000; decide, ?_⟩
      have hr5 : SqT K (upd (upd H4 x (.ins C dx (putF "_kinds" (.ref a) []))) x (.ins C dx (putF "_rows" (.ref r) (putF "_kinds" (.ref a) [])))) r (sl (cs.map lineOf)) := sqt_ins (sqt_ins (ex_t e14 hrr) hx4) upd_same
      have ha5 : SqT K (upd (upd H4 x (.ins C dx (putF "_kinds" (.ref a) []))) x (.ins C dx (putF "_rows" (.ref r) (putF "_kinds" (.ref a) [])))) a (sl ks) := sqt_ins (sqt_ins (ex_t e14 ha) hx4) upd_same
      have hx5 : (upd (upd H4 x (.ins C dx (putF "_kinds" (.ref a) []))) x (.ins C dx (putF "_rows" (.ref r) (putF "_kinds" (.ref a) [])))) x = some (.ins C dx [("_kinds", .ref a), ("_rows", .ref r)]) := upd_same
      have ch5 : Chg x H (upd (upd H4 x (.ins C dx (putF "_kinds" (.ref a) []))) x (.ins C dx (putF "_rows" (.ref r) (putF "_kinds" (.ref a) [])))) := ((Same.chg e14).at).at
      refine ⟨_, rfl, r, rfl, ⟨_, hr5⟩, fun D nD => ?_⟩
      have nDH : H D = none := by
        cases z : H D with
        | none => rfl
        | some o =>
          by_cases y : D = x
          · rw [y, hx5] at nD; cases nD
          · rw [ch5 _ _ y z] at nD; cases nD
      refine dcT_tup (xs := sl (cs.map lineOf)) (fun i G => Same (upd (upd H4 x (.ins C dx (putF "_kinds" (.ref a) []))) x (.ins C dx (putF "_rows" (.ref r) (putF "_kinds" (.ref a) [])))) G ∧ ∃ kvs, G D = some (.dT kvs) ∧ DictOf G kvs (cs.take i))
        ⟨Same.new (Same.refl _) nD, [], upd_same, rfl, fun i c z => by rw [List.take_zero] at z; cases z⟩ (fun i G _ p => Same.tup p.1 hr5) ?_ ?_
      · rintro i y G hi ⟨sG, kvs, hD, hl⟩
        obtain ⟨ln, hln, rfl⟩ := mem_at hi
        rw [List.getElem?_map] at hln
        obtain ⟨c, hc, rfl⟩ : ∃ c, cs[i]? = some c ∧ ln = lineOf c := by
          cases e : cs[i]? with
          | none => rw [e] at hln; cases hln
          | some c => rw [e] at hln; cases hln; exact ⟨c, rfl, rfl⟩
        have hi2 : i < 27 := by
          have := hC.few
          have := (List.getElem?_eq_some_iff.mp hc).1
          omega
        have hg := hC.good c (List.mem_of_getElem? hc)
        refine ⟨rfl, ?_⟩
        refine eu_cellT (ev_var rfl) hks hg G (Ex.refl _) _ fun p G1 n1 g1 hp => eu_cellD (ev_var rfl) hks hg G1 (Ex.refl _) _ fun p2 G2 n2 g2 hp2 => ⟨kvs, nmOf c, p, rfl, g2 _ _ hp, g2 _ _ (g1 _ _ hD), by rw [sizeLine_eq, hl.1, List.length_take]; omega, Same.own ((sG.trans g1).trans g2) nD, _, upd_same, ?_⟩
        rw [List.take_succ, hc]
        refine DictOf.own (DictOf.put ((hl.ex g1).ex g2) ?_ hp2) (g2 _ _ (g1 _ _ hD))
        rw [List.map_take]
        exact nd_not hC.nd (by rw [List.getElem?_map, hc]; rfl)
      · rintro G ⟨sG, kvs, hD, hl⟩
        refine ⟨_, rfl, x, C, dx, _, rfl, sG _ _ hx5, T.cl, T.c, by show 2 < 1000; decide, q D kvs _ nDH ?_ ⟨upd_same, sqt_ins (Same.tup sG ha5) (sG _ _ hx5), sqt_ins (Same.tup sG hr5) (sG _ _ hx5), kpm hD (ne_of hD (sG _ _ hx5) fun z => by cases z), DictOf.ins (by rw [show (sl (cs.map lineOf)).length = cs.length from by rw [XB.len_sl, List.length_map], List.take_length] at hl; exact hl) (sG _ _ hx5), hC⟩⟩
        exact (ch5.trans (Same.chg sG)).at

end
end T
namespace T
open PySem PySem.Spec PyProof.Rows L2 Evl XB TL XS XI XC ClX XQ XSp LamX XO2
def foI : Option Nat → Int
  | none => -1
  | some i => i
section
variable {P : Program} {w : World} {K : PySem.W.Frag} {mg : Str → Option Value} {base : Heap}
variable {σ : L2.St} {H H' : Hp} {ta tb te : TE} {tz ts : TS} {D' : Ends} {p : Addr} {xs : List V} {ks ws us : List Str}
/-- lists of texts, held by a list -/
def SeenAt (G : Hp) : List V → List (List Str) → Prop
  | [], [] => True
  | v :: vs, w :: ws => (∃ a, v = .ref a ∧ G a = some (.lst (sl w)) ∧ w ≠ []) ∧ SeenAt G vs ws
  | _, _ => False
theorem SeenAt.map {G G' : Hp} (f : ∀ a w, w ≠ [] → G a = some (.lst (sl w)) → G' a = some (.lst (sl w))) : ∀ {vs : List V} {ws : List (List Str)}, SeenAt G vs ws → SeenAt G' vs ws
  | [], [], _ => trivial
  | _ :: _, _ :: _, ⟨⟨a, h1, h2, h3⟩, h⟩ => ⟨⟨a, h1, f a _ h3 h2, h3⟩, SeenAt.map f h⟩
  | [], _ :: _, h => h.elim
  | _ :: _, [], h => h.elim
theorem SeenAt.app {G : Hp} {v : V} {w : List Str} (hv : ∃ a, v = .ref a ∧ G a = some (.lst (sl w)) ∧ w ≠ []) : ∀ {vs : List V} {ws : List (List Str)}, SeenAt G vs ws → SeenAt G (vs ++ [v]) (ws ++ [w])
  | [], [], _ => ⟨hv, trivial⟩
  | _ :: _, _ :: _, ⟨h1, h⟩ => ⟨h1, SeenAt.app hv h⟩
  | [], _ :: _, h => h.elim
  | _ :: _, [], h => h.elim
def lolD (ws : List (List Str)) : List PyData := ws.map fun w => PyData.list (w.map PyData.str)
theorem SeenAt.dp {G : Hp} : ∀ {vs : List V} {ws : List (List Str)}, SeenAt G vs ws → DpAll K G vs (lolD ws)
  | [], [], _ => .nil
  | _ :: _, _ :: _, ⟨⟨a, h1, h2, _⟩, h⟩ => by
    subst h1
    exact .cons (dp_slL (SqL.of h2)) (SeenAt.dp h)
  | [], _ :: _, h => h.elim
  | _ :: _, [], h => h.elim
theorem SeenAt.len {G : Hp} : ∀ {vs : List V} {ws : List (List Str)}, SeenAt G vs ws → vs.length = ws.length
  | [], [], _ => rfl
  | _ :: _, _ :: _, ⟨_, h⟩ => congrArg (· + 1) (SeenAt.len h)
  | [], _ :: _, h => h.elim
  | _ :: _, [], h => h.elim
theorem SeenAt.refs {G : Hp} : ∀ {vs : List V} {ws : List (List Str)}, SeenAt G vs ws → ∀ v ∈ vs, ∃ b, v = V.ref b
  | [], [], _, _, m => by cases m
  | x :: vs, _ :: _, ⟨⟨a, h1, _⟩, h⟩, v, m => by
    rcases List.mem_cons.mp m with rfl | m
    · exact ⟨a, h1⟩
    · exact SeenAt.refs h v m
  | [], _ :: _, h, _, _ => h.elim
  | _ :: _, [], h, _, _ => h.elim
theorem lol_shp {ws : List (List Str)} (h : ∀ w ∈ ws, OkW w) : SeqAt.shaped (.list (lolD ws)) = true := by
  have e : ∀ {ws : List (List Str)}, (∀ w ∈ ws, OkW w) → PyData.canLayAll0 (lolD ws) = true ∧ PyData.depthAll (lolD ws) ≤ 1 := fun {ws} => by
    induction ws with
    | nil => exact fun _ => ⟨rfl, Nat.zero_le _⟩
    | cons x r ih =>
      intro h
      obtain ⟨i1, i2⟩ := ih fun y m => h y (List.mem_cons_of_mem _ m)
      have s := SeqAt.canLay_of_shaped (shp_ok (h x List.mem_cons_self))
      refine ⟨?_, ?_⟩
      · show (PyData.canLay0 (.list (x.map PyData.str)) && PyData.canLayAll0 (lolD r)) = true
        rw [s, i1]
        rfl
      · show max (PyData.depthAll (x.map PyData.str) + 1) (PyData.depthAll (lolD r)) ≤ 1
        rw [dep_strs]
        omega
  obtain ⟨e1, e2⟩ := e h
  show (PyData.canLayAll0 (lolD ws) && decide (PyData.depthAll (lolD ws) + 1 ≤ 64)) = true
  rw [e1, decide_eq_true (by omega)]
  rfl
theorem lol_any {ws : List (List Str)} {k : List Str} : ((lolD ws).any fun z => PyData.eqv z (.list (k.map PyData.str))) = decide (k ∈ ws) := by
  rw [Bool.eq_iff_iff, List.any_eq_true, decide_eq_true_eq]
  constructor
  · rintro ⟨z, hz, e⟩
    obtain ⟨w, hw, rfl⟩ := List.mem_map.mp hz
    rw [show PyData.eqv (.list (w.map PyData.str)) (.list (k.map PyData.str)) = decide (w = k) from eqv_strs w k] at e
    rw [← of_decide_eq_true e]
    exact hw
  · intro m
    exact ⟨_, List.mem_map.mpr ⟨k, m, rfl⟩, by rw [show PyData.eqv (.list (k.map PyData.str)) (.list (k.map PyData.str)) = decide (k = k) from eqv_strs k k]; exact decide_eq_true rfl⟩
theorem keyD2_row {ks : List Str} {d : PyData} (h : rowD ks d = true) : ∃ c : Cell, keyD2 ks d = [c.1, c.2.1, c.2.2.1] ∧ cellD ks d = some (nmOf c) := by
  obtain ⟨x, c, rfl, hg, hl, hsp, hc⟩ := cellD_some h
  refine ⟨c, ?_, hc⟩
  show keyB ks (Txt.split x " ") = _
  unfold keyB
  rw [if_pos (show rowB ks (Txt.split x " ") = true from h), hsp]
  rfl
theorem seen_iff {ks : List Str} : ∀ {ds : List PyData} {c : Cell}, (∀ d ∈ ds, rowD ks d = true) → (([c.1, c.2.1, c.2.2.1] : List Str) ∈ ds.map (keyD2 ks) ↔ nmOf c ∈ ds.filterMap (cellD ks))
  | [], c, _ => ⟨fun z => (by cases z), fun z => (by cases z)⟩
  | d :: r, c, h => by
    obtain ⟨e, h1, h2⟩ := keyD2_row (h d List.mem_cons_self)
    have ih := seen_iff (ds := r) (c := c) fun y m => h y (List.mem_cons_of_mem _ m)
    rw [List.map_cons, List.filterMap_cons, h1, h2, List.mem_cons, ih]
    show _ ↔ nmOf c ∈ nmOf e :: List.filterMap (cellD ks) r
    rw [List.mem_cons]
    have : ([c.1, c.2.1, c.2.2.1] : List Str) = [e.1, e.2.1, e.2.2.1] ↔ nmOf c = nmOf e := ⟨fun z => by
      injection z with z1 z
      injection z with z2 z
      injection z with z3 _
      unfold nmOf
      rw [z1, z2, z3], fun z => by
      obtain ⟨a1, a2, a3⟩ := nm_inj z
      rw [a1, a2, a3]⟩
    rw [this]
theorem et_eqM {σ : L2.St} {K : PySem.W.Frag} {H : Hp} {ta tb : TE} {ws us : List Str} (h : EvM ta σ H (sl ws)) (g : EvM tb σ H (sl us)) (ow : OkW ws) (ou : OkW us) : EvT (tTest (tOp (rEqD K) ta tb)) σ H (decide (ws = us)) := fun H1 e Q q => by
  refine h H1 e _ fun l H2 e2 hl => ?_
  refine g H2 (e.trans e2) _ fun l2 H3 e3 hl2 => ?_
  refine ⟨_, _, dp_slL (SqL.of (e3 _ _ hl)), dp_slL (SqL.of hl2), shp_ok ow, shp_ok ou, _, rfl, ?_⟩
  rw [show PyData.eqv (.list (ws.map PyData.str)) (.list (us.map PyData.str)) = decide (ws = us) from eqv_strs ws us]
  exact q H3 (e2.trans e3)
theorem key_nil {ks : List Str} {d : PyData} : decide (keyD2 ks d = []) = !rowD ks d := by
  cases d with
  | str x =>
    show decide (keyB ks (Txt.split x " ") = []) = !rowB ks (Txt.split x " ")
    generalize Txt.split x " " = ps
    unfold keyB
    cases e : rowB ks ps with
    | false => rfl
    | true =>
      rw [if_pos rfl]
      rcases ps with _ | ⟨m, _ | ⟨i, _ | ⟨r, ws⟩⟩⟩
      · cases e
      · cases e
      · cases e
      · rfl
  | _ => rfl
theorem key_ok {ks : List Str} {d : PyData} (h : ∀ y, d = .str y → OkS y) : OkW (keyD2 ks d) := by
  cases d with
  | str y =>
    show OkW (keyB ks (Txt.split y " "))
    unfold keyB
    split
    · exact fun w hw c m => h y rfl c (split_chars (List.mem_of_mem_take hw) m)
    · exact fun _ m => (List.not_mem_nil m).elim
  | _ => exact fun _ m => (List.not_mem_nil m).elim
def spDue5 (K : PySem.W.Frag) : Sp := fun vs H Q _ => ∃ (p l a : Addr) (ks : List Str) (xs : List V) (ds : List PyData), vs = [.ref l, .ref a] ∧ SqL K H l xs ∧ OdAll K p H xs ds ∧ (∀ y, PyData.str y ∈ ds → y.length ≤ 1000 ∧ OkS y) ∧ ds.length ≤ 60 ∧ H a = some (.lst (sl ks)) ∧ ks ∈ kinds7 ∧ ∀ o H', Ex H H' → FirstR ks ds o → Q (.int (foI o)) H'
end
end T
namespace T
open PySem PySem.Spec PyProof.Rows L2 Evl XB TL XS XI XC ClX XQ XSp LamX XO2
/-! ### are_kinds of anything -/
def strsOf : List PyData → Option (List Str)
  | [] => some []
  | .str x :: r => (strsOf r).map (x :: ·)
  | _ :: _ => none
theorem strsOf_some {ds : List PyData} : ∀ {ws : List Str}, strsOf ds = some ws → ds = ws.map PyData.str := by
  induction ds with
  | nil => intro ws h; cases h; rfl
  | cons d r ih =>
    intro ws h
    cases d with
    | str x =>
      have h : (strsOf r).map (x :: ·) = some ws := h
      cases e : strsOf r with
      | none => rw [e] at h; cases h
      | some us => rw [e] at h; cases h; rw [ih e]; rfl
    | _ => cases h
theorem strsOf_map (ws : List Str) : strsOf (ws.map PyData.str) = some ws := by
  induction ws with
  | nil => rfl
  | cons x r ih =>
    show (strsOf (r.map PyData.str)).map (x :: ·) = _
    rw [ih]
    rfl
theorem ods_sl' {K : PySem.W.Frag} {p : Addr} {H : Hp} {xs : List V} {ws : List Str} (h : OdAll K p H xs (ws.map PyData.str)) : xs = sl ws := by
  induction ws generalizing xs with
  | nil => cases h; rfl
  | cons c r ih =>
    cases h with
    | cons o h =>
      cases o
      rw [ih h]
      rfl
def kindsD : PyData → Bool
  | .tuple ds => match strsOf ds with
    | some ws => decide (ws ∈ kinds7)
    | none => false
  | _ => false
def wordV (ks : List Str) : V → Bool
  | .str x => decide (x ∈ ks)
  | _ => false
section
variable {P : Program} {w : World} {K : PySem.W.Frag} {mg : Str → Option Value} {base : Heap} {C : Addr}
variable {σ : L2.St} {H H' : Hp} {ta tb : TE} {p a b r : Addr} {E : XK} {d : PyData} {ds : List PyData} {v : V} {ks ws : List Str} {xs : List V}
theorem wordV_od (h : Od K p H v d) : wordV ks v = wordD ks d := by
  cases h <;> rfl
theorem words_strs (h : OdAll K p H xs ds) (hb : (xs.map (wordV ks)).all id = true) : ∃ ws : List Str, ds = ws.map PyData.str ∧ xs = sl ws ∧ ∀ x ∈ ws, x ∈ ks := by
  induction ds generalizing xs with
  | nil => cases h; exact ⟨[], rfl, rfl, fun _ m => by cases m⟩
  | cons d r ih =>
    cases h with
    | cons h1 h2 =>
      rw [List.map_cons, List.all_cons, Bool.and_eq_true] at hb
      obtain ⟨ws, e1, e2, e3⟩ := ih h2 hb.2
      cases h1 with
      | str x =>
        refine ⟨x :: ws, by rw [e1]; rfl, by rw [e2]; rfl, fun y m => ?_⟩
        rcases List.mem_cons.mp m with rfl | m
        · exact of_decide_eq_true hb.1
        · exact e3 y m
      | _ => cases hb.1
theorem fil7 {ws : List Str} (h0 : ws ≠ []) (h : (KINDSc.filter fun c => decide (c ∈ ws)) = ws) : ws ∈ kinds7 := by
  have e : ∀ a b c : Bool, (KINDSc.filter fun x => if x = ("put" : Str) then a else if x = ("out" : Str) then b else c) ∈ [] :: kinds7 := by decide +kernel
  have := e (decide (("put" : Str) ∈ ws)) (decide (("out" : Str) ∈ ws)) (decide (("set" : Str) ∈ ws))
  have g : (KINDSc.filter fun x => if x = ("put" : Str) then decide (("put" : Str) ∈ ws) else if x = ("out" : Str) then decide (("out" : Str) ∈ ws) else decide (("set" : Str) ∈ ws)) = KINDSc.filter fun c => decide (c ∈ ws) := by
    refine List.filter_congr fun x m => ?_
    have m : x = ("put" : Str) ∨ x = ("out" : Str) ∨ x = ("set" : Str) := by
      have : x ∈ (["put", "out", "set"] : List Str) := m
      simpa using this
    rcases m with rfl | rfl | rfl
    · rfl
    · rw [if_neg (by decide), if_pos rfl]
    · rw [if_neg (by decide), if_neg (by decide)]
  rw [g, h] at this
  rcases List.mem_cons.mp this with z | z
  · exact absurd z h0
  · exact z
theorem kinds_in {ks : List Str} (h : ks ∈ kinds7) : ∀ x ∈ ks, x ∈ KINDSc := by
  have all : ∀ ks ∈ kinds7, ∀ x ∈ ks, x ∈ KINDSc := by decide +kernel
  exact all ks h
def spKindsO (K : PySem.W.Frag) : Sp := fun vs H Q _ => ∃ (p : Addr) (v : V) (d : PyData), vs = [v] ∧ Od K p H v d ∧ (∀ ds, d = .tuple ds → ds.length ≤ 10000) ∧ ∀ H', Ex H H' → Q (.bl (kindsD d)) H'
theorem c_kindsO (D : At K mg "are_kinds" s_are_kinds ["value"]) (B : Bl mg) (T : TupC K mg "KINDS" KINDSc) (Cw : C8.Cal P w K mg base 1 "is_word" (spWordO K) []) : C8.Cal P w K mg base 2 "are_kinds" (spKindsO K) [] := by
  obtain ⟨ak, mk, hK⟩ := T.ex
  refine cal_of D sc_are_kinds (fun vs H Q E h => ?_) (fun f cdv A outer s H vs Q E hr h => ?_)
  · obtain ⟨p, v, d, rfl, _⟩ := h
    rfl
  · obtain ⟨p, v, d, rfl, hv, hl, q⟩ := h
    refine ⟨_, pss_cons (ps_if (PW.pt (pw_or (pt_not (pt_val (pe_callB call_isi (by rfl) B.isin (by decide +kernel) (pa_cons (pv 0) (pa_cons (pe_bltn (v := .ty "tuple") (by rfl) B.tuple (by decide +kernel) rfl) pa_nil))))) (pw_or1 (pt_not (pt_val (pe_callB (cr_all rfl) (by rfl) B.all_ (by decide +kernel) (pa_cons
        (pe_lc (own := [("kind", 1)]) (g := gName 1) (tt := tYes) (te := tCall (spWordO K) [] C8.E0 (tCons (tVar 1) (tCons (tC (.ref ak)) tNil))) rfl sc_are_kinds.nd (pi_tup (pv 0))
            (blkOk_by (own := [("kind", 1)]) (N := N_are_kinds) (sc := defScope s_are_kinds) (by decide +kernel)) (fun _ _ _ _ _ => pg_name (i := 1) sc_are_kinds.nd rfl (Or.inl rfl)) (fun _ _ _ _ _ => pts_nil)
            (fun _ _ _ _ _ => C8.pe_c Cw hr (by decide) (by rfl) (pa_cons (pv 1) (pa_cons (pe_glob (v := .ref ak) (by rfl) mk rfl) pa_nil)))) pa_nil))))))) (pss_one (ps_ret pe_bl)) pss_nil)
      (pss_one (ps_ret (pe_and (pe_cmpR op_gt (pe_callB call_len_seq (by rfl) B.len (by decide +kernel) (pa_cons (pv 0) pa_nil)) pe_int (nomark _)) (pe_one (pe_cmpR (op_eqD hr.units) (pv 0) (pe_callTy call_tuple_of (by rfl) B.tuple (by decide +kernel) (pa_cons 
        (pe_lc (own := [("kind", 1)]) (g := gName 1) (tt := tTest (tOp (rIn K false) (tVar 1) (tVar 0))) (te := tVar 1) rfl sc_are_kinds.nd (pi_tup (pe_glob (v := .ref ak) (by rfl) mk rfl))
            (blkOk_by (own := [("kind", 1)]) (N := N_are_kinds) (sc := defScope s_are_kinds) (by decide +kernel)) (fun _ _ _ _ _ => pg_name (i := 1) sc_are_kinds.nd rfl (Or.inl rfl)) (fun _ _ _ _ _ => pts_one (pt_cmpR op_in_seq (pv 1) (pv 0) (by rfl)))
            (fun _ _ _ _ _ => pv 1)) pa_nil)) (nomark _)))))), ?_⟩
    have no : isTupD d = false → kindsD d = false := fun z => by
      cases d with
      | tuple ds => cases z
      | _ => rfl
    cases tu : isTupD d with
    | false =>
      rw [no tu] at q
      refine q_when (b := true) (et_is (et_or (a := !isTupD d) (b := true) (et_not (et_B (ev_isTupO (ev_var rfl) hv))) (fun y => by rw [tu] at y; cases y)) (by rw [tu]; rfl)) (fun _ H1 e1 => s_ret ev_c fun H2 e2 => q H2 (e1.trans e2)) (fun y => by cases y)
    | true =>
      obtain ⟨ds, rfl⟩ : ∃ ds, d = .tuple ds := by
        cases d with
        | tuple ds => exact ⟨ds, rfl⟩
        | _ => cases tu
      have hl := hl ds rfl
      cases hv with
      | tup np hS ho =>
        rename_i a xs
        have xl : xs.length ≤ 10000 := by rw [ho.len]; exact hl
        cases al : (xs.map (wordV KINDSc)).all id with
        | false =>
          have kn : kindsD (.tuple ds) = false := by
            show (match strsOf ds with | some ws => decide (ws ∈ kinds7) | none => false) = false
            cases e : strsOf ds with
            | none => rfl
            | some ws =>
              refine decide_eq_false fun m => ?_
              have e := strsOf_some e
              subst e
              have hx := ods_sl' ho
              subst hx
              have : ((sl ws).map (wordV KINDSc)).all id = true := by
                rw [List.all_eq_true]
                intro y hy
                obtain ⟨v, hv, rfl⟩ := List.mem_map.mp hy
                obtain ⟨x, hx, rfl⟩ := List.mem_map.mp hv
                exact decide_eq_true (kinds_in m x hx)
              rw [this] at al
              cases al
          rw [kn] at q
          refine q_when (b := true) (et_is (et_or (b := true) (et_not (et_B (ev_isTupO (p := p) (d := .tuple ds) (ev_var rfl) (.tup np hS ho)))) (fun _ => et_is (et_not (et_B (ev_all (bs := xs.map (wordV KINDSc)) (el_is (el_lcV (fun v => .bl (wordV KINDSc v)) (es_at (ev_var rfl) hS) (by omega) (fun _ => rfl) (fun x G e m => ?_)) (by rw [List.map_map]; rfl))))) (by rw [al]; rfl))) rfl) (fun _ H1 e1 => s_ret ev_c fun H2 e2 => q H2 (e1.trans e2)) (fun y => by cases y)
          obtain ⟨dd, hd, od⟩ := ho.mem m
          rw [wordV_od od]
          exact ev_wordO (ev_var rfl) (od.ex e) (es_at ev_c (hK _))
        | true =>
          obtain ⟨ws, e1, e2, e3⟩ := words_strs ho al
          subst e1 e2
          have kd : kindsD (.tuple (ws.map PyData.str)) = decide (ws ∈ kinds7) := by
            show (match strsOf (ws.map PyData.str) with | some ws => decide (ws ∈ kinds7) | none => false) = _
            rw [strsOf_map]
          rw [kd] at q
          have low : ∀ x ∈ ws, Lo x := fun x hx c m => by
            have all : ∀ x ∈ KINDSc, ∀ c ∈ tl x, c < 128 := by decide +kernel
            exact all x (e3 x hx) c m
          have lof : ∀ x ∈ (KINDSc.filter fun c => decide (c ∈ ws)), Lo x := fun x hx => low x (of_decide_eq_true (List.mem_filter.mp hx).2)
          refine q_when (b := false) (et_is (et_or (b := false) (et_not (et_B (ev_isTupO (p := p) (d := .tuple (ws.map PyData.str)) (ev_var rfl) (.tup np hS ho)))) (fun _ => et_is (et_not (et_B (ev_all (bs := (sl ws).map (wordV KINDSc)) (el_is (el_lcV (fun v => .bl (wordV KINDSc v)) (es_at (ev_var rfl) hS) (by omega) (fun _ => rfl) (fun x G e m => ?_)) (List.map_map (l := sl ws) (f := wordV KINDSc) (g := V.bl)).symm)))) (by rw [al]; rfl))) rfl) (fun y => by cases y) (fun _ H1 e1 => ?_)
          · obtain ⟨dd, hd, od⟩ := ho.mem m
            rw [wordV_od od]
            exact ev_wordO (ev_var rfl) (od.ex e) (es_at ev_c (hK _))
          · refine s_ret (ev_is (ev_andV (b := decide ((KINDSc.filter fun c => decide (c ∈ ws)) = ws)) (ev_op (ev_lenS (ev_var rfl) (.inr (ex_t e1 hS))) ev_c rv_I0) (fun _ => ev_is (ev_eqTT (ws := ws) (us := KINDSc.filter fun c => decide (c ∈ ws)) (es_at (ev_var rfl) (ex_t e1 hS)) (es_new (eu_tuple (el_lcS (ws := KINDSc) (fun c => decide (c ∈ ws)) V.str (es_at ev_c (hK _)) (by decide) (fun _ => rfl) (fun c H2 e2 _ => et_test (ev_inT (ev_var rfl) (ev_var rfl) (ex_t (e1.trans e2) hS))) (fun c H2 e2 _ _ => ev_var rfl)))) low lof) (by rw [decide_eq_decide.mpr (eq_comm)]))) ?_) fun H2 e2 => q H2 (e1.trans e2)
            refine congrArg V.bl ?_
            show (decide ((0 : Int) < ((sl ws).length : Int)) && _) = _
            by_cases z : ws ∈ kinds7
            · rw [decide_eq_true z, decide_eq_true (kinds_fil z), Bool.and_true]
              have := kinds_pos z
              rw [XB.len_sl]
              exact decide_eq_true (by omega)
            · rw [decide_eq_false z]
              by_cases y : ws = []
              · subst y
                rfl
              · rw [decide_eq_false (fun f => z (fil7 y f)), Bool.and_false]
end
end T
namespace T
open PySem PySem.Spec PyProof.Rows L2 Evl XB TL XS XI XC ClX XQ XSp LamX XO2
/-! ### what repr shows of tuples of words -/
def menuD : List PyData := (["put", "out", "set", "put", "out", "set", "put", "out", "set", "stay", "Put", "", "puts", " put", "set "] : List Str).map PyData.str ++ [.none, .int 0, .bool true, .tuple [.str "put"], .list [.str "put"], .str "put out", .str "u", .str "st"]
def gL : List PyData → List Nat
  | [] => [41]
  | d :: r => 44 :: 32 :: (tl d.shown ++ gL r)
theorem joinL_gL : ∀ (r : List PyData) (d : List Nat), joinL [44, 32] (d :: (PyData.shownAll r).map tl) ++ [41] = d ++ gL r
  | [], d => rfl
  | e :: r, d => by
    show d ++ ([44, 32] ++ joinL [44, 32] (tl e.shown :: (PyData.shownAll r).map tl)) ++ [41] = d ++ (44 :: 32 :: (tl e.shown ++ gL r))
    rw [List.append_assoc, List.append_assoc, joinL_gL r]
    rfl
theorem shown_one (d : PyData) : tl (PyData.tuple [d]).shown = 40 :: (tl d.shown ++ [44, 41]) := by
  show tl (("(" : Str) ++ Str.join ", " [d.shown] ++ (",)" : Str)) = _
  rw [tl_append, tl_append]
  rfl
theorem shown_more (d e : PyData) (r : List PyData) : tl (PyData.tuple (d :: e :: r)).shown = 40 :: (tl d.shown ++ gL (e :: r)) := by
  show tl (("(" : Str) ++ Str.join ", " (d.shown :: PyData.shownAll (e :: r)) ++ (")" : Str)) = _
  rw [tl_append, tl_append, tl_join]
  have h := joinL_gL (e :: r) (tl d.shown)
  show 40 :: (joinL [44, 32] (tl d.shown :: (PyData.shownAll (e :: r)).map tl) ++ [41]) = _
  rw [h]
def pfx (a : PyData) (k : Str) : Bool := (tl a.shown).isPrefixOf (tl (PyData.str k).shown) || (tl (PyData.str k).shown).isPrefixOf (tl a.shown)
def isK : PyData → Str → Bool
  | .str x, k => decide (x = k)
  | _, _ => false
theorem pfx_is : ∀ a ∈ menuD, ∀ k ∈ KINDSc, pfx a k = true → isK a k = true := by decide +kernel
theorem cancel {a : PyData} {k : Str} {r r' : List Nat} (ha : a ∈ menuD) (hk : k ∈ KINDSc) (h : tl a.shown ++ r = tl (PyData.str k).shown ++ r') : a = .str k ∧ r = r' := by
  have p : pfx a k = true := by
    unfold pfx
    rw [Bool.or_eq_true, List.isPrefixOf_iff_prefix, List.isPrefixOf_iff_prefix]
    rcases List.append_eq_append_iff.mp h with ⟨c, h1, _⟩ | ⟨c, h1, _⟩
    · exact .inl ⟨c, h1.symm⟩
    · exact .inr ⟨c, h1.symm⟩
  have e := pfx_is a ha k hk p
  cases a with
  | str x =>
    have e : x = k := of_decide_eq_true e
    subst e
    exact ⟨rfl, List.append_cancel_left h⟩
  | _ => cases e
theorem gL_inj : ∀ {ds : List PyData} {ks : List Str}, (∀ d ∈ ds, d ∈ menuD) → (∀ k ∈ ks, k ∈ KINDSc) → gL ds = gL (ks.map PyData.str) → ds = ks.map PyData.str
  | [], [], _, _, _ => rfl
  | [], _ :: _, _, _, h => by cases h
  | _ :: _, [], _, _, h => by cases h
  | d :: r, k :: s, h1, h2, h => by
    have h : tl d.shown ++ gL r = tl (PyData.str k).shown ++ gL (s.map PyData.str) := by
      have h : 44 :: 32 :: (tl d.shown ++ gL r) = 44 :: 32 :: (tl (PyData.str k).shown ++ gL (s.map PyData.str)) := h
      injection h with _ h
      injection h
    obtain ⟨e1, e2⟩ := cancel (h1 d List.mem_cons_self) (h2 k List.mem_cons_self) h
    rw [e1, gL_inj (fun x m => h1 x (List.mem_cons_of_mem _ m)) (fun x m => h2 x (List.mem_cons_of_mem _ m)) e2]
    rfl
theorem tup_inj {ds : List PyData} {ks : List Str} (h1 : ∀ d ∈ ds, d ∈ menuD) (hk : ks ∈ kinds7) (h : (PyData.tuple ds).shown = (PyData.tuple (ks.map PyData.str)).shown) : ds = ks.map PyData.str := by
  have h2 := kinds_in hk
  have pos := kinds_pos hk
  have h := congrArg tl h
  rcases ks with _ | ⟨k, ks⟩
  · cases pos
  rcases ds with _ | ⟨d, ds⟩
  · have e0 : tl (PyData.tuple []).shown = [40, 41] := by decide +kernel
    rw [e0] at h
    rcases ks with _ | ⟨k2, ks⟩
    · have h : [40, 41] = tl (PyData.tuple [PyData.str k]).shown := h
      rw [shown_one] at h
      have := congrArg List.length h
      simp at this
    · have h : [40, 41] = tl (PyData.tuple (PyData.str k :: PyData.str k2 :: ks.map PyData.str)).shown := h
      rw [shown_more] at h
      have := congrArg List.length h
      simp [gL] at this
      omega
  · rcases ds with _ | ⟨d2, ds⟩
    · rw [shown_one] at h
      rcases ks with _ | ⟨k2, ks⟩
      · have h : 40 :: (tl d.shown ++ [44, 41]) = tl (PyData.tuple [PyData.str k]).shown := h
        rw [shown_one] at h
        injection h with _ h
        obtain ⟨e1, _⟩ := cancel (h1 d List.mem_cons_self) (h2 k List.mem_cons_self) h
        rw [e1]
        rfl
      · have h : 40 :: (tl d.shown ++ [44, 41]) = tl (PyData.tuple (PyData.str k :: PyData.str k2 :: ks.map PyData.str)).shown := h
        rw [shown_more] at h
        injection h with _ h
        obtain ⟨_, e2⟩ := cancel (h1 d List.mem_cons_self) (h2 k List.mem_cons_self) h
        cases e2
    · rw [shown_more] at h
      rcases ks with _ | ⟨k2, ks⟩
      · have h : 40 :: (tl d.shown ++ gL (d2 :: ds)) = tl (PyData.tuple [PyData.str k]).shown := h
        rw [shown_one] at h
        injection h with _ h
        obtain ⟨_, e2⟩ := cancel (h1 d List.mem_cons_self) (h2 k List.mem_cons_self) h
        cases e2
      · have h : 40 :: (tl d.shown ++ gL (d2 :: ds)) = tl (PyData.tuple (PyData.str k :: PyData.str k2 :: ks.map PyData.str)).shown := h
        rw [shown_more] at h
        injection h with _ h
        obtain ⟨e1, e2⟩ := cancel (h1 d List.mem_cons_self) (h2 k List.mem_cons_self) h
        have := gL_inj (ds := d2 :: ds) (ks := k2 :: ks) (fun x m => h1 x (List.mem_cons_of_mem _ m)) (fun x m => h2 x (List.mem_cons_of_mem _ m)) e2
        rw [e1, this]
        rfl
def good7 : List Str := ["('put',)", "('out',)", "('set',)", "('put', 'out')", "('put', 'set')", "('out', 'set')", "('put', 'out', 'set')"]
theorem good7_is : kinds7.map (fun ks => (PyData.tuple (ks.map PyData.str)).shown) = good7 := by decide +kernel
/-- what the law asks of a value: whether its text is one of the seven -/
def GoodS (d : PyData) : Prop := decide (d.shown ∈ good7) = kindsD d
theorem goodS_tup {ds : List PyData} (h1 : ∀ d ∈ ds, d ∈ menuD) : GoodS (.tuple ds) := by
  unfold GoodS
  rw [Bool.eq_iff_iff, decide_eq_true_eq, ← good7_is]
  constructor
  · intro m
    obtain ⟨ks, hk, e⟩ := List.mem_map.mp m
    have := tup_inj h1 hk e.symm
    subst this
    show (match strsOf (ks.map PyData.str) with | some ws => decide (ws ∈ kinds7) | none => false) = true
    rw [strsOf_map]
    exact decide_eq_true hk
  · intro h
    have g : (match strsOf ds with | some ws => decide (ws ∈ kinds7) | none => false) = true := h
    clear h
    cases e : strsOf ds with
    | none => rw [e] at g; cases g
    | some ws =>
      rw [e] at g
      have := strsOf_some e
      subst this
      exact List.mem_map.mpr ⟨ws, of_decide_eq_true g, rfl⟩
theorem goodS_lst (ds : List PyData) : GoodS (.list ds) := by
  unfold GoodS
  refine decide_eq_false fun m => ?_
  have all : ∀ z ∈ good7, (tl z).head? = some 40 := by decide +kernel
  have := all _ m
  have e : (tl (PyData.list ds).shown).head? = some 91 := by
    show (tl (listText (PyData.shownAll ds))).head? = some 91
    unfold listText
    rw [tl_append]
    have : ∀ (ts : List Str) (k : Nat) (acc : Str), (∃ r, tl acc = 91 :: r) → ∃ r, tl (textFrom k acc ts) = 91 :: r := fun ts => by
      induction ts with
      | nil => exact fun k acc h => h
      | cons t r ih =>
        intro k acc ⟨r', h⟩
        refine ih (k + 1) _ ?_
        rw [tl_append, tl_append, h]
        exact ⟨_, rfl⟩
    obtain ⟨r, h⟩ := this (PyData.shownAll ds) 0 "[" ⟨[], rfl⟩
    rw [h]
    rfl
  rw [e] at this
  cases this
end T
namespace T
open PySem PySem.Spec PyProof.Rows L2 Evl XB TL XS XI XC ClX XQ XSp LamX XO2
/-! ### _law_value: values for kinds -/
def menu0D : List PyData := [.none, .str "put", .str "", .int 0, .bool true, .dict [], .dict [(.str "put", .bool true)], .str "put out", .int (-7), .str "kinds put", .int (10 ^ 39)]
theorem menu0_ok : ∀ d ∈ menu0D, (ncB 8 20000 d || ncD d) = true ∧ decide (d.shown ∈ good7) = kindsD d ∧ isTupD d = false := by decide +kernel
theorem menu0_nc {d : PyData} (h : d ∈ menu0D) : NcV d := by
  have := (menu0_ok d h).1
  rcases Bool.or_eq_true_iff.mp this with z | z
  · exact .inl (nc_b z)
  · exact .inr z
theorem menuD_nc : ∀ d ∈ menuD, ncB 2 64 d = true := by decide +kernel
theorem items_nc {ds : List PyData} (h : ∀ d ∈ ds, d ∈ menuD) (hl : ds.length ≤ 10) : NcV (.tuple ds) ∧ NcV (.list ds) :=
  ⟨.inl ((nc_tup (a := 2) (b := 64) fun d m => nc_b (menuD_nc d (h d m))).mono (by decide) (by omega)), .inl ((nc_lst (a := 2) (b := 64) fun d m => nc_b (menuD_nc d (h d m))).mono (by decide) (by omega))⟩
theorem kinds_str : ∀ ks ∈ kinds7, ∀ d ∈ ks.map PyData.str, d ∈ menuD := fun ks hk d hd => by
  obtain ⟨x, hx, rfl⟩ := List.mem_map.mp hd
  have all : ∀ x ∈ KINDSc, ∃ i : Nat, menuD[i]? = some (PyData.str x) := fun x m => by
    have m : x = ("put" : Str) ∨ x = ("out" : Str) ∨ x = ("set" : Str) := by
      have : x ∈ (["put", "out", "set"] : List Str) := m
      simpa using this
    rcases m with rfl | rfl | rfl
    · exact ⟨0, rfl⟩
    · exact ⟨1, rfl⟩
    · exact ⟨2, rfl⟩
  obtain ⟨i, hi⟩ := all x (kinds_in hk x hx)
  exact List.mem_of_getElem? hi
section
variable {P : Program} {w : World} {K : PySem.W.Frag} {mg : Str → Option Value} {base : Heap}
variable {σ : L2.St} {H : Hp} {te tx : TE} {p s l : Addr} {ks : List Str} {D : Ends}
theorem eo_d1b {o : HO} (hp : H p = some o) {k : Str} {n : Bool} : XO2.EvO K p (tDisp [(tC (.str k), tC (.bl n))]) σ H (.dict [(.str k, .bool n)]) := fun H1 e Q q => fun D nD =>
  ⟨upd_same, [(.inr k, .bl n)], rfl, by show 1 ≤ 15; decide, q (.ref D) _ (by rw [upd_upd]; exact Ex.new nD) (.dct (ne_of_none (e _ _ hp) nD).symm upd_same (.cons rfl .nil))⟩
def spVal4 (K : PySem.W.Frag) : Sp := fun vs H Q _ => ∃ p, vs = [.ref p] ∧ Purse H p ∧ ∀ v d H', Od K p H' v d → NcV d → GoodS d → (∀ ds, d = .tuple ds → ds.length ≤ 10) → Purse H' p → Chg p H H' → Q v H'
theorem c_value4 (D : At K mg "_law_value" s__law_value ["purse"]) (B : Bl mg) (Cdr : C8.Cal P w K mg base 1 "_law_draw" spDraw []) (Cp : C8.Cal P w K mg base 2 "_law_pick" (spPick K) []) (Cso : C8.Cal P w K mg base 3 "_law_sorts" spSorts []) : C8.Cal P w K mg base 4 "_law_value" (spVal4 K) [] := by
  refine cal_of D sc__law_value (fun vs H Q E h => ?_) (fun f cdv A outer s_ H vs Q E hr h => ?_)
  · obtain ⟨p, rfl, _⟩ := h
    rfl
  · obtain ⟨p, rfl, hp, q⟩ := h
    refine ⟨_, pss_cons (ps_set (i := 1) sc__law_value.nd rfl (.inr rfl) (C8.pe_c Cdr hr (by decide) (by rfl) (pa_cons (pv 0) (pa_cons pe_int pa_nil))))
      (pss_cons (ps_if (pt_cmpR op_eq (pv 1) pe_int (nomark _)) (pss_one (ps_ret (C8.pe_c Cp hr (by decide) (by rfl) (pa_cons (pv 0) (pa_cons (pe_lst (pa_cons pe_non (pa_cons pe_str (pa_cons pe_str (pa_cons pe_int (pa_cons pe_bl (pa_cons pe_dnewK (pa_cons (pe_disp (pps_cons pe_str pe_bl pps_nil) rfl rfl (by simp) (by decide)) (pa_cons pe_str (pa_cons (pe_un un_neg pe_int) (pa_cons pe_str (pa_cons (pe_op op_pow pe_int pe_int) pa_nil)))))))))))) pa_nil))))) pss_nil)
      (pss_cons (ps_if (pt_cmpR op_lt (pv 1) pe_int (nomark _)) (pss_one (ps_ret (pe_callTy call_tuple_of (by rfl) B.tuple (by decide +kernel) (pa_cons (C8.pe_c Cso hr (by decide) (by rfl) (pa_cons (pv 0) pa_nil)) pa_nil)))) pss_nil)
      (pss_cons (ps_set (i := 2) sc__law_value.nd rfl (.inr rfl) (pe_lst (pa_cons pe_str (pa_cons pe_str (pa_cons pe_str (pa_cons pe_str (pa_cons pe_str (pa_cons pe_str (pa_cons pe_str (pa_cons pe_str (pa_cons pe_str (pa_cons pe_str (pa_cons pe_str (pa_cons pe_str (pa_cons pe_str (pa_cons pe_str (pa_cons pe_str pa_nil)))))))))))))))))
      (pss_cons (ps_set (i := 2) sc__law_value.nd rfl (.inr rfl) (pe_op op_cat (pv 2) (pe_lst (pa_cons pe_non (pa_cons pe_int (pa_cons pe_bl (pa_cons (pe_tup (pa_cons pe_str pa_nil)) (pa_cons (pe_lst (pa_cons pe_str pa_nil)) (pa_cons pe_str (pa_cons pe_str (pa_cons pe_str pa_nil)))))))))))
      (pss_cons (ps_setLc (i := 3) (own := [("k", 4)]) (g := gName 4) (tt := tYes) (te := tCall (spPick K) [] C8.E0 (tCons (tVar 0) (tCons (tIf (tTest (tOp rEq (tVar 1) (tC (.int 3)))) (tVar 2) (tSl (rSlL K) (tVar 2) tNoPart (tPart (tC (.int 9))))) tNil))) rfl sc__law_value.nd rfl rfl (sw_true rfl rfl rfl (by decide +kernel)) (pi_range1 (by rfl) B.range (pa_cons (C8.pe_c Cp hr (by decide) (by rfl) (pa_cons (pv 0) (pa_cons (pe_lst (pa_cons pe_int (pa_cons pe_int (pa_cons pe_int (pa_cons pe_int (pa_cons pe_int (pa_cons pe_int (pa_cons pe_int pa_nil)))))))) pa_nil))) pa_nil)) (blkOk_by (own := [("k", 4)]) (N := N__law_value) (sc := defScope s__law_value) (by decide +kernel)) (fun _ _ _ _ _ => pg_name (i := 4) sc__law_value.nd rfl (Or.inl rfl)) (fun _ _ _ _ _ => pts_nil) (fun _ _ _ _ _ => C8.pe_c Cp hr (by decide) (by rfl) (pa_cons (pv 0) (pa_cons (pe_ifExp (pt_cmpR op_eq (pv 1) pe_int (nomark _)) (pv 2) (pe_slice sl_list (pv 2) po_none (po_some pe_int))) pa_nil))))
      (pss_one (ps_ret (pe_ifExp (pt_cmpR op_eq (pv 1) pe_int (nomark _)) (pv 3) (pe_callTy call_tuple_of (by rfl) B.tuple (by decide +kernel) (pa_cons (pv 3) pa_nil)))))))))), ?_⟩
    refine ⟨_, rfl, p, 7, rfl, hp, by decide, by decide, fun n7 H1 n0 n1 hp1 c1 => ?_⟩
    obtain ⟨q1, q2, q3, hpo⟩ := id hp1
    refine q_when (et_test (ev_op (ev_var rfl) ev_c (rv_eq rfl))) (fun _ H2 e2 => ?_) (fun _ H2 e2 => ?_)
    · have hpo2 := e2 _ _ hpo
      have hp2 := purse_ex hp1 e2
      refine ⟨_, rfl, (elo_lst (K := K) (p := p) (ds := menu0D) (σ := [some (.ref p), some (.int n7), none, none, none]) (eos_cons eo_cn (eos_cons eo_cs (eos_cons eo_cs (eos_cons eo_ci (eos_cons eo_cb (eos_cons (eo_d0 hpo2) (eos_cons (eo_d1b hpo2) (eos_cons eo_cs (eos_cons (eo_int (ev_un ev_c ru_neg)) (eos_cons eo_cs (eos_cons (eo_int (ev_op ev_c ev_c (rv_I ⟨by decide, by decide, by decide⟩))) eos_nil))))))))))) (by show 11 ≤ 100000; decide)) H2 (Ex.refl _) _ fun m vs H3 nm e3 hm od => ⟨p, .ref m, rfl, purse_ex hp2 e3, .inl ⟨m, vs, rfl, (hp2.ne nm).symm, SqL.of hm, (by intro z; rw [z] at od; cases od), (by rw [od.len]; show 11 ≤ 1000; decide), fun v hv H4 hp4 c4 => ?_⟩⟩⟩
      obtain ⟨d, hd, odv⟩ := od.mem hv
      exact q v d H4 (odv.kp (Kp.chg c4)) (menu0_nc hd) (menu0_ok d hd).2.1 (fun ds z => by have := (menu0_ok d hd).2.2; rw [z] at this; cases this) hp4 ((c1.trans (Same.chg (e2.trans e3))).trans c4)
    have hp2 := purse_ex hp1 e2
    have c2 := c1.trans (Same.chg e2)
    refine q_when (et_test (ev_op (ev_var rfl) ev_c rv_I0)) (fun _ H3 e3 => ?_) (fun _ H3 e3 => ?_)
    · have hp3 := purse_ex hp2 e3
      refine ⟨_, rfl, p, rfl, hp3, fun l ks H4 hk hl lp hp4 c4 => ⟨l, _, rfl, .inl ⟨SqL.of hl, fun r nr => ?_⟩⟩⟩
      have pr := (hp4.ne nr).symm
      refine q _ (.tuple (ks.map PyData.str)) _ (.tup pr (SqT.of upd_same) (ods_strs _ _ _)) ?_ (goodS_tup (kinds_str ks hk)) (fun ds z => ?_) (hp4.new nr) (((c2.trans (Same.chg e3)).trans c4).new nr)
      · exact (items_nc (kinds_str ks hk) (by rw [List.length_map]; have := len7 hk; omega)).1
      · injection z with z
        rw [← z, List.length_map]
        have := len7 hk
        omega
    have hp3 := purse_ex hp2 e3
    have c3 := c2.trans (Same.chg e3)
    obtain ⟨r1, r2, r3, hpo3⟩ := id hp3
    refine q_asgLo (K := K) (p := p) (elo_lst (eos_cons eo_cs (eos_cons eo_cs (eos_cons eo_cs (eos_cons eo_cs (eos_cons eo_cs (eos_cons eo_cs (eos_cons eo_cs (eos_cons eo_cs (eos_cons eo_cs (eos_cons eo_cs (eos_cons eo_cs (eos_cons eo_cs (eos_cons eo_cs (eos_cons eo_cs (eos_cons eo_cs eos_nil))))))))))))))) (by show 15 ≤ 100000; decide)) fun m1 vs1 H4 nm1 e4 hm1 od1 => ?_
    refine q_asgLo (K := K) (p := p) (elo_catV (ev_var rfl) hm1 od1 (elo_lst (eos_cons eo_cn (eos_cons eo_ci (eos_cons eo_cb (eos_cons (eo_tup (e4 _ _ hpo3) (eos_cons eo_cs eos_nil) (by show 1 ≤ 100000; decide)) (eos_cons (eo_lst (e4 _ _ hpo3) (eos_cons eo_cs eos_nil) (by show 1 ≤ 100000; decide)) (eos_cons eo_cs (eos_cons eo_cs (eos_cons eo_cs eos_nil)))))))) (by show 8 ≤ 100000; decide)) (by show 23 ≤ 100000; decide)) fun m vsM H5 nm e5 hm odM => ?_
    have hp5 := purse_ex (purse_ex hp3 e4) e5
    have mp : m ≠ p := ((purse_ex hp3 e4).ne nm).symm
    have ml : vsM.length = 23 := by rw [odM.len]; rfl
    have md : ∀ v ∈ vsM, ∃ d ∈ menuD, Od K p H5 v d := fun v hv => odM.mem hv
    refine ⟨_, rfl, (el_lst (σ := [some (.ref p), some (.int n7), some (.ref m), none, none]) (vs := [.int 1, .int 2, .int 3, .int 4, .int 2, .int 3, .int 0]) (ea_cons ev_c (ea_cons ev_c (ea_cons ev_c (ea_cons ev_c (ea_cons ev_c (ea_cons ev_c (ea_cons ev_c ea_nil))))))) (by show 7 ≤ 100000; decide)) H5 (Ex.refl _) _ fun r H6 nr e6 hr6 => ⟨p, .ref r, rfl, purse_ex hp5 e6, .inl ⟨r, _, rfl, (hp5.ne nr).symm, SqL.of hr6, (by intro z; cases z), (by show 7 ≤ 1000; decide), fun y hy H7 hp7 c7 => ?_⟩⟩⟩
    obtain ⟨n, rfl, n4⟩ : ∃ n : Nat, y = .int (n : Nat) ∧ n ≤ 4 := by
      simp only [List.mem_cons, List.not_mem_nil, or_false] at hy
      rcases hy with rfl | rfl | rfl | rfl | rfl | rfl | rfl
      · exact ⟨1, rfl, by decide⟩
      · exact ⟨2, rfl, by decide⟩
      · exact ⟨3, rfl, by decide⟩
      · exact ⟨4, rfl, by decide⟩
      · exact ⟨2, rfl, by decide⟩
      · exact ⟨3, rfl, by decide⟩
      · exact ⟨0, rfl, by decide⟩
    have c57 : Chg p H5 H7 := (Same.chg e6).trans c7
    have hm7 := c57 _ _ mp hm
    refine ⟨((n : Nat) : Int), rfl, by omega, by omega, fun D nD => ?_⟩
    have Dp : D ≠ p := (hp7.ne nD).symm
    have c07 : Chg p H H7 := (c3.trans (Same.chg (e4.trans e5))).trans c57
    refine lc_range (lo := 0) (n := ((n : Nat) : Int).toNat) (fun i G => Chg p H7 G ∧ Purse G p ∧ ∃ acc ds, G D = some (.lst acc) ∧ acc.length = i ∧ OdAll K p H5 acc ds ∧ ∀ d ∈ ds, d ∈ menuD)
      ⟨(Chg.refl p H7).new nD, hp7.new nD, [], [], upd_same, rfl, .nil, (fun d z => by cases z)⟩ ?_ ?_
    · rintro i G hi ⟨cG, pG, acc, ds, hDG, la, oa, ma⟩
      have hmG := cG _ _ mp hm7
      have hi4 : i < 4 := by omega
      have fin : ∀ (v : V) (G3 : Hp), v ∈ vsM → Purse G3 p → Chg p G G3 → ∃ acc, G3 D = some (.lst acc) ∧ acc.length < sizeLine ∧ (Chg p H7 (upd G3 D (.lst (acc ++ [v]))) ∧ Purse (upd G3 D (.lst (acc ++ [v]))) p ∧ ∃ acc' ds, (upd G3 D (.lst (acc ++ [v]))) D = some (.lst acc') ∧ acc'.length = i + 1 ∧ OdAll K p H5 acc' ds ∧ ∀ d ∈ ds, d ∈ menuD) := fun v G3 hv p3 c3' => by
        obtain ⟨d, hd, od⟩ := md v hv
        refine ⟨acc, c3' _ _ Dp hDG, by rw [la, sizeLine_eq]; omega, (cG.trans c3').own nD, ?_, acc ++ [v], ds ++ [d], upd_same, by rw [List.length_append, la]; rfl, oa.app (.cons od .nil), fun x hx => ?_⟩
        · obtain ⟨y1, y2, y3, y⟩ := p3
          exact ⟨y1, y2, y3, by rw [upd_ne (Ne.symm Dp)]; exact y⟩
        · rcases List.mem_append.mp hx with z | z
          · exact ma x z
          · rw [List.mem_singleton.mp z]
            exact hd
      refine ⟨rfl, ?_⟩
      refine ⟨_, rfl, (et_test (σ := [some (.ref p), some (.int n7), some (.ref m), none, some (.int (0 + (i : Int)))]) (te := tOp rEq (tVar 1) (tC (.int 3))) (ev_op (ev_var rfl) ev_c (rv_eq rfl))) G (Ex.refl _) _ fun G1 e1 => ite2 (fun _ => ?_) (fun _ => ?_)⟩
      · exact ⟨_, rfl, p, .ref m, rfl, purse_ex pG e1, .inl ⟨m, vsM, rfl, mp, SqL.of (e1 _ _ hmG), (by intro z; rw [z] at ml; cases ml), (by omega), fun v hv G3 p3 c3' => fin v G3 hv p3 ((Same.chg e1).trans c3')⟩⟩
      · refine (el_slM (σ := [some (.ref p), some (.int n7), some (.ref m), none, some (.int (0 + (i : Int)))]) (em_at (ev_var rfl) (e1 _ _ hmG)) eo_none (eo_some ev_c)) G1 (Ex.refl _) _ fun l G2 nl e2' hl => ?_
        have ec : cutV vsM none (some (9 : Int)) = vsM.take 9 := cut_tk (n := 9) (by omega)
        rw [ec] at hl
        have tl9 : (vsM.take 9).length = 9 := by rw [List.length_take]; omega
        exact ⟨p, .ref l, rfl, purse_ex (purse_ex pG e1) e2', .inl ⟨l, _, rfl, ((purse_ex pG e1).ne nl).symm, SqL.of hl, (by intro z; rw [z] at tl9; cases tl9), (by omega), fun v hv G3 p3 c3' => fin v G3 (List.mem_of_mem_take hv) p3 ((Same.chg (e1.trans e2')).trans c3')⟩⟩
    · rintro G ⟨cG, pG, acc, ds, hDG, la, oa, ma⟩
      have oG := oa.kp (Kp.chg (c57.trans cG))
      have ll : ds.length ≤ 10 := by
        rw [← oa.len, la]
        show ((n : Nat) : Int).toNat ≤ 10
        omega
      have cA : Chg p H G := c07.trans cG
      refine (et_test (σ := [some (.ref p), some (.int n7), some (.ref m), some (.ref D), none]) (te := tOp rEq (tVar 1) (tC (.int 6))) (ev_op (ev_var rfl) ev_c (rv_eq rfl))) G (Ex.refl _) _ fun G1 e1 => ite2 (fun _ => ?_) (fun _ => ?_)
      · exact ⟨_, rfl, q _ (.list ds) G1 (.lst Dp (SqL.of (e1 _ _ hDG)) (oG.ex e1)) (items_nc ma ll).2 (goodS_lst ds) (fun es z => by cases z) (purse_ex pG e1) (cA.trans (Same.chg e1))⟩
      · refine ⟨_, rfl, D, acc, rfl, .inl ⟨SqL.of (e1 _ _ hDG), fun t nt => ?_⟩⟩
        have p1 := purse_ex pG e1
        exact q _ (.tuple ds) _ (.tup (p1.ne nt).symm (SqT.of upd_same) ((oG.ex e1).ex (Ex.new nt))) (items_nc ma ll).1 (goodS_tup ma) (fun es z => by injection z with z; rw [← z]; exact ll) (p1.new nt) ((cA.trans (Same.chg e1)).new nt)
end
end T
namespace T
open PySem PySem.Spec PyProof.Rows L2 Evl XB TL XS XI XC ClX XQ XSp LamX XO2
/-! ### tables, made of any kinds and any rows -/
section
variable {P : Program} {w : World} {K : PySem.W.Frag} {mg : Str → Option Value} {base : Heap}
def spInitK (K : PySem.W.Frag) (C CK CR : Addr) : Sp := fun vs H Q E => ∃ (p p' x dx : Addr) (kv rv : V) (dk dr : PyData), vs = [.ref x, kv, rv] ∧ H x = some (.ins C dx []) ∧ Od K p H kv dk ∧ (∀ ds, dk = .tuple ds → ds.length ≤ 10000) ∧ Od K p' H rv dr ∧ (∀ ds, dr = .tuple ds → (∀ y, PyData.str y ∈ ds → y.length ≤ 1000) ∧ ds.length ≤ 60) ∧
  (kindsD dk = false → ∀ dd H', Ex H H' → H' dd = some (.xd [("given", kv)]) → E (.ref CK) (some dd) H') ∧
  (∀ ks, dk = .tuple (ks.map PyData.str) → ks ∈ kinds7 → isTupD dr = false → ∀ dd H', Ex H H' → H' dd = some (.xd [("index", .non)]) → E (.ref CR) (some dd) H') ∧
  (∀ ks ds i, dk = .tuple (ks.map PyData.str) → ks ∈ kinds7 → dr = .tuple ds → FirstR ks ds (some i) → ∀ dd H', Ex H H' → H' dd = some (.xd [("index", .int (i : Nat))]) → E (.ref CR) (some dd) H') ∧
  (∀ ks ds cs a r, dk = .tuple (ks.map PyData.str) → ks ∈ kinds7 → kv = .ref a → dr = .tuple ds → rv = .ref r → FirstR ks ds none → ds = cs.map (fun c => PyData.str (lineOf c)) → Cells ks cs → ∀ D kvs H', H D = none → Chg x H H' → TabF K C H' x dx D a r kvs ks cs → Q .non H')
theorem kindsD_true {d : PyData} (h : kindsD d = true) : ∃ ks : List Str, d = .tuple (ks.map PyData.str) ∧ ks ∈ kinds7 := by
  cases d with
  | tuple ds =>
    have g : (match strsOf ds with | some ws => decide (ws ∈ kinds7) | none => false) = true := h
    clear h
    cases e : strsOf ds with
    | none => rw [e] at g; cases g
    | some ws =>
      rw [e] at g
      exact ⟨ws, by rw [strsOf_some e], of_decide_eq_true g⟩
  | _ => cases h
theorem c_initK {C CK CR f : Addr} {fd : FuncData} {dvs : List V} (F : FunD K "__init__" "Table.__init__" (defArgs s_Table___init__) (defBody s_Table___init__) (defScope s_Table___init__) dvs [] f fd) (B : Bl mg) (T : TabC K mg C) (SK : SupC P K mg CK "given") (gK : mg "InvalidKinds" = some (.ref CK)) (SR : SupC P K mg CR "index") (gR : mg "InvalidRows" = some (.ref CR))
    (C1 : C8.Cal P w K mg base 2 "are_kinds" (spKindsO K) []) (C2 : C8.Cal P w K mg base 4 "first_wrong_row" (spFirstO K) []) (C3 : C8.Cal P w K mg base 1 "cell_of" (spCellOf List.take) []) (C4 : C8.Cal P w K mg base 1 "options_of" (spCellOf List.drop) []) :
    FnOk P w K mg base (L2.CX P w) 6 f fd ["self", "kinds", "rows"] (spInitK K C CK CR) := by
  refine F.ok (CX := L2.CX P w) sc_Table___init__ (fun vs H Q E h => ?_) (fun cdv A outer s H vs Q E hr h => ?_)
  · obtain ⟨p, p', x, dx, kv, rv, dk, dr, rfl, _⟩ := h
    rfl
  · obtain ⟨p, p', x, dx, kv, rv, dk, dr, rfl, hx, hkv, hkl, hrv, hds, q0, q1, q2, q3⟩ := h
    refine ⟨_, (pss_cons (ps_if (pt_not (pt_val (C8.pe_c C1 hr (by decide) (by rfl) (pa_cons (pv 1) pa_nil)))) (pss_one (ps_raise rfl (takes_of rfl rfl rfl rfl) (pmk_sup SK (hr.mono (by decide)) (by rfl) gK (by exact (pa_cons (pv 1) pa_nil))))) pss_nil)
      (pss_cons (ps_if (pt_not (pt_val (pe_callB call_isi (by rfl) B.isin (by decide +kernel) (pa_cons (pv 2) (pa_cons (pe_bltn (v := .ty "tuple") (by rfl) B.tuple (by decide +kernel) rfl) pa_nil))))) (pss_one (ps_raise rfl (takes_of rfl rfl rfl rfl) (pmk_sup SR (hr.mono (by decide)) (by rfl) gR (by exact (pa_cons pe_non pa_nil))))) pss_nil)
      (pss_cons (ps_set (i := 3) sc_Table___init__.nd rfl (.inl rfl) (C8.pe_c C2 hr (by decide) (by rfl) (pa_cons (pv 2) (pa_cons (pv 1) pa_nil))))
      (pss_cons (ps_if (pt_cmpR op_notN (pv 3) pe_non (nomark _)) (pss_one (ps_raise rfl (takes_of rfl rfl rfl rfl) (pmk_sup SR (hr.mono (by decide)) (by rfl) gR (by exact (pa_cons (pv 3) pa_nil))))) pss_nil)
      (pss_cons (ps_fld (pv 0) (pv 1) rfl)
      (pss_cons (ps_fld (pv 0) (pv 2) rfl)
      (pss_one (ps_fld (pv 0) (pe_dcT (own := [("row", 4)]) (g := gName 4) (tt := tYes) (tk := tCall (spCellOf List.take) [] C8.E0 (tCons (tVar 4) tNil)) (tv := tCall (spCellOf List.drop) [] C8.E0 (tCons (tVar 4) tNil)) (by have := hr.units; exact Nat.lt_of_le_of_lt (Nat.add_le_add_left (by decide) _) this) rfl sc_Table___init__.nd (pi_tup (pv 2))
          (blkOk_by (own := [("row", 4)]) (N := N_Table___init__) (sc := defScope s_Table___init__) (by decide +kernel)) (fun _ _ _ _ _ => pg_name (i := 4) sc_Table___init__.nd rfl (Or.inl rfl)) (fun _ _ _ _ _ => pts_nil)
          (fun _ _ _ _ _ => C8.pe_c C3 hr (by decide) (by rfl) (pa_cons (pv 4) pa_nil)) (fun _ _ _ _ _ => C8.pe_c C4 hr (by decide) (by rfl) (pa_cons (pv 4) pa_nil))) rfl)))))))), ?_⟩
    refine q_when (b := !kindsD dk) (et_not (et_B (ev_call (ea_cons (ev_var rfl) ea_nil) fun H1 e Q q E => ⟨p, kv, dk, rfl, hkv.ex e, hkl, q⟩))) (fun y H1 e1 => ?_) (fun y H1 e1 => ?_)
    · rw [Bool.not_eq_true'] at y
      exact ⟨_, rfl, _, rfl, fun dd hd => q0 y dd _ (e1.trans (Ex.new hd)) upd_same⟩
    rw [Bool.not_eq_false'] at y
    obtain ⟨ks, rfl, hks⟩ := kindsD_true y
    have q1 := q1 ks rfl hks
    have q2 := fun ds i => q2 ks ds i rfl hks
    cases hkv with
    | tup np ha hka =>
    rename_i a xk
    have q3 := fun ds cs r => q3 ks ds cs a r rfl hks rfl
    have ha : SqT K H a (sl ks) := by
      have := ods_sl' hka
      rw [this] at ha
      exact ha
    clear hka q0 y
    refine q_when (b := !isTupD dr) (et_not (et_B (ev_isTupO (ev_var rfl) (hrv.ex e1)))) (fun y H2 e2 => ?_) (fun y H2 e2 => ?_)
    · rw [Bool.not_eq_true'] at y
      exact ⟨_, rfl, fun dd hd => q1 y dd _ ((e1.trans e2).trans (Ex.new hd)) upd_same⟩
    rw [Bool.not_eq_false'] at y
    obtain ⟨ds, rfl⟩ : ∃ ds, dr = .tuple ds := by
      cases dr with
      | tuple ds => exact ⟨ds, rfl⟩
      | _ => cases y
    obtain ⟨hy, hn⟩ := hds ds rfl
    cases hrv with
    | @tup r xs _ np hrr ho =>
      have e12 := e1.trans e2
      refine q_first (ks := ks) (ds := ds) (fun Q qq => ⟨_, rfl, _, rfl, p', r, a, ks, xs, ds, rfl, ex_t e12 hrr, ho.ex e12, hy, hn, ex_t e12 ha, hks, qq⟩) fun o H3 e3 fo => ?_
      have tst : EvT (tTest (tOp (fun x y H Q => y = .non ∧ Q (.bl (!decide (x = .non))) H) (tVar 3) (tC .non))) [some (.ref x), some (.ref a), some (.ref r), some (foV o), none] H3 (!decide (foV o = .non)) := et_test (ev_op (ev_var rfl) ev_c fun H1 e Q q => ⟨rfl, q H1 (Ex.refl H1)⟩)
      refine q_when tst (fun z H4 e4 => ?_) (fun z H4 e4 => ?_)
      · cases o with
        | none => cases z
        | some i => exact ⟨_, rfl, _, rfl, fun dd hd => q2 ds i rfl fo dd _ (((e12.trans e3).trans e4).trans (Ex.new hd)) upd_same⟩
      cases o with
      | some i => rw [decide_eq_false (by intro z; cases z)] at z; cases z
      | none =>
      obtain ⟨cs, hcs, hC⟩ := rows_of hks fo
      have q := q3 ds cs r rfl rfl fo hcs hC
      subst hcs
      have hxs := ods_sl ho
      subst hxs
      have e14 := (e12.trans e3).trans e4
      have hx4 := e14 _ _ hx
      refine ⟨_, rfl, _, rfl, x, C, dx, [], rfl, hx4, T.cl, T.k, by decide, ?_⟩
      refine ⟨_, rfl, _, rfl, x, C, dx, _, rfl, upd_same, T.cl, T.r, by show 1 < 1000; decide, ?_⟩
      have hr5 : SqT K (upd (upd H4 x (.ins C dx (putF "_kinds" (.ref a) []))) x (.ins C dx (putF "_rows" (.ref r) (putF "_kinds" (.ref a) [])))) r (sl (cs.map lineOf)) := sqt_ins (sqt_ins (ex_t e14 hrr) hx4) upd_same
      have ha5 : SqT K (upd (upd H4 x (.ins C dx (putF "_kinds" (.ref a) []))) x (.ins C dx (putF "_rows" (.ref r) (putF "_kinds" (.ref a) [])))) a (sl ks) := sqt_ins (sqt_ins (ex_t e14 ha) hx4) upd_same
      have hx5 : (upd (upd H4 x (.ins C dx (putF "_kinds" (.ref a) []))) x (.ins C dx (putF "_rows" (.ref r) (putF "_kinds" (.ref a) [])))) x = some (.ins C dx [("_kinds", .ref a), ("_rows", .ref r)]) := upd_same
      have ch5 : Chg x H (upd (upd H4 x (.ins C dx (putF "_kinds" (.ref a) []))) x (.ins C dx (putF "_rows" (.ref r) (putF "_kinds" (.ref a) [])))) := ((Same.chg e14).at).at
      refine ⟨_, rfl, r, rfl, ⟨_, hr5⟩, fun D nD => ?_⟩
      have nDH : H D = none := by
        cases z : H D with
        | none => rfl
        | some o =>
          by_cases y : D = x
          · rw [y, hx5] at nD; cases nD
          · rw [ch5 _ _ y z] at nD; cases nD
      refine dcT_tup (xs := sl (cs.map lineOf)) (fun i G => Same (upd (upd H4 x (.ins C dx (putF "_kinds" (.ref a) []))) x (.ins C dx (putF "_rows" (.ref r) (putF "_kinds" (.ref a) [])))) G ∧ ∃ kvs, G D = some (.dT kvs) ∧ DictOf G kvs (cs.take i))
        ⟨Same.new (Same.refl _) nD, [], upd_same, rfl, fun i c z => by rw [List.take_zero] at z; cases z⟩ (fun i G _ p => Same.tup p.1 hr5) ?_ ?_
      · rintro i y G hi ⟨sG, kvs, hD, hl⟩
        obtain ⟨ln, hln, rfl⟩ := mem_at hi
        rw [List.getElem?_map] at hln
        obtain ⟨c, hc, rfl⟩ : ∃ c, cs[i]? = some c ∧ ln = lineOf c := by
          cases e : cs[i]? with
          | none => rw [e] at hln; cases hln
          | some c => rw [e] at hln; cases hln; exact ⟨c, rfl, rfl⟩
        have hi2 : i < 27 := by
          have := hC.few
          have := (List.getElem?_eq_some_iff.mp hc).1
          omega
        have hg := hC.good c (List.mem_of_getElem? hc)
        refine ⟨rfl, ?_⟩
        refine eu_cellT (ev_var rfl) hks hg G (Ex.refl _) _ fun p G1 n1 g1 hp => eu_cellD (ev_var rfl) hks hg G1 (Ex.refl _) _ fun p2 G2 n2 g2 hp2 => ⟨kvs, nmOf c, p, rfl, g2 _ _ hp, g2 _ _ (g1 _ _ hD), by rw [sizeLine_eq, hl.1, List.length_take]; omega, Same.own ((sG.trans g1).trans g2) nD, _, upd_same, ?_⟩
        rw [List.take_succ, hc]
        refine DictOf.own (DictOf.put ((hl.ex g1).ex g2) ?_ hp2) (g2 _ _ (g1 _ _ hD))
        rw [List.map_take]
        exact nd_not hC.nd (by rw [List.getElem?_map, hc]; rfl)
      · rintro G ⟨sG, kvs, hD, hl⟩
        refine ⟨_, rfl, x, C, dx, _, rfl, sG _ _ hx5, T.cl, T.c, by show 2 < 1000; decide, q D kvs _ nDH ?_ ⟨upd_same, sqt_ins (Same.tup sG ha5) (sG _ _ hx5), sqt_ins (Same.tup sG hr5) (sG _ _ hx5), kpm hD (ne_of hD (sG _ _ hx5) fun z => by cases z), DictOf.ins (by rw [show (sl (cs.map lineOf)).length = cs.length from by rw [XB.len_sl, List.length_map], List.take_length] at hl; exact hl) (sG _ _ hx5), hC⟩⟩
        exact (ch5.trans (Same.chg sG)).at

end
end T
namespace T
open PySem PySem.Spec PyProof.Rows L2 Evl XB TL XS XI XC ClX XQ XSp LamX XO2
def dueK4 (d : PyData) : List Str := if kindsD d then [] else ["InvalidKinds", d.shown]
def lostW (d : PyData) : List Str := ["InvalidRows", if isTupD d then "0" else "None"]
def wD : List PyData := [.none, .tuple [.str "put"], .tuple [.str "keep", .str "put"], .int 7, .list [.str "put"], .tuple [.str ""]]
theorem wD_ok : ∀ d ∈ wD, (match d with | .tuple ds => decide (ds.length ≤ 2) && (ds.all fun y => match y with | .str z => decide (z.length ≤ 10) | _ => true) && (kinds7.all fun ks => !goodB ks ds 0) && decide (0 < ds.length) | _ => true) = true := by decide +kernel
theorem wD_tup {ds : List PyData} (h : PyData.tuple ds ∈ wD) : ((∀ y, PyData.str y ∈ ds → y.length ≤ 1000) ∧ ds.length ≤ 60) ∧ ∀ ks ∈ kinds7, FirstR ks ds (some 0) := by
  have z := wD_ok _ h
  have z : (decide (ds.length ≤ 2) && (ds.all fun y => match y with | .str z => decide (z.length ≤ 10) | _ => true) && (kinds7.all fun ks => !goodB ks ds 0) && decide (0 < ds.length)) = true := z
  simp only [Bool.and_eq_true, decide_eq_true_eq, List.all_eq_true, Bool.not_eq_true'] at z
  obtain ⟨⟨⟨z1, z2⟩, z3⟩, z4⟩ := z
  exact ⟨⟨fun y hy => Nat.le_trans (of_decide_eq_true (z2 _ hy)) (by decide), by omega⟩, fun ks hk => ⟨z4, z3 ks hk, fun j hj => absurd hj (Nat.not_lt_zero j)⟩⟩
section
variable {P : Program} {w : World} {K : PySem.W.Frag} {mg : Str → Option Value} {base : Heap} {C CK CR : Addr} {c b : Nat → Addr} {T : List (Addr × Str)} {cR Pt : Addr} {cdc : Value}
variable {σ : L2.St} {H H' H0 G G' H3 : Hp} {ta tb tc te : TE} {tl : TA} {p p' a x s l dx ae : Addr} {E : XK} {d dr dk : PyData} {v rv kv : V} {ks ws us : List Str} {cs : List Cell} {Q : VK} {xs : List V} {z : Str} {t : XK → TE} {ds : List PyData} {u : Option Nat}
theorem next_of {D : Ends} (h : D.nx σ H) : tNext D σ H := h
theorem shw_dp {K : PySem.W.Frag} {H : Hp} {v : V} {d : PyData} (h : Dp K H v d) (n : Nc d 8 20000) : Shw K H v d.shown := by
  have fit : d.shown.length ≤ sizeLine := by
    have z := PyData.shown_le 50 (by decide) d n.l
    have := n.w
    rw [sizeLine_eq]
    omega
  exact ⟨d, rfl, n.s, Nat.le_trans n.dd (by decide), fit, n.o, .inl ⟨n.n, h⟩⟩
theorem ev_reprLD (h : EvDs K tl σ H ds) (hz : ds.length ≤ 100000) (n : Nc (.list ds) 8 20000) : Ev (tCB (rReprQ K) (tCons (tLst tl) tNil)) σ H (.str (PyData.list ds).shown) := fun H1 e Q q =>
  (show EvD K (tLst tl) σ H (.list ds) from ed_lst h hz) H1 e (fun v H2 => rReprQ K [v] H2 Q) fun v H2 e2 hv => ⟨v, _, rfl, shw_dp hv n, q H2 e2⟩
theorem init_goK (hk : Od K p H3 kv dk) (hkl : ∀ ds, dk = .tuple ds → ds.length ≤ 10000) (hrv : Od K p' H3 rv dr) (hds : ∀ ds, dr = .tuple ds → (∀ y, PyData.str y ∈ ds → y.length ≤ 1000) ∧ ds.length ≤ 60) (nx : H3 x = none) (ndx : H3 dx = none) (nex : dx ≠ x)
    (q0 : kindsD dk = false → ∀ dd H', Ex H3 H' → H' dd = some (.xd [("given", kv)]) → E (.ref CK) (some dd) H')
    (q1 : ∀ ks, dk = .tuple (ks.map PyData.str) → ks ∈ kinds7 → isTupD dr = false → ∀ dd H', Ex H3 H' → H' dd = some (.xd [("index", .non)]) → E (.ref CR) (some dd) H')
    (q2 : ∀ ks ds i, dk = .tuple (ks.map PyData.str) → ks ∈ kinds7 → dr = .tuple ds → FirstR ks ds (some i) → ∀ dd H', Ex H3 H' → H' dd = some (.xd [("index", .int (i : Nat))]) → E (.ref CR) (some dd) H')
    (q3 : ∀ ks ds cs, dk = .tuple (ks.map PyData.str) → ks ∈ kinds7 → dr = .tuple ds → FirstR ks ds none → ds = cs.map (fun c => PyData.str (lineOf c)) → Cells ks cs → ∀ H4, Ex H3 H4 → TabAt K C H4 x ks (cs.map lineOf) → Q (.ref x) H4) :
    spInitK K C CK CR [.ref x, kv, rv] (upd (upd H3 dx (.own x)) x (.ins C dx [])) (fun v H2 => v = .non ∧ Q (.ref x) H2) E := by
  have e1 : Ex H3 (upd (upd H3 dx (.own x)) x (.ins C dx [])) := (Ex.new ndx).trans (Ex.new (by rw [upd_ne nex.symm]; exact nx))
  refine ⟨p, p', x, dx, kv, rv, dk, dr, rfl, upd_same, hk.ex e1, hkl, hrv.ex e1, hds, fun y dd H' e h => q0 y dd H' (e1.trans e) h, fun ks y1 y2 z dd H' e h => q1 ks y1 y2 z dd H' (e1.trans e) h, fun ks ds i y1 y2 z f dd H' e h => q2 ks ds i y1 y2 z f dd H' (e1.trans e) h, fun ks ds cs a r y1 y2 y3 z1 z2 f z3 hC D kvs H4 nD ch tf => ⟨rfl, ?_⟩⟩
  exact q3 ks ds cs y1 y2 z1 f z3 hC H4 (fun b o h => ch b o (ne_of_none h nx) (e1 b o h)) ⟨dx, D, a, r, kvs, cs, rfl, tf⟩
/-- the ways a call of the class can end, at H -/
structure Ways (K : PySem.W.Frag) (C CK CR : Addr) (kv : V) (dk dr : PyData) (H : Hp) (E : XK) (Q : VK) : Prop where
  q0 : kindsD dk = false → ∀ dd H', Ex H H' → H' dd = some (.xd [("given", kv)]) → E (.ref CK) (some dd) H'
  q1 : ∀ ks, dk = .tuple (ks.map PyData.str) → ks ∈ kinds7 → isTupD dr = false → ∀ dd H', Ex H H' → H' dd = some (.xd [("index", .non)]) → E (.ref CR) (some dd) H'
  q2 : ∀ ks ds i, dk = .tuple (ks.map PyData.str) → ks ∈ kinds7 → dr = .tuple ds → FirstR ks ds (some i) → ∀ dd H', Ex H H' → H' dd = some (.xd [("index", .int (i : Nat))]) → E (.ref CR) (some dd) H'
  q3 : ∀ x ks ds cs, dk = .tuple (ks.map PyData.str) → ks ∈ kinds7 → dr = .tuple ds → FirstR ks ds none → ds = cs.map (fun c => PyData.str (lineOf c)) → Cells ks cs → ∀ H4, Ex H H4 → TabAt K C H4 x ks (cs.map lineOf) → Q (.ref x) H4
theorem Ways.go (W : Ways K C CK CR kv dk dr H E Q) (e : Ex H H3) (hk : Od K p H3 kv dk) (hkl : ∀ ds, dk = .tuple ds → ds.length ≤ 10000) (hrv : Od K p' H3 rv dr) (hds : ∀ ds, dr = .tuple ds → (∀ y, PyData.str y ∈ ds → y.length ≤ 1000) ∧ ds.length ≤ 60) (nx : H3 x = none) (ndx : H3 dx = none) (nex : dx ≠ x) :
    spInitK K C CK CR [.ref x, kv, rv] (upd (upd H3 dx (.own x)) x (.ins C dx [])) (fun v H2 => v = .non ∧ Q (.ref x) H2) E :=
  init_goK hk hkl hrv hds nx ndx nex (fun y dd H' e2 h => W.q0 y dd H' (e.trans e2) h) (fun ks y1 y2 z dd H' e2 h => W.q1 ks y1 y2 z dd H' (e.trans e2) h) (fun ks ds i y1 y2 z f dd H' e2 h => W.q2 ks ds i y1 y2 z f dd H' (e.trans e2) h) (fun ks ds cs y1 y2 z1 f z3 hC H4 e2 t => W.q3 x ks ds cs y1 y2 z1 f z3 hC H4 (e.trans e2) t)
theorem no_rows : ∀ ds, PyData.tuple [] = .tuple ds → (∀ y, PyData.str y ∈ ds → y.length ≤ 1000) ∧ ds.length ≤ 60 := fun ds z => by
  injection z with z
  rw [← z]
  exact ⟨(fun y m => by cases m), by decide⟩
theorem od_ae (h : ∀ H, SqT K H ae []) : Od K (ae + 1) H (.ref ae) (.tuple []) := .tup (Nat.ne_of_lt (Nat.lt_succ_self ae)) (h H) .nil
theorem tmk_one (hv : Ev ta σ H kv) (hk : Od K p H kv dk) (hkl : ∀ ds, dk = .tuple ds → ds.length ≤ 10000) (hae : ∀ H, SqT K H ae []) (W : Ways K C CK CR kv dk (.tuple []) H E Q) :
    tMake C (spInitK K C CK CR) [.ref ae] E (tCons ta tNil) σ H Q :=
  hv H (Ex.refl H) _ fun H1 e1 => fun x dx nx ndx nex => W.go e1 (hk.ex e1) hkl (od_ae hae) no_rows nx ndx nex
theorem tmk_kw (hv : Ev ta σ H kv) (hk : Od K p H kv dk) (hkl : ∀ ds, dk = .tuple ds → ds.length ≤ 10000) (W : Ways K C CK CR kv dk (.tuple []) H E Q) :
    tMakeK C 0 2 (spInitK K C CK CR) (fun vs zs => vs ++ swp zs) E tNil (tCons (tTup tNil) (tCons ta tNil)) σ H Q :=
  ⟨(by show 0 ≤ sizeLine; decide), fun r nr => hv.mono (Ex.new nr) _ (Ex.refl _) _ fun H1 e1 => ⟨rfl, rfl, fun x dx nx ndx nex => W.go ((Ex.new nr).trans e1) ((hk.ex (Ex.new nr)).ex e1) hkl (p' := r + 1) (.tup (Nat.ne_of_lt (Nat.lt_succ_self r)) (SqT.of (e1 _ _ upd_same)) .nil) no_rows nx ndx nex⟩⟩
theorem tmk_two (hv : Ev ta σ H kv) (hk : Od K p H kv dk) (hkl : ∀ ds, dk = .tuple ds → ds.length ≤ 10000) (hw : Ev tb σ H rv) (hr : Od K p' H rv dr) (hds : ∀ ds, dr = .tuple ds → (∀ y, PyData.str y ∈ ds → y.length ≤ 1000) ∧ ds.length ≤ 60) (W : Ways K C CK CR kv dk dr H E Q) :
    tMake C (spInitK K C CK CR) [] E (tCons ta (tCons tb tNil)) σ H Q :=
  hv H (Ex.refl H) _ fun H1 e1 => hw H1 e1 _ fun H2 e2 => fun x dx nx ndx nex => W.go (e1.trans e2) (hk.ex (e1.trans e2)) hkl (hr.ex (e1.trans e2)) hds nx ndx nex
theorem tmk_kone (hv : Ev ta σ H kv) (hk : Od K p H kv dk) (hkl : ∀ ds, dk = .tuple ds → ds.length ≤ 10000) (hae : ∀ H, SqT K H ae []) (W : Ways K C CK CR kv dk (.tuple []) H E Q) :
    tMakeK C 0 1 (spInitK K C CK CR) (fun vs zs => vs ++ zs ++ [.ref ae]) E tNil (tCons ta tNil) σ H Q :=
  hv H (Ex.refl H) _ fun H1 e1 => ⟨rfl, rfl, fun x dx nx ndx nex => W.go e1 (hk.ex e1) hkl (od_ae hae) no_rows nx ndx nex⟩
theorem kd_in (ks : List Str) : kindsD (.tuple (ks.map PyData.str)) = decide (ks ∈ kinds7) := by
  show (match strsOf (ks.map PyData.str) with | some ws => decide (ws ∈ kinds7) | none => false) = _
  rw [strsOf_map]
theorem kd_no (y : kindsD d = false) (z1 : d = .tuple (ks.map PyData.str)) (z2 : ks ∈ kinds7) : False := by
  rw [z1, kd_in, decide_eq_true z2] at y
  cases y
/-- what _law_caught gives of such a call -/
theorem gives_k (hT : Tabs T H) (AK : AskC K CK) (FK : ErrF K c b CK 0) (hv : Od K p H v d) (nv : NcV d)
    (hcall : ∀ (H1 : Hp) (E : XK) (Q : VK), ExtN H H1 → Ways K C CK CR v d (.tuple []) H1 E Q → t E σ H1 Q) : GivesW K T (tLam T (TCaught K c b) t) σ H (dueK4 d) := by
  unfold dueK4
  cases y : kindsD d with
  | false => exact gives_err (j := 0) (D := CK) (v := v) (z := d.shown) hT (by decide) AK FK (fun G e => shw_odd (hv.kp (Kp.ext e)) nv) fun H1 xx E Q k => hcall H1 E Q xx ⟨fun _ dd H' e hd => k dd H' e hd, (fun ks z1 z2 => (kd_no y z1 z2).elim), (fun ks ds i z1 z2 z3 => (kd_no y z1 z2).elim), (fun x ks ds cs z1 z2 => (kd_no y z1 z2).elim)⟩
  | true => exact gives_fine hT fun H1 xx E Q k => hcall H1 E Q xx ⟨(fun z => by rw [y] at z; cases z), (fun ks z1 z2 z3 => by cases z3), (fun ks ds i z1 z2 z3 f => by
      injection z3 with z3
      subst z3
      exact absurd f.1 (Nat.not_lt_zero _)), fun x ks ds cs z1 z2 z3 f z4 hC H4 e t => k _ H4 e⟩
theorem gives_k2 (hT : Tabs T H) (AK : AskC K CK) (FK : ErrF K c b CK 0) (AR : AskC K CR) (FR : ErrF K c b CR 7) (hv : Od K p H v d) (nv : NcV d) (hw : dr ∈ wD)
    (hcall : ∀ (H1 : Hp) (E : XK) (Q : VK), ExtN H H1 → Ways K C CK CR v d dr H1 E Q → t E σ H1 Q) : GivesW K T (tLam T (TCaught K c b) t) σ H (if kindsD d then lostW dr else dueK4 d) := by
  cases y : kindsD d with
  | false =>
    rw [if_neg (by decide)]
    unfold dueK4
    rw [y, if_neg (by decide)]
    exact gives_err (j := 0) (D := CK) (v := v) (z := d.shown) hT (by decide) AK FK (fun G e => shw_odd (hv.kp (Kp.ext e)) nv) fun H1 xx E Q k => hcall H1 E Q xx ⟨fun _ dd H' e hd => k dd H' e hd, (fun ks z1 z2 => (kd_no y z1 z2).elim), (fun ks ds i z1 z2 z3 => (kd_no y z1 z2).elim), (fun x ks ds cs z1 z2 => (kd_no y z1 z2).elim)⟩
  | true =>
    rw [if_pos rfl]
    unfold lostW
    cases tu : isTupD dr with
    | false =>
      rw [if_neg (by decide)]
      exact gives_err (j := 7) (D := CR) (v := .non) (z := "None") hT (by decide) AR FR (fun G e => shw_odd (p := 0) .non (.inl (nc_b (a := 8) (b := 20000) (by decide +kernel)))) fun H1 xx E Q k => hcall H1 E Q xx ⟨(fun z => by rw [y] at z; cases z), (fun ks z1 z2 z3 dd H' e hd => k dd H' e hd), (fun ks ds i z1 z2 z3 => by rw [z3] at tu; cases tu), (fun x ks ds cs z1 z2 z3 => by rw [z3] at tu; cases tu)⟩
    | true =>
      rw [if_pos rfl]
      obtain ⟨ds, rfl⟩ : ∃ ds, dr = .tuple ds := by
        cases dr with
        | tuple ds => exact ⟨ds, rfl⟩
        | _ => cases tu
      obtain ⟨_, ff⟩ := wD_tup hw
      exact gives_err (j := 7) (D := CR) (v := .int (0 : Nat)) (z := "0") hT (by decide) AR FR (fun G e => shw_odd (p := 0) (.int _) (.inl (nc_b (a := 8) (b := 20000) (by decide +kernel)))) fun H1 xx E Q k => hcall H1 E Q xx ⟨(fun z => by rw [y] at z; cases z), (fun ks z1 z2 z3 => by cases z3), (fun ks es i z1 z2 z3 f dd H' e hd => by
          injection z3 with z3
          subst z3
          cases first_uniq f (ff ks z2)
          exact k dd H' e hd), (fun x ks es cs z1 z2 z3 f => by
          injection z3 with z3
          subst z3
          cases first_uniq f (ff ks z2))⟩
structure OwnV (K : PySem.W.Frag) (H0 : Hp) (T : List (Addr × Str)) (p l : Addr) (G : Hp) : Prop where
  k : Kp p H0 G
  p : Purse G p
  t : Tabs T G
  l : G l = some (.lst (sl good7))
theorem OwnV.ex (o : OwnV K H0 T p l G) (e : Ex G G') : OwnV K H0 T p l G' := ⟨o.k.trans (Kp.ex e), purse_ex o.p e, tabs_ex o.t e, e _ _ o.l⟩
theorem OwnV.xn (o : OwnV K H0 T p l G) (e : ExtN G G') (ht : Tabs T G') : OwnV K H0 T p l G' := ⟨o.k.trans (Kp.ext e), purse_xn o.p e, ht, e _ _ o.l (fun _ z => by cases z)⟩
theorem OwnV.chg (o : OwnV K H0 T p l G) (lp : l ≠ p) (hp : Purse G' p) (e : Chg p G G') : OwnV K H0 T p l G' := ⟨o.k.trans (Kp.chg e), hp, tabs_chg o.t o.p e, e _ _ lp o.l⟩
theorem q_asgTab {D : Ends} {tz : TS} {i : Nat} {lns : List Str} (h : EvTab K C te σ H ks lns) (k : ∀ x H1, Ex H H1 → TabAt K C H1 x ks lns → tz D (σ.set i (some (.ref x))) H1) : tSeq (tAsg te (gName i)) tz D σ H := h H (Ex.refl H) _ k
theorem nc_kz {ks : List Str} (h : ks ∈ kinds7) : Nc (.list [.tuple (ks.map PyData.str), .int 0]) 8 20000 := by
  have all : ∀ ks ∈ kinds7, ncB 8 20000 (.list [.tuple (ks.map PyData.str), .int 0]) = true := by decide +kernel
  exact nc_b (all ks h)
def spRightT (T : List (Addr × Str)) : Sp := fun vs H Q _ => ∃ p, vs = [.ref p] ∧ Purse H p ∧ Tabs T H ∧ ∀ H', Kp p H H' → Tabs T H' → Q (.bl true) H'
structure TabV (P : Program) (w : World) (K : PySem.W.Frag) (mg : Str → Option Value) (base : Heap) (C CK CR : Addr) : Prop where
  T : TabC K mg C
  ex : ∃ (f : Addr) (fd : FuncData) (ae : Addr), Mk K C f ∧ FnOk P w K mg base (L2.CX P w) 6 f fd psI (spInitK K C CK CR) ∧ Binds K fd psI [] ∧ (∃ ds : List Value, Vals [.ref ae] ds ∧ Binds K fd psI ds) ∧ (∃ its : List Value, KBn K fd psI 1 ["rows", "kinds"] (fun us ws => us ++ swp ws) (fun vs zs => vs ++ swp zs)) ∧
    (∃ its : List Value, KBn K fd psI 1 ["kinds"] (fun us ws => us ++ ws ++ its) (fun vs zs => vs ++ zs ++ [.ref ae])) ∧ ∀ H, SqT K H ae []
theorem c_right (D : AtV K mg "_law_right" s__law_right ["purse"] (.ref cR)) (B : Bl mg) (Vc : AtV K mg "_law_caught" s__law_caught ["act"] cdc) (Me : ErrM mg c b) (Be : BlE mg) (TB : TabB base mg cR Pt) (eT : T = [(Pt, (("_law_right" : Str) ++ (".<locals>." : Str)) ++ ("<lambda>" : Str))])
    (M : TabV P w K mg base C CK CR) (Pk : ProM P w K mg base 1 C "kinds" (spKindsP K C)) (Ol : OwnM P w K mg base 1 C "__len__" (spLenP K C)) (AK : AskC K CK) (FK : ErrF K c b CK 0) (AR : AskC K CR) (FR : ErrF K c b CR 7)
    (Cva : C8.Cal P w K mg base 4 "_law_value" (spVal4 K) []) (Cp : C8.Cal P w K mg base 2 "_law_pick" (spPick K) []) :
    CalG P w K mg base 10 "_law_right" (spRightT T) := by
  obtain ⟨f0, fd0, ae, Mk0, F0, b3, ⟨dsv, vds, b2⟩, ⟨its, kb1⟩, ⟨its3, kb3⟩, hae⟩ := M.ex
  obtain ⟨fk, fdk, pk, Fk, hpk, bk⟩ := Pk.ex
  obtain ⟨fl, fdl, Fl, ol, bl_⟩ := Ol.ex
  refine calG_ofV D sc__law_right (fun vs H Q E h => ?_) (fun f A outer s H vs Q E hc hr h => ?_)
  · obtain ⟨p, rfl, _⟩ := h
    rfl
  · obtain ⟨p, rfl, hp, hT, q⟩ := h
    have hmT : (Pt, (("_law_right" : Str) ++ (".<locals>." : Str)) ++ ("<lambda>" : Str)) ∈ T := by rw [eT]; exact List.mem_singleton.mpr rfl
    have huT : ∀ p ∈ T, p.1 = Pt → p.2 = (("_law_right" : Str) ++ (".<locals>." : Str)) ++ ("<lambda>" : Str) := fun p hp _ => by rw [eT] at hp; rw [List.mem_singleton.mp hp]
    refine ⟨_, pss_cons (ps_set (i := 1) sc__law_right.nd rfl (.inl rfl) (pe_lst (pa_cons pe_str (pa_cons pe_str (pa_cons pe_str (pa_cons pe_str (pa_cons pe_str (pa_cons pe_str pa_nil))))))))
      (pss_cons (ps_set (i := 1) sc__law_right.nd rfl (.inl rfl) (pe_op op_cat (pv 1) (pe_lst (pa_cons pe_str pa_nil))))
      (pss_cons (ps_for PassesOwn.never rfl (pi_range1 (by rfl) B.range (pa_cons pe_int pa_nil)) (pg_name (i := 2) sc__law_right.nd rfl (.inl rfl)) (pss_cons (ps_asg (pe_tup (pa_cons (C8.pe_c Cva hr (by decide) (by rfl) (pa_cons (pv 0) pa_nil)) (pa_cons (C8.pe_c Cp hr (by decide) (by rfl) (pa_cons (pv 0) (pa_cons (pe_lst (pa_cons pe_non (pa_cons (pe_tup (pa_cons pe_str pa_nil)) (pa_cons (pe_tup (pa_cons pe_str (pa_cons pe_str pa_nil))) (pa_cons pe_int (pa_cons (pe_lst (pa_cons pe_str pa_nil)) (pa_cons (pe_tup (pa_cons pe_str pa_nil)) pa_nil))))))) pa_nil))) pa_nil))) (pg_tup (by rfl) (pgs_cons (pg_name (i := 3) sc__law_right.nd rfl (.inr rfl)) (pgs_cons (pg_name (i := 4) sc__law_right.nd rfl (.inr rfl)) pgs_nil))))
      (pss_cons (ps_set (i := 5) sc__law_right.nd rfl (.inl rfl) (pe_ifExp (pt_cmpR op_in_seq (pe_callB (XO2.call_reprQ hc hr.units) (by rfl) B.repr (by decide +kernel) (pa_cons (pv 3) pa_nil)) (pv 1) (by rfl)) (pe_lst pa_nil) (pe_lst (pa_cons pe_str (pa_cons (pe_callB (XO2.call_reprQ hc hr.units) (by rfl) B.repr (by decide +kernel) (pa_cons (pv 3) pa_nil)) pa_nil)))))
      (pss_cons (ps_if (pt_cmpR (op_neD hr.units) (pe_caught (t := fun E => tMake C (spInitK K C CK CR) [.ref ae] E (tCons (tVar 3) tNil)) Vc Me Be hc (hr.mono (by decide)) TB (by rfl) rfl hmT huT (by show lamSB (defScope s__law_right) _ = true; decide +kernel) rfl (fun _ _ _ _ _ => rfl) (fun A outer s H E f c' hr2 => pe_make Mk0 F0 hr2 (by rfl) M.T.mgT b2 vds pass_lam (by exact (pa_cons (pv 3) pa_nil)))) (pv 5) (nomark _)) (pss_one (ps_ret pe_bl)) pss_nil)
      (pss_cons (ps_if (pt_cmpR (op_neD hr.units) (pe_caught (t := fun E => tMakeK C 0 2 (spInitK K C CK CR) (fun vs zs => vs ++ swp zs) E tNil (tCons (tTup tNil) (tCons (tVar 3) tNil))) Vc Me Be hc (hr.mono (by decide)) TB (by rfl) rfl hmT huT (by show lamSB (defScope s__law_right) _ = true; decide +kernel) rfl (fun _ _ _ _ _ => rfl) (fun A outer s H E f c' hr2 => pe_makeK0 Mk0 F0 hr2 (by rfl) M.T.mgT kb1 pass_lam (by exact (pk_cons (pe_tup pa_nil) (pk_cons (pv 3) pk_nil))))) (pv 5) (nomark _)) (pss_one (ps_ret pe_bl)) pss_nil)
      (pss_cons (ps_set (i := 6) sc__law_right.nd rfl (.inl rfl) (pe_lst (pa_cons pe_str (pa_cons (pe_ifExp (pt_val (pe_callB call_isi (by rfl) B.isin (by decide +kernel) (pa_cons (pv 4) (pa_cons (pe_bltn (v := .ty "tuple") (by rfl) B.tuple (by decide +kernel) rfl) pa_nil)))) pe_str pe_str) pa_nil))))
      (pss_cons (ps_if (pt_cmpR (op_neD hr.units) (pe_caught (t := fun E => tMake C (spInitK K C CK CR) [] E (tCons (tVar 3) (tCons (tVar 4) tNil))) Vc Me Be hc (hr.mono (by decide)) TB (by rfl) rfl hmT huT (by show lamSB (defScope s__law_right) _ = true; decide +kernel) rfl (fun _ _ _ _ _ => rfl) (fun A outer s H E f c' hr2 => pe_make Mk0 F0 hr2 (by rfl) M.T.mgT b3 .nil pass_lam (by exact (pa_cons (pv 3) (pa_cons (pv 4) pa_nil))))) (pe_ifExp (pt_cmpR (op_eqD hr.units) (pv 5) (pe_lst pa_nil) (nomark _)) (pv 6) (pv 5)) (nomark _)) (pss_one (ps_ret pe_bl)) pss_nil)
      (pss_one (ps_if (pt_cmpR (op_eqD hr.units) (pv 5) (pe_lst pa_nil) (nomark _)) (pss_cons (ps_set (i := 7) sc__law_right.nd rfl (.inl rfl) (pe_makeK0 Mk0 F0 (hr.mono (by decide)) (by rfl) M.T.mgT kb3 passL (pk_cons (pv 3) pk_nil)))
      (pss_one (ps_if (pt_cmpR op_ne (pe_callB (XO2.call_reprQ hc hr.units) (by rfl) B.repr (by decide +kernel) (pa_cons (pe_lst (pa_cons (pe_prop (pv 7) M.T.cl hpk Fk (hr.mono (by decide)) bk .nil pass0 rfl) (pa_cons (pe_callB (XO.call_lenO ol Fl (hr.mono (by decide)) bl_) (by rfl) B.len (by decide +kernel) (pa_cons (pv 7) pa_nil)) pa_nil))) pa_nil)) (pe_callB (XO2.call_reprQ hc hr.units) (by rfl) B.repr (by decide +kernel) (pa_cons (pe_lst (pa_cons (pv 3) (pa_cons pe_int pa_nil))) pa_nil)) (nomark _)) (pss_one (ps_ret pe_bl)) pss_nil))) pss_nil)))))))))
      (pss_one (ps_ret pe_bl)))), ?_⟩
    refine q_asgL (el_lst (vs := sl (good7.take 6)) (ea_str (ea_str (ea_str (ea_str (ea_str (ea_str ea_nil)))))) (by show 6 ≤ 100000; decide)) fun l1 H1 n1 e1 h1 => ?_
    refine q_asgL (xs := sl good7) (el_catM (em_at (ev_var rfl) h1) (em_of (el_lst (vs := sl (good7.drop 6)) (ea_str ea_nil) (by show 1 ≤ 100000; decide))) (by show 7 ≤ 100000; decide)) fun l H2 n2 e2 hl => ?_
    have e02 := e1.trans e2
    have hp2 := purse_ex hp e02
    have lp : l ≠ p := ((purse_ex hp e1).ne n2).symm
    have o2 : OwnV K H T p l H2 := ⟨Kp.ex e02, hp2, tabs_ex hT e02, hl⟩
    refine ⟨(10 : Int), rfl, by decide, by decide, for_range (lo := 0) (n := (10 : Int).toNat)
      (fun i σ G => ∃ y2 y3 y4 y5 y6 y7, σ = [some (.ref p), some (.ref l), y2, y3, y4, y5, y6, y7] ∧ OwnV K H T p l G)
      ⟨_, _, _, _, _, _, rfl, o2⟩ ?_ ?_⟩
    · rintro i σ G hi ⟨y2, y3, y4, y5, y6, y7, rfl, o⟩
      refine ⟨_, rfl, p, rfl, o.p, fun v d G1 ov nv gs kl hp1 c1 => ?_⟩
      have o1 := o.chg lp hp1 c1
      obtain ⟨r1, r2, r3, hpo1⟩ := id hp1
      have t1 : ∀ {σ : L2.St} {z : Str}, XO2.EvO K p (tTup (tCons (tC (.str z)) tNil)) σ G1 (.tuple [.str z]) := eo_tup hpo1 (eos_cons eo_cs eos_nil) (by show 1 ≤ 100000; decide)
      refine (elo_lst (K := K) (p := p) (ds := wD) (σ := [some (.ref p), some (.ref l), some (.int (0 + (i : Int))), y3, y4, y5, y6, y7]) (eos_cons eo_cn (eos_cons t1 (eos_cons (eo_tup hpo1 (eos_cons eo_cs (eos_cons eo_cs eos_nil)) (by show 2 ≤ 100000; decide)) (eos_cons eo_ci (eos_cons (eo_lst hpo1 (eos_cons eo_cs eos_nil) (by show 1 ≤ 100000; decide)) (eos_cons t1 eos_nil)))))) (by show 6 ≤ 100000; decide)) G1 (Ex.refl _) _ |> fun z => ⟨_, rfl, z fun m vs G2 nm e2' hm od => ⟨p, .ref m, rfl, purse_ex hp1 e2', .inl ⟨m, vs, rfl, (hp1.ne nm).symm, SqL.of hm, (by intro z; rw [z] at od; cases od), (by rw [od.len]; show 6 ≤ 1000; decide), fun rv hv G3 hp3 c3 => ⟨(by show 2 ≤ sizeLine; decide), fun t nt => ⟨t, _, rfl, SqT.of upd_same, rfl, _, _, rfl, _, _, rfl, rfl, ?_⟩⟩⟩⟩⟩
      obtain ⟨dw, hdw, odw⟩ := od.mem hv
      have en : Ex G3 (upd G3 t (.tup [v, rv])) := Ex.new nt
      have o3 := ((o1.ex e2').chg lp hp3 c3).ex en
      have c13 : Kp p G1 (upd G3 t (.tup [v, rv])) := ((Kp.ex e2').trans (Kp.chg c3)).trans (Kp.ex en)
      have ov3 := ov.kp c13
      have ow3 := odw.kp ((Kp.chg c3).trans (Kp.ex en))
      generalize upd G3 t (.tup [v, rv]) = G4 at o3 ov3 ow3 en c13 ⊢
      have kl' : ∀ ds, d = .tuple ds → ds.length ≤ 10000 := fun ds z => Nat.le_trans (kl ds z) (by decide)
      have okD : OkW (dueK4 d) := by
        unfold dueK4
        split
        · exact fun _ m => (List.not_mem_nil m).elim
        · exact okW_err (j := 0) (by decide) (shw_odd ov3 nv).ok
      have okL : OkW (lostW dw) := by
        unfold lostW
        split
        · exact okW_err (j := 7) (z := "0") (by decide) (okS_of _)
        · exact okW_err (j := 7) (z := "None") (by decide) (okS_of _)
      refine q_asgM (xs := sl (dueK4 d)) (em_ifC (b := kindsD d) (et_is (et_test (ev_inM (ws := good7) (ev_reprQ (ev_var rfl) (shw_odd ov3 nv)) (em_at (ev_var rfl) o3.l))) gs) (fun y => ?_) (fun y => ?_)) fun l5 G5 e5 h5 => ?_
      · rw [show dueK4 d = [] by unfold dueK4; rw [y]; rfl]
        exact em_of (el_lst ea_nil (by show 0 ≤ 100000; decide))
      · rw [show dueK4 d = [("InvalidKinds" : Str), d.shown] by unfold dueK4; rw [y]; rfl]
        exact em_of (el_lst (ea_str (ea_cons (ev_reprQ (ev_var rfl) (shw_odd ov3 nv)) ea_nil)) (by show 2 ≤ 100000; decide))
      have o5 := o3.ex e5
      have ov5 := ov3.ex e5
      have ow5 := ow3.ex e5
      refine tt_neW (gives_k (CR := CR) (C := C) o5.t AK FK ov5 nv (fun H1 E Q xx W => tmk_one (ev_var rfl) (ov5.kp (Kp.ext xx)) kl' hae W)) okD okD (fun G x => em_at (ev_var rfl) (x _ _ h5 (fun _ y => by cases y))) fun G6 x6 T6 => ?_
      rw [decide_eq_true rfl]
      refine iteF ?_
      have o6 := o5.xn x6 T6
      have ov6 := ov5.kp (Kp.ext x6)
      have h56 := x6 _ _ h5 (fun _ y => by cases y)
      refine tt_neW (gives_k (CR := CR) (C := C) o6.t AK FK ov6 nv (fun H1 E Q xx W => tmk_kw (ev_var rfl) (ov6.kp (Kp.ext xx)) kl' W)) okD okD (fun G x => em_at (ev_var rfl) (x _ _ h56 (fun _ y => by cases y))) fun G7 x7 T7 => ?_
      rw [decide_eq_true rfl]
      refine iteF ?_
      have o7 := o6.xn x7 T7
      have ov7 := ov6.kp (Kp.ext x7)
      have ow7 := (ow5.kp (Kp.ext x6)).kp (Kp.ext x7)
      have h57 := x7 _ _ h56 (fun _ y => by cases y)
      refine q_asgM (xs := sl (lostW dw)) (em_of (el_is (el_lst (vs := [.str "InvalidRows", .str (if isTupD dw then "0" else "None")]) (ea_str (ea_cons (ev_if (et_B (ev_isTupO (ev_var rfl) ow7)) (fun y => by rw [y]; exact ev_c) (fun y => by rw [y]; exact ev_c)) ea_nil)) (by show 2 ≤ 100000; decide)) rfl)) fun l6 G8 e8 h6 => ?_
      have o8 := o7.ex e8
      have ov8 := ov7.ex e8
      have ow8 := ow7.ex e8
      have h58 := e8 _ _ h57
      have okLD : OkW (if kindsD d then lostW dw else dueK4 d) := by
        split
        · exact okL
        · exact okD
      refine tt_neW (gives_k2 (C := C) o8.t AK FK AR FR ov8 nv hdw (fun H1 E Q xx W => tmk_two (ev_var rfl) (ov8.kp (Kp.ext xx)) kl' (ev_var rfl) (ow8.kp (Kp.ext xx)) (fun ds z => (wD_tup (z ▸ hdw)).1) W)) okLD okLD (fun G x => em_ifC (b := kindsD d) (et_is (et_eqM (em_at (ev_var rfl) (x _ _ h58 (fun _ y => by cases y))) (em_isC (em_of (el_lst ea_nil (by show 0 ≤ 100000; decide))) (ys := sl []) rfl) okD (fun _ m => (List.not_mem_nil m).elim)) ?_) (fun y => ?_) (fun y => ?_)) fun G9 x9 T9 => ?_
      · cases y : kindsD d with
        | true => unfold dueK4; rw [y]; rfl
        | false => unfold dueK4; rw [y]; rfl
      · rw [if_pos y]
        exact em_at (ev_var rfl) (x _ _ h6 (fun _ y => by cases y))
      · rw [if_neg (by rw [y]; decide)]
        exact em_at (ev_var rfl) (x _ _ h58 (fun _ y => by cases y))
      rw [decide_eq_true rfl]
      refine iteF ?_
      have o9 := o8.xn x9 T9
      have ov9 := ov8.kp (Kp.ext x9)
      have h59 := x9 _ _ h58 (fun _ y => by cases y)
      refine next_of ?_
      dsimp only
      refine s_when (b := decide (dueK4 d = [])) (et_eqM (em_at (ev_var rfl) h59) (em_isC (em_of (el_lst ea_nil (by show 0 ≤ 100000; decide))) (ys := sl []) rfl) okD (fun _ m => (List.not_mem_nil m).elim)) (fun dn Gb eb => ?_) (fun _ Gb eb => ⟨_, _, _, _, _, _, rfl, o9.ex eb⟩)
      have yes : kindsD d = true := by
        have dn := of_decide_eq_true dn
        cases e : kindsD d with
        | true => rfl
        | false =>
          unfold dueK4 at dn
          rw [e] at dn
          cases dn
      obtain ⟨ks, rfl, hks⟩ := kindsD_true yes
      have ovb := ov9.ex eb
      have ob := o9.ex eb
      have Cn : Cells ks [] := ⟨List.nodup_nil, (fun _ m => by cases m), by decide⟩
      have tab : EvTab K C (tMakeK C 0 1 (spInitK K C CK CR) (fun vs zs => vs ++ zs ++ [.ref ae]) E0 tNil (tCons (tVar 3) tNil)) [some (.ref p), some (.ref l), some (.int (0 + (i : Int))), some v, some rv, some (.ref l5), some (.ref l6), y7] Gb ks [] := fun H1 e Q q =>
        tmk_kone (ev_var rfl) (ovb.ex e) kl' hae ⟨(fun z => by rw [yes] at z; cases z), (fun ks z1 z2 z3 => by cases z3), (fun ks ds i z1 z2 z3 f => by
          injection z3 with z3
          subst z3
          exact absurd f.1 (Nat.not_lt_zero _)), (fun x ks2 ds cs z1 z2 z3 f z4 hC H4 e4 t => by
          injection z3 with z3
          subst z3
          have ks2e : ks = ks2 := by
            injection z1 with z1
            have := congrArg strsOf z1
            rw [strsOf_map, strsOf_map] at this
            injection this
          subst ks2e
          have : cs = [] := by
            cases cs with
            | nil => rfl
            | cons a r => cases z4
          subst this
          exact q x H4 e4 t)⟩
      refine q_asgTab (K := K) (C := C) (ks := ks) (lns := []) tab fun x G10 e10 tx => ?_
      have dpv := od_dp (K := K) (p := p) (H := G10) (.tuple (ks.map PyData.str)) v (by
        have : ∀ ws : List Str, PyData.hasDictAll (ws.map PyData.str) = false := fun ws => by
          induction ws with
          | nil => rfl
          | cons x r ih => exact ih
        exact this ks) (ovb.ex e10)
      refine s_when (b := false) (et_is (et_test (ev_op (ev_reprLD (ds := [.tuple (ks.map PyData.str), .int 0]) (eds_cons (ed_sl (es_propK (ev_var rfl) tx)) (eds_cons (ed_int (ev_is (ev_lenT (ev_var rfl) tx (by decide)) rfl)) eds_nil)) (by show 2 ≤ 100000; decide) (nc_kz hks)) (ev_reprLD (ds := [.tuple (ks.map PyData.str), .int 0]) (eds_cons (ed_at (ev_var rfl) dpv) (eds_cons (ed_int ev_c) eds_nil)) (by show 2 ≤ 100000; decide) (nc_kz hks)) (rv_ne rfl))) (by rw [decide_eq_true rfl]; rfl)) (fun z => by cases z) (fun _ Gd ed => ⟨_, _, _, _, _, _, rfl, (ob.ex e10).ex ed⟩)
    · rintro σ G ⟨y2, y3, y4, y5, y6, y7, rfl, o⟩
      exact q G o.k o.t
end
end T
namespace T
open PySem PySem.Spec PyProof.Rows L2 Evl XB TL XS XI XC ClX LamX
theorem vals_rev {vs : List V} {us : List Value} (r : Vals vs us) : Vals vs.reverse us.reverse := by
  induction r with
  | nil => exact .nil
  | cons a r ih =>
    rw [List.reverse_cons, List.reverse_cons]
    exact ih.append (.cons a .nil)
section
variable {P : Program} {w : World} {K : PySem.W.Frag} {mg : Str → Option Value} {base : Heap} {C : Addr}
def spLawT (K : PySem.W.Frag) (cs : List (Addr × Addr)) : Sp := fun vs H Q _ => ∃ (a : Addr) (ns : List Int), vs = [.ref a] ∧ SqL K H a (ns.map V.int) ∧ ns.length ≤ 1000 ∧ (∀ p ∈ cs, H p.2 = some (.tbl #[])) ∧ ∀ H', Q (.bl true) H'
theorem c_law {f : Addr} {fd : FuncData} {T : List (Addr × Str)} {cs : List (Addr × Addr)} (F : Fun K "law" "law" s_law f fd) (B : Bl mg) (hT : ∀ p ∈ T, p.1 ∈ cs.map (·.2)) (Cp : C8.Cal P w K mg base 1 "_law_purse" (spPurse K) []) (Cr : CalG P w K mg base 10 "_law_right" (spRightT T)) :
    XG.FnG P w K mg base CX0 11 f fd ["script"] (spLawT K cs) := by
  refine XG.okG F sc_law (fun vs H Q E h => ?_) (fun cdv A outer s H vs Q E hc hr h => ?_)
  · obtain ⟨a, ns, rfl, _⟩ := h
    rfl
  · obtain ⟨a, ns, rfl, hS, hl, hcs, q⟩ := h
    refine ⟨_, pss_cons (ps_for PassesOwn.never rfl (pi_range1 (by rfl) B.range (pa_cons (pe_callB (call_max2 (by rfl)) (by rfl) B.max_ (by decide +kernel) (pa_cons pe_int (pa_cons (pe_callB (call_min2 (by rfl)) (by rfl) B.min_ (by decide +kernel) (pa_cons (pe_callB call_len_seq (by rfl) B.len (by decide +kernel) (pa_cons (pv 0) pa_nil)) (pa_cons pe_int pa_nil))) pa_nil))) pa_nil)) (pg_name (i := 1) sc_law.nd rfl (.inl rfl))
        (pss_one (ps_if (pt_not (pt_val (pe_cG Cr hc hr (by decide) (by rfl) (pa_cons (C8.pe_c Cp hr (by decide) (by rfl) (pa_cons (pv 0) (pa_cons (pv 1) pa_nil))) pa_nil)))) (pss_one (ps_ret pe_bl)) pss_nil)))
      (pss_one (ps_ret pe_bl)), ?_⟩
    have T0 : Tabs T H := fun p hp => by
      obtain ⟨r, hr, e⟩ := List.mem_map.mp (hT p hp)
      exact TabS.nil (by rw [← e]; exact hcs r hr)
    refine ⟨_, rfl, a, _, rfl, .inl hS, _, _, rfl, _, _, rfl, ?_⟩
    have hm : ∀ n : Int, 0 ≤ n → 0 ≤ (if (if (6 : Int) < n then 6 else n) > 2 then (if (6 : Int) < n then 6 else n) else 2) ∧ (if (if (6 : Int) < n then 6 else n) > 2 then (if (6 : Int) < n then 6 else n) else 2) ≤ 6 := fun n h => by
      split <;> split <;> omega
    obtain ⟨m0, m5⟩ := hm (((ns.map V.int).length : Nat) : Int) (by omega)
    generalize (if (if (6 : Int) < (((ns.map V.int).length : Nat) : Int) then 6 else (((ns.map V.int).length : Nat) : Int)) > 2 then (if (6 : Int) < (((ns.map V.int).length : Nat) : Int) then 6 else (((ns.map V.int).length : Nat) : Int)) else 2) = n at m0 m5 ⊢
    refine ⟨n, rfl, by omega, by omega, for_range (lo := 0) (n := n.toNat) (fun i σ G => ∃ y1, σ = [some (.ref a), y1] ∧ SqL K G a (ns.map V.int) ∧ Tabs T G) ⟨none, rfl, hS, T0⟩ ?_ ?_⟩
    · rintro i σ G hi ⟨y1, rfl, sG, TG⟩
      have hi5 : i < 6 := by omega
      refine ⟨_, rfl, _, rfl, a, ns, 0 + (i : Int), rfl, sG, by omega, by omega, hl, fun p G1 s1 n1 hp1 => ⟨p, rfl, hp1, tabs_ex TG s1, fun G2 c2 T2 => ⟨true, rfl, ?_⟩⟩⟩
      refine iteF ⟨_, rfl, ?_, T2⟩
      -- the script is a list that stood before the purse
      rcases sG with (h | ⟨o, h⟩) | h
      · exact .inl (.inl (c2 _ _ (ne_of_none h n1) (fun _ z => by cases z) (s1 _ _ h)))
      · exact .inl (.inr ⟨o, c2 _ _ (ne_of_none h n1) (fun _ z => by cases z) (s1 _ _ h)⟩)
      · exact .inr h
    · rintro σ G ⟨y1, rfl, sG, _⟩
      exact q G
end
end T
namespace T
open PySem PySem.Spec PyProof.Rows L2 Evl XB TL XS XI XC ClX XSp LamX
section
variable {P : Program} {w : World} {K : PySem.W.Frag} {mg : Str → Option Value} {base : Heap} {C : Addr}
theorem vals_swp {vs : List V} {us : List Value} (r : Vals vs us) : Vals (swp vs) (swp us) := by
  cases r with
  | nil => exact .nil
  | cons a r => cases r with
    | nil => exact .nil
    | cons b r => cases r with
      | nil => exact .cons b (.cons a .nil)
      | cons c r => exact .nil
/-- how __init__ is bound -/
theorem init_binds {f : Addr} {fd : FuncData} {ae : Addr} (F : FunD K "__init__" "Table.__init__" (defArgs s_Table___init__) (defBody s_Table___init__) (defScope s_Table___init__) [.ref ae] [] f fd) :
    Binds K fd psI [] ∧ (∃ ds : List Value, Vals [.ref ae] ds ∧ Binds K fd psI ds) ∧
    (∃ its : List Value, KBn K fd psI 1 ["rows", "kinds"] (fun us ws => us ++ swp ws) (fun vs zs => vs ++ swp zs)) ∧ KBn K fd psI 1 ["kinds", "rows"] (fun us ws => us ++ ws) (fun vs zs => vs ++ zs) := by
  refine ⟨?_, ?_, ?_, ?_⟩
  · obtain ⟨ds, h1, h2⟩ := F.binds1 (ps := psI) 3 1 (by simp) rfl fun T kV doc pm an cdv ct us its e1 e2 => match us, its, e1, e2 with
      | [_, _, _], [_], _, _ => ⟨_, rfl, rfl⟩
    cases h1
    exact h2
  · exact F.binds1 (ps := psI) 2 0 (by simp) rfl fun T kV doc pm an cdv ct us its e1 e2 => match us, its, e1, e2 with
      | [_, _], [_], _, _ => ⟨_, rfl, rfl⟩
  · obtain ⟨its, h⟩ := F.kbinds1 (ps := psI) 1 ["rows", "kinds"] (fun us _ ws => us ++ swp ws) (fun vs _ zs => vs ++ swp zs) (by simp) (fun r1 _ r3 => r1.append (vals_swp r3)) fun T kV doc pm an cdv ct us its ws e1 e2 e3 => match us, its, ws, e1, e2, e3 with
      | [_], [_], [_, _], _, _, _ => ⟨_, rfl, rfl⟩
    exact ⟨its, h⟩
  · obtain ⟨its, h⟩ := F.kbinds1 (ps := psI) 1 ["kinds", "rows"] (fun us _ ws => us ++ ws) (fun vs _ zs => vs ++ zs) (by simp) (fun r1 _ r3 => r1.append r3) fun T kV doc pm an cdv ct us its ws e1 e2 e3 => match us, its, ws, e1, e2, e3 with
      | [_], [_], [_, _], _, _, _ => ⟨_, rfl, rfl⟩
    exact h
/-- the class of an error that is raised: how it is made, what isinstance says -/
def ErrK (P : Program) (K : PySem.W.Frag) (mg : Str → Option Value) (c b : Nat → Addr) (n F : Str) (j : Nat) : Prop := ∃ D : Addr, mg n = some (.ref D) ∧ XSp.SupC P K mg D F ∧ XSp.AskC K D ∧ ErrF K c b D j
/-- what the program's top has left -/
structure Top (P : Program) (K : PySem.W.Frag) (w : World) (mg : Str → Option Value) (C : Addr) : Prop where
  B : Bl mg
  purse : At K mg "_law_purse" s__law_purse ["script", "k"]
  draw : At K mg "_law_draw" s__law_draw ["purse", "size"]
  pick : At K mg "_law_pick" s__law_pick ["purse", "menu"]
  sorts : At K mg "_law_sorts" s__law_sorts ["purse"]
  word : At K mg "is_word" s_is_word ["value", "words"]
  kinds : At K mg "are_kinds" s_are_kinds ["value"]
  cell : At K mg "is_cell" s_is_cell ["value", "kinds"]
  cellOf : At K mg "cell_of" s_cell_of ["row"]
  optsOf : At K mg "options_of" s_options_of ["row"]
  conds : At K mg "conditions_for" s_conditions_for ["mine", "its"]
  res : At K mg "results_for" s_results_for ["mine", "kinds"]
  row : At K mg "is_row" s_is_row ["value", "kinds"]
  first : At K mg "first_wrong_row" s_first_wrong_row ["rows", "kinds"]
  value : At K mg "_law_value" s__law_value ["purse"]
  tK : TupC K mg "KINDS" KINDSc
  tR : TupC K mg "RELATIONS" rels
  tS : TupC K mg "KINDS_WITH_SIGN" ["put", "set"]
  tC : TupC K mg "SIGN_CONDITIONS" ["less", "same", "more"]
  tE : TupC K mg "RESULTS" ["keep", "up", "down", "stay"]
  most : ∃ t, mg "MOST_OPTIONS" = some (.int 5 t)
  T : TabC K mg C
  I : C8.InsC K C
  init : ∃ (f : Addr) (fd : FuncData) (ae : Addr), Mk K C f ∧ FunD K "__init__" "Table.__init__" (defArgs s_Table___init__) (defBody s_Table___init__) (defScope s_Table___init__) [.ref ae] [] f fd ∧ ∀ H, SqT K H ae []
  pkinds : ProD K C "kinds" "Table.kinds" s_Table_kinds
  mlen : MetD K C "__len__" "Table.__len__" s_Table___len__
  caughtV : ∃ cd, AtV K mg "_law_caught" s__law_caught ["act"] cd
  er : ∃ (c b : Nat → Addr), ErrM mg c b ∧ ErrK P K mg c b "InvalidKinds" "given" 0 ∧ ErrK P K mg c b "InvalidRows" "index" 7
theorem law_all {f : Addr} {fd : FuncData} (F : Fun K "law" "law" s_law f fd) {tc_right tp_right : Addr} (V_right : AtV K mg "_law_right" s__law_right ["purse"] (.ref tc_right)) (TB_right : LamX.TabB base mg tc_right tp_right) (t : Top P K w mg C) : XG.FnG P w K mg base CX0 11 f fd ["script"] (spLawT K [(tc_right, tp_right)]) := by
  obtain ⟨tk, mo⟩ := t.most
  have Cdraw := c_draw (P := P) (w := w) (base := base) t.draw t.B
  have Cpick := c_pick t.pick t.B Cdraw
  have Csorts := c_sorts t.sorts t.B Cpick
  have Cword := c_word (P := P) (w := w) (base := base) t.word t.B
  have Ckinds := c_kinds t.kinds t.B t.tK Cword
  have Ccell := c_isCell t.cell t.B t.tR Cword
  have CcellOf := c_cellOf (P := P) (w := w) (base := base) t.cellOf t.B
  have CoptsOf := c_optsOf (P := P) (w := w) (base := base) t.optsOf t.B
  have Cconds := c_conds (P := P) (w := w) (base := base) t.conds t.tS t.tC
  have Cres := c_res (P := P) (w := w) (base := base) t.res t.tE
  have Crow := c_isRow t.row t.B mo Ccell CcellOf CoptsOf Cconds Cres
  have Cfirst := c_first t.first t.B Crow CcellOf
  obtain ⟨fi, fdi, ae, Mi, Fi, he⟩ := t.init
  have Ci := c_init Fi t.B t.T Ckinds Cfirst CcellOf CoptsOf
  obtain ⟨b1, ⟨ds, v2, b2⟩, b3, b4⟩ := init_binds Fi
  have M : TabM P w K mg base C := ⟨t.T, t.I, fi, fdi, Mi, Ci, b1, ⟨ae, ds, v2, b2, he⟩, b3, b4⟩
  obtain ⟨cdc, Vc⟩ := t.caughtV
  have Be : BlE mg := ⟨t.B.isin, t.B.repr⟩
  obtain ⟨c, b, Me, EK_InvalidKinds, EK_InvalidRows⟩ := t.er
  obtain ⟨CX_InvalidKinds, gX_InvalidKinds, SC_InvalidKinds, AC_InvalidKinds, EF_InvalidKinds⟩ := EK_InvalidKinds
  obtain ⟨CX_InvalidRows, gX_InvalidRows, SC_InvalidRows, AC_InvalidRows, EF_InvalidRows⟩ := EK_InvalidRows
  have CwordO := c_wordO (P := P) (w := w) (base := base) t.word t.B
  have CcellO := c_isCellO t.cell t.B t.tR CwordO
  have CrowO := c_isRowO t.row t.B mo CcellO CcellOf CoptsOf Cconds Cres
  have CfirstO := c_firstO t.first t.B CrowO CcellOf
  have CkindsO := c_kindsO t.kinds t.B t.tK CwordO
  obtain ⟨fi, fdi, ai, Mki, Fi, hai⟩ := t.init
  obtain ⟨bb3, bb2, bkb1, _⟩ := init_binds Fi
  have kb3 : ∃ its : List Value, KBn K fdi psI 1 ["kinds"] (fun us ws => us ++ ws ++ its) (fun vs zs => vs ++ zs ++ [.ref ai]) := by
    obtain ⟨its, h⟩ := Fi.kbinds1 (ps := psI) 1 ["kinds"] (fun us its ws => us ++ ws ++ its) (fun vs ds zs => vs ++ zs ++ ds) (by simp) (fun r1 r2 r3 => (r1.append r3).append r2) fun T kV doc pm an cdv ct us its ws e1 e2 e3 => match us, its, ws, e1, e2, e3 with
      | [_], [_], [_], _, _, _ => ⟨_, rfl, rfl⟩
    exact ⟨its, h⟩
  have Cval := c_value4 t.value t.B Cdraw Cpick Csorts
  have MV : TabV P w K mg base C CX_InvalidKinds CX_InvalidRows := ⟨t.T, ⟨fi, fdi, ai, Mki, c_initK Fi t.B t.T SC_InvalidKinds gX_InvalidKinds SC_InvalidRows gX_InvalidRows CkindsO CfirstO CcellOf CoptsOf, bb3, bb2, bkb1, kb3, hai⟩⟩
  have hcs : ∀ p ∈ ([(tp_right, (("_law_right" : Str) ++ (".<locals>." : Str)) ++ ("<lambda>" : Str))] : List (Addr × Str)), p.1 ∈ [(tc_right, tp_right)].map (·.2) := fun p hp => by rw [List.mem_singleton.mp hp]; exact List.mem_singleton.mpr rfl
  have Cright := c_right V_right t.B Vc Me Be TB_right rfl MV (p_kinds t.pkinds t.T) (p_len t.mlen t.T t.B) AC_InvalidKinds EF_InvalidKinds AC_InvalidRows EF_InvalidRows Cval Cpick
  exact c_law F t.B hcs (c_purse (P := P) (w := w) (base := base) t.purse t.B) Cright
end
end T
namespace T
open PySem PySem.Spec PyProof.Rows L2 Evl XB TL XS XI XC ClX XSp LamX
theorem tupC_mk {K : PySem.W.Frag} {h : Heap} {mg : Str → Option Value} {x : Str} {ws : List Str} {a n : Nat} {od : Option Addr} {its : Array Value} {sl' : Array (Option Value)} (X : K.In h) (G : h.Ns mainGlobals mg) (ha : PySem.W.nsIn K mainGlobals x = some (some (.ref a)))
    (l : K.lookup a = some ⟨.type "tuple", od, .seq its n, sl'⟩) (hv : Vals (sl ws) its.toList) (hz : its.size ≤ sizeLine) : TupC K mg x ws := ⟨a, PySem.W.mg_of X G ha, fun H => .inr ⟨_, its, n, l, rfl, rfl, hz, hv⟩⟩
theorem me_self {K : PySem.W.Frag} {C : Addr} : PySem.W.kitOne K (.ref C) (.ref C) = some true := by
  unfold PySem.W.kitOne
  rw [if_pos (beq_self_eq_true _)]
abbrev sI_InvalidKinds : Stmt := inClass (topS 4) 0
theorem sI_InvalidKinds_A : defArgs sI_InvalidKinds = XSp.supArgs "given" ⟨14, 17, 14, 21⟩ ⟨14, 23, 14, 28⟩ := rfl
theorem sI_InvalidKinds_B : defBody sI_InvalidKinds = XSp.supBody "given" "given" "no tuple of one or more of put, out and set, in this order" ⟨15, 8, 15, 13⟩ ⟨15, 8, 15, 15⟩ ⟨15, 8, 15, 24⟩ ⟨15, 25, 15, 85⟩ ⟨15, 8, 15, 86⟩ ⟨15, 8, 15, 86⟩ ⟨16, 8, 16, 12⟩ ⟨16, 8, 16, 18⟩ ⟨16, 21, 16, 26⟩ ⟨16, 8, 16, 26⟩ := rfl
theorem sI_InvalidKinds_S : defScope sI_InvalidKinds = XSp.supScope "given" := rfl
abbrev sI_InvalidRows : Stmt := inClass (topS 10) 0
theorem sI_InvalidRows_A : defArgs sI_InvalidRows = XSp.supArgs "index" ⟨44, 17, 44, 21⟩ ⟨44, 23, 44, 28⟩ := rfl
theorem sI_InvalidRows_B : defBody sI_InvalidRows = XSp.supBody "index" "index" "a row that is not right, or no tuple of rows" ⟨45, 8, 45, 13⟩ ⟨45, 8, 45, 15⟩ ⟨45, 8, 45, 24⟩ ⟨45, 25, 45, 71⟩ ⟨45, 8, 45, 72⟩ ⟨45, 8, 45, 72⟩ ⟨46, 8, 46, 12⟩ ⟨46, 8, 46, 18⟩ ⟨46, 21, 46, 26⟩ ⟨46, 8, 46, 26⟩ := rfl
theorem sI_InvalidRows_S : defScope sI_InvalidRows = XSp.supScope "index" := rfl
theorem top_mk {P : Program} {w : World} {K : PySem.W.Frag} {h : Heap} {mg : Str → Option Value} {fa : Addr} (X : K.In h) (G : h.Ns mainGlobals mg) (hfa : mg "law" = some (.ref fa))
    {f_law : Addr} {od_law an_law : Option Addr} {sl_law : Array (Option Value)} {oc_law kV_law dc_law pm_law cd_law ct_law : Value}
    {f_purse : Addr} {od_purse an_purse : Option Addr} {sl_purse : Array (Option Value)} {oc_purse kV_purse dc_purse pm_purse cd_purse ct_purse : Value}
    {f_draw : Addr} {od_draw an_draw : Option Addr} {sl_draw : Array (Option Value)} {oc_draw kV_draw dc_draw pm_draw cd_draw ct_draw : Value}
    {f_pick : Addr} {od_pick an_pick : Option Addr} {sl_pick : Array (Option Value)} {oc_pick kV_pick dc_pick pm_pick cd_pick ct_pick : Value}
    {f_sorts : Addr} {od_sorts an_sorts : Option Addr} {sl_sorts : Array (Option Value)} {oc_sorts kV_sorts dc_sorts pm_sorts cd_sorts ct_sorts : Value}
    {f_word : Addr} {od_word an_word : Option Addr} {sl_word : Array (Option Value)} {oc_word kV_word dc_word pm_word cd_word ct_word : Value}
    {f_kinds : Addr} {od_kinds an_kinds : Option Addr} {sl_kinds : Array (Option Value)} {oc_kinds kV_kinds dc_kinds pm_kinds cd_kinds ct_kinds : Value}
    {f_cell : Addr} {od_cell an_cell : Option Addr} {sl_cell : Array (Option Value)} {oc_cell kV_cell dc_cell pm_cell cd_cell ct_cell : Value}
    {f_cellOf : Addr} {od_cellOf an_cellOf : Option Addr} {sl_cellOf : Array (Option Value)} {oc_cellOf kV_cellOf dc_cellOf pm_cellOf cd_cellOf ct_cellOf : Value}
    {f_optsOf : Addr} {od_optsOf an_optsOf : Option Addr} {sl_optsOf : Array (Option Value)} {oc_optsOf kV_optsOf dc_optsOf pm_optsOf cd_optsOf ct_optsOf : Value}
    {f_conds : Addr} {od_conds an_conds : Option Addr} {sl_conds : Array (Option Value)} {oc_conds kV_conds dc_conds pm_conds cd_conds ct_conds : Value}
    {f_res : Addr} {od_res an_res : Option Addr} {sl_res : Array (Option Value)} {oc_res kV_res dc_res pm_res cd_res ct_res : Value}
    {f_row : Addr} {od_row an_row : Option Addr} {sl_row : Array (Option Value)} {oc_row kV_row dc_row pm_row cd_row ct_row : Value}
    {f_first : Addr} {od_first an_first : Option Addr} {sl_first : Array (Option Value)} {oc_first kV_first dc_first pm_first cd_first ct_first : Value}
    {f_value : Addr} {od_value an_value : Option Addr} {sl_value : Array (Option Value)} {oc_value kV_value dc_value pm_value cd_value ct_value : Value}
    {a_tK n_tK : Nat} {od_tK : Option Addr} {sl_tK : Array (Option Value)} {t_tK0 t_tK1 t_tK2 : Tok}
    {a_tR n_tR : Nat} {od_tR : Option Addr} {sl_tR : Array (Option Value)} {t_tR0 t_tR1 t_tR2 : Tok}
    {a_tS n_tS : Nat} {od_tS : Option Addr} {sl_tS : Array (Option Value)} {t_tS0 t_tS1 : Tok}
    {a_tC n_tC : Nat} {od_tC : Option Addr} {sl_tC : Array (Option Value)} {t_tC0 t_tC1 t_tC2 : Tok}
    {a_tE n_tE : Nat} {od_tE : Option Addr} {sl_tE : Array (Option Value)} {t_tE0 t_tE1 t_tE2 t_tE3 : Tok}
    {t_most : Tok}
    {C : Addr}
    {f_init : Addr} {od_init an_init : Option Addr} {sl_init : Array (Option Value)} {oc_init kV_init dc_init pm_init cd_init ct_init : Value}
    {T0 ae n_T n_e : Nat} {od_T od_e : Option Addr} {sl_T sl_e : Array (Option Value)} {oc_T : Value}
    {f_pkinds : Addr} {od_pkinds an_pkinds : Option Addr} {sl_pkinds : Array (Option Value)} {oc_pkinds kV_pkinds dc_pkinds pm_pkinds cd_pkinds ct_pkinds : Value}
    {p_pkinds : Addr} {rest_pkinds : List Value}
    {f_mlen : Addr} {od_mlen an_mlen : Option Addr} {sl_mlen : Array (Option Value)} {oc_mlen kV_mlen dc_mlen pm_mlen cd_mlen ct_mlen : Value}
    {f_caught : Addr} {od_caught an_caught : Option Addr} {sl_caught : Array (Option Value)} {oc_caught kV_caught dc_caught pm_caught cd_caught ct_caught : Value}
    {f_right : Addr} {od_right an_right : Option Addr} {sl_right : Array (Option Value)} {oc_right kV_right dc_right pm_right  ct_right : Value}
    {tc_right tp_right : Addr} {tcl_right : Value} {tcd_right : Option Addr} {tvs_right : Array Value} {tcs_right : Array (Option Value)}
    {C_InvalidText : Addr}
    {C_InvalidEdit : Addr}
    {C_InvalidFirst : Addr}
    {C_InvalidChange : Addr}
    {C_InvalidArrival : Addr}
    {C_NotATable : Addr}
    {C_InvalidEdits : Addr}
    {C_UnknownName : Addr}
    {C_CannotDo : Addr}
    {C_BadValue : Addr}
    {C_BadName : Addr}
    {C_NoAnswer : Addr}
    {C_InvalidKinds fI_InvalidKinds cc_InvalidKinds cda_InvalidKinds N_InvalidKinds : Addr} {kV_InvalidKinds doc_InvalidKinds pm_InvalidKinds ct_InvalidKinds oc_InvalidKinds ccl_InvalidKinds cl_InvalidKinds : Value} {an_InvalidKinds od_InvalidKinds cdd_InvalidKinds cld_InvalidKinds dd_InvalidKinds : Option Addr} {osl_InvalidKinds ccs_InvalidKinds csl_InvalidKinds : Array (Option Value)} {vs_InvalidKinds : Array Value} {file_InvalidKinds nm_InvalidKinds q_InvalidKinds : Str} {tf_InvalidKinds : Tok} {bs_InvalidKinds bm_InvalidKinds : List Value} {sn_InvalidKinds : List Str} {sub_InvalidKinds : List Value} {ab_InvalidKinds : Bool} {col_InvalidKinds : Option Bool} {m0_InvalidKinds m1_InvalidKinds m2_InvalidKinds m3_InvalidKinds m5_InvalidKinds : Option Value}
    {C_InvalidRows fI_InvalidRows cc_InvalidRows cda_InvalidRows N_InvalidRows : Addr} {kV_InvalidRows doc_InvalidRows pm_InvalidRows ct_InvalidRows oc_InvalidRows ccl_InvalidRows cl_InvalidRows : Value} {an_InvalidRows od_InvalidRows cdd_InvalidRows cld_InvalidRows dd_InvalidRows : Option Addr} {osl_InvalidRows ccs_InvalidRows csl_InvalidRows : Array (Option Value)} {vs_InvalidRows : Array Value} {file_InvalidRows nm_InvalidRows q_InvalidRows : Str} {tf_InvalidRows : Tok} {bs_InvalidRows bm_InvalidRows : List Value} {sn_InvalidRows : List Str} {sub_InvalidRows : List Value} {ab_InvalidRows : Bool} {col_InvalidRows : Option Bool} {m0_InvalidRows m1_InvalidRows m2_InvalidRows m3_InvalidRows m5_InvalidRows : Option Value}
    (a_law : PySem.W.nsIn K mainGlobals "law" = some (some (.ref f_law)))
    (l_law : K.lookup f_law = some ⟨oc_law, od_law, .func (PySem.W.fnOf "law" "law" (defArgs s_law) (defBody s_law) (defScope s_law) .none kV_law dc_law pm_law an_law cd_law ct_law), sl_law⟩)
    (c_law : PySem.W.codeIn K cd_law "law" = true)
    (k_law : PySem.W.keepIn K (.ref f_law) = true)
    (a_purse : PySem.W.nsIn K mainGlobals "_law_purse" = some (some (.ref f_purse)))
    (l_purse : K.lookup f_purse = some ⟨oc_purse, od_purse, .func (PySem.W.fnOf "_law_purse" "_law_purse" (defArgs s__law_purse) (defBody s__law_purse) (defScope s__law_purse) .none kV_purse dc_purse pm_purse an_purse cd_purse ct_purse), sl_purse⟩)
    (c_purse : PySem.W.codeIn K cd_purse "_law_purse" = true)
    (k_purse : PySem.W.keepIn K (.ref f_purse) = true)
    (a_draw : PySem.W.nsIn K mainGlobals "_law_draw" = some (some (.ref f_draw)))
    (l_draw : K.lookup f_draw = some ⟨oc_draw, od_draw, .func (PySem.W.fnOf "_law_draw" "_law_draw" (defArgs s__law_draw) (defBody s__law_draw) (defScope s__law_draw) .none kV_draw dc_draw pm_draw an_draw cd_draw ct_draw), sl_draw⟩)
    (c_draw : PySem.W.codeIn K cd_draw "_law_draw" = true)
    (k_draw : PySem.W.keepIn K (.ref f_draw) = true)
    (a_pick : PySem.W.nsIn K mainGlobals "_law_pick" = some (some (.ref f_pick)))
    (l_pick : K.lookup f_pick = some ⟨oc_pick, od_pick, .func (PySem.W.fnOf "_law_pick" "_law_pick" (defArgs s__law_pick) (defBody s__law_pick) (defScope s__law_pick) .none kV_pick dc_pick pm_pick an_pick cd_pick ct_pick), sl_pick⟩)
    (c_pick : PySem.W.codeIn K cd_pick "_law_pick" = true)
    (k_pick : PySem.W.keepIn K (.ref f_pick) = true)
    (a_sorts : PySem.W.nsIn K mainGlobals "_law_sorts" = some (some (.ref f_sorts)))
    (l_sorts : K.lookup f_sorts = some ⟨oc_sorts, od_sorts, .func (PySem.W.fnOf "_law_sorts" "_law_sorts" (defArgs s__law_sorts) (defBody s__law_sorts) (defScope s__law_sorts) .none kV_sorts dc_sorts pm_sorts an_sorts cd_sorts ct_sorts), sl_sorts⟩)
    (c_sorts : PySem.W.codeIn K cd_sorts "_law_sorts" = true)
    (k_sorts : PySem.W.keepIn K (.ref f_sorts) = true)
    (a_word : PySem.W.nsIn K mainGlobals "is_word" = some (some (.ref f_word)))
    (l_word : K.lookup f_word = some ⟨oc_word, od_word, .func (PySem.W.fnOf "is_word" "is_word" (defArgs s_is_word) (defBody s_is_word) (defScope s_is_word) .none kV_word dc_word pm_word an_word cd_word ct_word), sl_word⟩)
    (c_word : PySem.W.codeIn K cd_word "is_word" = true)
    (k_word : PySem.W.keepIn K (.ref f_word) = true)
    (a_kinds : PySem.W.nsIn K mainGlobals "are_kinds" = some (some (.ref f_kinds)))
    (l_kinds : K.lookup f_kinds = some ⟨oc_kinds, od_kinds, .func (PySem.W.fnOf "are_kinds" "are_kinds" (defArgs s_are_kinds) (defBody s_are_kinds) (defScope s_are_kinds) .none kV_kinds dc_kinds pm_kinds an_kinds cd_kinds ct_kinds), sl_kinds⟩)
    (c_kinds : PySem.W.codeIn K cd_kinds "are_kinds" = true)
    (k_kinds : PySem.W.keepIn K (.ref f_kinds) = true)
    (a_cell : PySem.W.nsIn K mainGlobals "is_cell" = some (some (.ref f_cell)))
    (l_cell : K.lookup f_cell = some ⟨oc_cell, od_cell, .func (PySem.W.fnOf "is_cell" "is_cell" (defArgs s_is_cell) (defBody s_is_cell) (defScope s_is_cell) .none kV_cell dc_cell pm_cell an_cell cd_cell ct_cell), sl_cell⟩)
    (c_cell : PySem.W.codeIn K cd_cell "is_cell" = true)
    (k_cell : PySem.W.keepIn K (.ref f_cell) = true)
    (a_cellOf : PySem.W.nsIn K mainGlobals "cell_of" = some (some (.ref f_cellOf)))
    (l_cellOf : K.lookup f_cellOf = some ⟨oc_cellOf, od_cellOf, .func (PySem.W.fnOf "cell_of" "cell_of" (defArgs s_cell_of) (defBody s_cell_of) (defScope s_cell_of) .none kV_cellOf dc_cellOf pm_cellOf an_cellOf cd_cellOf ct_cellOf), sl_cellOf⟩)
    (c_cellOf : PySem.W.codeIn K cd_cellOf "cell_of" = true)
    (k_cellOf : PySem.W.keepIn K (.ref f_cellOf) = true)
    (a_optsOf : PySem.W.nsIn K mainGlobals "options_of" = some (some (.ref f_optsOf)))
    (l_optsOf : K.lookup f_optsOf = some ⟨oc_optsOf, od_optsOf, .func (PySem.W.fnOf "options_of" "options_of" (defArgs s_options_of) (defBody s_options_of) (defScope s_options_of) .none kV_optsOf dc_optsOf pm_optsOf an_optsOf cd_optsOf ct_optsOf), sl_optsOf⟩)
    (c_optsOf : PySem.W.codeIn K cd_optsOf "options_of" = true)
    (k_optsOf : PySem.W.keepIn K (.ref f_optsOf) = true)
    (a_conds : PySem.W.nsIn K mainGlobals "conditions_for" = some (some (.ref f_conds)))
    (l_conds : K.lookup f_conds = some ⟨oc_conds, od_conds, .func (PySem.W.fnOf "conditions_for" "conditions_for" (defArgs s_conditions_for) (defBody s_conditions_for) (defScope s_conditions_for) .none kV_conds dc_conds pm_conds an_conds cd_conds ct_conds), sl_conds⟩)
    (c_conds : PySem.W.codeIn K cd_conds "conditions_for" = true)
    (k_conds : PySem.W.keepIn K (.ref f_conds) = true)
    (a_res : PySem.W.nsIn K mainGlobals "results_for" = some (some (.ref f_res)))
    (l_res : K.lookup f_res = some ⟨oc_res, od_res, .func (PySem.W.fnOf "results_for" "results_for" (defArgs s_results_for) (defBody s_results_for) (defScope s_results_for) .none kV_res dc_res pm_res an_res cd_res ct_res), sl_res⟩)
    (c_res : PySem.W.codeIn K cd_res "results_for" = true)
    (k_res : PySem.W.keepIn K (.ref f_res) = true)
    (a_row : PySem.W.nsIn K mainGlobals "is_row" = some (some (.ref f_row)))
    (l_row : K.lookup f_row = some ⟨oc_row, od_row, .func (PySem.W.fnOf "is_row" "is_row" (defArgs s_is_row) (defBody s_is_row) (defScope s_is_row) .none kV_row dc_row pm_row an_row cd_row ct_row), sl_row⟩)
    (c_row : PySem.W.codeIn K cd_row "is_row" = true)
    (k_row : PySem.W.keepIn K (.ref f_row) = true)
    (a_first : PySem.W.nsIn K mainGlobals "first_wrong_row" = some (some (.ref f_first)))
    (l_first : K.lookup f_first = some ⟨oc_first, od_first, .func (PySem.W.fnOf "first_wrong_row" "first_wrong_row" (defArgs s_first_wrong_row) (defBody s_first_wrong_row) (defScope s_first_wrong_row) .none kV_first dc_first pm_first an_first cd_first ct_first), sl_first⟩)
    (c_first : PySem.W.codeIn K cd_first "first_wrong_row" = true)
    (k_first : PySem.W.keepIn K (.ref f_first) = true)
    (a_value : PySem.W.nsIn K mainGlobals "_law_value" = some (some (.ref f_value)))
    (l_value : K.lookup f_value = some ⟨oc_value, od_value, .func (PySem.W.fnOf "_law_value" "_law_value" (defArgs s__law_value) (defBody s__law_value) (defScope s__law_value) .none kV_value dc_value pm_value an_value cd_value ct_value), sl_value⟩)
    (c_value : PySem.W.codeIn K cd_value "_law_value" = true)
    (k_value : PySem.W.keepIn K (.ref f_value) = true)
    (a_tKh : PySem.W.nsIn K mainGlobals "KINDS" = some (some (.ref a_tK)))
    (l_tK : K.lookup a_tK = some ⟨.type "tuple", od_tK, .seq #[.str "put" t_tK0, .str "out" t_tK1, .str "set" t_tK2] n_tK, sl_tK⟩)
    (a_tRh : PySem.W.nsIn K mainGlobals "RELATIONS" = some (some (.ref a_tR)))
    (l_tR : K.lookup a_tR = some ⟨.type "tuple", od_tR, .seq #[.str "<" t_tR0, .str "=" t_tR1, .str ">" t_tR2] n_tR, sl_tR⟩)
    (a_tSh : PySem.W.nsIn K mainGlobals "KINDS_WITH_SIGN" = some (some (.ref a_tS)))
    (l_tS : K.lookup a_tS = some ⟨.type "tuple", od_tS, .seq #[.str "put" t_tS0, .str "set" t_tS1] n_tS, sl_tS⟩)
    (a_tCh : PySem.W.nsIn K mainGlobals "SIGN_CONDITIONS" = some (some (.ref a_tC)))
    (l_tC : K.lookup a_tC = some ⟨.type "tuple", od_tC, .seq #[.str "less" t_tC0, .str "same" t_tC1, .str "more" t_tC2] n_tC, sl_tC⟩)
    (a_tEh : PySem.W.nsIn K mainGlobals "RESULTS" = some (some (.ref a_tE)))
    (l_tE : K.lookup a_tE = some ⟨.type "tuple", od_tE, .seq #[.str "keep" t_tE0, .str "up" t_tE1, .str "down" t_tE2, .str "stay" t_tE3] n_tE, sl_tE⟩)
    (a_most : PySem.W.nsIn K mainGlobals "MOST_OPTIONS" = some (some (.int 5 t_most)))
    (aC : PySem.W.nsIn K mainGlobals "Table" = some (some (.ref C)))
    (pg : PySem.W.plainGet K C Str.empty = true)
    (hd : PySem.W.hasDictIn K C = true)
    (po : PySem.W.plainOver K C = true)
    (sa : PySem.W.findIn K (.ref C) "__setattr__" = some (some (.builtin "object.__setattr__")))
    (nk : PySem.W.findIn K (.ref C) "_kinds" = some none)
    (nr : PySem.W.findIn K (.ref C) "_rows" = some none)
    (nc : PySem.W.findIn K (.ref C) "_cells" = some none)
    (ha : PySem.W.findIn K (.ref C) "__class__" = some (some (.builtin "object.__class__")))
    (hn : PySem.W.specialIn K (.builtin "object.__class__") "__get__" = some (some (.builtin "getset_descriptor.__get__")))
    (htk : PySem.W.takesIn K (.builtin "object.__class__") = some true)
    (hm : PySem.W.mroIn K C (.type "object") = some true)
    (mkI : PySem.W.makesIn K C = true)
    (kC : PySem.W.keepIn K (.ref C) = true)
    (a_init : PySem.W.findIn K (.ref C) "__init__" = some (some (.ref f_init)))
    (i_init : PySem.W.isFn K (.ref f_init) = true)
    (l_init : K.lookup f_init = some ⟨oc_init, od_init, .func (PySem.W.fnOf "__init__" "Table.__init__" (defArgs s_Table___init__) (defBody s_Table___init__) (defScope s_Table___init__) (.ref T0) kV_init dc_init pm_init an_init cd_init ct_init), sl_init⟩)
    (c_init : PySem.W.codeIn K cd_init "Table.__init__" = true)
    (k_init : PySem.W.keepIn K (.ref f_init) = true)
    (lT : K.lookup T0 = some ⟨oc_T, od_T, .seq #[.ref ae] n_T, sl_T⟩)
    (lEmp : K.lookup ae = some ⟨.type "tuple", od_e, .seq #[] n_e, sl_e⟩)
    (a_pkinds : PySem.W.findIn K (.ref C) "kinds" = some (some (.ref p_pkinds)))
    (g_pkinds : PySem.W.specialIn K (.ref p_pkinds) "__get__" = some (some (.builtin "property.__get__")))
    (t_pkinds : PySem.W.takesIn K (.ref p_pkinds) = some true)
    (r_pkinds : PySem.W.recIn K p_pkinds "property" = some (.ref f_pkinds :: rest_pkinds))
    (l_pkinds : K.lookup f_pkinds = some ⟨oc_pkinds, od_pkinds, .func (PySem.W.fnOf "kinds" "Table.kinds" (defArgs s_Table_kinds) (defBody s_Table_kinds) (defScope s_Table_kinds) .none kV_pkinds dc_pkinds pm_pkinds an_pkinds cd_pkinds ct_pkinds), sl_pkinds⟩)
    (c_pkinds : PySem.W.codeIn K cd_pkinds "Table.kinds" = true)
    (k_pkinds : PySem.W.keepIn K (.ref f_pkinds) = true)
    (a_mlen : PySem.W.findIn K (.ref C) "__len__" = some (some (.ref f_mlen)))
    (i_mlen : PySem.W.isFn K (.ref f_mlen) = true)
    (l_mlen : K.lookup f_mlen = some ⟨oc_mlen, od_mlen, .func (PySem.W.fnOf "__len__" "Table.__len__" (defArgs s_Table___len__) (defBody s_Table___len__) (defScope s_Table___len__) .none kV_mlen dc_mlen pm_mlen an_mlen cd_mlen ct_mlen), sl_mlen⟩)
    (c_mlen : PySem.W.codeIn K cd_mlen "Table.__len__" = true)
    (k_mlen : PySem.W.keepIn K (.ref f_mlen) = true)
    (a_caught : PySem.W.nsIn K mainGlobals "_law_caught" = some (some (.ref f_caught)))
    (l_caught : K.lookup f_caught = some ⟨oc_caught, od_caught, .func (PySem.W.fnOf "_law_caught" "_law_caught" (defArgs s__law_caught) (defBody s__law_caught) (defScope s__law_caught) .none kV_caught dc_caught pm_caught an_caught cd_caught ct_caught), sl_caught⟩)
    (c_caught : PySem.W.codeIn K cd_caught "_law_caught" = true)
    (k_caught : PySem.W.keepIn K (.ref f_caught) = true)
    (a_right : PySem.W.nsIn K mainGlobals "_law_right" = some (some (.ref f_right)))
    (l_right : K.lookup f_right = some ⟨oc_right, od_right, .func (PySem.W.fnOf "_law_right" "_law_right" (defArgs s__law_right) (defBody s__law_right) (defScope s__law_right) .none kV_right dc_right pm_right an_right (.ref tc_right) ct_right), sl_right⟩)
    (c_right : PySem.W.codeIn K (.ref tc_right) "_law_right" = true)
    (k_right : PySem.W.keepIn K (.ref f_right) = true)
    (o_right : K.lookup tc_right = some ⟨tcl_right, tcd_right, .fields tvs_right, tcs_right⟩)
    (rfl_tright : tvs_right[11]? = some (.ref tp_right))
    (aX_InvalidText : PySem.W.nsIn K mainGlobals "InvalidText" = some (some (.ref C_InvalidText)))
    (aX_InvalidEdit : PySem.W.nsIn K mainGlobals "InvalidEdit" = some (some (.ref C_InvalidEdit)))
    (aX_InvalidFirst : PySem.W.nsIn K mainGlobals "InvalidFirst" = some (some (.ref C_InvalidFirst)))
    (aX_InvalidChange : PySem.W.nsIn K mainGlobals "InvalidChange" = some (some (.ref C_InvalidChange)))
    (aX_InvalidArrival : PySem.W.nsIn K mainGlobals "InvalidArrival" = some (some (.ref C_InvalidArrival)))
    (aX_NotATable : PySem.W.nsIn K mainGlobals "NotATable" = some (some (.ref C_NotATable)))
    (aX_InvalidEdits : PySem.W.nsIn K mainGlobals "InvalidEdits" = some (some (.ref C_InvalidEdits)))
    (aX_UnknownName : PySem.W.nsIn K mainGlobals "UnknownName" = some (some (.ref C_UnknownName)))
    (aX_CannotDo : PySem.W.nsIn K mainGlobals "CannotDo" = some (some (.ref C_CannotDo)))
    (aX_BadValue : PySem.W.nsIn K mainGlobals "BadValue" = some (some (.ref C_BadValue)))
    (aX_BadName : PySem.W.nsIn K mainGlobals "BadName" = some (some (.ref C_BadName)))
    (aX_NoAnswer : PySem.W.nsIn K mainGlobals "NoAnswer" = some (some (.ref C_NoAnswer)))
    (z_super : PySem.W.nsIn K mainGlobals "super" = some none)
    (rfl_top : (P.main.scope.names.lookup ("super" : Str)).isSome = false)
    (any_z : PySem.W.nsIn K cStatics "thirdparty.any" = some none)
    (aX_InvalidKinds : PySem.W.nsIn K mainGlobals "InvalidKinds" = some (some (.ref C_InvalidKinds)))
    (iX_InvalidKinds : PySem.W.findIn K (.ref C_InvalidKinds) "__init__" = some (some (.ref fI_InvalidKinds)))
    (tX_InvalidKinds : PySem.W.typeIn K (.ref fI_InvalidKinds) = some (.type "function"))
    (fX_InvalidKinds : K.lookup fI_InvalidKinds = some ⟨oc_InvalidKinds, od_InvalidKinds, .func (PySem.W.ksFn "__init__" "InvalidKinds.__init__" (defArgs sI_InvalidKinds) (defBody sI_InvalidKinds) (defScope sI_InvalidKinds) .none kV_InvalidKinds doc_InvalidKinds pm_InvalidKinds an_InvalidKinds (.ref cda_InvalidKinds) ct_InvalidKinds cc_InvalidKinds), osl_InvalidKinds⟩)
    (cX_InvalidKinds : PySem.W.codeIn K (.ref cda_InvalidKinds) "InvalidKinds.__init__" = true)
    (oX_InvalidKinds : K.lookup cda_InvalidKinds = some ⟨ccl_InvalidKinds, cdd_InvalidKinds, .fields vs_InvalidKinds, ccs_InvalidKinds⟩)
    (rfl_v_InvalidKinds : vs_InvalidKinds[2]? = some (.str file_InvalidKinds tf_InvalidKinds))
    (rfl_f_InvalidKinds : ((P.main.file : Str) == file_InvalidKinds) = true)
    (lX_InvalidKinds : K.lookup cc_InvalidKinds = some ⟨cl_InvalidKinds, cld_InvalidKinds, .cell (some (.ref C_InvalidKinds)), csl_InvalidKinds⟩)
    (xX_InvalidKinds : K.lookup C_InvalidKinds = some (excClassObj nm_InvalidKinds q_InvalidKinds C_InvalidKinds N_InvalidKinds bs_InvalidKinds bm_InvalidKinds true sn_InvalidKinds sub_InvalidKinds ab_InvalidKinds col_InvalidKinds dd_InvalidKinds m0_InvalidKinds m1_InvalidKinds m2_InvalidKinds m3_InvalidKinds m5_InvalidKinds "ValueError.__new__"))
    (rfl_t_InvalidKinds : PySem.W.excTail [.type "ValueError", .type "Exception", .type "BaseException", .type "object"] bm_InvalidKinds = true)
    (mX_InvalidKinds : PySem.W.mroIn K C_InvalidKinds (.ref C_InvalidKinds) = some true)
    (ks_h_InvalidKinds : PySem.W.ks_superIn K C_InvalidKinds C_InvalidKinds "__init__" = some (some (.builtin "ValueError.__init__")))
    (bX_InvalidKinds : PySem.W.subIn K (.ref C_InvalidKinds) (.type "ValueError") = some true)
    (saX_InvalidKinds : PySem.W.findIn K (.ref C_InvalidKinds) "__setattr__" = some (some (.builtin "object.__setattr__")))
    (noX_InvalidKinds : PySem.W.findIn K (.ref C_InvalidKinds) "given" = some none)
    (eX_InvalidKinds : PySem.W.subIn K (.ref C_InvalidKinds) (.type "BaseException") = some true)
    (yX_InvalidKinds : PySem.W.typeIn K (.ref C_InvalidKinds) = some (.type "type"))
    (kX_InvalidKinds : PySem.W.keepIn K (.ref C_InvalidKinds) = true)
    (ga_InvalidKinds : PySem.W.findIn K (.ref C_InvalidKinds) "__getattribute__" = some (some (.builtin "BaseException.__getattribute__")))
    (gg_InvalidKinds : PySem.W.findIn K (.ref C_InvalidKinds) "__getattr__" = some none)
    (hd_InvalidKinds : PySem.W.hasDictIn K C_InvalidKinds = true)
    (ha_InvalidKinds : PySem.W.findIn K (.ref C_InvalidKinds) "__class__" = some (some (.builtin "object.__class__")))
    (ho_InvalidKinds : PySem.W.mroIn K C_InvalidKinds (.type "object") = some true)
    (ex_InvalidKinds : PySem.W.exmAny K (.ref C_InvalidKinds) [.ref C_BadValue, .ref C_BadName, .ref C_NoAnswer] = some true)
    (k0_InvalidKinds : PySem.W.kitOne K (.ref C_InvalidKinds) (.ref C_InvalidKinds) = some true)
    (k1_InvalidKinds : PySem.W.kitOne K (.ref C_InvalidKinds) (.ref C_InvalidText) = some false)
    (k2_InvalidKinds : PySem.W.kitOne K (.ref C_InvalidKinds) (.ref C_InvalidEdit) = some false)
    (k3_InvalidKinds : PySem.W.kitOne K (.ref C_InvalidKinds) (.ref C_InvalidFirst) = some false)
    (k4_InvalidKinds : PySem.W.kitOne K (.ref C_InvalidKinds) (.ref C_InvalidChange) = some false)
    (k5_InvalidKinds : PySem.W.kitOne K (.ref C_InvalidKinds) (.ref C_InvalidArrival) = some false)
    (k6_InvalidKinds : PySem.W.kitOne K (.ref C_InvalidKinds) (.ref C_NotATable) = some false)
    (k7_InvalidKinds : PySem.W.kitOne K (.ref C_InvalidKinds) (.ref C_InvalidRows) = some false)
    (k8_InvalidKinds : PySem.W.kitOne K (.ref C_InvalidKinds) (.ref C_InvalidEdits) = some false)
    (k9_InvalidKinds : PySem.W.kitOne K (.ref C_InvalidKinds) (.ref C_UnknownName) = some false)
    (k10_InvalidKinds : PySem.W.kitOne K (.ref C_InvalidKinds) (.ref C_CannotDo) = some false)
    (m0_InvalidKinds : PySem.W.kitOne K (.ref C_InvalidKinds) (.ref C_BadValue) = some true)
    (m1_InvalidKinds : PySem.W.kitOne K (.ref C_InvalidKinds) (.ref C_BadName) = some false)
    (m2_InvalidKinds : PySem.W.kitOne K (.ref C_InvalidKinds) (.ref C_NoAnswer) = some false)
    (aX_InvalidRows : PySem.W.nsIn K mainGlobals "InvalidRows" = some (some (.ref C_InvalidRows)))
    (iX_InvalidRows : PySem.W.findIn K (.ref C_InvalidRows) "__init__" = some (some (.ref fI_InvalidRows)))
    (tX_InvalidRows : PySem.W.typeIn K (.ref fI_InvalidRows) = some (.type "function"))
    (fX_InvalidRows : K.lookup fI_InvalidRows = some ⟨oc_InvalidRows, od_InvalidRows, .func (PySem.W.ksFn "__init__" "InvalidRows.__init__" (defArgs sI_InvalidRows) (defBody sI_InvalidRows) (defScope sI_InvalidRows) .none kV_InvalidRows doc_InvalidRows pm_InvalidRows an_InvalidRows (.ref cda_InvalidRows) ct_InvalidRows cc_InvalidRows), osl_InvalidRows⟩)
    (cX_InvalidRows : PySem.W.codeIn K (.ref cda_InvalidRows) "InvalidRows.__init__" = true)
    (oX_InvalidRows : K.lookup cda_InvalidRows = some ⟨ccl_InvalidRows, cdd_InvalidRows, .fields vs_InvalidRows, ccs_InvalidRows⟩)
    (rfl_v_InvalidRows : vs_InvalidRows[2]? = some (.str file_InvalidRows tf_InvalidRows))
    (rfl_f_InvalidRows : ((P.main.file : Str) == file_InvalidRows) = true)
    (lX_InvalidRows : K.lookup cc_InvalidRows = some ⟨cl_InvalidRows, cld_InvalidRows, .cell (some (.ref C_InvalidRows)), csl_InvalidRows⟩)
    (xX_InvalidRows : K.lookup C_InvalidRows = some (excClassObj nm_InvalidRows q_InvalidRows C_InvalidRows N_InvalidRows bs_InvalidRows bm_InvalidRows true sn_InvalidRows sub_InvalidRows ab_InvalidRows col_InvalidRows dd_InvalidRows m0_InvalidRows m1_InvalidRows m2_InvalidRows m3_InvalidRows m5_InvalidRows "ValueError.__new__"))
    (rfl_t_InvalidRows : PySem.W.excTail [.type "ValueError", .type "Exception", .type "BaseException", .type "object"] bm_InvalidRows = true)
    (mX_InvalidRows : PySem.W.mroIn K C_InvalidRows (.ref C_InvalidRows) = some true)
    (ks_h_InvalidRows : PySem.W.ks_superIn K C_InvalidRows C_InvalidRows "__init__" = some (some (.builtin "ValueError.__init__")))
    (bX_InvalidRows : PySem.W.subIn K (.ref C_InvalidRows) (.type "ValueError") = some true)
    (saX_InvalidRows : PySem.W.findIn K (.ref C_InvalidRows) "__setattr__" = some (some (.builtin "object.__setattr__")))
    (noX_InvalidRows : PySem.W.findIn K (.ref C_InvalidRows) "index" = some none)
    (eX_InvalidRows : PySem.W.subIn K (.ref C_InvalidRows) (.type "BaseException") = some true)
    (yX_InvalidRows : PySem.W.typeIn K (.ref C_InvalidRows) = some (.type "type"))
    (kX_InvalidRows : PySem.W.keepIn K (.ref C_InvalidRows) = true)
    (ga_InvalidRows : PySem.W.findIn K (.ref C_InvalidRows) "__getattribute__" = some (some (.builtin "BaseException.__getattribute__")))
    (gg_InvalidRows : PySem.W.findIn K (.ref C_InvalidRows) "__getattr__" = some none)
    (hd_InvalidRows : PySem.W.hasDictIn K C_InvalidRows = true)
    (ha_InvalidRows : PySem.W.findIn K (.ref C_InvalidRows) "__class__" = some (some (.builtin "object.__class__")))
    (ho_InvalidRows : PySem.W.mroIn K C_InvalidRows (.type "object") = some true)
    (ex_InvalidRows : PySem.W.exmAny K (.ref C_InvalidRows) [.ref C_BadValue, .ref C_BadName, .ref C_NoAnswer] = some true)
    (k0_InvalidRows : PySem.W.kitOne K (.ref C_InvalidRows) (.ref C_InvalidKinds) = some false)
    (k1_InvalidRows : PySem.W.kitOne K (.ref C_InvalidRows) (.ref C_InvalidText) = some false)
    (k2_InvalidRows : PySem.W.kitOne K (.ref C_InvalidRows) (.ref C_InvalidEdit) = some false)
    (k3_InvalidRows : PySem.W.kitOne K (.ref C_InvalidRows) (.ref C_InvalidFirst) = some false)
    (k4_InvalidRows : PySem.W.kitOne K (.ref C_InvalidRows) (.ref C_InvalidChange) = some false)
    (k5_InvalidRows : PySem.W.kitOne K (.ref C_InvalidRows) (.ref C_InvalidArrival) = some false)
    (k6_InvalidRows : PySem.W.kitOne K (.ref C_InvalidRows) (.ref C_NotATable) = some false)
    (k7_InvalidRows : PySem.W.kitOne K (.ref C_InvalidRows) (.ref C_InvalidRows) = some true)
    (k8_InvalidRows : PySem.W.kitOne K (.ref C_InvalidRows) (.ref C_InvalidEdits) = some false)
    (k9_InvalidRows : PySem.W.kitOne K (.ref C_InvalidRows) (.ref C_UnknownName) = some false)
    (k10_InvalidRows : PySem.W.kitOne K (.ref C_InvalidRows) (.ref C_CannotDo) = some false)
    (m0_InvalidRows : PySem.W.kitOne K (.ref C_InvalidRows) (.ref C_BadValue) = some true)
    (m1_InvalidRows : PySem.W.kitOne K (.ref C_InvalidRows) (.ref C_BadName) = some false)
    (m2_InvalidRows : PySem.W.kitOne K (.ref C_InvalidRows) (.ref C_NoAnswer) = some false)
    (hn_class : PySem.W.specialIn K (.builtin "object.__class__") "__get__" = some (some (.builtin "getset_descriptor.__get__")))
    (ht_class : PySem.W.takesIn K (.builtin "object.__class__") = some true)
    (z_len : PySem.W.nsIn K mainGlobals "len" = some none)
    (z_int_ : PySem.W.nsIn K mainGlobals "int" = some none)
    (z_abs_ : PySem.W.nsIn K mainGlobals "abs" = some none)
    (z_divmod : PySem.W.nsIn K mainGlobals "divmod" = some none)
    (z_range : PySem.W.nsIn K mainGlobals "range" = some none)
    (z_list : PySem.W.nsIn K mainGlobals "list" = some none)
    (z_tuple : PySem.W.nsIn K mainGlobals "tuple" = some none)
    (z_repr : PySem.W.nsIn K mainGlobals "repr" = some none)
    (z_min_ : PySem.W.nsIn K mainGlobals "min" = some none)
    (z_max_ : PySem.W.nsIn K mainGlobals "max" = some none)
    (z_isin : PySem.W.nsIn K mainGlobals "isinstance" = some none)
    (z_str : PySem.W.nsIn K mainGlobals "str" = some none)
    (z_bool : PySem.W.nsIn K mainGlobals "bool" = some none)
    (z_set_ : PySem.W.nsIn K mainGlobals "set" = some none)
    (z_enum : PySem.W.nsIn K mainGlobals "enumerate" = some none)
    (z_all_ : PySem.W.nsIn K mainGlobals "all" = some none) :
    ∃ (fd : FuncData) (cs : List (Addr × Addr)), XG.tabsIn K ["_law_right"] cs ∧ (∀ (s : Shared) (v : Value), BindsTo s fd ⟨[v], []⟩ [("script", v)]) ∧ ∀ base : Heap, K.In base → base.Ns mainGlobals mg → (∀ p ∈ cs, LamX.TabB base mg p.1 p.2) → XG.FnG P w K mg base CX0 11 fa fd ["script"] (spLawT K cs) := by
  have e := hfa.symm.trans (PySem.W.mg_of X G a_law)
  cases e
  have t : Top P K w mg C := {
    B := ⟨PySem.W.mg_none_of X G z_len, PySem.W.mg_none_of X G z_int_, PySem.W.mg_none_of X G z_abs_, PySem.W.mg_none_of X G z_divmod, PySem.W.mg_none_of X G z_range, PySem.W.mg_none_of X G z_list, PySem.W.mg_none_of X G z_tuple, PySem.W.mg_none_of X G z_repr, PySem.W.mg_none_of X G z_min_, PySem.W.mg_none_of X G z_max_, PySem.W.mg_none_of X G z_isin, PySem.W.mg_none_of X G z_str, PySem.W.mg_none_of X G z_bool, PySem.W.mg_none_of X G z_set_, PySem.W.mg_none_of X G z_enum, PySem.W.mg_none_of X G z_all_⟩
    purse := at_mk X G a_purse l_purse c_purse k_purse (fun _ _ _ _ _ _ us hl => match us, hl with | [_, _], _ => rfl)
    draw := at_mk X G a_draw l_draw c_draw k_draw (fun _ _ _ _ _ _ us hl => match us, hl with | [_, _], _ => rfl)
    pick := at_mk X G a_pick l_pick c_pick k_pick (fun _ _ _ _ _ _ us hl => match us, hl with | [_, _], _ => rfl)
    sorts := at_mk X G a_sorts l_sorts c_sorts k_sorts (fun _ _ _ _ _ _ us hl => match us, hl with | [_], _ => rfl)
    word := at_mk X G a_word l_word c_word k_word (fun _ _ _ _ _ _ us hl => match us, hl with | [_, _], _ => rfl)
    kinds := at_mk X G a_kinds l_kinds c_kinds k_kinds (fun _ _ _ _ _ _ us hl => match us, hl with | [_], _ => rfl)
    cell := at_mk X G a_cell l_cell c_cell k_cell (fun _ _ _ _ _ _ us hl => match us, hl with | [_, _], _ => rfl)
    cellOf := at_mk X G a_cellOf l_cellOf c_cellOf k_cellOf (fun _ _ _ _ _ _ us hl => match us, hl with | [_], _ => rfl)
    optsOf := at_mk X G a_optsOf l_optsOf c_optsOf k_optsOf (fun _ _ _ _ _ _ us hl => match us, hl with | [_], _ => rfl)
    conds := at_mk X G a_conds l_conds c_conds k_conds (fun _ _ _ _ _ _ us hl => match us, hl with | [_, _], _ => rfl)
    res := at_mk X G a_res l_res c_res k_res (fun _ _ _ _ _ _ us hl => match us, hl with | [_, _], _ => rfl)
    row := at_mk X G a_row l_row c_row k_row (fun _ _ _ _ _ _ us hl => match us, hl with | [_, _], _ => rfl)
    first := at_mk X G a_first l_first c_first k_first (fun _ _ _ _ _ _ us hl => match us, hl with | [_, _], _ => rfl)
    value := at_mk X G a_value l_value c_value k_value (fun _ _ _ _ _ _ us hl => match us, hl with | [_], _ => rfl)
    tK := tupC_mk X G a_tKh l_tK (.cons ⟨_, rfl⟩ (.cons ⟨_, rfl⟩ (.cons ⟨_, rfl⟩ (.nil)))) (by show 3 ≤ sizeLine; decide)
    tR := tupC_mk X G a_tRh l_tR (.cons ⟨_, rfl⟩ (.cons ⟨_, rfl⟩ (.cons ⟨_, rfl⟩ (.nil)))) (by show 3 ≤ sizeLine; decide)
    tS := tupC_mk X G a_tSh l_tS (.cons ⟨_, rfl⟩ (.cons ⟨_, rfl⟩ (.nil))) (by show 2 ≤ sizeLine; decide)
    tC := tupC_mk X G a_tCh l_tC (.cons ⟨_, rfl⟩ (.cons ⟨_, rfl⟩ (.cons ⟨_, rfl⟩ (.nil)))) (by show 3 ≤ sizeLine; decide)
    tE := tupC_mk X G a_tEh l_tE (.cons ⟨_, rfl⟩ (.cons ⟨_, rfl⟩ (.cons ⟨_, rfl⟩ (.cons ⟨_, rfl⟩ (.nil))))) (by show 4 ≤ sizeLine; decide)
    most := ⟨t_most, PySem.W.mg_of X G a_most⟩
    T := ⟨PySem.W.mg_of X G aC, ⟨pg, hd, po, sa⟩, nk, nr, nc⟩
    I := ⟨⟨pg, hd, po, sa⟩, ha, hn, htk, hm, me_self⟩
    init := ⟨f_init, _, ae, ⟨mkI, a_init, i_init, kC⟩, ⟨⟨_, _, _, _, _, _, _, _, _, _, rfl, l_init, c_init, .inr ⟨by simp, T0, _, [.ref ae], n_T, rfl, lT, rfl, .cons rfl .nil⟩, .inl rfl⟩, k_init⟩, fun H => .inr ⟨_, #[], n_e, lEmp, rfl, rfl, Nat.zero_le _, .nil⟩⟩
    pkinds := by
      have F := fun_mk (st := s_Table_kinds) l_pkinds c_pkinds k_pkinds
      exact ⟨f_pkinds, _, p_pkinds, F, ⟨a_pkinds, g_pkinds, t_pkinds, rest_pkinds, r_pkinds⟩, F.binds (ps := ["self"]) (fun _ _ _ _ _ _ us hl => match us, hl with | [_], _ => rfl)⟩
    mlen := by
      have F := fun_mk (st := s_Table___len__) l_mlen c_mlen k_mlen
      exact ⟨f_mlen, _, F, ⟨a_mlen, i_mlen⟩, F.binds (ps := ["self"]) (fun _ _ _ _ _ _ us hl => match us, hl with | [_], _ => rfl)⟩
    caughtV := ⟨_, atV_mk X G a_caught l_caught c_caught k_caught (fun _ _ _ _ _ _ us hl => match us, hl with | [_], _ => rfl)⟩
    er := ⟨(cOf C_InvalidKinds C_InvalidText C_InvalidEdit C_InvalidFirst C_InvalidChange C_InvalidArrival C_NotATable C_InvalidRows C_InvalidEdits C_UnknownName C_CannotDo), (bOf C_BadValue C_BadName C_NoAnswer), errM_mk (PySem.W.mg_of X G aX_InvalidKinds) (PySem.W.mg_of X G aX_InvalidText) (PySem.W.mg_of X G aX_InvalidEdit) (PySem.W.mg_of X G aX_InvalidFirst) (PySem.W.mg_of X G aX_InvalidChange) (PySem.W.mg_of X G aX_InvalidArrival) (PySem.W.mg_of X G aX_NotATable) (PySem.W.mg_of X G aX_InvalidRows) (PySem.W.mg_of X G aX_InvalidEdits) (PySem.W.mg_of X G aX_UnknownName) (PySem.W.mg_of X G aX_CannotDo) (PySem.W.mg_of X G aX_BadValue) (PySem.W.mg_of X G aX_BadName) (PySem.W.mg_of X G aX_NoAnswer), ⟨C_InvalidKinds, PySem.W.mg_of X G aX_InvalidKinds, XSp.supC_mk X G sI_InvalidKinds_A sI_InvalidKinds_B sI_InvalidKinds_S XSp.pn_given iX_InvalidKinds tX_InvalidKinds fX_InvalidKinds cX_InvalidKinds oX_InvalidKinds rfl_v_InvalidKinds rfl_f_InvalidKinds lX_InvalidKinds xX_InvalidKinds rfl_t_InvalidKinds mX_InvalidKinds z_super rfl_top any_z PySem.W.kxs_ValueError ks_h_InvalidKinds bX_InvalidKinds (fun env => ⟨_, rfl⟩) PySem.F.excBase_ValueError PySem.F.store_ValueError saX_InvalidKinds noX_InvalidKinds (fun env => rfl) (fun s e u => .of_eq rfl) eX_InvalidKinds yX_InvalidKinds kX_InvalidKinds, ⟨ga_InvalidKinds, gg_InvalidKinds, eX_InvalidKinds, hd_InvalidKinds, ha_InvalidKinds, hn_class, ht_class, ho_InvalidKinds⟩, errF_mk noX_InvalidKinds ex_InvalidKinds k0_InvalidKinds k1_InvalidKinds k2_InvalidKinds k3_InvalidKinds k4_InvalidKinds k5_InvalidKinds k6_InvalidKinds k7_InvalidKinds k8_InvalidKinds k9_InvalidKinds k10_InvalidKinds m0_InvalidKinds m1_InvalidKinds m2_InvalidKinds⟩, ⟨C_InvalidRows, PySem.W.mg_of X G aX_InvalidRows, XSp.supC_mk X G sI_InvalidRows_A sI_InvalidRows_B sI_InvalidRows_S XSp.pn_index iX_InvalidRows tX_InvalidRows fX_InvalidRows cX_InvalidRows oX_InvalidRows rfl_v_InvalidRows rfl_f_InvalidRows lX_InvalidRows xX_InvalidRows rfl_t_InvalidRows mX_InvalidRows z_super rfl_top any_z PySem.W.kxs_ValueError ks_h_InvalidRows bX_InvalidRows (fun env => ⟨_, rfl⟩) PySem.F.excBase_ValueError PySem.F.store_ValueError saX_InvalidRows noX_InvalidRows (fun env => rfl) (fun s e u => .of_eq rfl) eX_InvalidRows yX_InvalidRows kX_InvalidRows, ⟨ga_InvalidRows, gg_InvalidRows, eX_InvalidRows, hd_InvalidRows, ha_InvalidRows, hn_class, ht_class, ho_InvalidRows⟩, errF_mk noX_InvalidRows ex_InvalidRows k0_InvalidRows k1_InvalidRows k2_InvalidRows k3_InvalidRows k4_InvalidRows k5_InvalidRows k6_InvalidRows k7_InvalidRows k8_InvalidRows k9_InvalidRows k10_InvalidRows m0_InvalidRows m1_InvalidRows m2_InvalidRows⟩⟩ }
  exact ⟨_, [(tc_right, tp_right)], ⟨tab_mk a_right l_right rfl o_right rfl_tright, trivial⟩, fun s v => .of_eq rfl, fun base _ _ hT => law_all (fun_mk (st := s_law) l_law c_law k_law) (atV_mk X G a_right l_right c_right k_right (fun _ _ _ _ _ _ us hl => match us, hl with | [_], _ => rfl)) (hT (tc_right, tp_right) (by simp)) t⟩
theorem walk {l : PySem.W.OpenLaw} {q : Program} {loose : List Str} {XP : (Str → Option Value) → Heap → Prop} {YP : World → Heap → Prop} {d : DefRec} {K : Params → PySem.W.Frag} (hn : l.most = some 63) (hdf : d.params.defaults = [])
    (hxs : ∀ y ∈ (["_law_right"] : List Str), ((recsOf q).find? (fun e => e.name == y)).isSome = true) (hY : ∀ (w : World) (h : Heap), YP w h → (K w.params).In h) (hK : ∀ w : World, PySem.W.noTabs (K w.params) = true)
    (F : ∀ (w : World) (mg : Str → Option Value) (fa : Addr) (h : Heap), (K w.params).In h → h.Ns mainGlobals mg → mg d.name = some (.ref fa) →
      ∃ (fd : FuncData) (cs : List (Addr × Addr)), XG.tabsIn (K w.params) ["_law_right"] cs ∧ (∀ (s : Shared) (u : Value), BindsTo s fd ⟨[u], []⟩ [("script", u)]) ∧ ∀ base : Heap, (K w.params).In base → base.Ns mainGlobals mg → (∀ p ∈ cs, LamX.TabB base mg p.1 p.2) → XG.FnG l.prog w (K w.params) mg base CX0 11 fa fd ["script"] (spLawT (K w.params) cs)) :
    PySem.W.WalkO q loose XP YP l.row.toRowW d [] (fun f vs => PySem.call f vs) :=
  XG.walk_tab (n := 63) (k := 11) (x := "script") (sp := fun w cs => spLawT (K w.params) cs) hn (by decide) hdf ⟨rfl, by decide, by decide⟩ hxs hY hK F (fun _ _ _ a ns hl _ hT hS => ⟨a, ns, rfl, hS, Nat.le_trans hl (by decide), hT, fun _ => rfl⟩)
end T

open PySem PySem.W PyProof.Rows in
set_option maxRecDepth 100000 in
set_option maxHeartbeats 0 in
theorem PySem.Challenge.cw_passedits_k04_kinds_refused_holds : PySem.Challenge.rw_passedits_k04_kinds_refused.Holds := by
  w_on; o_law; k_head; (case hw => w_witness2)
  k_fill
  refine T.walk (l := PySem.Challenge.rw_passedits_k04_kinds_refused) rfl rfl ?seen (fun w h Y => PySem.W.km_in_of Y) ?noTabs ?F
  case seen => decide +kernel
  case noTabs => intro w; rfl
  case F =>
    intro w mg fa h KX G hmg
    refine' T.top_mk KX G hmg ?a_law ?l_law ?c_law ?k_law ?a_purse ?l_purse ?c_purse ?k_purse ?a_draw ?l_draw ?c_draw ?k_draw ?a_pick ?l_pick ?c_pick ?k_pick ?a_sorts ?l_sorts ?c_sorts ?k_sorts ?a_word ?l_word ?c_word ?k_word ?a_kinds ?l_kinds ?c_kinds ?k_kinds ?a_cell ?l_cell ?c_cell ?k_cell ?a_cellOf ?l_cellOf ?c_cellOf ?k_cellOf ?a_optsOf ?l_optsOf ?c_optsOf ?k_optsOf ?a_conds ?l_conds ?c_conds ?k_conds ?a_res ?l_res ?c_res ?k_res ?a_row ?l_row ?c_row ?k_row ?a_first ?l_first ?c_first ?k_first ?a_value ?l_value ?c_value ?k_value ?a_tKh ?l_tK ?a_tRh ?l_tR ?a_tSh ?l_tS ?a_tCh ?l_tC ?a_tEh ?l_tE ?a_most ?aC ?pg ?hd ?po ?sa ?nk ?nr ?nc ?ha ?hn ?htk ?hm ?mkI ?kC ?a_init ?i_init ?l_init ?c_init ?k_init ?lT ?lEmp ?a_pkinds ?g_pkinds ?t_pkinds ?r_pkinds ?l_pkinds ?c_pkinds ?k_pkinds ?a_mlen ?i_mlen ?l_mlen ?c_mlen ?k_mlen ?a_caught ?l_caught ?c_caught ?k_caught ?a_right ?l_right ?c_right ?k_right ?o_right ?rfl_tright ?aX_InvalidText ?aX_InvalidEdit ?aX_InvalidFirst ?aX_InvalidChange ?aX_InvalidArrival ?aX_NotATable ?aX_InvalidEdits ?aX_UnknownName ?aX_CannotDo ?aX_BadValue ?aX_BadName ?aX_NoAnswer ?z_super ?rfl_top ?any_z ?aX_InvalidKinds ?iX_InvalidKinds ?tX_InvalidKinds ?fX_InvalidKinds ?cX_InvalidKinds ?oX_InvalidKinds ?rfl_v_InvalidKinds ?rfl_f_InvalidKinds ?lX_InvalidKinds ?xX_InvalidKinds ?rfl_t_InvalidKinds ?mX_InvalidKinds ?ks_h_InvalidKinds ?bX_InvalidKinds ?saX_InvalidKinds ?noX_InvalidKinds ?eX_InvalidKinds ?yX_InvalidKinds ?kX_InvalidKinds ?ga_InvalidKinds ?gg_InvalidKinds ?hd_InvalidKinds ?ha_InvalidKinds ?ho_InvalidKinds ?ex_InvalidKinds ?k0_InvalidKinds ?k1_InvalidKinds ?k2_InvalidKinds ?k3_InvalidKinds ?k4_InvalidKinds ?k5_InvalidKinds ?k6_InvalidKinds ?k7_InvalidKinds ?k8_InvalidKinds ?k9_InvalidKinds ?k10_InvalidKinds ?m0_InvalidKinds ?m1_InvalidKinds ?m2_InvalidKinds ?aX_InvalidRows ?iX_InvalidRows ?tX_InvalidRows ?fX_InvalidRows ?cX_InvalidRows ?oX_InvalidRows ?rfl_v_InvalidRows ?rfl_f_InvalidRows ?lX_InvalidRows ?xX_InvalidRows ?rfl_t_InvalidRows ?mX_InvalidRows ?ks_h_InvalidRows ?bX_InvalidRows ?saX_InvalidRows ?noX_InvalidRows ?eX_InvalidRows ?yX_InvalidRows ?kX_InvalidRows ?ga_InvalidRows ?gg_InvalidRows ?hd_InvalidRows ?ha_InvalidRows ?ho_InvalidRows ?ex_InvalidRows ?k0_InvalidRows ?k1_InvalidRows ?k2_InvalidRows ?k3_InvalidRows ?k4_InvalidRows ?k5_InvalidRows ?k6_InvalidRows ?k7_InvalidRows ?k8_InvalidRows ?k9_InvalidRows ?k10_InvalidRows ?m0_InvalidRows ?m1_InvalidRows ?m2_InvalidRows ?hn_class ?ht_class ?z_len ?z_int_ ?z_abs_ ?z_divmod ?z_range ?z_list ?z_tuple ?z_repr ?z_min_ ?z_max_ ?z_isin ?z_str ?z_bool ?z_set_ ?z_enum ?z_all_
    (case a_law => k_is); (case l_law => k_is); (case c_law => k_is); (case k_law => k_is); (case a_purse => k_is); (case l_purse => k_is)
    (case c_purse => k_is); (case k_purse => k_is); (case a_draw => k_is); (case l_draw => k_is); (case c_draw => k_is); (case k_draw => k_is)
    (case a_pick => k_is); (case l_pick => k_is); (case c_pick => k_is); (case k_pick => k_is); (case a_sorts => k_is); (case l_sorts => k_is)
    (case c_sorts => k_is); (case k_sorts => k_is); (case a_word => k_is); (case l_word => k_is); (case c_word => k_is); (case k_word => k_is)
    (case a_kinds => k_is); (case l_kinds => k_is); (case c_kinds => k_is); (case k_kinds => k_is); (case a_cell => k_is); (case l_cell => k_is)
    (case c_cell => k_is); (case k_cell => k_is); (case a_cellOf => k_is); (case l_cellOf => k_is); (case c_cellOf => k_is); (case k_cellOf => k_is)
    (case a_optsOf => k_is); (case l_optsOf => k_is); (case c_optsOf => k_is); (case k_optsOf => k_is); (case a_conds => k_is); (case l_conds => k_is)
    (case c_conds => k_is); (case k_conds => k_is); (case a_res => k_is); (case l_res => k_is); (case c_res => k_is); (case k_res => k_is)
    (case a_row => k_is); (case l_row => k_is); (case c_row => k_is); (case k_row => k_is); (case a_first => k_is); (case l_first => k_is)
    (case c_first => k_is); (case k_first => k_is); (case a_value => k_is); (case l_value => k_is); (case c_value => k_is); (case k_value => k_is)
    (case a_tKh => k_is); (case l_tK => k_is); (case a_tRh => k_is); (case l_tR => k_is); (case a_tSh => k_is); (case l_tS => k_is)
    (case a_tCh => k_is); (case l_tC => k_is); (case a_tEh => k_is); (case l_tE => k_is); (case a_most => k_is); (case aC => k_is)
    (case pg => k_is); (case hd => k_is); (case po => k_is); (case sa => k_is); (case nk => k_is); (case nr => k_is)
    (case nc => k_is); (case ha => k_is); (case hn => k_is); (case htk => k_is); (case hm => k_is); (case mkI => k_is)
    (case kC => k_is); (case a_init => k_is); (case i_init => k_is); (case l_init => k_is); (case c_init => k_is); (case k_init => k_is)
    (case lT => k_is); (case lEmp => k_is); (case a_pkinds => k_is); (case g_pkinds => k_is); (case t_pkinds => k_is); (case r_pkinds => k_is)
    (case l_pkinds => k_is); (case c_pkinds => k_is); (case k_pkinds => k_is); (case a_mlen => k_is); (case i_mlen => k_is); (case l_mlen => k_is)
    (case c_mlen => k_is); (case k_mlen => k_is); (case a_caught => k_is); (case l_caught => k_is); (case c_caught => k_is); (case k_caught => k_is)
    (case a_right => k_is); (case l_right => k_is); (case c_right => k_is); (case k_right => k_is); (case o_right => k_is); (case rfl_tright => first | rfl | decide +kernel | kernel_rfl)
    (case aX_InvalidText => k_is); (case aX_InvalidEdit => k_is); (case aX_InvalidFirst => k_is); (case aX_InvalidChange => k_is); (case aX_InvalidArrival => k_is); (case aX_NotATable => k_is)
    (case aX_InvalidEdits => k_is); (case aX_UnknownName => k_is); (case aX_CannotDo => k_is); (case aX_BadValue => k_is); (case aX_BadName => k_is); (case aX_NoAnswer => k_is)
    (case z_super => k_is); (case rfl_top => first | rfl | decide +kernel | kernel_rfl); (case any_z => k_is); (case aX_InvalidKinds => k_is); (case iX_InvalidKinds => k_is); (case tX_InvalidKinds => k_is)
    (case fX_InvalidKinds => k_is); (case cX_InvalidKinds => k_is); (case oX_InvalidKinds => k_is); (case rfl_v_InvalidKinds => first | rfl | decide +kernel | kernel_rfl); (case rfl_f_InvalidKinds => first | rfl | decide +kernel | kernel_rfl); (case lX_InvalidKinds => k_is)
    (case xX_InvalidKinds => k_is); (case rfl_t_InvalidKinds => first | rfl | decide +kernel | kernel_rfl); (case mX_InvalidKinds => k_is); (case ks_h_InvalidKinds => ks_is); (case bX_InvalidKinds => k_is); (case saX_InvalidKinds => k_is)
    (case noX_InvalidKinds => k_is); (case eX_InvalidKinds => k_is); (case yX_InvalidKinds => k_is); (case kX_InvalidKinds => k_is); (case ga_InvalidKinds => k_is); (case gg_InvalidKinds => k_is)
    (case hd_InvalidKinds => k_is); (case ha_InvalidKinds => k_is); (case ho_InvalidKinds => k_is); (case ex_InvalidKinds => kernel_rfl); (case k0_InvalidKinds => kernel_rfl); (case k1_InvalidKinds => kernel_rfl)
    (case k2_InvalidKinds => kernel_rfl); (case k3_InvalidKinds => kernel_rfl); (case k4_InvalidKinds => kernel_rfl); (case k5_InvalidKinds => kernel_rfl); (case k6_InvalidKinds => kernel_rfl); (case k7_InvalidKinds => kernel_rfl)
    (case k8_InvalidKinds => kernel_rfl); (case k9_InvalidKinds => kernel_rfl); (case k10_InvalidKinds => kernel_rfl); (case m0_InvalidKinds => kernel_rfl); (case m1_InvalidKinds => kernel_rfl); (case m2_InvalidKinds => kernel_rfl)
    (case aX_InvalidRows => k_is); (case iX_InvalidRows => k_is); (case tX_InvalidRows => k_is); (case fX_InvalidRows => k_is); (case cX_InvalidRows => k_is); (case oX_InvalidRows => k_is)
    (case rfl_v_InvalidRows => first | rfl | decide +kernel | kernel_rfl); (case rfl_f_InvalidRows => first | rfl | decide +kernel | kernel_rfl); (case lX_InvalidRows => k_is); (case xX_InvalidRows => k_is); (case rfl_t_InvalidRows => first | rfl | decide +kernel | kernel_rfl); (case mX_InvalidRows => k_is)
    (case ks_h_InvalidRows => ks_is); (case bX_InvalidRows => k_is); (case saX_InvalidRows => k_is); (case noX_InvalidRows => k_is); (case eX_InvalidRows => k_is); (case yX_InvalidRows => k_is)
    (case kX_InvalidRows => k_is); (case ga_InvalidRows => k_is); (case gg_InvalidRows => k_is); (case hd_InvalidRows => k_is); (case ha_InvalidRows => k_is); (case ho_InvalidRows => k_is)
    (case ex_InvalidRows => kernel_rfl); (case k0_InvalidRows => kernel_rfl); (case k1_InvalidRows => kernel_rfl); (case k2_InvalidRows => kernel_rfl); (case k3_InvalidRows => kernel_rfl); (case k4_InvalidRows => kernel_rfl)
    (case k5_InvalidRows => kernel_rfl); (case k6_InvalidRows => kernel_rfl); (case k7_InvalidRows => kernel_rfl); (case k8_InvalidRows => kernel_rfl); (case k9_InvalidRows => kernel_rfl); (case k10_InvalidRows => kernel_rfl)
    (case m0_InvalidRows => kernel_rfl); (case m1_InvalidRows => kernel_rfl); (case m2_InvalidRows => kernel_rfl); (case hn_class => k_is); (case ht_class => k_is); (case z_len => k_is)
    (case z_int_ => k_is); (case z_abs_ => k_is); (case z_divmod => k_is); (case z_range => k_is); (case z_list => k_is); (case z_tuple => k_is)
    (case z_repr => k_is); (case z_min_ => k_is); (case z_max_ => k_is); (case z_isin => k_is); (case z_str => k_is); (case z_bool => k_is)
    (case z_set_ => k_is); (case z_enum => k_is); (case z_all_ => k_is)
