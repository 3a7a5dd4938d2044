import PyProof.Rows.All
import Wide.All
import OpenK.AllK
import Wide.FinOn
import HandS.ForMost
import HandS.EndBits
import PyProof.ReprRoads
import HandS.TupSets
import HandS.DictComp
import HandS.Star
import KE.GoesMore
import HandS.MakeKwOnly
import HandS.Property
import HandS.IsInst
import KE.KCallOwn
import HandS.Codes
import HandS.WideBits
import HandS.Defaults
import HandS.Evl
import OpenK.KMake
import OpenK.KMore
import HandS.OwnEq
import HandS.ClsMeth
import PyProof.InstEq
import PyProof.Rows.CallKw2
import OpenK.KMeth
import PySem.Challenge.RW_passedits_k19_whole_written_otherwise
import HandS.WordsDict
import HandS.DictSub
import HandS.Walk
import PyProof.ReprLen
import KE.KxAffix
import HandS.SortInts
import HandS.Conv
import HandS.TupAny
import HandS.TupLe
import HandS.TryOnly
set_option Elab.async false
set_option linter.all false
set_option maxRecDepth 100000
set_option maxHeartbeats 4000000
/-! Own: defs that are called where no repr runs, repr of data, the end of a law for such a def. -/
namespace XG
open PySem PySem.Spec PyProof.Rows L2
/-- no repr runs around -/
def Calm (A : Around) : Prop := A.guards = some []
theorem Calm.deeper {A : Around} (h : Calm A) (e : Env) : Calm (A.deeper e) := h
/-- what a def promises where no repr runs around -/
structure FnG (P : Program) (w : World) (K : PySem.W.Frag) (mg : Str → Option Value) (base : Heap) (CX : CXT) (k : Nat) (f : Addr) (fd : FuncData) (ps : List Str) (sp : Sp) : Prop where
  len : ∀ vs H Q E, sp vs H Q E → vs.length = ps.length
  run : ∀ (A : Around) (outer : List Env) (s : Shared) (H : Hp) (args : Args) (us : List Value) (vs : List V) (Q : VK) (E : XK), Calm A → Room k A → Env0 P w K mg base A outer s H → BindsTo s fd args (ps.zip us) → Vals vs us → sp vs H Q E →
    codeAny (model P w) A (.call (.ref f) args) (CR CX outer P w H s Q E) s
section
variable {CX : CXT} {P : Program} {w : World} {K : PySem.W.Frag} {mg : Str → Option Value} {base : Heap} {k : Nat}
theorem fn_calm {f : Addr} {name qual : Str} {params : Arguments} {body : List Stmt} {scope : Scope} {dV kV doc pm cdv ct oc : Value} {an od : Option Addr}
    {osl : Array (Option Value)} {N ps : List Str} {sp : Sp} (lk : K.lookup f = some ⟨oc, od, .func (PySem.W.fnOf name qual params body scope dV kV doc pm an cdv ct), osl⟩) (hcd : PySem.W.codeIn K cdv qual = true) (S : FnScope N ps scope)
    (len : ∀ vs H Q E, sp vs H Q E → vs.length = ps.length)
    (hbody : ∀ (A : Around) (outer : List Env) (s : Shared) (H : Hp) (vs : List V) (Q : VK) (E : XK), Calm (A.deeper (envOfC qual scope s.heap.objs.size f cdv)) → Room k (A.deeper (envOfC qual scope s.heap.objs.size f cdv)) → sp vs H Q E →
      ∃ t, PSs (cxOf CX P w K mg base N qual scope f cdv A outer s H E) body t ∧ t { nx := fun _ H' => Q .non H', rt := Q } (start N vs) H) :
    FnG P w K mg base CX (k + 1) f (PySem.W.fnOf name qual params body scope dV kV doc pm an cdv ct) ps sp := by
  refine ⟨len, fun A outer s H args us vs Q E hc hr e0 hb r hsp => ?_⟩
  -- the rule for a def, at this one call: another promise that holds here alone
  have hl := len _ _ _ _ hsp
  have KX : K.In s.heap := e0.mod.kin.keeps fun b o e => (e0.bs b o e).1
  have lim : s.heap.NoLimit := e0.mod.nolimit.keeps fun b o e => (e0.bs b o e).1
  refine codeAny_call_function hr.depth (KX _ _ lk) rfl S.co S.gen rfl (PySem.W.codeRec_of KX hcd) (hb _ _ _ _ ?_)
  have hkind : ∀ y ∈ ps.zip us, scope.names.lookup y.1 = some .local ∨ (scope.names.lookup y.1 = some .cell ∧ ((cellsFrom (s.heap.objs.size + 1) scope.names []).lookup y.1).isSome = true) := by
    rintro ⟨n, v⟩ hy
    rcases S.par n (List.of_mem_zip hy).1 with q | q
    · exact .inl q
    · exact .inr ⟨q, PySem.W.cellsFrom_some _ _ _ (.inl q)⟩
  refine wpAny_newFunctionEnv_cells S.kind hkind fun env he s1 x => ?_
  subst he
  refine ⟨lim.keeps x.toInCall.keep, codeAny_func ?_⟩
  obtain ⟨t, ht, hq⟩ := hbody A outer s H vs Q E (hc.deeper _) (hr.deeper _) hsp
  have I := inv_start (CX := CX) (E := E) S hr.hd e0 hl r x
  refine wpAny_mono (ht.run [] s1 (start N vs) H _ I hq) (fun fl s' hs => ?_) fun e s' hs => hs
  cases fl with
  | ret u =>
    obtain ⟨v, σ', H', J, rv, q⟩ := hs
    exact ⟨v, H', J.os, J.bare, J.base, J.hok, rv, q⟩
  | next =>
    obtain ⟨σ', H', J, q⟩ := hs
    exact ⟨.non, H', J.os, J.bare, J.base, J.hok, rfl, q⟩
  | brk => obtain ⟨_, _, _, q⟩ := hs; exact False.elim q
  | cont => obtain ⟨_, _, _, q⟩ := hs; exact False.elim q
theorem okG {x qual : Str} {st : Stmt} {f : Addr} {fd : FuncData} {N ps : List Str} {sp : Sp} (F : Fun K x qual st f fd) (S : FnScope N ps (defScope st)) (len : ∀ vs H Q E, sp vs H Q E → vs.length = ps.length)
    (hbody : ∀ (cdv : Value) (A : Around) (outer : List Env) (s : Shared) (H : Hp) (vs : List V) (Q : VK) (E : XK), Calm (A.deeper (envOfC qual (defScope st) s.heap.objs.size f cdv)) → Room k (A.deeper (envOfC qual (defScope st) s.heap.objs.size f cdv)) → sp vs H Q E →
      ∃ t, PSs (cxOf CX0 P w K mg base N qual (defScope st) f cdv A outer s H E).nox (defBody st) t ∧ t { nx := fun _ H' => Q .non H', rt := Q } (start N vs) H) : FnG P w K mg base CX0 (k + 1) f fd ps sp := by
  obtain ⟨oc, od, kV, doc, pm, an, cdv, ct, osl, rfl, lk, hcd⟩ := F.ex
  refine fn_calm lk hcd S len fun A outer s H vs Q E hc hr hsp => ?_
  obtain ⟨t, h, q⟩ := hbody cdv A outer s H vs Q E hc hr hsp
  exact ⟨t, h.nox, q⟩
end
section
variable {X : Cx} {CX : CXT} {k : Nat} {f : Addr} {fd : FuncData} {ps : List Str} {sp : Sp} {dvs : List V} {ds : List Value} {E : XK} {x : Str} {p pos : Pos} {e : Expr} {es : List Expr} {t : TA}
/-- f(e, ..) of such a def -/
theorem pe_callG (F : FnG X.prog X.w X.K X.mg X.base CX k f fd ps sp) (hc : Calm X.A) (hr : Room k X.A) (hg : Gl X x) (hm : X.mg x = some (.ref f)) (hk : PySem.W.keepIn X.K (.ref f) = true) (hb : Binds X.K fd ps ds) (hd : Vals dvs ds) (hx : Passes CX X E)
    (ha : PA X (e :: es) t) (hdb : (x == ("__debug__" : Str)) = false := by decide) (he : starEach (e :: es) X.env = (false, eval e X.env) :: starEach es X.env := by rfl) (hpl : (backTo pos (starEach es X.env)).any (·.1) = false := by rfl) :
    PE X (.Call (.Name x p) (e :: es) [] pos) (tCall sp dvs E t) := by
  refine ⟨fun pins s σ H Q I h => wpAny_Call_Name_kw (ld_glob I hg hm ?_ hdb)⟩
  refine PySem.W.callWith_K (h₀ := X.base) I.ok.mod.kin hk (thn (ha.run pos pins s σ H _ I h) fun us s1 ⟨vs, H1, I1, r, q⟩ => ⟨I1.kIn, ?_⟩) he hpl
  have r2 : Vals (vs ++ dvs) (us ++ ds) := r.append hd
  have hl : (us ++ ds).length = ps.length := by rw [← r2.length]; exact F.len _ _ _ _ q
  refine wpAny_call (codeAny_mono (F.run X.A X.stack s1 H1 ⟨us, []⟩ (us ++ ds) (vs ++ dvs) Q E hc hr I1.env0 (hb s1 us I1.kIn hl) r2 q) fun r s' hq => ?_)
  cases r with
  | error er => exact hx pins σ H1 s1 er s' I1 hq
  | ok fl =>
    cases fl with
    | ret u => exact I1.after hq
    | _ => exact False.elim hq

/-! ### repr of data -/
def rRepr (K : PySem.W.Frag) : List V → Hp → VK → Prop := fun xs H Q => ∃ v d, xs = [v] ∧ Dp K H v d ∧ d.showable = true ∧ d.hasDict = false ∧ d.depth ≤ 32 ∧ d.shown.length ≤ sizeLine ∧ Q (.str d.shown) H
theorem call_repr (hc : Calm X.A) (hu : X.A.units + 64 < cLine) : CallR X (.builtin "repr") (rRepr X.K) := by
  intro pins s σ H xs us Q I r h
  obtain ⟨v, d, rfl, hd, hs, hn, hdp, hz, q⟩ := h
  obtain ⟨u, rfl, ru⟩ := Vals.one r
  obtain ⟨as, rd⟩ := Dp.reads I d v u hd ru
  have onHeap : ∀ a, u = Value.ref a → wpAny (model X.prog X.w) X.A (call (.builtin "repr") [u]) (EP X pins σ Q) X.xe s := fun a e => by
    subst e
    refine repr_of_reads' rd hs (PyData.noDict_hsm hn) hc (by omega) (fun _ _ z => z) (fun h' u tk hk => ?_) hz
    exact ⟨.str d.shown, H, I.kept hk, ⟨u, rfl⟩, q⟩
  cases hd with
  | non =>
    cases ru
    exact PySem.P.repr_of_none ⟨.str _, H, I.tok _, ⟨_, rfl⟩, by simpa only [PyData.shown] using q⟩
  | bl b =>
    cases ru
    exact PySem.P.repr_of_bool ⟨.str _, H, I.tok _, ⟨_, rfl⟩, by simpa only [PyData.shown] using q⟩
  | int i =>
    obtain ⟨t, rfl⟩ := ru
    exact PySem.P.repr_of_int (by simpa [PyData.showable] using hs) ⟨.str _, H, I.tok _, ⟨_, rfl⟩, by simpa only [PyData.shown] using q⟩
  | str x =>
    obtain ⟨t, rfl⟩ := ru
    exact PySem.P.repr_of_str ⟨.str _, H, I.tok _, ⟨_, rfl⟩, by simpa only [PyData.shown] using q⟩ (by simpa only [PyData.shown] using hz)
  | lst _ _ => exact onHeap _ ru
  | tup _ _ => exact onHeap _ ru
end

/-! ### the end of a law whose def wants that no repr runs around -/
theorem end_calm {P : Program} {w : World} {K : PySem.W.Frag} {mg mb : Str → Option Value} {k : Nat} {fa a : Addr} {fd : FuncData} {x : Str} {sp : Sp} {z : Shared} {vs : List Value} {ns : List Int}
    (KX : K.In z.heap) (hns : z.heap.Ns mainGlobals mg) (hb : z.heap.Ns builtinsNs mb) (hbb : ∀ x : Str, x ≠ "__name__" → mb x = bootBuiltins x) (hlim : z.heap.NoLimit) (hg : z.gens = #[])
    (ha : z.heap.get? a = some { cls := .type "list", data := .seq vs.toArray }) (hi : IntsAre vs ns) (hl : ns.length ≤ sizeLine) (hr : Room k callerA)
    (F : ∀ base : Heap, K.In base → base.Ns mainGlobals mg → FnG P w K mg base CX0 k fa fd [x] sp) (hbind : ∀ (s : Shared) (u : Value), BindsTo s fd ⟨[u], []⟩ [(x, u)])
    (hsp : ∀ H : Hp, Only H → SqL K H a (ns.map V.int) → sp [.ref a] H (fun v _ => v = .bl true) fun _ _ _ => False) :
    codeAny (model P w) callerA (.call (.ref fa) ⟨[.ref a], []⟩) (fun r s' => r = .ok (.ret (.bool true)) ∧ OldK z.heap s'.heap ∧ s'.os = z.os ∧ AllBare s'.gens) z := by
  have go : ∀ H : Hp, Only H → SqL K H a (ns.map V.int) → HOk P w H z.heap → (∀ b, H b ≠ none → b = a ∧ K.lookup a = none) →
      codeAny (model P w) callerA (.call (.ref fa) ⟨[.ref a], []⟩) (fun r s' => r = .ok (.ret (.bool true)) ∧ OldK z.heap s'.heap ∧ s'.os = z.os ∧ AllBare s'.gens) z := by
    intro H hO hS hok hA
    have free : ∀ {b : Addr} {o : Obj}, z.heap.get? b = some o → o.data ≠ .seq vs.toArray 0 → H b = none := fun {b o} e d => by
      cases q : H b with
      | none => rfl
      | some u =>
        have e1 := (hA b (by rw [q]; simp)).1
        rw [e1, ha] at e
        exact absurd (by rw [← Option.some.inj e]) d
    have ns_of : ∀ {b : Addr} {m : Str → Option Value}, z.heap.Ns b m → (hidT z.heap H).Ns b m := fun {b m} n => by
      obtain ⟨o, es, ep, e, d, r⟩ := n
      exact ⟨o, es, ep, hidT_get e (free e fun q => by rw [d] at q; cases q), d, r⟩
    have kb : K.In (hidT z.heap H) := fun b o e => by
      refine hidT_get (KX b o e) ?_
      cases q : H b with
      | none => rfl
      | some u =>
        obtain ⟨e1, e2⟩ := hA b (by rw [q]; simp)
        rw [e1, e2] at e
        cases e
    obtain ⟨mc, c1, c2⟩ := hlim
    have M : Mod K mg (hidT z.heap H) := ⟨kb, ns_of hns, ⟨mb, ns_of hb, hbb⟩, mc, ns_of c1, c2⟩
    have e0 : Env0 P w K mg (hidT z.heap H) callerA [] z H := ⟨rfl, M, fun b o e => of_hidT e, Nat.le_of_eq (hidT_size _ _), trivial, fun b hb => absurd (show b ∈ ([] : List Addr) from hb) (by simp), hok, .of_eq hg⟩
    refine codeAny_mono ((F _ kb (ns_of hns)).run callerA [] z H ⟨[.ref a], []⟩ [.ref a] [.ref a] _ _ rfl hr e0 (hbind z (.ref a)) (.cons rfl .nil) (hsp H hO hS)) fun r s' h => ?_
    cases r with
    | error e => exact h.elim
    | ok fl =>
      cases fl with
      | ret u =>
        obtain ⟨v, H', os, bare, un, hok', r', q⟩ := h
        obtain rfl : v = .bl true := q
        obtain rfl : u = Value.bool true := r'
        refine ⟨rfl, OldK.of_keep fun b o e => ?_, os, bare⟩
        rcases hO b with q | ⟨ob, xs, q⟩
        · exact un.keep b o e q (fun i => absurd (show b ∈ ([] : List Addr) from i) (by simp)) (by simp)
        · have e1 := (hok b _ q).1
          rw [e] at e1
          rw [Option.some.inj e1]
          exact (hok' b _ (un.frzs b ob _ q)).1
      | _ => exact False.elim h
  have rv := vals_ints hi
  cases hk : K.lookup a with
  | some o =>
    have e := KX a o hk
    rw [ha] at e
    cases e
    exact go (fun _ => none) (fun _ => .inl rfl) (.inr ⟨_, vs.toArray, _, hk, rfl, rfl, rfl, by rw [List.size_toArray, hi.length]; exact hl, by simpa using rv⟩) (fun b u q => by cases (show (none : Option HO) = some u from q)) fun b q => absurd rfl q
  | none =>
    refine go (fun b => if b = a then some (.frz { cls := .type "list", data := .seq vs.toArray } (.lst (ns.map V.int))) else none) (fun b => ?_) (.inl (.inr ⟨{ cls := .type "list", data := .seq vs.toArray }, if_pos rfl⟩)) (fun b u q => ?_) fun b q => ?_
    · by_cases hb : b = a
      · exact .inr ⟨_, _, if_pos hb⟩
      · exact .inl (if_neg hb)
    · by_cases hb : b = a
      · have q' := (if_pos hb).symm.trans q
        cases q'
        subst hb
        exact ⟨ha, by rw [List.length_map]; exact hl, vs, _, rv, ha⟩
      · have q' := (if_neg hb).symm.trans q
        cases q'
    · by_cases hb : b = a
      · exact ⟨hb, hk⟩
      · exact absurd (if_neg hb) q
theorem walk_calm {l : PySem.W.OpenLaw} {n k : Nat} {q : Program} {loose : List Str} {XP : (Str → Option Value) → Heap → Prop} {YP : World → Heap → Prop} {d : DefRec} {K : Params → PySem.W.Frag} {sp : World → Sp} {x : Str}
    (hn : l.most = some n) (hn2 : n ≤ sizeLine) (hdf : d.params.defaults = []) (hr : Room k callerA)
    (hY : ∀ (w : World) (h : Heap), YP w h → (K w.params).In h)
    (F : ∀ (w : World) (mg : Str → Option Value) (fa : Addr) (h : Heap), (K w.params).In h → h.Ns mainGlobals mg → mg d.name = some (.ref fa) →
      ∃ fd : FuncData, (∀ (s : Shared) (u : Value), BindsTo s fd ⟨[u], []⟩ [(x, u)]) ∧
        ∀ base : Heap, (K w.params).In base → base.Ns mainGlobals mg → FnG l.prog w (K w.params) mg base CX0 k fa fd [x] (sp w))
    (hsp : ∀ (w : World) (H : Hp) (a : Addr) (ns : List Int), ns.length ≤ n → (∀ z ∈ ns, Builtin.Int.intBits z ≤ 1048576) → Only H → SqL (K w.params) H a (ns.map V.int) → sp w [.ref a] H (fun v _ => v = .bl true) fun _ _ _ => False) :
    PySem.W.WalkO q loose XP YP l.row.toRowW d [] (fun f vs => PySem.call f vs) := by
  refine Att.attach_callB hn hdf fun w s₀ s₁ mg mb fa o pm cd doc a vs ns G Y ho hd hcd hmg hobj hints hlen hbits hg => ?_
  have KX := hY w _ Y
  obtain ⟨fd, hb, hF⟩ := F w mg fa _ KX G.T.g hmg
  exact end_calm KX G.T.g G.T.b G.T.builtins G.T.nolimit hg hobj hints (Nat.le_trans hlen hn2) hr hF hb fun H hO hS => hsp w H a ns hlen hbits hO hS
end XG
/-! Own: sets whose members are tuples of ints and texts; made, grown, asked. -/
namespace XS
open PySem PySem.Spec PyProof.Rows L2
abbrev Nm := List Key
abbrev kh (P : Program) (w : World) (k : Nm) : Int := tupleKeyHash (mixKind P w) k
abbrev At (P : Program) (w : World) (h : Heap) (k : Nm) (b : Addr) : Prop := IsTupleKey (mixKind P w) h k b

section
variable {P : Program} {w : World} {A : Around} {E : Value → Shared → Prop} {s : Shared}
theorem stmt_val (n : Nat) {v : Value} (h : carriedByValue v = true) : ofAClassStatement n v = pure false := by
  cases v with
  | ref a => exact absurd h (by simp [carriedByValue])
  | _ => cases n <;> rfl
theorem stmt_tup {k : Nm} {b : Addr} {Q : Bool → Shared → Prop} (hk : At P w s.heap k b) (h : Q false s) : wpAny (model P w) A (ofAClassStatement 8 (.ref b)) Q E s := by
  have ty := hk.typeIs
  obtain ⟨o, its, n, ho, _, hd, hi⟩ := hk
  unfold ofAClassStatement
  refine wpAny_bind (wpAny_typeOf ty ?_)
  dsimp only
  simp only [show (("tuple" : String) == "tuple") = true from by decide, if_true, Bool.not_true, Bool.false_eq_true, if_false]
  try refine wpAny_bind (wpAny_pure ?_)
  try simp only [Bool.not_true, Bool.false_eq_true, if_false]
  show wpAny _ _ (seqItems? (.ref b) >>= _) _ _ s
  refine wpAny_bind (wpAny_seqItems ho hd ?_)
  dsimp only
  refine wpAny_bind ?_
  show wpAny _ _ (forIn its _ _) _ _ s
  rw [← Array.forIn_toList]
  refine wpAny_forIn_list _ (fun rest r t => r.1 = none ∧ t = s ∧ ∀ v ∈ rest, carriedByValue v = true) _ ?_ ?_ _ _ ⟨rfl, rfl, hi.byValue⟩
  · rintro v rest r t ⟨hr, rfl, al⟩
    rw [stmt_val _ (al v List.mem_cons_self)]
    refine wpAny_bind (wpAny_pure ?_)
    simp only [Bool.false_eq_true, if_false]
    exact wpAny_pure ⟨rfl, rfl, fun u hu => al u (List.mem_cons_of_mem _ hu)⟩
  · rintro ⟨r1, r2⟩ t ⟨hr, rfl, _⟩
    simp only at hr
    subst hr
    exact wpAny_pure h
/-- whatever is said of the hash, some truth comes out -/
theorem byval_some (n : Nat) {k : Key} {v : Value} (h : keyIs k v = true) : ∃ r : Bool, hashByValue n v = pure r := by
  rcases keyIs_shape h with ⟨i, t, rfl, rfl⟩ | ⟨x, t, rfl, rfl⟩
  · exact ⟨true, by cases n <;> rfl⟩
  · exact ⟨false, by cases n <;> rfl⟩
theorem items_some {k : Nm} {vs : List Value} (h : ItemsAre (mixKind P w) k vs) : ∀ v ∈ vs, ∃ q : Key, keyIs q v = true := by
  induction h with
  | nil => intro v hv; cases hv
  | @cons q v' ks vs h1 _ ih =>
    intro v hv
    rcases List.mem_cons.mp hv with e | hv
    · exact ⟨q, by rw [e]; exact h1⟩
    · exact ih v hv
theorem byval_tup {k : Nm} {b : Addr} {Q : Bool → Shared → Prop} (hk : At P w s.heap k b) (h : ∀ r, Q r s) : wpAny (model P w) A (hashByValue 8 (.ref b)) Q E s := by
  have ty := hk.typeIs
  obtain ⟨o, its, n, ho, _, hd, hi⟩ := hk
  unfold hashByValue
  refine wpAny_bind (wpAny_specialOf ty F.slot_tuple_hash.lookup ?_)
  show wpAny _ _ (seqItems? (.ref b) >>= _) _ _ s
  refine wpAny_bind (wpAny_seqItems ho hd ?_)
  refine wpAny_bind ?_
  show wpAny _ _ (forIn its _ _) _ _ s
  rw [← Array.forIn_toList]
  refine wpAny_forIn_list _ (fun rest r t => t = s ∧ ∀ v ∈ rest, ∃ q : Key, keyIs q v = true) _ ?_ ?_ _ _ ⟨rfl, items_some hi⟩
  · rintro v rest r t ⟨rfl, al⟩
    obtain ⟨q, hq⟩ := al v List.mem_cons_self
    obtain ⟨y, ey⟩ := byval_some 7 hq
    rw [ey]
    refine wpAny_bind (wpAny_pure ?_)
    cases y with
    | true =>
      simp only [Bool.not_true, Bool.false_eq_true, if_false]
      exact wpAny_pure ⟨rfl, fun u hu => al u (List.mem_cons_of_mem _ hu)⟩
    | false =>
      simp only [Bool.not_false, if_true]
      refine wpAny_pure ?_
      exact wpAny_pure (h _)
  · rintro ⟨r1, r2⟩ t ⟨rfl, _⟩
    cases r1 with
    | none => exact wpAny_pure (h _)
    | some y => exact wpAny_pure (h _)
theorem seen_keys {k : Nm} {b : Addr} {Q : Bool → Shared → Prop} (hk : At P w s.heap k b) {ys : List Value} (hy : ∀ y ∈ ys, ∃ k' c, y = Value.ref c ∧ At P w s.heap k' c) (h : Q false s) :
    wpAny (model P w) A (searchCouldBeSeen (.ref b) ys) Q E s := by
  unfold searchCouldBeSeen
  refine wpAny_bind ?_
  refine wpAny_forIn_list _ (fun rest r t => r.1 = none ∧ t = s ∧ ∀ y ∈ rest, ∃ k' c, y = Value.ref c ∧ At P w s.heap k' c) _ ?_ ?_ _ _ ⟨rfl, rfl, hy⟩
  · rintro v rest r t ⟨hr, rfl, al⟩
    obtain ⟨k', c, rfl, hc⟩ := al v List.mem_cons_self
    have more : ∀ y ∈ rest, ∃ k' c, y = Value.ref c ∧ At P w t.heap k' c := fun u hu => al u (List.mem_cons_of_mem _ hu)
    dsimp only
    by_cases hv : (b == c || (carriedByValue (.ref b) && carriedByValue (.ref c))) = true
    · exact wp_if_pos hv (wpAny_pure ⟨rfl, rfl, more⟩)
    · refine wp_if_neg hv ?_
      refine wpAny_bind (wpAny_eqIsQuiet_tuple hk ?_)
      simp only [Bool.not_true, Bool.false_eq_true, if_false]
      refine wpAny_bind (wpAny_eqIsQuiet_tuple hc ?_)
      simp only [Bool.not_true, Bool.false_eq_true, if_false]
      refine wpAny_bind (stmt_tup hk ?_)
      simp only [Bool.false_eq_true, if_false]
      refine wpAny_bind (stmt_tup hc ?_)
      simp only [Bool.false_eq_true, if_false]
      exact wpAny_pure ⟨rfl, rfl, more⟩
  · rintro ⟨r1, r2⟩ t ⟨hr, rfl, _⟩
    simp only at hr
    subst hr
    exact wpAny_pure h

abbrev names (L : List (Addr × Nm)) : List Nm := L.map Prod.snd
def hasN (L : List (Addr × Nm)) (k : Nm) : Bool := (names L).any fun j => decide (j = k)
theorem hasN_pos {L : List (Addr × Nm)} {k : Nm} (h : k ∈ names L) : hasN L k = true := List.any_eq_true.mpr ⟨k, h, decide_eq_true rfl⟩
theorem hasN_neg {L : List (Addr × Nm)} {k : Nm} (h : k ∉ names L) : hasN L k = false := by
  cases e : hasN L k with
  | false => rfl
  | true =>
    obtain ⟨j, hj, ej⟩ := List.any_eq_true.mp e
    exact absurd (of_decide_eq_true ej ▸ hj) h
theorem hasN_iff {L : List (Addr × Nm)} {k : Nm} : hasN L k = true ↔ k ∈ names L :=
  ⟨fun h => Classical.byContradiction fun n => (by rw [hasN_neg n] at h; cases h), hasN_pos⟩
/-- the entries of the set's table for the rows L -/
def ents (P : Program) (w : World) (L : List (Addr × Nm)) : List (Int × Value) := L.map fun p => (kh P w p.2, Value.ref p.1)
theorem ents_len (L : List (Addr × Nm)) : (ents P w L).length = L.length := by
  unfold ents
  exact List.length_map ..
/-- the set at a has the rows L, its table being laid as it should -/
structure Tab (P : Program) (w : World) (h : Heap) (a : Addr) (L : List (Addr × Nm)) (es : Array (Int × Value)) (ep : Nat) (t : SetTable) : Prop where
  obj : ∃ o, h.get? a = some o ∧ o.ExactSet ∧ o.data = .set es ep t
  rows : es.toList = ents P w L
  tab : TabOk t (L.map fun p => kh P w p.2)
  once : (names L).Nodup
  mem : ∀ p ∈ L, At P w h p.2 p.1
  room : L.length * 5 < t.mask * 3
variable {a : Addr} {L : List (Addr × Nm)} {es : Array (Int × Value)} {ep : Nat} {t : SetTable}
theorem Tab.size (R : Tab P w s.heap a L es ep t) : es.size = L.length := by
  have q := congrArg List.length R.rows
  rw [ents_len, Array.length_toList] at q
  exact q
theorem Tab.fits (R : Tab P w s.heap a L es ep t) : t.fits es.size = true := by
  have q1 := R.tab.sz
  rw [List.length_map] at q1
  have q2 := R.size
  have q3 := R.room
  unfold SetTable.fits SetTable.fill
  rw [R.tab.dm, Bool.and_eq_true, beq_iff_eq, decide_eq_true_eq]
  refine ⟨by omega, ?_⟩
  show t.place.size + 0 ≤ t.mask
  omega
theorem Tab.entry (R : Tab P w s.heap a L es ep t) {i : Nat} {p : Addr × Nm} (h : L[i]? = some p) : es[i]? = some (kh P w p.2, Value.ref p.1) := by
  rw [← Array.getElem?_toList, R.rows, ents, List.getElem?_map, h]
  rfl
theorem Tab.stays (R : Tab P w s.heap a L es ep t) : ¬ t.gaveWay = true := by
  unfold SetTable.gaveWay
  rw [mask_odd R.tab.mok]
  decide
theorem dummy_nth (m : Nat) : ∀ (n : Nat) (p : SetTable.Probe), p.dummy = none → (nth m p n).dummy = none
  | 0, _, h => h
  | n + 1, p, h => dummy_nth m n (adv m p) (by
      unfold adv
      split <;> exact h)

/-- the c-th probe on the way of the hash -/
abbrev onWay (t : SetTable) (h : Int) (c : Nat) : SetTable.Probe := nth t.mask (runAt t.mask (SetTable.bits h % (t.mask + 1)) (SetTable.bits h)) c
theorem find_from (adding : Bool) (R : Tab P w s.heap a L es ep t) {x : Addr} {k : Nm} (hx : At P w s.heap k x) (hu : A.units < cLine) {K : Nat} (hKf : K < 10 * SetTable.turns t.mask)
    (hK : way t.mask (kh P w k) K ∉ t.place.toList) (hKb : ∀ c, c < K → way t.mask (kh P w k) c ∈ t.place.toList) {Q : SetFound → Shared → Prop}
    (hin : k ∈ names L → ∀ r : Option Nat, (adding = false → r.isSome = true) → Q (.there r) s) (hout : k ∉ names L → Q (.free (way t.mask (kh P w k) K) false) s) :
    ∀ (f c : Nat) (stand : Option SetTable.Probe), stand.getD (t.probeStart (kh P w k)) = onWay t (kh P w k) c → c ≤ K → K - c < f →
      (∀ (i : Nat) p, L[i]? = some p → p.2 = k → ∃ c', c ≤ c' ∧ c' < K ∧ t.place.toList[i]? = some (way t.mask (kh P w k) c')) →
      wpAny (model P w) A (setSearchFrom a (.ref x) (kh P w k) adding f stand) Q E s
  | 0, c, stand, _, _, hf, _ => absurd hf (Nat.not_lt_zero _)
  | f + 1, c, stand, hst, hc, hf, hre => by
    obtain ⟨o, ho, hex, hd⟩ := R.obj
    rw [setSearchFrom_succ]
    refine wpAny_bind (wpAny_setState_of ho hd R.fits ?_)
    dsimp only
    refine wp_if_neg R.stays ?_
    try refine wpAny_bind (wpAny_pure ?_)
    have sh : ∀ q, nth t.mask (onWay t (kh P w k) c) q = onWay t (kh P w k) (c + q) := fun q => (nth_add t.mask c _ q).symm
    have e1 : ∀ q, (nth t.mask (onWay t (kh P w k) c) q).j = way t.mask (kh P w k) (c + q) := fun q => congrArg SetTable.Probe.j (sh q)
    have spec := go_spec t R.tab.ris R.tab.dm (fun i => (es[i]?.map (·.1)).getD 0) (kh P w k) (10 * SetTable.turns t.mask) (K - c) (onWay t (kh P w k) c) (dummy_nth _ c _ rfl) (by omega)
      (fun q hq => by rw [e1]; exact hKb (c + q) (by omega)) (by rw [e1, show c + (K - c) = K by omega]; exact hK)
    have hashAt : ∀ (i : Nat) p, L[i]? = some p → (fun i => (es[i]?.map (·.1)).getD 0) i = kh P w p.2 := fun i p hp => by
      show (es[i]?.map (·.1)).getD 0 = _
      rw [R.entry hp]
      rfl
    rcases spec with ⟨q, i, hq, hi, hh, hno, hpr⟩ | ⟨hno, hpr⟩
    · have hpr' : t.probe (fun i => (es[i]?.map (·.1)).getD 0) (kh P w k) (stand.getD (t.probeStart (kh P w k))) = some (.candidate (way t.mask (kh P w k) (c + q)) i (onWay t (kh P w k) (c + (q + 1)))) := by
        rw [hst, ← e1, ← sh]
        exact hpr
      rw [hpr']
      dsimp only
      rw [e1] at hi
      have hil : i < L.length := by
        have z1 : i < t.place.toList.length := (List.getElem?_eq_some_iff.mp hi).1
        have z2 := R.tab.sz
        rw [List.length_map] at z2
        rw [Array.length_toList] at z1
        omega
      obtain ⟨p, hp⟩ : ∃ p, L[i]? = some p := ⟨_, List.getElem?_eq_getElem hil⟩
      have hmem : p ∈ L := List.mem_of_getElem? hp
      have hpt := R.mem p hmem
      have hsl : t.slot (way t.mask (kh P w k) (c + q)) = .live i := slot_live R.tab.ris hi
      have rest : wpAny (model P w) A (searchRest a (.ref x) (kh P w k) adding f es t (way t.mask (kh P w k) (c + q)) i (onWay t (kh P w k) (c + (q + 1)))) Q E s := by
        unfold searchRest
        rw [R.entry hp]
        dsimp only
        refine wpAny_bind (wpAny_holding (wpAny_eqBool_tuple hu hpt hx ?_))
        refine wpAny_bind (wpAny_setState_of ho hd R.fits ?_)
        dsimp only
        by_cases hkk : p.2 = k
        · have hm : k ∈ names L := List.mem_map.mpr ⟨p, hmem, hkk⟩
          cases adding with
          | true =>
            refine wp_if_pos (by simp [hkk]) ?_
            exact wpAny_pure (hin hm none fun z => nomatch z)
          | false =>
            refine wp_if_neg (by simp) ?_
            try refine wpAny_bind (wpAny_pure ?_)
            rw [sameMem]
            dsimp only
            simp only [if_true, hsl, R.entry hp]
            refine wpAny_bind (wpAny_isSame_ref_self (wpAny_bind (wpAny_pure ?_)))
            simp only [if_true]
            refine wp_if_pos (by simp [hkk]) ?_
            exact wpAny_pure (hin hm (some i) fun _ => rfl)
        · refine wp_if_neg (by simp [hkk]) ?_
          try refine wpAny_bind (wpAny_pure ?_)
          rw [sameMem]
          dsimp only
          simp only [if_true, hsl, R.entry hp]
          refine wpAny_bind (wpAny_isSame_ref_self (wpAny_bind (wpAny_pure ?_)))
          simp only [if_true]
          refine wp_if_neg (by simp [hkk]) ?_
          refine find_from adding R hx hu hKf hK hKb hin hout f (c + (q + 1)) _ rfl (by omega) (by omega) fun i0 p0 h0 hk0 => ?_
          obtain ⟨c', a1, a2, a3⟩ := hre i0 p0 h0 hk0
          refine ⟨c', ?_, a2, a3⟩
          have hne : c' ≠ c + q := fun z => by
            rw [z] at a3
            have s0 := slot_live R.tab.ris a3
            rw [hsl] at s0
            injection s0 with s0
            rw [← s0, hp] at h0
            exact hkk ((congrArg Prod.snd (Option.some.inj h0)).trans hk0)
          have hge : ¬ c' < c + q := fun z => by
            refine hno (c' - c) i0 (by omega) (by rw [e1, show c + (c' - c) = c' by omega]; exact a3) ?_
            exact (hashAt i0 p0 h0).trans (congrArg (kh P w) hk0)
          omega
      by_cases hl : t.led = true
      · refine wp_if_neg (by simp [hl]) ?_
        try refine wpAny_bind (wpAny_pure ?_)
        exact rest
      · refine wp_if_pos (by simp [hl]) ?_
        refine wpAny_bind (seen_keys hx (fun y hy => ?_) ?_)
        · obtain ⟨e, he, ee⟩ := List.mem_map.mp hy
          have he1 : e ∈ es ∧ e.1 = kh P w k := by simpa using he
          have he2 : e ∈ es.toList := by simpa using he1.1
          rw [R.rows] at he2
          obtain ⟨p2, hp2, e2⟩ := List.mem_map.mp he2
          exact ⟨p2.2, p2.1, by rw [← ee, ← e2], R.mem p2 hp2⟩
        · refine wp_if_neg (by decide) ?_
          try refine wpAny_bind (wpAny_pure ?_)
          exact rest
    · have hpr' : t.probe (fun i => (es[i]?.map (·.1)).getD 0) (kh P w k) (stand.getD (t.probeStart (kh P w k))) = some (.empty (way t.mask (kh P w k) K) none) := by
        have e2 : way t.mask (kh P w k) K = (nth t.mask (onWay t (kh P w k) c) (K - c)).j := by
          rw [e1, show c + (K - c) = K by omega]
        rw [hst, e2]
        exact hpr
      rw [hpr']
      dsimp only
      refine wpAny_pure (hout fun hm => ?_)
      obtain ⟨p0, h0, hk0⟩ := List.mem_map.mp hm
      obtain ⟨i0, hi0, e0⟩ := List.getElem_of_mem h0
      have h00 : L[i0]? = some p0 := by rw [List.getElem?_eq_getElem hi0, e0]
      obtain ⟨c', a1, a2, a3⟩ := hre i0 p0 h00 hk0
      refine hno (c' - c) i0 (by omega) (by rw [e1, show c + (c' - c) = c' by omega]; exact a3) ?_
      exact (hashAt i0 p0 h00).trans (congrArg (kh P w) hk0)
theorem find_at (adding : Bool) (R : Tab P w s.heap a L es ep t) {x : Addr} {k : Nm} (hx : At P w s.heap k x) (hu : A.units < cLine) {Q : SetFound → Shared → Prop}
    (hin : k ∈ names L → ∀ r : Option Nat, (adding = false → r.isSome = true) → Q (.there r) s)
    (hout : ∀ K, k ∉ names L → way t.mask (kh P w k) K ∉ t.place.toList → (∀ c, c < K → way t.mask (kh P w k) c ∈ t.place.toList) → Q (.free (way t.mask (kh P w k) K) false) s) :
    wpAny (model P w) A (setSearch a (.ref x) (kh P w k) adding) Q E s := by
  have hroom := R.room
  obtain ⟨K, hKf, hK, hKb⟩ := R.tab.first (by rw [List.length_map]; omega) (kh P w k)
  have hbig : K < 100000 := by
    have : 10 * SetTable.turns t.mask ≤ 1420 := by
      unfold SetTable.turns
      rcases R.tab.mok with e | e | e <;> omega
    omega
  unfold setSearch
  refine find_from adding R hx hu hKf hK hKb hin (fun hn => hout K hn hK hKb) 100000 0 none rfl (Nat.zero_le _) (by omega) fun i p hp hk => ?_
  have hi : (L.map fun p => kh P w p.2)[i]? = some (kh P w k) := by
    rw [List.getElem?_map, hp, ← hk]
    rfl
  have hil : i < t.place.toList.length := by
    have z1 : i < L.length := (List.getElem?_eq_some_iff.mp hp).1
    have z2 := R.tab.sz
    rw [List.length_map] at z2
    rw [Array.length_toList]
    omega
  have hj := List.getElem?_eq_getElem hil
  obtain ⟨c, hc, e⟩ := R.tab.before hK hi hj
  exact ⟨c, Nat.zero_le _, hc, by rw [hj, e]⟩

/-! ### asking -/
theorem has_tup {x : Addr} {k : Nm} {Q : Value → Shared → Prop} (R : Tab P w s.heap a L es ep t) (hx : At P w s.heap k x) (hu : A.units + 1 < cLine) (h : ∀ tk, Q (.bool (hasN L k)) { s with toks := tk }) :
    wpAny (model P w) A (compareOp .In (.ref x) (.ref a)) Q E s := by
  obtain ⟨o, ho, hex, hd⟩ := R.obj
  have ty : s.TypeIs (.ref a) "set" := ⟨o, ho, hex.1⟩
  show wpAny _ _ (do return .bool (← contains (.ref a) (.ref x))) Q E s
  refine wpAny_bind ?_
  unfold contains
  try with_reducible refine wpAny_holding ?_
  refine wpAny_bind (wpAny_specialOf ty F.slot_set_contains.lookup ?_)
  show wpAny _ _ (if (some (Value.builtin "set.__contains__") == some Value.none) = true then _ else _) _ E s
  rw [if_neg (by rw [beq_builtin_none]; exact Bool.false_ne_true)]
  refine wpAny_bind (wpAny_callSpecialUnlessNone?_slot (name := Str.ofString "__contains__") ty F.slot_set_contains
    (wpAny_call_entry F.slot_set_contains ty entry_set_contains ?_ (F.args_set_contains_2 _ _)))
  unfold Builtin.«frozenset.__contains__» Builtin.Frozenset.oneOther
  simp only [List.isEmpty_nil, bind_assoc]
  unfold Builtin.Frozenset.addrOf Builtin.Frozenset.withSetAsKey setContains
  refine wpAny_bind (wpAny_pure ?_)
  try dsimp only
  refine wpAny_bind (wpAny_pure ?_)
  try dsimp only
  refine wpAny_bind (wpAny_tryCatch ?_)
  refine wpAny_holding ?_
  have hu1 : A.in1.units < cLine := hu
  refine wpAny_bind ((tupleKind (mixKind P w)).pyHash hu1 hx ?_)
  have hR : Tab P w ({ s with toks := s.toks + (tupleKind (mixKind P w)).draws k } : Shared).heap a L es ep t := R
  unfold setFind
  rw [show (100000 : Nat) = 99999 + 1 from rfl]
  unfold setFindIn
  refine wpAny_bind ?_
  refine wpAny_bind (wpAny_setState_of ho hd R.fits ?_)
  dsimp only
  refine wp_if_neg (by simp [byScan, Value.scannable]) ?_
  try refine wpAny_bind (wpAny_pure ?_)
  refine wpAny_bind (find_at false hR hx hu1 (fun hm r hr => ?_) fun K hm _ _ => ?_)
  · dsimp only
    refine wpAny_pure ?_
    refine wpAny_pure ?_
    rw [hr rfl]
    refine wpAny_pure ⟨_, rfl, wpAny_truthy_bool (wpAny_pure ?_)⟩
    have q := h (s.toks + (tupleKind (mixKind P w)).draws k)
    rw [hasN_pos hm] at q
    exact q
  · dsimp only
    refine wpAny_pure ?_
    refine wpAny_pure ?_
    refine wpAny_pure ⟨_, rfl, wpAny_truthy_bool (wpAny_pure ?_)⟩
    have q := h (s.toks + (tupleKind (mixKind P w)).draws k)
    rw [hasN_neg hm] at q
    exact q

/-! ### growing -/
theorem at_set {h h' : Heap} {k : Nm} {a b : Addr} {o : Obj} {es : Array (Int × Value)} {ep : Nat} {t : SetTable} (hb : At P w h k b) (ho : h.get? a = some o) (hd : o.data = .set es ep t) (hs : Heap.SameBut a h h') : At P w h' k b := by
  obtain ⟨o', its, n, ho', hc, hd', hi⟩ := hb
  have hne : b ≠ a := fun z => by
    rw [z, ho] at ho'
    rw [← Option.some.inj ho', hd] at hd'
    exact nomatch hd'
  exact ⟨o', its, n, (hs.2 b hne).trans ho', hc, hd', hi⟩
theorem at_keep {h h' : Heap} {k : Nm} {b : Addr} (x : At P w h k b) (hk : ∀ c o, h.get? c = some o → h'.get? c = some o) : At P w h' k b := by
  obtain ⟨o, its, n, ho, r⟩ := x
  exact ⟨o, its, n, hk b o ho, r⟩
theorem ents_put (L : List (Addr × Nm)) (p : Nat) (x : Addr) (k : Nm) : ents P w (L.take p ++ (x, k) :: L.drop p) = (ents P w L).take p ++ (kh P w k, Value.ref x) :: (ents P w L).drop p := by
  unfold ents
  rw [List.map_append, List.map_cons, List.map_take, List.map_drop]
theorem mid_perm {α : Type} (L : List α) (p : Nat) (x : α) : (L.take p ++ x :: L.drop p).Perm (x :: L) := by
  have q : (L.take p ++ x :: L.drop p).Perm (x :: (L.take p ++ L.drop p)) := List.perm_middle
  rwa [List.take_append_drop] at q
theorem pick_all {α : Type} (L : List α) : (List.range L.length).filterMap (fun i => L[i]?) = L := by
  have key : ∀ n, n ≤ L.length → (List.range n).filterMap (fun i => L[i]?) = L.take n := by
    intro n
    induction n with
    | zero => intro _; rfl
    | succ n ih =>
      intro hn
      have hlt : n < L.length := hn
      rw [List.range_succ, List.filterMap_append, ih (Nat.le_of_lt hlt), List.take_succ, List.getElem?_eq_getElem hlt, List.filterMap_cons_some (List.getElem?_eq_getElem hlt)]
      rfl
  rw [key L.length (Nat.le_refl _), List.take_length]
/-- rows laid in another order -/
theorem reorder (L : List (Addr × Nm)) (es : Array (Int × Value)) (order : Array Nat) (hr : es.toList = ents P w L) (hp : order.toList.Perm (List.range L.length)) :
    ∃ L2, (order.filterMap (es[·]?)).toList = ents P w L2 ∧ L2.Perm L ∧ (L2.map fun p => kh P w p.2) = order.toList.map fun i => (es.map (·.1)).getD i 0 := by
  have ent : ∀ i (h : i < L.length), es[i]? = some (kh P w (L[i]).2, Value.ref (L[i]).1) := fun i h => by
    rw [← Array.getElem?_toList, hr, ents, List.getElem?_map, List.getElem?_eq_getElem h]
    rfl
  have hsz : es.size = L.length := by
    have q := congrArg List.length hr
    rw [ents_len, Array.length_toList] at q
    exact q
  have key : ∀ l : List Nat, (∀ i ∈ l, i < L.length) → l.filterMap (fun i => es[i]?) = ents P w (l.filterMap fun i => L[i]?) ∧ ((l.filterMap fun i => L[i]?).map fun p => kh P w p.2) = l.map fun i => (es.map (·.1)).getD i 0 := by
    intro l
    induction l with
    | nil => intro _; exact ⟨rfl, rfl⟩
    | cons i l ih =>
      intro hl
      have hi := hl i List.mem_cons_self
      obtain ⟨e1, e3⟩ := ih fun j hj => hl j (List.mem_cons_of_mem _ hj)
      have e4 : (es.map (·.1)).getD i 0 = kh P w (L[i]).2 := by
        have e5 : (es.map (·.1))[i]? = some (kh P w (L[i]).2) := by
          rw [Array.getElem?_map, ent i hi]
          rfl
        simp [Array.getD_eq_getD_getElem?, e5]
      rw [List.filterMap_cons_some (ent i hi), List.filterMap_cons_some (List.getElem?_eq_getElem hi), e1, List.map_cons, List.map_cons, e3, e4]
      exact ⟨rfl, rfl⟩
  obtain ⟨e1, e3⟩ := key order.toList fun i hi => List.mem_range.mp (hp.mem_iff.mp hi)
  refine ⟨_, by first | (rw [Array.toList_filterMap]; exact e1) | simpa using e1, ?_, e3⟩
  have q := hp.filterMap (fun i => L[i]?)
  rwa [pick_all L] at q
theorem relay_tab {o : Obj} (ho : s.heap.get? a = some o) (hex : o.ExactSet) (hd : o.data = .set es ep t) (hrows : es.toList = ents P w L) (hsz : t.place.size = es.size) (hdm : t.dummies = #[]) (hfl : es.size ≤ t.mask)
    (once : (names L).Nodup) (mem : ∀ p ∈ L, At P w s.heap p.2 p.1) {wanted M : Nat} (few : L.length < 64)
    (hw : SetTable.sizeAbove wanted - 1 = M) (hM : MaskOk M) (hw2 : SetTable.sizeAbove wanted ≤ 128) (hn : L.length * 5 < M * 3) {Q : Unit → Shared → Prop}
    (hQ : ∀ h' L' es' ep' t', Heap.SameBut a s.heap h' → Tab P w h' a L' es' ep' t' → L'.Perm L → Q () { s with heap := h' }) : wpAny (model P w) A (setRelay a wanted) Q E s := by
  have hsl : es.size = L.length := by
    have q := congrArg List.length hrows
    rw [ents_len, Array.length_toList] at q
    exact q
  have hfits : t.fits es.size = true := by
    unfold SetTable.fits SetTable.fill
    rw [hdm, Bool.and_eq_true, beq_iff_eq, decide_eq_true_eq]
    refine ⟨hsz, ?_⟩
    show t.place.size + 0 ≤ t.mask
    omega
  obtain ⟨t', order, e, hp, T, em, el, ep', ed⟩ := relaid_ok t (hs := es.map (·.1)) (wanted := wanted) hw hM (by rw [Array.size_map, hsl]; omega)
  rw [Array.size_map, hsl] at hp
  obtain ⟨L2, r1, r2, r3⟩ := reorder L es order hrows hp
  rw [← r3] at T
  have hs2 : (order.filterMap (es[·]?)).size = es.size := by
    have q := congrArg List.length r1
    rw [ents_len, Array.length_toList, r2.length_eq] at q
    rw [q, hsl]
  rw [setRelay_eq]
  refine wpAny_bind (wpAny_setState_of ho hd hfits ?_)
  dsimp only
  refine wp_if_neg (by rw [sizeLine_eq]; omega) ?_
  try refine wpAny_bind (wpAny_pure ?_)
  rw [e]
  dsimp only
  refine wpAny_bind ?_
  refine wp_if_neg (by rw [hs2]; simp) ?_
  try refine wpAny_bind (wpAny_pure ?_)
  refine wpAny_pure ?_
  dsimp only
  refine wpAny_storeSet_of ho hd ?_ (by rw [hs2, hsl, sizeLine_eq]; omega)
  have sb : Heap.SameBut a s.heap (s.heap.update a (Obj.putSet (order.filterMap (es[·]?)) t')) := Heap.SameBut.update ..
  refine hQ _ L2 (order.filterMap (es[·]?)) (ep + 1) t' sb ?_ r2
  exact ⟨⟨_, store_at ho hd, ⟨hex.1, hex.2.1, hex.2.2⟩, rfl⟩, r1, T, (r2.map Prod.snd).nodup_iff.mpr once, fun p hpm => at_set (mem p (r2.mem_iff.mp hpm)) ho hd sb, by rw [r2.length_eq, em]; exact hn⟩
theorem TabOk.unplain {t : SetTable} {hs : List Int} (T : TabOk t hs) : TabOk { t with plain := false } hs := ⟨T.ris, T.dm, T.sz, T.mok, T.bd, T.reach⟩
theorem add_tab (R : Tab P w s.heap a L es ep t) {x : Addr} {k : Nm} (hx : At P w s.heap k x) (hu : A.units < cLine) (hfew : L.length + 1 < 64) {Q : Bool → Shared → Prop}
    (hQ : ∀ b h' L' es' ep' t', Heap.SameBut a s.heap h' → Tab P w h' a L' es' ep' t' → (k ∈ names L → L' = L) → (k ∉ names L → L'.Perm ((x, k) :: L)) → Q b { s with heap := h' }) :
    wpAny (model P w) A (setAddHashed a (.ref x) (kh P w k)) Q E s := by
  obtain ⟨o, ho, hex, hd⟩ := R.obj
  have hsl := R.size
  have hroom := R.room
  unfold setAddHashed
  refine wpAny_holding ?_
  rw [show (100000 : Nat) = 99999 + 1 from rfl, setAddHashedIn_succ]
  refine wpAny_bind (wpAny_setState_of ho hd R.fits ?_)
  dsimp only
  refine wp_if_neg (by simp [byScan, Value.scannable]) ?_
  try refine wpAny_bind (wpAny_pure ?_)
  refine wpAny_bind (find_at true R hx hu (fun hm r _ => ?_) fun K hm hK hb => ?_)
  · dsimp only
    exact wpAny_pure (hQ false s.heap L es ep t (Heap.SameBut.refl a s.heap) R (fun _ => rfl) fun z => absurd hm z)
  · dsimp only
    refine wpAny_bind (wpAny_setState_of ho hd R.fits ?_)
    dsimp only
    obtain ⟨q1, q2, q3, q4, q5, q6, q7, q8, q9⟩ := R.tab.put hK hb
    generalize hpt : t.put (way t.mask (kh P w k) K) = pt at q1 q3 q4 q5 q6 q7 q8 q9 ⊢
    obtain ⟨t0, p⟩ := pt
    dsimp only at q1 q3 q4 q5 q6 q7 q8 q9 ⊢
    subst q1
    have hin : (SetTable.insertAt es (SetTable.below t.place (way t.mask (kh P w k) K)) (kh P w k, Value.ref x)).toList = ents P w (L.take (SetTable.below t.place (way t.mask (kh P w k) K)) ++ (x, k) :: L.drop (SetTable.below t.place (way t.mask (kh P w k) K))) := by
      rw [SetTable.toList_insertAt, ents_put, R.rows]
    generalize hpp : SetTable.below t.place (way t.mask (kh P w k) K) = p at q2 q3 hin ⊢
    have pm := mid_perm L p (x, k)
    have hlen : (L.take p ++ (x, k) :: L.drop p).length = L.length + 1 := pm.length_eq
    have hhs : (L.take p ++ (x, k) :: L.drop p).map (fun p => kh P w p.2) = (L.map fun p => kh P w p.2).take p ++ kh P w k :: (L.map fun p => kh P w p.2).drop p := by
      rw [List.map_append, List.map_cons, List.map_take, List.map_drop]
    rw [← hhs] at q3
    have nd1 : (names (L.take p ++ (x, k) :: L.drop p)).Nodup := by
      refine (pm.map Prod.snd).nodup_iff.mpr ?_
      rw [List.map_cons]
      exact List.nodup_cons.mpr ⟨hm, R.once⟩
    have hes : (SetTable.insertAt es p (kh P w k, Value.ref x)).size = L.length + 1 := by
      have q := congrArg List.length hin
      rw [ents_len, Array.length_toList, hlen] at q
      exact q
    generalize SetTable.insertAt es p (kh P w k, Value.ref x) = es1 at hin hes ⊢
    generalize L.take p ++ (x, k) :: L.drop p = L1 at pm hlen q3 nd1 hin
    -- the table, plain or not
    have main : ∀ t1 : SetTable, TabOk t1 (L1.map fun p => kh P w p.2) → t1.mask = t.mask → t1.fill = L.length + 1 →
        wpAny (model P w) A (storeSet a es1 t1 >>= fun _ => (if (!false && t1.tooFull) = true then (setRelay a (SetTable.grown (es.size + 1)) >>= fun _ => pure true) else pure true)) Q E s := fun t1 T1 em1 ef1 => by
      refine wpAny_bind (wpAny_storeSet_of ho hd ?_ (by rw [hes, sizeLine_eq]; omega))
      have sb : Heap.SameBut a s.heap (s.heap.update a (Obj.putSet es1 t1)) := Heap.SameBut.update ..
      have ho1 := store_at (es' := es1) (t' := t1) ho hd
      generalize s.heap.update a (Obj.putSet es1 t1) = h1 at sb ho1 ⊢
      have mem1 : ∀ p ∈ L1, At P w h1 p.2 p.1 := fun p hp => by
        rcases List.mem_cons.mp (pm.mem_iff.mp hp) with e | hp
        · rw [e]; exact at_set hx ho hd sb
        · exact at_set (R.mem p hp) ho hd sb
      by_cases hf : t1.tooFull = true
      · refine wp_if_pos (by simp [hf]) ?_
        have hfull : (L.length + 1) * 5 ≥ t1.mask * 3 := by
          have q := hf
          unfold SetTable.tooFull at q
          rw [decide_eq_true_eq, ef1] at q
          exact q
        rw [hsl]
        have hsz1 : t1.place.size = es1.size := by
          have q := T1.sz
          rw [List.length_map, hlen] at q
          rw [q, hes]
        have two : (t.mask = 7 ∧ L.length = 4) ∨ (t.mask = 31 ∧ L.length = 18) := by
          rcases R.tab.mok with e | e | e
          · left; rw [em1, e] at hfull; rw [e] at hroom; exact ⟨e, by omega⟩
          · right; rw [em1, e] at hfull; rw [e] at hroom; exact ⟨e, by omega⟩
          · exfalso; rw [em1, e] at hfull; omega
        have go : ∀ M, SetTable.sizeAbove (SetTable.grown (L.length + 1)) - 1 = M → MaskOk M → SetTable.sizeAbove (SetTable.grown (L.length + 1)) ≤ 128 → (L.length + 1) * 5 < M * 3 →
            wpAny (model P w) A (setRelay a (SetTable.grown (L.length + 1)) >>= fun _ => pure true) Q E { s with heap := h1 } := fun M h1' h2' h3' h4' => by
          refine wpAny_bind (relay_tab (s := { s with heap := h1 }) ho1 ⟨hex.1, hex.2.1, hex.2.2⟩ rfl hin hsz1 T1.dm (by rw [hes, em1]; rcases two with ⟨e, e2⟩ | ⟨e, e2⟩ <;> omega) nd1 mem1 (by rw [hlen]; exact hfew) h1' h2' h3' (by rw [hlen]; exact h4') ?_)
          intro h2 L2 es2 ep2 t2 sb2 R2 pm2
          exact wpAny_pure (hQ true h2 L2 es2 ep2 t2 (sb.trans sb2) R2 (fun z => absurd z hm) fun _ => pm2.trans pm)
        rcases two with ⟨_, e2⟩ | ⟨_, e2⟩
        · exact go 31 (by rw [e2, size_20]) (.inr (.inl rfl)) (by rw [e2, size_20]; decide) (by omega)
        · exact go 127 (by rw [e2, size_76]) (.inr (.inr rfl)) (by rw [e2, size_76]; decide) (by omega)
      · refine wp_if_neg (by simp [hf]) ?_
        refine wpAny_pure (hQ true h1 L1 es1 (ep + 1) t1 sb ⟨⟨_, ho1, ⟨hex.1, hex.2.1, hex.2.2⟩, rfl⟩, hin, T1, nd1, mem1, ?_⟩ (fun z => absurd z hm) fun _ => pm)
        have q := hf
        unfold SetTable.tooFull at q
        rw [decide_eq_true_eq, ef1] at q
        rw [hlen]
        omega
    have q9' : t0.fill = L.length + 1 := by rw [q9, List.length_map]
    have both : ∀ y : Bool, TabOk (if y = true then t0 else { t0 with plain := false }) (L1.map fun p => kh P w p.2) ∧ (if y = true then t0 else { t0 with plain := false }).mask = t.mask ∧ (if y = true then t0 else { t0 with plain := false }).fill = L.length + 1 := fun y => by
      cases y with
      | true => exact ⟨q3, q4, q9'⟩
      | false => exact ⟨TabOk.unplain q3, q4, q9'⟩
    by_cases hpl : t0.plain = true
    · refine wp_if_pos hpl ?_
      refine wpAny_bind (byval_tup hx fun y => ?_)
      exact main _ (both y).1 (both y).2.1 (both y).2.2
    · refine wp_if_neg hpl ?_
      refine wpAny_bind (wpAny_pure ?_)
      exact main _ (both true).1 (both true).2.1 (both true).2.2
theorem Tab.keep {h h' : Heap} {a : Addr} {L : List (Addr × Nm)} {es : Array (Int × Value)} {ep : Nat} {t : SetTable} (R : Tab P w h a L es ep t) (ha : ∀ o, h.get? a = some o → h'.get? a = some o) (hm : ∀ p ∈ L, At P w h' p.2 p.1) : Tab P w h' a L es ep t := by
  obtain ⟨o, ho, r⟩ := R.obj
  exact ⟨⟨o, ha o ho, r⟩, R.rows, R.tab, R.once, hm, R.room⟩
theorem Tab.fresh {h : Heap} {a : Addr} (ho : h.get? a = some { cls := .type "set", dict := none, data := .set #[] 0 (.fresh 0 0 (!w.params.followText "set-order")) }) : Tab P w h a [] #[] 0 (.fresh 0 0 (!w.params.followText "set-order")) where
  obj := ⟨_, ho, ⟨rfl, rfl, rfl⟩, rfl⟩
  rows := rfl
  tab := ⟨List.Pairwise.nil, rfl, rfl, .inl rfl, fun x hx => (by cases hx), fun i h j hi => (by simp at hi)⟩
  once := List.nodup_nil
  mem := fun p hp => (by cases hp)
  room := (by show 0 * 5 < 7 * 3; decide)
theorem add_call {x : Addr} {k : Nm} {Q : Value → Shared → Prop} (R : Tab P w s.heap a L es ep t) (hx : At P w s.heap k x) (hu : A.units + 1 < cLine) (hfew : L.length + 1 < 64)
    (hQ : ∀ h' L' es' ep' t' tk, Heap.SameBut a s.heap h' → Tab P w h' a L' es' ep' t' → (k ∈ names L → L' = L) → (k ∉ names L → L'.Perm ((x, k) :: L)) → Q .none { s with heap := h', toks := tk }) :
    wpAny (model P w) A (call (.builtin "set.add") [.ref a, .ref x]) Q E s := by
  obtain ⟨o, ho, hex, hd⟩ := id R.obj
  have ty : s.TypeIs (.ref a) "set" := ⟨o, ho, hex.1⟩
  refine wpAny_call_entry F.slot_set_add ty F.entry_set_add ?_ (F.args_set_add_2 _ _)
  unfold Builtin.«set.add» Builtin.Frozenset.oneOther
  simp only [List.isEmpty_nil, bind_assoc]
  unfold Builtin.Frozenset.addrOf setAdd
  refine wpAny_bind (wpAny_pure ?_)
  try dsimp only
  refine wpAny_bind (wpAny_pure ?_)
  try dsimp only
  refine wpAny_bind ?_
  refine wpAny_holding ?_
  have hu1 : A.in1.units < cLine := hu
  refine wpAny_bind ((tupleKind (mixKind P w)).pyHash hu1 hx ?_)
  have hR : Tab P w ({ s with toks := s.toks + (tupleKind (mixKind P w)).draws k } : Shared).heap a L es ep t := R
  refine add_tab hR hx hu1 hfew fun b h' L' es' ep' t' hs R' h1 h2 => ?_
  show wpAny _ _ (ret Value.none) _ _ _
  exact wpAny_pure ⟨_, rfl, hQ h' L' es' ep' t' _ hs R' h1 h2⟩
end

/-! ### over the layer -/
/-- the set of tuples at a, by its rows (the tuples' addresses and names); the tuples themselves are tracked beside it -/
structure Held (P : Program) (w : World) (h : Heap) (a : Addr) (L : List (Addr × Nm)) : Prop where
  ex : ∃ (es : Array (Int × Value)) (ep : Nat) (t : SetTable), (∃ o, h.get? a = some o ∧ o.ExactSet ∧ o.data = .set es ep t) ∧ es.toList = ents P w L ∧ TabOk t (L.map fun p => kh P w p.2) ∧ (names L).Nodup ∧ L.length * 5 < t.mask * 3
def SetN (P : Program) (w : World) (a : Addr) (L : List (Addr × Nm)) : HO := .ext fun h => Held P w h a L
section
variable {P : Program} {w : World} {H : Hp} {h : Heap} {a : Addr} {L : List (Addr × Nm)}
theorem Tab.held {es : Array (Int × Value)} {ep : Nat} {t : SetTable} (R : Tab P w h a L es ep t) : Held P w h a L := ⟨⟨es, ep, t, R.obj, R.rows, R.tab, R.once, R.room⟩⟩
theorem setN_ok (R : Held P w h a L) : ObjOk P w H h a (SetN P w a L) := by
  obtain ⟨es, ep, t, ⟨o, ho, r⟩, q⟩ := R.ex
  exact ⟨R, ⟨o, ho⟩, fun h1 h2 p k => by
    obtain ⟨es, ep, t, ⟨o, ho, r⟩, q⟩ := p.ex
    exact ⟨⟨es, ep, t, ⟨o, k o ho, r⟩, q⟩⟩⟩
/-- the rows' tuples stand in the heap -/
def Rows (H : Hp) (L : List (Addr × Nm)) : Prop := ∀ p ∈ L, H p.1 = some (.tup (p.2.map kV))
theorem setN_tab {X : Cx} {pins : List (Addr × Obj)} {σ : L2.St} {s : Shared} (I : Inv X pins σ H s) (ha : H a = some (SetN X.prog X.w a L)) (hr : Rows H L) : ∃ es ep t, Tab X.prog X.w s.heap a L es ep t := by
  obtain ⟨es, ep, t, ob, e, T, nd, rm⟩ := ((I.hok a _ ha).1 : Held X.prog X.w s.heap a L).ex
  exact ⟨es, ep, t, ob, e, T, nd, fun p hp => key_of I.hok (hr p hp), rm⟩
end
section
variable {X : Cx} {o e : Expr} {es : List Expr} {to : TE} {t : TA} {apos cpos : Pos}
/-- set() -/
def rSetNew (P : Program) (w : World) : List V → Hp → VK → Prop := fun xs H Q => xs = [] ∧ ∀ p, H p = none → Q (.ref p) (upd H p (SetN P w p []))
theorem cr_setNew : CallR X (.type "set") (rSetNew X.prog X.w) := by
  intro pins s σ H xs us Q I r h
  obtain ⟨rfl, q⟩ := h
  cases r
  refine setR_new fun _ => ?_
  exact ⟨.ref _, upd H s.heap.objs.size (SetN X.prog X.w s.heap.objs.size []), I.laid (t' := s.toks) (fun b u e => Heap.get?_push_of_some _ e) (Nat.le_refl _) (setN_ok (Tab.fresh (Heap.get?_push_size _ rfl)).held), rfl, q _ (I.hok.fresh (Nat.le_refl _))⟩
/-- found.add(t), t a tuple of names -/
def rSetAdd (P : Program) (w : World) : V → List V → Hp → VK → Prop := fun x xs H Q => ∃ (a b : Addr) (k : Nm) (L : List (Addr × Nm)), x = V.ref a ∧ xs = [V.ref b] ∧ H a = some (SetN P w a L) ∧ Rows H L ∧ H b = some (.tup (k.map kV)) ∧ L.length + 1 < 64 ∧
  ∀ L', (k ∈ names L → L' = L) → (k ∉ names L → L'.Perm ((b, k) :: L)) → Q .non (upd H a (SetN P w a L'))
theorem mt_setAdd (hu : X.A.units + 1 < cLine) : MtR X "set.add" (rSetAdd X.prog X.w) := by
  intro pins s σ H x xs v us Q I rx rxs h
  obtain ⟨a, b, k, L, rfl, rfl, ha, hr, hb, few, q⟩ := h
  cases rx
  cases rxs with
  | cons ry rt =>
    cases rt
    obtain rfl : _ = Value.ref b := ry
    obtain ⟨es, ep, t, R⟩ := setN_tab I ha hr
    refine add_call R (key_of I.hok hb) hu few fun h' L' es' ep' t' tk hs R' h1 h2 => ?_
    obtain ⟨o', ho', _⟩ := R'.obj
    exact ⟨.non, upd H a (SetN X.prog X.w a L'), I.write (e := a) (t' := tk) (by rw [ha]; trivial) (.inl rfl) (fun b u hb hu => (hs.2 b hb).trans hu) ⟨o', ho'⟩ (setN_ok R'.held), rfl, q L' h1 h2⟩
def tSetAdd (P : Program) (w : World) (to : TE) (t : TA) : TE := fun σ H Q => to σ H fun x H1 => (∃ a L, x = V.ref a ∧ H1 a = some (SetN P w a L) ∧ Rows H1 L) ∧ t σ H1 fun xs H2 => rSetAdd P w x xs H2 Q
theorem pe_setAdd (hu : X.A.units + 1 < cLine) (ho : PE X o to) (ha : PA X (e :: es) t)
    (hbase : attributeBase o "add" X.env (eval o X.env) = eval o X.env := by rfl)
    (hfew : ((backTo cpos (starEach (e :: es) X.env)).all (fun x => !x.1) && (backToKw cpos (keywordEach [] X.env)).all (fun x => x.1.isSome)
      && decide ((e :: es).length + ([] : List Keyword).length + (if ([] : List Keyword).isEmpty then 0 else 1) < 30)) = true := by rfl)
    (hline : (apos.endLine == cpos.line) = true := by rfl) (hs : starEach (e :: es) X.env = (false, eval e X.env) :: starEach es X.env := by rfl) (hplain : (backTo cpos (starEach es X.env)).any (·.1) = false := by rfl) :
    PE X (.Call (.Attribute o "add" apos) (e :: es) [] cpos) (tSetAdd X.prog X.w to t) := by
  refine ⟨fun pins s σ H Q I h => ?_⟩
  refine wpAny_Call_method_late hbase hfew hline rfl (thn (ho.run pins s σ H _ I h) fun v s1 ⟨x, H1, I1, r1, ty, q1⟩ => ?_)
  obtain ⟨a, L, rfl, hka, hkr⟩ := ty
  obtain ⟨es0, ep0, t0, R⟩ := setN_tab I1 hka hkr
  obtain ⟨o0, ho0, hex0, hd0⟩ := R.obj
  cases r1
  refine ⟨"set", "set.add", F.plainAttrs_set, F.slot_set_add, F.type_set_add, ⟨o0, ho0, hex0.1⟩, fun b eb => by injection eb with eb; subst eb; exact ⟨o0, ho0, hex0.2.1⟩, ?_⟩
  have hA := ha.run cpos pins s1 σ H1 _ I1 q1
  rw [hs] at hA ⊢
  refine Calls.callWith_builtin (by show (false || (backTo cpos (starEach es X.env)).any (·.1)) = false; rw [hplain] <;> rfl) (Calls.evalArgs_plain ?_)
  exact thn hA fun us s2 ⟨vs, H2, I2, r2, q2⟩ => mt_setAdd hu pins s2 σ H2 (.ref a) vs (.ref a) us Q I2 rfl r2 q2
/-- t in found -/
def rSetIn (P : Program) (w : World) : V → V → Hp → VK → Prop := fun x y H Q => ∃ (a b : Addr) (k : Nm) (L : List (Addr × Nm)), x = V.ref b ∧ y = V.ref a ∧ H a = some (SetN P w a L) ∧ Rows H L ∧ H b = some (.tup (k.map kV)) ∧ Q (.bl (hasN L k)) H
theorem op_setIn (hu : X.A.units + 1 < cLine) : OpR X (compareOp .In) (rSetIn X.prog X.w) := by
  intro pins s σ H x y v u Q I rx ry h
  obtain ⟨a, b, k, L, rfl, rfl, ha, hr, hb, q⟩ := h
  obtain rfl : v = Value.ref b := rx
  obtain rfl : u = Value.ref a := ry
  obtain ⟨es, ep, t, R⟩ := setN_tab I ha hr
  exact has_tup R (key_of I.hok hb) hu fun tk => ⟨.bl (hasN L k), H, I.tok tk, rfl, q⟩
end
end XS
/-! Own: enumerate over a tuple; a dict comprehension whose keys are tuples. -/
namespace XI
open PySem PySem.Spec PyProof.Rows L2
open AutoSeq1 (wpAny_loadPart')
theorem enum_new_tup (l : Addr) (items : Array Value) (o : Obj) (hc : o.cls = .type "tuple") (n : Nat) (hd : o.data = .seq items n) :
    Meets (Builtin.«enumerate.__new__» ⟨[.type "enumerate", .ref l], []⟩) (fun _ R s => s.heap.get? l = some o ∧
      R (.ok (.ret (.ref (s.heap.push { cls := .type "tuple_iterator", data := .fields #[.ref l, .int 0 0] }).objs.size)))
        { s with heap := (s.heap.push { cls := .type "tuple_iterator", data := .fields #[.ref l, .int 0 0] }).push { cls := .type "enumerate", data := .fields #[.none, .bool false, .ref s.heap.objs.size, rawInt 0, .none, .none] } }) :=
  .of_wp fun prog w A R s h => by
    obtain ⟨hp, g, d, tk, os⟩ := s
    obtain ⟨hl, h⟩ := h
    have hsub := sub_enumerate
    have hL : Heap.IsTuple (Shared.heap ⟨hp, g, d, tk, os⟩) l items := ⟨o, hl, hc, n, hd⟩
    wp_walk using wpAny_loadPart' hl
    refine wpAny_stack_any fun st => wpAny_pure ?_
    split
    · rename_i c _ _ _ _ _
      cases (c == Value.type "enumerate")
      · wp_walk using wpAny_loadPart' hl, wpAny_pyIter_tuple hL
        exact ⟨_, rfl, h⟩
      · wp_walk using wpAny_loadPart' hl, wpAny_pyIter_tuple hL
        exact ⟨_, rfl, h⟩
    · wp_walk using wpAny_loadPart' hl, wpAny_pyIter_tuple hL
      exact ⟨_, rfl, h⟩
theorem enum_call {prog : Program} {w : World} {A : Around} {E : Value → Shared → Prop} {s : Shared} {l : Addr} {items : Array Value} {Q : Value → Shared → Prop} (hL : s.heap.IsTuple l items)
    (h : ∀ h', IsEnum h' (s.heap.objs.size + 1) s.heap.objs.size 0 .none → h'.IsTupleIter s.heap.objs.size l 0 → h'.objs.size = s.heap.objs.size + 2 →
      (∀ b o, s.heap.get? b = some o → h'.get? b = some o) → Q (.ref (s.heap.objs.size + 1)) { s with heap := h' }) :
    wpAny (model prog w) A (call (.type "enumerate") [.ref l]) Q E s := by
  obtain ⟨o, hl, hc, n, hd⟩ := hL
  refine callType_new F.called_enumerate (by decide) (F.typeCall_enumerate_1 _) (F.newCall_enumerate_1 _) (fun obj => F.args_object_init_2 obj _) F.entry_enumerate_new
    (enum_new_tup l items o hc n hd) ⟨hl, ?_⟩
  have hz : (s.heap.push { cls := .type "tuple_iterator", data := .fields #[.ref l, .int 0 0] }).objs.size = s.heap.objs.size + 1 := Heap.size_push ..
  show _ ∧ _
  rw [hz]
  have he : IsEnum ((s.heap.push { cls := .type "tuple_iterator", data := .fields #[.ref l, .int 0 0] }).push
      { cls := .type "enumerate", data := .fields #[.none, .bool false, .ref s.heap.objs.size, rawInt 0, .none, .none] }) (s.heap.objs.size + 1) s.heap.objs.size 0 .none := by
    have q := Heap.get?_push_size (s.heap.push { cls := .type "tuple_iterator", data := .fields #[.ref l, .int 0 0] })
      (o := { cls := .type "enumerate", data := .fields #[.none, .bool false, .ref s.heap.objs.size, rawInt 0, .none, .none] }) rfl
    rw [hz] at q
    exact q
  exact ⟨⟨_, he, rfl⟩, h _ he ⟨_, Heap.get?_push_of_some _ (Heap.get?_push_size _ rfl), rfl, rfl⟩ (by rw [Heap.size_push, hz]) fun b o x => Heap.get?_push_of_some _ (Heap.get?_push_of_some _ x)⟩
theorem enum_endT {prog : Program} {w : World} {A : Around} {E : Value → Shared → Prop} {s : Shared} {e it l : Addr} {i : Nat} {k : Int} {items : Array Value} {old : Value} {Q : Option Value → Shared → Prop} (hh : A.handled = none)
    (he : IsEnum s.heap e it k old) (hit : s.heap.IsTupleIter it l i) (hl : s.heap.IsTuple l items) (hx : items[i]? = none) (hQ : ∀ h', Heap.ExtBut it s.heap h' → Q none { s with heap := h' }) : wpAny (model prog w) A (pyNext (.ref e)) Q E s := by
  have ty : s.TypeIs (.ref e) "enumerate" := ⟨_, he, rfl⟩
  unfold pyNext
  refine wpAny_bind (wpAny_attempt (wpAny_callSpecial?_slot (name := Str.ofString "__next__") ty F.slot_enumerate_next
    (wpAny_call_entry F.slot_enumerate_next ty F.entry_enumerate_next ?_ (F.args_enumerate_next_1 _))))
  show wpAny _ _ (field (.ref e) 2 >>= _) _ _ _
  refine wpAny_bind (wpAny_field he rfl (x := .ref it) rfl ?_)
  refine wpAny_bind (wpAny_nextOf_tuple_end hh hit hl hx fun h' x he' hx' => ?_)
  obtain ⟨o, ho, hc⟩ := hx'
  refine wpAny_bind (wpAny_isInstance (T := "StopIteration") (b := true) ⟨o, ho, hc⟩ isSubtype_stop ?_)
  exact wpAny_pure (hQ _ he')
/-- the tuple at a, each item in a new pair with its place -/
def Itet (K : PySem.W.Frag) (a : Addr) : It :=
  ⟨fun i H => ∃ (xs : List V) (x : V), SqT K H a xs ∧ xs[i]? = some x, fun i H v H' => ∃ T x, v = .ref T ∧ H T = none ∧ H' = upd H T (.tup [.int (i : Nat), x]) ∧ ∀ xs, SqT K H a xs → xs[i]? = some x, fun i H => ∃ xs : List V, SqT K H a xs ∧ xs.length ≤ i⟩
theorem turn_enumT {P : Program} {w : World} {K : PySem.W.Frag} {elts : List Expr} {kk : Nat} {tpos : Pos} (a e it : Addr) :
    Turn P w K (.Tuple elts kk tpos) (Itet K a) [e, it] e (fun i h => (∃ old, IsEnum h e it ((i : Nat) : Int) old) ∧ h.IsTupleIter it a i ∧ e ≠ it ∧ a ≠ it ∧ a ≠ e) where
  mem := by simp
  obj := fun i h st b hb => by
    obtain ⟨⟨old, he⟩, ⟨o, ho, hc, hd⟩, _⟩ := st
    have e' : b = e ∨ b = it := by simpa using hb
    rcases e' with z | z
    · rw [z]; exact ⟨_, he, fun v q => nomatch q⟩
    · rw [z]; exact ⟨o, ho, fun v q => by rw [hd] at q; cases q⟩
  keep := fun i h h' st k => by
    obtain ⟨⟨old, he⟩, hi, hne⟩ := st
    exact ⟨⟨old, k e (by simp) _ he⟩, hi.at fun o q => k it (by simp) o q, hne⟩
  item := by
    intro X hP hw hK hc i pins s σ H E I hf st hg
    subst hP hw hK
    obtain ⟨⟨old, he⟩, hit, hne, hai, hae⟩ := st
    obtain ⟨xs, x, hq, hx⟩ := hg
    obtain ⟨its, rv, p, hz⟩ := I.tuple hq
    obtain ⟨u, hu, ru⟩ := rv.get hx
    have hel : e < s.heap.objs.size := Heap.lt_size he
    have hil : it < s.heap.objs.size := by obtain ⟨_, q, _⟩ := hit; exact Heap.lt_size q
    have hT : s.heap.IsTuple a its.toArray := p
    have hlt : i < its.toArray.size := by
      have z1 := (List.getElem?_eq_some_iff.mp hu).1
      simpa using z1
    refine wpAny_pyNext_enum_itemD (Draws.tuple (A := X.A.in1) (I.ok.hd hc) it a hai its.toArray) he ⟨hit, hT⟩ hlt hne (by simp [hne, Ne.symm hae]) fun y h' tk hy ho hit' hT' hsz hk => ?_
    obtain rfl : y = u := by
      have z1 : its.toArray[i]? = some u := by simpa using hu
      exact Option.some.inj (hy.symm.trans z1)
    refine ⟨_, rfl, wpAny_letOwnedTupleGo_enum (s := { s with heap := h', toks := tk + 1 }) ho fun h'' he' sb => ?_⟩
    have hT2 : h''.get? s.heap.objs.size = some { cls := .type "tuple", data := .seq #[.int i tk, y] } := (sb.2 _ (Nat.ne_of_gt hel)).trans hT'
    have new : ObjOk X.prog X.w (upd H s.heap.objs.size (.tup [.int (i : Nat), x])) h'' s.heap.objs.size (.tup [.int (i : Nat), x]) :=
      ⟨by show 2 ≤ sizeLine; decide, [.int i tk, y], .cons ⟨_, rfl⟩ (.cons ru .nil), ⟨_, hT2, rfl, _, rfl⟩⟩
    have I1 : L2.Inv X pins σ (upd H s.heap.objs.size (.tup [.int (i : Nat), x])) { s with heap := h'', toks := tk + 1 } :=
      I.turnedNew (ch := [e, it]) (fun b ob hb q => (sb.2 b (fun z => hb (by simp [z]))).trans (hk b ob (fun z => hb (by simp [z])) (fun z => hb (by simp [z])) q)) hf (Nat.le_refl _) new
    refine ⟨.ref s.heap.objs.size, _, I1, rfl, ⟨_, x, rfl, I.hok.fresh (Nat.le_refl _), rfl, fun ys hy => by rw [I.tuple_inj hy hq]; exact hx⟩, ⟨⟨y, ?_⟩, hit'.1.at fun o q => (sb.2 it (Ne.symm hne)).trans q, hne, hai, hae⟩, fun b hb => ?_⟩
    · have e1 : ((i + 1 : Nat) : Int) = (i : Int) + 1 := by omega
      rw [e1]; exact he'
    · have hb' : b < s.heap.objs.size := by
        have e' : b = e ∨ b = it := by simpa using hb
        rcases e' with z | z
        · rw [z]; exact hel
        · rw [z]; exact hil
      rw [upd_ne (Nat.ne_of_lt hb')]
      exact (hf b hb).1
  done := by
    intro X hP hw hK hc i pins s σ H E I hf st hg
    subst hP hw hK
    obtain ⟨⟨old, he⟩, hit, hne, hai, hae⟩ := st
    obtain ⟨xs, hq, hx⟩ := hg
    obtain ⟨its, rv, p, hz⟩ := I.tuple hq
    obtain ⟨f0, f1, f2, f3, f4, f5⟩ := hf it (by simp)
    have hl := rv.length
    exact enum_endT (I.ok.hd hc) he hit (show s.heap.IsTuple a its.toArray from p) (by simp; omega) fun h' eb => ⟨rfl, I.turned (t' := s.toks) (fun b o hb q => eb b o hb q) f0 f1 f3 f4 f5⟩
  self := fun A i s Q E st h => by
    obtain ⟨⟨_, he⟩, _⟩ := st
    exact wpAny_pyIter_enum he h
def iEnumT (K : PySem.W.Frag) (ta : TA) : TI := fun σ H R => ta σ H fun vs H1 => ∃ a xs, vs = [.ref a] ∧ SqT K H1 a xs ∧ R (Itet K a) H1
theorem pi_enumT {X : Cx} {e : Expr} {ta : TA} {p pos tpos : Pos} {elts : List Expr} {kk : Nat} (hg : Gl X "enumerate") (hm : X.mg "enumerate" = none) (ha : PA X [e] ta) (hs : starEach [e] X.env = [(false, eval e X.env)] := by rfl) :
    PI X (.Tuple elts kk tpos) (.Call (.Name "enumerate" p) [e] [] pos) (iEnumT X.K ta) := by
  refine ⟨fun pins s σ H R I h => ?_⟩
  refine Call_ (ld_blt I hg hm boot_enumerate (PyProof.Rows.callWith_type1 (thn (ha.run pos pins s σ H _ I h) fun us s1 ⟨vs, H1, I1, r1, q1⟩ => ?_) hs rfl))
  obtain ⟨a, xs, ex, hq, q⟩ := q1
  subst ex
  obtain ⟨u, rfl, r⟩ := Vals.one r1
  obtain rfl : u = Value.ref a := r
  obtain ⟨its, rv, p', hz⟩ := I1.tuple hq
  have hal : a < s1.heap.objs.size := by obtain ⟨_, z, _⟩ := p'; exact Heap.lt_size z
  refine enum_call p' fun h' he hit hsz hk => wpAny_pyIter_enum he ?_
  have I2 : L2.Inv X pins σ H1 { s1 with heap := h' } := I1.kept (t' := s1.toks) hk
  refine ⟨s1.heap.objs.size + 1, [s1.heap.objs.size + 1, s1.heap.objs.size], _, _, H1, rfl, I2, turn_enumT a (s1.heap.objs.size + 1) s1.heap.objs.size, ⟨⟨.none, he⟩, hit, Nat.succ_ne_self _, Nat.ne_of_lt hal, Nat.ne_of_lt (Nat.lt_succ_of_lt hal)⟩, fun b hb => ?_, q⟩
  have e' : b = s1.heap.objs.size + 1 ∨ b = s1.heap.objs.size := by simpa using hb
  have hle : s1.heap.objs.size ≤ b := by
    rcases e' with z | z
    · rw [z]; exact Nat.le_add_right _ _
    · rw [z]; exact Nat.le_refl _
  exact I1.fpOk hle (I1.hok.fresh hle)

/-! ### {k: v for x in t}, the keys tuples of names -/
theorem dt_put {X : Cx} {pins : List (Addr × Obj)} {σ : L2.St} {H : Hp} {s : Shared} {E : Value → Shared → Prop} {D b : Addr} {kvs : List (List Key × V)} {k : List Key} {v : V} {r : Value} {Q : Unit → Shared → Prop} (hu : X.A.units + 1 < cLine) (I : L2.Inv X pins σ H s) (hD : H D = some (.dT kvs)) (hz : kvs.length < sizeLine)
    (hb : H b = some (.tup (k.map kV))) (rv : L2.RelV v r) (h : ∀ s', L2.Inv X pins σ (upd H D (.dT (putK kvs k v))) s' → Q () s') : wpAny (model X.prog X.w) X.A (dictSet D (.ref b) r) Q E s := by
  obtain ⟨z, hd, xs, rel, dd⟩ := dt_of I.hok hD
  have hzx : xs.length ≤ sizeLine := by rw [← Paired.length rel]; exact z
  have hl : (putK kvs k v).length ≤ sizeLine := by
    have := length_putK kvs k v
    omega
  refine wpAny_dictSet_heap (hsz := hzx) (knd := tupleKind (mixKind X.prog X.w)) (show X.A.units < cLine by omega) (key_of I.hok hb) dd fun h' dd' hs => h _ ?_
  obtain ⟨q, es, ep, hq, h2, h3, h4, _, h5⟩ := dd'
  refine d_write I (by rw [hD]; exact True.intro) hs ⟨q, hq⟩ ⟨hl, hd, _, (rel.put k hb rv).keeps fun c ys ec => ?_, q, es, ep, hq, h2, h3, h4, h5⟩
  rw [upd_ne (ne_of ec hD (fun z => nomatch z))]
  exact ec
section
variable {X : Cx}
def tDcT (wi : TI) (g : TG) (tt : TT) (tk tv : TE) (vs : List Nat) : TE := fun σ H Q => wi σ H fun J H1 => ∀ D, H1 D = none → ∃ W : Nat → Nat → Hp → Prop, (∃ m, W 0 m (upd H1 D (.dT []))) ∧ ∀ i m H, W i m H →
  (J.stop i H ∧ Q (.ref D) H) ∨ (J.go i H ∧ ∃ Nx : Hp → Prop, (∀ H', Nx H' → ∃ m', m' < m ∧ W (i + 1) m' H') ∧ ∀ x H', J.yld i H x H' → g x (wipe σ vs) H' fun σ2 H2 => wipe σ2 vs = wipe σ vs ∧ tt σ2 H2 fun b H3 =>
    if b = true then tk σ2 H3 fun y H4 => tv σ2 H4 fun z H5 => ∃ kvs k a, y = .ref a ∧ H5 a = some (.tup (List.map kV k)) ∧ H5 D = some (.dT kvs) ∧ kvs.length < sizeLine ∧ Nx (upd H5 D (.dT (putK kvs k z))) else Nx H3)
theorem pe_dcT {kx vx tg iter : Expr} {ifs : List Expr} {scope : Scope} {own : List (Str × Nat)} {pos : Pos} {wi : TI} {g : TG} {tt : TT} {tk tv : TE} (hu : X.A.units + 1 < cLine) (hc : X.calm = true) (hN : X.N.Nodup) (hi : PI X tg iter wi) (ok : BlkOk X.N X.env.scope scope own)
    (hg : ∀ (s : Shared) (H : Hp) (C : Addr) (cl : List (Str × Addr)) (fp : List Addr), PG (X.blk s H scope (compEnvC scope cl C X.env) fp) tg g) (ht : ∀ (s : Shared) (H : Hp) (C : Addr) (cl : List (Str × Addr)) (fp : List Addr), PTs (X.blk s H scope (compEnvC scope cl C X.env) fp) ifs tt)
    (hk : ∀ (s : Shared) (H : Hp) (C : Addr) (cl : List (Str × Addr)) (fp : List Addr), PE (X.blk s H scope (compEnvC scope cl C X.env) fp) kx tk)
    (he : ∀ (s : Shared) (H : Hp) (C : Addr) (cl : List (Str × Addr)) (fp : List Addr), PE (X.blk s H scope (compEnvC scope cl C X.env) fp) vx tv) (hs : ∀ x, foldedSetIterable iter X.env x = pure x := by intro _; rfl) :
    PE X (.DictComp kx vx [⟨tg, iter, ifs, 0⟩] scope pos) (tDcT wi g tt tk tv (own.map (·.2))) := by
  refine ⟨fun pins s σ H Q I h => ?_⟩
  rw [arm_eval_DictComp]
  have hfree : ∀ y ∈ scope.names, y.2 = .free → ∃ c, X.env.cells.lookup y.1 = some c := fun y hy e => by
    rcases ok.free y hy e with k | k
    · exact I.ok.has _ (.inl k)
    · exact I.ok.has _ (.inr k)
  refine wpAny_comprehension_free (use := none) rfl hs (closure_ok hfree) ok.kind (fun y hy e => by rw [ok.uniq y hy, e])
    (thn (hi.run pins s σ H _ I h) fun xv s1 hx => thn hx fun itv s2 h2 => ?_)
  obtain ⟨it, fp, tn, J, H2, e, I2, T, st2, f2, q⟩ := h2
  subst e
  refine wpAny_newObj_type (newEnv_comp ?_)
  generalize hD : s2.heap.objs.size = D
  have hDn : H2 D = none := I2.hok.fresh (Nat.le_of_eq hD)
  obtain ⟨W, ⟨m0, w0⟩, turn⟩ := q D hDn
  generalize hs3 : ({ s2 with heap := s2.heap.push { cls := .type "dict", data := .dict #[] } } : Shared) = s3
  have I3 : L2.Inv X pins σ (upd H2 D (.dT [])) s3 := by
    rw [← hs3]
    refine I2.laid (t' := s2.toks) (fun b o e => Heap.get?_push_of_some _ e) (Nat.le_of_eq hD) ?_
    rw [← hD]
    exact dt_empty s2.heap I2.big
  have h3 : s3.heap = s2.heap.push { cls := .type "dict", data := .dict #[] } := by rw [← hs3]
  have sz : ∀ b ∈ fp, b < s2.heap.objs.size := fun b hb => by
    obtain ⟨o, e, _⟩ := T.obj _ _ st2 b hb
    exact Heap.lt_size e
  have f3 : ∀ b ∈ fp, FpOk X pins (upd H2 D (.dT [])) b ∧ b < s3.heap.objs.size := fun b hb => by
    have hlt := sz b hb
    refine ⟨⟨?_, (f2 b hb).2⟩, by rw [h3, Heap.size_push]; exact Nat.lt_succ_of_lt hlt⟩
    rw [upd_ne (by rw [← hD]; exact Nat.ne_of_lt hlt)]
    exact (f2 b hb).1
  have st3 : tn 0 s3.heap := T.keep _ _ _ st2 fun b _ o e => by rw [h3]; exact Heap.get?_push_of_some _ e
  have I4 := block_start I3 ok hN f3
  have pg := hg s3 (upd H2 D (.dT [])) s3.heap.objs.size (cellsFrom (s3.heap.objs.size + 1) scope.names (cloFrom X.env.cells scope.names [])) fp
  have pt := ht s3 (upd H2 D (.dT [])) s3.heap.objs.size (cellsFrom (s3.heap.objs.size + 1) scope.names (cloFrom X.env.cells scope.names [])) fp
  have pk := hk s3 (upd H2 D (.dT [])) s3.heap.objs.size (cellsFrom (s3.heap.objs.size + 1) scope.names (cloFrom X.env.cells scope.names [])) fp
  have pe := he s3 (upd H2 D (.dT [])) s3.heap.objs.size (cellsFrom (s3.heap.objs.size + 1) scope.names (cloFrom X.env.cells scope.names [])) fp
  have nfp : ∀ b ∈ fp, (upd H2 D (.dT [])) b = none := fun b hb => (f3 b hb).1.1
  -- where the block ends
  have back : ∀ (s' : Shared) (H' : Hp), L2.Inv X pins σ H' s' → Q (.ref D) H' → (∃ m, s'.heap.Ns s3.heap.objs.size m) → FpOk X pins H' s3.heap.objs.size → compPost (model X.prog X.w) X.A X.xe none (EP X pins σ Q) (.ref D) s3.heap.objs.size (.ok .next) s' := fun s' H' I' q ⟨m, hn⟩ f => by
    refine ⟨m, hn, fun h'' sb => ?_⟩
    obtain ⟨f0, f1, f2, f3, f4, f5⟩ := f
    exact ⟨.ref D, H', I'.turned (t' := s'.toks) (fun b o hb e => (sb.2 b hb).trans e) f0 f1 f3 f4 f5, rfl, q⟩
  show codeAny _ _ (.compStart (.DictComp kx vx [⟨tg, iter, ifs, 0⟩] scope pos) 0 (.ref it) (.ref D) (compEnvC scope (cellsFrom (s3.heap.objs.size + 1) scope.names (cloFrom X.env.cells scope.names [])) s3.heap.objs.size X.env)) (compPost (model X.prog X.w) X.A X.xe none (EP X pins σ Q) (.ref D) s3.heap.objs.size) { s3 with heap := pushCells (s3.heap.push { cls := .type "dict", data := .dict #[] }) scope.names }
  generalize hce : compEnvC scope (cellsFrom (s3.heap.objs.size + 1) scope.names (cloFrom X.env.cells scope.names [])) s3.heap.objs.size X.env = ce at I4 pg pt pk pe ⊢
  have cL : ce.locals = s3.heap.objs.size := by subst hce; rfl
  generalize hH3 : upd H2 D (.dT []) = H3 at I3 I4 pg pt pk pe w0 nfp f3
  generalize hs4 : ({ s3 with heap := pushCells (s3.heap.push { cls := .type "dict", data := .dict #[] }) scope.names } : Shared) = s4 at I4 ⊢
  have st4 : tn 0 s4.heap := T.keep _ _ _ st3 fun b _ o e => by rw [← hs4]; exact pushCells_keeps _ _ _ _ (Heap.get?_push_of_some _ e)
  have stat : ∀ {σ' : L2.St} {H' : Hp} {s' : Shared}, L2.Inv (X.blk s3 H3 scope ce fp) [] σ' H' s' → (∀ b ∈ fp, H' b = none) → ∀ b ∈ fp, FpOk (X.blk s3 H3 scope ce fp) [] H' b := fun {σ' H' s'} I' hn b hb =>
    ⟨hn b hb, (I'.ok.exf b hb).1, I'.ok.exfs b hb, .inl hb, fun x c e => (I'.ok.exf b hb).2 x c e, fun p hp => absurd (show p ∈ ([] : List (Addr × Obj)) ++ [] from hp) (by simp)⟩
  have loop : codeAny (model X.prog X.w) X.A (.compLoop (.DictComp kx vx [⟨tg, iter, ifs, 0⟩] scope pos) 0 (.ref it) (.ref D) ce) (compPost (model X.prog X.w) X.A X.xe none (EP X pins σ Q) (.ref D) s3.heap.objs.size) s4 := by
    refine compLoop_anyD (fun n s' => ∃ i H', L2.Inv (X.blk s3 H3 scope ce fp) [] (wipe σ (own.map (·.2))) H' s' ∧ tn i s'.heap ∧ (∀ b ∈ fp, H' b = none) ∧ W i n H') ?_ m0 ⟨0, H3, I4, st4, nfp, w0⟩
    rintro n s5 ⟨i, H5, I5, st5, n5, w5⟩
    rcases turn i n H5 w5 with ⟨stop, qq⟩ | ⟨go, Nx, hNx, step⟩
    · have td := T.done (X.blk s3 H3 scope ce fp) rfl rfl rfl hc i [] s5 _ H5 (fun _ _ => False) I5 (stat I5 n5) st5 stop
      refine thnF td fun r s6 ⟨hr, I6⟩ => ?_
      subst hr
      have I7 : L2.Inv X pins σ H5 s6 := I3.call' (ch := fp) I6.os I6.base I6.hok I6.bare fun b hb => ⟨(f3 b hb).1.2.2.2.1, (f3 b hb).1.2.1, (f3 b hb).1.2.2.2.2.1, (f3 b hb).1.2.2.2.2.2⟩
      have nC : H5 s3.heap.objs.size = none := by
        have z : H5 ce.locals = none := I6.free
        rw [cL] at z
        exact z
      obtain ⟨m, hn, _⟩ := I6.loc
      have hn : s6.heap.Ns ce.locals m := hn
      rw [cL] at hn
      exact back s6 H5 I7 qq ⟨m, hn⟩ (I3.fpOk (Nat.le_refl _) nC)
    · have ti := T.item (X.blk s3 H3 scope ce fp) rfl rfl rfl hc i [] s5 _ H5 (fun _ _ => False) I5 (stat I5 n5) st5 go
      refine thnF ti fun r s6 ⟨u, hr, h6⟩ => ?_
      subst hr
      refine thnF h6 fun _ s7 ⟨x, H7, I7, r7, y7, st7, n7⟩ => ?_
      have I7' := I7.pinned (stat I7 n7) (T.obj _ _ st7)
      refine thnF (pg.run _ s7 _ H7 x u _ I7' r7 (step x H7 y7)) fun _ s8 ⟨σ8, H8, I8, hw8, q8⟩ => ?_
      refine thnF (pt.run _ s8 σ8 H8 _ I8 q8) fun b s9 ⟨H9, I9, q9⟩ => ?_
      have fin : ∀ {s' : Shared} {H' : Hp}, L2.Inv (X.blk s3 H3 scope ce fp) ([] ++ pinsAt fp s7.heap) σ8 H' s' → Nx H' → ∃ m, m < n ∧ ∃ i H', L2.Inv (X.blk s3 H3 scope ce fp) [] (wipe σ (own.map (·.2))) H' s' ∧ tn i s'.heap ∧ (∀ b ∈ fp, H' b = none) ∧ W i m H' := fun {s' H'} I' nx => by
        obtain ⟨m', hm, w'⟩ := hNx H' nx
        have pin' : ∀ b ∈ fp, ∀ o, s7.heap.get? b = some o → s'.heap.get? b = some o ∧ H' b = none := fun b hb o e =>
          let z := I'.pin (b, o) (List.mem_append_right _ (List.mem_append_right _ (mem_pinsAt hb e)))
          ⟨z.1, z.2.1⟩
        have hl : (wipe σ (own.map (·.2))).length = σ8.length := by rw [← hw8, wipe_length]
        refine ⟨m', hm, i + 1, H', (I'.unpinned (pins := [])).weak hl (fun j v e => ?_), T.keep _ _ _ st7 fun b hb o e => (pin' b hb o e).1, fun b hb => ?_, w'⟩
        · rw [← hw8] at e
          exact (wipe_some e).1
        · obtain ⟨o, e, _⟩ := T.obj _ _ st7 b hb
          exact (pin' b hb o e).2
      cases b with
      | false =>
        simp only [Bool.false_eq_true, if_false] at q9 ⊢
        exact fin I9 q9
      | true =>
        simp only [if_true] at q9 ⊢
        refine thnF (pk.run _ s9 σ8 H9 _ I9 q9) fun z s10 ⟨yk, H10, I10, r10, q10⟩ => ?_
        refine thnF (pe.run _ s10 σ8 H10 _ I10 q10) fun z2 s11 ⟨yv, H11, I11, r11, kvs, k, ka, ek, hka, hD11, hz11, nx⟩ => ?_
        subst ek
        obtain rfl : z = Value.ref ka := r10
        exact dt_put (X := X.blk s3 H3 scope ce fp) hu I11 hD11 hz11 hka r11 fun s12 I12 => fin I12 nx
  exact codeAny_compStart_dict loop (T.self X.A 0 _ _ _ st4 loop)
/-- over a tuple that stays -/
theorem dcT_tup {K : PySem.W.Frag} {a : Addr} {xs : List V} {g : TG} {tt : TT} {tk tv : TE} {vs : List Nat} {σ : L2.St} {H1 : Hp} {D : Addr} {Qd : Hp → Prop} (Pv : Nat → Hp → Prop) (h0 : Pv 0 (upd H1 D (.dT []))) (hl : ∀ i H, i ≤ xs.length → Pv i H → SqT K H a xs)
    (hs : ∀ i x H, xs[i]? = some x → Pv i H → g x (wipe σ vs) H fun σ2 H2 => wipe σ2 vs = wipe σ vs ∧ tt σ2 H2 fun b H3 =>
      if b = true then tk σ2 H3 fun y H4 => tv σ2 H4 fun z H5 => ∃ kvs k c, y = .ref c ∧ H5 c = some (.tup (List.map kV k)) ∧ H5 D = some (.dT kvs) ∧ kvs.length < sizeLine ∧ Pv (i + 1) (upd H5 D (.dT (putK kvs k z))) else Pv (i + 1) H3) (hd : ∀ H, Pv xs.length H → Qd H) :
    ∃ W : Nat → Nat → Hp → Prop, (∃ m, W 0 m (upd H1 D (.dT []))) ∧ ∀ i m H, W i m H →
      ((Itt K a).stop i H ∧ Qd H) ∨ ((Itt K a).go i H ∧ ∃ Nx : Hp → Prop, (∀ H', Nx H' → ∃ m', m' < m ∧ W (i + 1) m' H') ∧ ∀ x H', (Itt K a).yld i H x H' → g x (wipe σ vs) H' fun σ2 H2 => wipe σ2 vs = wipe σ vs ∧ tt σ2 H2 fun b H3 =>
        if b = true then tk σ2 H3 fun y H4 => tv σ2 H4 fun z H5 => ∃ kvs k c, y = .ref c ∧ H5 c = some (.tup (List.map kV k)) ∧ H5 D = some (.dT kvs) ∧ kvs.length < sizeLine ∧ Nx (upd H5 D (.dT (putK kvs k z))) else Nx H3) := by
  refine ⟨fun i m H => m = xs.length - i ∧ i ≤ xs.length ∧ Pv i H, ⟨xs.length, by simp, Nat.zero_le _, h0⟩, ?_⟩
  rintro i m H ⟨rfl, hi, p⟩
  have q := hl i H hi p
  rcases Nat.lt_or_ge i xs.length with hlt | hge
  · refine .inr ⟨⟨xs, xs[i], q, List.getElem?_eq_getElem hlt⟩, Pv (i + 1), fun H' p' => ⟨xs.length - (i + 1), by omega, rfl, hlt, p'⟩, fun x H' y => ?_⟩
    obtain ⟨e, y⟩ := y
    subst e
    exact hs i x _ (y xs q) p
  · obtain rfl : i = xs.length := Nat.le_antisymm hi hge
    exact .inl ⟨⟨xs, q, Nat.le_refl _⟩, hd H p⟩
end
end XI
/-! Own: len, bool, str of an instance by its class's own methods. -/
namespace XO
open PySem PySem.Spec PyProof.Rows L2
/-- the class has the method under this name, for itself -/
structure Own (K : PySem.W.Frag) (C : Addr) (m : Str) (f : Addr) : Prop where
  at_ : PySem.W.findIn K (.ref C) m = some (some (.ref f))
  fn : PySem.W.isFn K (.ref f) = true
theorem Room.in2 {k : Nat} {A : Around} (r : Room (k + 1) A) : Room k A.in1.in1 :=
  ⟨r.hd, by have := r.dp; show A.depth + 3 * k + 5 < _; omega, by have := r.un; show A.units + 1 + 1 + 16 * k + 200 < _; omega⟩
section
variable {X : Cx} {k : Nat} {C f a dx : Addr} {fs : List (Str × V)} {fd : FuncData} {sp : Sp} {E : XK}
/-- the def at f called of the object, around A -/
theorem run_own {pins : List (Addr × Obj)} {σ : L2.St} {H : Hp} {s : Shared} {Q : VK} {A : Around} {G : Value → Shared → Prop} (F : FnOk X.prog X.w X.K X.mg X.base CX0 k f fd ["self"] sp) (hr : Room k A) (he : Env0 X.prog X.w X.K X.mg X.base A X.stack s H)
    (hb : Binds X.K fd ["self"] []) (I : L2.Inv X pins σ H s) (h : sp [.ref a] H Q E0) : wpAny (model X.prog X.w) A (call (.ref f) [.ref a]) (EP X pins σ Q) G s := by
  refine wpAny_call (codeAny_mono (F.run A X.stack s H ⟨[.ref a], []⟩ [.ref a] [.ref a] Q E0 hr he (hb s [.ref a] I.kIn rfl) (.cons rfl .nil) h) fun r s' hq => ?_)
  cases r with
  | error er => exact hq.elim
  | ok fl =>
    cases fl with
    | ret u => exact I.after hq
    | _ => exact False.elim hq
theorem inst_look {pins : List (Addr × Obj)} {σ : L2.St} {H : Hp} {s : Shared} (I : L2.Inv X pins σ H s) (ea : H a = some (.ins C dx fs)) : ∃ od, PySem.W.InstAt s.heap a (PySem.W.instObj C dx) C od := by
  obtain ⟨mA, O, _, _, _, _⟩ := ins_get I.hok ea
  obtain ⟨od, J, _⟩ := O.look
  exact ⟨od, J⟩
/-- len(o) -/
def rLenO (C : Addr) (sp : Sp) : List V → Hp → VK → Prop := fun xs H Q => ∃ a dx fs, xs = [.ref a] ∧ H a = some (.ins C dx fs) ∧ sp [.ref a] H (fun v H' => ∃ n : Int, v = .int n ∧ 0 ≤ n ∧ n < 2 ^ 63 ∧ Q (.int n) H') E0
theorem call_lenO (O : Own X.K C "__len__" f) (F : FnOk X.prog X.w X.K X.mg X.base CX0 k f fd ["self"] sp) (hr : Room (k + 1) X.A) (hb : Binds X.K fd ["self"] []) : CallR X (.builtin "len") (rLenO C sp) := by
  intro pins s σ H xs us Q I r h
  obtain ⟨a, dx, fs, rfl, ea, q⟩ := h
  obtain rfl := Vals.ref1 r
  obtain ⟨od, J⟩ := inst_look I ea
  obtain ⟨m, hF⟩ := I.fr
  refine PySem.W.len_K hF I.ok.mod.kin J O.at_ O.fn (thn (run_own F hr.in1 I.env0.in1 hb I q) fun u s1 ⟨v, H1, I1, rv, n, ev, n0, n1, q1⟩ => ?_)
  subst ev
  obtain ⟨t, rfl⟩ := rv
  exact ⟨⟨n0, n1⟩, .int n, H1, I1.tok _, ⟨_, rfl⟩, q1⟩
/-- str(o) -/
def rStrO (C : Addr) (sp : Sp) : List V → Hp → VK → Prop := fun xs H Q => ∃ a dx fs, xs = [.ref a] ∧ H a = some (.ins C dx fs) ∧ sp [.ref a] H (fun v H' => ∃ z : Str, v = .str z ∧ Q (.str z) H') E0
theorem call_strO (O : Own X.K C "__str__" f) (F : FnOk X.prog X.w X.K X.mg X.base CX0 k f fd ["self"] sp) (hr : Room (k + 1) X.A) (hb : Binds X.K fd ["self"] []) : CallR X (.type "str") (rStrO C sp) := by
  intro pins s σ H xs us Q I r h
  obtain ⟨a, dx, fs, rfl, ea, q⟩ := h
  obtain rfl := Vals.ref1 r
  obtain ⟨od, J⟩ := inst_look I ea
  refine PySem.W.kso_call (Room.in2 hr).units0 I.kIn J O.at_ O.fn (thn (run_own F (Room.in2 hr) I.env0.in1.in1 hb I q) fun u s1 ⟨v, H1, I1, rv, z, ev, q1⟩ => ?_)
  subst ev
  obtain ⟨t, rfl⟩ := rv
  exact ⟨.str z, H1, I1, ⟨_, rfl⟩, q1⟩
/-- bool(o) -/
def rBoolO (C : Addr) (sp : Sp) : List V → Hp → VK → Prop := fun xs H Q => ∃ a dx fs, xs = [.ref a] ∧ H a = some (.ins C dx fs) ∧ sp [.ref a] H (fun v H' => ∃ b : Bool, v = .bl b ∧ Q (.bl b) H') E0
theorem call_boolO (O : Own X.K C "__bool__" f) (F : FnOk X.prog X.w X.K X.mg X.base CX0 k f fd ["self"] sp) (hr : Room (k + 1) X.A) (hb : Binds X.K fd ["self"] []) : CallR X (.type "bool") (rBoolO C sp) := by
  intro pins s σ H xs us Q I r h
  obtain ⟨a, dx, fs, rfl, ea, q⟩ := h
  obtain rfl := Vals.ref1 r
  obtain ⟨od, J⟩ := inst_look I ea
  obtain ⟨m, hF⟩ := I.fr
  have tr : ∀ (R : Bool → Shared → Prop) (G : Value → Shared → Prop), (∀ (b : Bool) (s' : Shared), EP X pins σ Q (.bool b) s' → R b s') → wpAny (model X.prog X.w) X.A.in1.in1 (truthy (.ref a)) R G s := fun R G hR => by
    refine PySem.W.truthy_K hF I.ok.mod.kin J O.at_ O.fn (thn (run_own F (Room.in2 hr) I.env0.in1.in1 hb I q) fun u s1 ⟨v, H1, I1, rv, b, ev, q1⟩ => ?_)
    subst ev
    cases rv
    exact hR b s1 ⟨.bl b, H1, I1, rfl, q1⟩
  refine callType_codes (T := "bool") (Bi := Builtin.«object.__init__») (Q₁ := fun r s₁ => ∃ b, r = .bool b ∧ EP X pins σ Q (.bool b) s₁) PySem.F.called_bool (PySem.F.typeCall_bool_1 _) PySem.F.entry_object_init ?_ ?_
  · refine codeAny_of_tree ?_
    show wpAny _ X.A.in1.in1 (do checkBuiltinCall "bool.__new__" ⟨[.type "bool", .ref a], []⟩; again (.builtin "bool.__new__" ⟨[.type "bool", .ref a], []⟩)) _ _ s
    refine wpAny_bind (wpAny_of_eq (PySem.F.newCall_bool_1 _) (wpAny_pure ⟨plainId_quiet (by decide +kernel) _, codeAny_builtin PySem.F.entry_bool_new ?_⟩))
    rw [Around.under_plainId (by decide +kernel) _]
    have f1 := PySem.F.conv_sub_bool
    obtain ⟨hp, g, d, tk, os⟩ := s
    repeat (any_goals (first | assumption | (with_reducible refine tr _ _ ?_) | wp_step))
    intro b s' hb'
    exact wpAny_pure ⟨b, rfl, hb'⟩
  · rintro obj s₁ ⟨b, rfl, hq⟩
    exact ⟨rfl, PySem.F.args_object_init_2 _ _, object_init_meets PySem.F.called_bool.init.lookup PySem.F.called_bool.made (by decide) X.prog X.w X.A.in1 _ s₁ ⟨rfl, rfl, hq⟩⟩
end
end XO
/-! Own: how the defs of a program stand, heaps that change at one place. -/
namespace XB
open PySem PySem.Spec PyProof.Rows L2
/-- the def st stands under its name x, its parameters ps -/
structure At (K : PySem.W.Frag) (mg : Str → Option Value) (x : Str) (st : Stmt) (ps : List Str) : Prop where
  ex : ∃ (f : Addr) (fd : FuncData), Fun K x x st f fd ∧ mg x = some (.ref f) ∧ Binds K fd ps []
theorem at_mk {K : PySem.W.Frag} {h : Heap} {mg : Str → Option Value} {x : Str} {st : Stmt} {ps : List Str} {f : Addr} {oc : Value} {od an : Option Addr} {osl : Array (Option Value)} {kV doc pm cdv ct : Value} (X : K.In h) (G : h.Ns mainGlobals mg)
    (a : PySem.W.nsIn K mainGlobals x = some (some (.ref f))) (l : K.lookup f = some ⟨oc, od, .func (PySem.W.fnOf x x (defArgs st) (defBody st) (defScope st) .none kV doc pm an cdv ct), osl⟩) (c : PySem.W.codeIn K cdv x = true) (k : PySem.W.keepIn K (.ref f) = true)
    (hb : ∀ (kV doc pm : Value) (an : Option Addr) (cdv ct : Value) (us : List Value), us.length = ps.length → bindArgs (PySem.W.fnOf x x (defArgs st) (defBody st) (defScope st) .none kV doc pm an cdv ct) ⟨us, []⟩ = pure (ps.zip us)) : At K mg x st ps := by
  have F := fun_mk (st := st) l c k
  exact ⟨f, _, F, PySem.W.mg_of X G a, F.binds hb⟩
section
variable {P : Program} {w : World} {K : PySem.W.Frag} {mg : Str → Option Value} {base : Heap} {k : Nat}
theorem cal_of {x : Str} {st : Stmt} {N ps : List Str} {sp : Sp} (D : At K mg x st ps) (S : FnScope N ps (defScope st)) (len : ∀ vs H Q E, sp vs H Q E → vs.length = ps.length)
    (hbody : ∀ (f : Addr) (cdv : Value) (A : Around) (outer : List Env) (s : Shared) (H : Hp) (vs : List V) (Q : VK) (E : XK), Room k (A.deeper (envOfC x (defScope st) s.heap.objs.size f cdv)) → sp vs H Q E →
      ∃ t, PSs (cxOf CX0 P w K mg base N x (defScope st) f cdv A outer s H E).nox (defBody st) t ∧ t { nx := fun _ H' => Q .non H', rt := Q } (start N vs) H) : C8.Cal P w K mg base (k + 1) x sp [] := by
  obtain ⟨f, fd, F, hm, b⟩ := D.ex
  exact ⟨f, fd, ps, [], F.ok S len (hbody f), hm, F.kp, b, .nil⟩
/-- .. of a def that wants that no repr runs around -/
structure CalG (P : Program) (w : World) (K : PySem.W.Frag) (mg : Str → Option Value) (base : Heap) (k : Nat) (x : Str) (sp : Sp) : Prop where
  ex : ∃ (f : Addr) (fd : FuncData) (ps : List Str), XG.FnG P w K mg base CX0 k f fd ps sp ∧ mg x = some (.ref f) ∧ PySem.W.keepIn K (.ref f) = true ∧ Binds K fd ps []
theorem calG_of {x : Str} {st : Stmt} {N ps : List Str} {sp : Sp} (D : At K mg x st ps) (S : FnScope N ps (defScope st)) (len : ∀ vs H Q E, sp vs H Q E → vs.length = ps.length)
    (hbody : ∀ (f : Addr) (cdv : Value) (A : Around) (outer : List Env) (s : Shared) (H : Hp) (vs : List V) (Q : VK) (E : XK), XG.Calm (A.deeper (envOfC x (defScope st) s.heap.objs.size f cdv)) → Room k (A.deeper (envOfC x (defScope st) s.heap.objs.size f cdv)) → sp vs H Q E →
      ∃ t, PSs (cxOf CX0 P w K mg base N x (defScope st) f cdv A outer s H E).nox (defBody st) t ∧ t { nx := fun _ H' => Q .non H', rt := Q } (start N vs) H) : CalG P w K mg base (k + 1) x sp := by
  obtain ⟨f, fd, F, hm, b⟩ := D.ex
  exact ⟨f, fd, ps, XG.okG F S len (hbody f), hm, F.kp, b⟩
theorem C8mono {x : Str} {sp : Sp} {dvs : List V} {j : Nat} (c : C8.Cal P w K mg base j x sp dvs) (h : j ≤ k) : C8.Cal P w K mg base k x sp dvs := by
  obtain ⟨f, fd, ps, ds, F, hm, kp, b, d⟩ := c.ex
  exact ⟨f, fd, ps, ds, F.mono h, hm, kp, b, d⟩
end
section
variable {X : Cx} {k j : Nat} {x : Str} {sp : Sp} {p pos : Pos} {e : Expr} {es : List Expr} {t : TA}
theorem pe_cG (c : CalG X.prog X.w X.K X.mg X.base k x sp) (hc : XG.Calm X.A) (hr : Room j X.A) (hk : k ≤ j) (hg : Gl X x) (ha : PA X (e :: es) t)
    (hdb : (x == ("__debug__" : Str)) = false := by decide) (he : starEach (e :: es) X.env = (false, eval e X.env) :: starEach es X.env := by rfl) (hpl : (backTo pos (starEach es X.env)).any (·.1) = false := by rfl) :
    PE X (.Call (.Name x p) (e :: es) [] pos) (tCall sp [] E0 t) := by
  obtain ⟨f, fd, ps, F, hm, kp, b⟩ := c.ex
  exact XG.pe_callG F hc (hr.mono hk) hg hm kp b .nil pass0 ha hdb he hpl
end

/-! ### heaps -/
/-- all that was tracked but at p is as it was -/
def Chg (p : Addr) (H H' : Hp) : Prop := ∀ b o, b ≠ p → H b = some o → H' b = some o
theorem Chg.refl (p : Addr) (H : Hp) : Chg p H H := fun _ _ _ h => h
theorem Chg.trans {p : Addr} {H H1 H2 : Hp} (a : Chg p H H1) (b : Chg p H1 H2) : Chg p H H2 := fun c o n h => b c o n (a c o n h)
theorem Same.chg {p : Addr} {H H' : Hp} (a : Same H H') : Chg p H H' := fun c o _ h => a c o h
theorem Chg.new {p q : Addr} {H H' : Hp} {o : HO} (a : Chg p H H') (h : H' q = none) : Chg p H (upd H' q o) := fun c u n e => by
  have z := a c u n e
  rw [upd_ne (ne_of_none z h)]
  exact z
theorem Chg.at {p : Addr} {H H' : Hp} {o : HO} (a : Chg p H H') : Chg p H (upd H' p o) := fun c u n e => by
  rw [upd_ne n]
  exact a c u n e
theorem Same.new {q : Addr} {H H' : Hp} {o : HO} (a : Same H H') (h : H' q = none) : Same H (upd H' q o) := fun c u e => by
  have z := a c u e
  rw [upd_ne (ne_of_none z h)]
  exact z
/-- a store to what was free at the start -/
theorem Same.own {q : Addr} {H H' : Hp} {o : HO} (a : Same H H') (h : H q = none) : Same H (upd H' q o) := fun c u e => by
  rw [upd_ne (ne_of_none e h)]
  exact a c u e
theorem Chg.own {p q : Addr} {H H' : Hp} {o : HO} (a : Chg p H H') (h : H q = none) : Chg p H (upd H' q o) := fun c u n e => by
  rw [upd_ne (ne_of_none e h)]
  exact a c u n e
theorem Chg.seq {p : Addr} {K : PySem.W.Frag} {H H' : Hp} {a : Addr} {xs : List V} (c : Chg p H H') (n : a ≠ p) (h : SqL K H a xs) : SqL K H' a xs := by
  rcases h with (h | ⟨o, h⟩) | h
  · exact .inl (.inl (c _ _ n h))
  · exact .inl (.inr ⟨o, c _ _ n h⟩)
  · exact .inr h
theorem Same.tup {K : PySem.W.Frag} {H H' : Hp} {a : Addr} {xs : List V} (c : Same H H') (h : SqT K H a xs) : SqT K H' a xs := by
  rcases h with (h | ⟨o, h⟩) | h
  · exact .inl (.inl (c _ _ h))
  · exact .inl (.inr ⟨o, c _ _ h⟩)
  · exact .inr h
theorem Chg.tup {p : Addr} {K : PySem.W.Frag} {H H' : Hp} {a : Addr} {xs : List V} (c : Chg p H H') (n : a ≠ p) (h : SqT K H a xs) : SqT K H' a xs := by
  rcases h with (h | ⟨o, h⟩) | h
  · exact .inl (.inl (c _ _ n h))
  · exact .inl (.inr ⟨o, c _ _ n h⟩)
  · exact .inr h
theorem Chg.free {p q : Addr} {H H' : Hp} (a : Chg p H H') (n : q ≠ p) (h : H' q = none) : H q = none := by
  cases e : H q with
  | none => rfl
  | some o => rw [a q o n e] at h; cases h
/-- what stood before a new object -/
theorem kp {H : Hp} {b q : Addr} {o u : HO} (e : H b = some o) (n : H q = none) : upd H q u b = some o := by
  rw [upd_ne (ne_of_none e n)]
  exact e
/-- what stands elsewhere -/
theorem kpm {H : Hp} {b q : Addr} {o u : HO} (e : H b = some o) (n : b ≠ q) : upd H q u b = some o := by
  rw [upd_ne n]
  exact e
theorem kpL {K : PySem.W.Frag} {H : Hp} {a q : Addr} {xs : List V} {u : HO} (h : SqL K H a xs) (n : H q = none) : SqL K (upd H q u) a xs := (Same.new (Same.refl H) n).seq h
theorem kpT {K : PySem.W.Frag} {H : Hp} {a q : Addr} {xs : List V} {u : HO} (h : SqT K H a xs) (n : H q = none) : SqT K (upd H q u) a xs := Same.tup (Same.new (Same.refl H) n) h
/-- texts as values -/
abbrev sl (xs : List Str) : List V := xs.map V.str
/-- the drawer: three numbers -/
def Purse (H : Hp) (p : Addr) : Prop := ∃ d s c : Int, H p = some (.lst [.int d, .int s, .int c])
theorem Purse.ne {H : Hp} {p q : Addr} (h : Purse H p) (n : H q = none) : p ≠ q := by
  obtain ⟨d, s, c, e⟩ := h
  exact ne_of_none e n
theorem Purse.new {H : Hp} {p q : Addr} {o : HO} (h : Purse H p) (n : H q = none) : Purse (upd H q o) p := by
  have z := h.ne n
  obtain ⟨d, s, c, e⟩ := h
  exact ⟨d, s, c, by rw [upd_ne z]; exact e⟩
/-- which built-ins the program leaves as they are -/
structure Bl (mg : Str → Option Value) : Prop where
  len : mg "len" = none
  int_ : mg "int" = none
  abs_ : mg "abs" = none
  divmod : mg "divmod" = none
  range : mg "range" = none
  list : mg "list" = none
  tuple : mg "tuple" = none
  repr : mg "repr" = none
  min_ : mg "min" = none
  max_ : mg "max" = none
  isin : mg "isinstance" = none
  str : mg "str" = none
  bool : mg "bool" = none
  set_ : mg "set" = none
  enum : mg "enumerate" = none
  all_ : mg "all" = none
end XB
/-! Own: more rules for terms whose heap only grows. -/
namespace XB
open PySem PySem.Spec PyProof.Rows L2 Evl
section
variable {K : PySem.W.Frag} {σ : L2.St} {H : Hp} {t : TT} {ta tb : TE} {xs ys : List V}
theorem el_if {b : Bool} (h : EvT t σ H b) (h1 : b = true → EvL ta σ H xs) (h2 : b = false → EvL tb σ H xs) : EvL (tIf t ta tb) σ H xs := fun H1 e Q q => h H1 e _ fun H2 e2 => by
  cases b with
  | true => exact iteT ((h1 rfl) H2 (e.trans e2) Q fun p H3 n3 e3 h3 => q p H3 (fresh_back e2 n3) (e2.trans e3) h3)
  | false => exact iteF ((h2 rfl) H2 (e.trans e2) Q fun p H3 n3 e3 h3 => q p H3 (fresh_back e2 n3) (e2.trans e3) h3)
theorem el_cat (ha : EvL ta σ H xs) (hb : EvL tb σ H ys) (hz : xs.length + ys.length ≤ 100000) : EvL (tOp rCat ta tb) σ H (xs ++ ys) := fun H1 e Q q =>
  ha H1 e _ fun p H2 n2 e2 h2 => hb H2 (e.trans e2) _ fun r H3 n3 e3 h3 =>
    ⟨p, r, xs, ys, rfl, rfl, e3 _ _ h2, h3, sz_of hz, fun l nl => q l _ (fresh_back (e2.trans e3) nl) ((e2.trans e3).trans (Ex.new nl)) upd_same⟩
theorem el_is {zs : List V} (h : EvL ta σ H xs) (e : xs = zs) : EvL ta σ H zs := e ▸ h
theorem el_at {p : Addr} (h : Ev ta σ H (.ref p)) : Ev ta σ H (.ref p) := h
theorem flat_sl (xs : List Str) : (sl xs).all flatV = true := by
  induction xs with
  | nil => rfl
  | cons x r ih => exact ih
theorem eqV_str (x y : Str) : eqV (.str y) (.str x) = decide (y = x) := by
  show (y == x) = decide (y = x)
  by_cases h : y = x
  · rw [decide_eq_true h]; exact beq_iff_eq.mpr h
  · rw [decide_eq_false h]; exact Bool.eq_false_iff.mpr fun z => h (beq_iff_eq.mp z)
theorem inV_sl (x : Str) (xs : List Str) : inV (.str x) (sl xs) = decide (x ∈ xs) := by
  induction xs with
  | nil => rfl
  | cons y r ih =>
    show (eqV (.str y) (.str x) || inV (.str x) (sl r)) = _
    rw [ih, eqV_str]
    by_cases h : y = x
    · rw [decide_eq_true h, Bool.true_or, h]
      exact (decide_eq_true (List.mem_cons_self)).symm
    · rw [decide_eq_false h, Bool.false_or]
      exact decide_eq_decide.mpr ⟨fun m => List.mem_cons_of_mem _ m, fun m => (List.mem_cons.mp m).elim (fun z => absurd z.symm h) id⟩
/-- a text in a list, in a tuple, of texts -/
theorem ev_inL {x : Str} {a : Addr} {ws : List Str} (hx : Ev ta σ H (.str x)) (ha : Ev tb σ H (.ref a)) (h : SqL K H a (sl ws)) : Ev (tOp (rIn K false) ta tb) σ H (.bl (decide (x ∈ ws))) :=
  ev_is (ev_op hx ha (rv_isL h rfl (flat_sl ws))) (by rw [inV_sl])
theorem ev_inT {x : Str} {a : Addr} {ws : List Str} (hx : Ev ta σ H (.str x)) (ha : Ev tb σ H (.ref a)) (h : SqT K H a (sl ws)) : Ev (tOp (rIn K false) ta tb) σ H (.bl (decide (x ∈ ws))) :=
  ev_is (ev_op hx ha (rv_isT h rfl (flat_sl ws))) (by rw [inV_sl])
theorem ev_eqS {x y : Str} (hx : Ev ta σ H (.str x)) (hy : Ev tb σ H (.str y)) : Ev (tOp rEq ta tb) σ H (.bl (decide (x = y))) :=
  ev_is (ev_op hx hy (rv_eq rfl)) (by
    by_cases h : x = y
    · rw [decide_eq_true h, h, decide_eq_true rfl]
    · rw [decide_eq_false h, decide_eq_false fun z => h (by injection z)])
theorem len_sl (xs : List Str) : (sl xs).length = xs.length := List.length_map _
theorem sl_cat (xs ys : List Str) : sl xs ++ sl ys = sl (xs ++ ys) := (List.map_append).symm
theorem at_sl {H : Hp} {a : Addr} {xs ys zs : List Str} (h : H a = some (.lst (sl xs ++ sl ys))) (e : xs ++ ys = zs) : H a = some (.lst (sl zs)) := by rw [h, sl_cat, e]
/-- joins and cuts -/
def rJoin (K : PySem.W.Frag) : V → List V → Hp → VK → Prop := fun x xs H Q => ∃ a p, ∃ ys : List Str, x = .str a ∧ xs = [.ref p] ∧ (SqL K H p (ys.map V.str) ∨ SqT K H p (ys.map V.str)) ∧
  (ys.map (·.length)).sum + ys.length * a.length ≤ 16777216 ∧ Q (.str (Txt.join a ys)) H
def rSplit : V → List V → Hp → VK → Prop := fun x xs H Q => ∃ a b, x = .str a ∧ xs = [.str b] ∧ (b.length == 0) = false ∧ a.length + 2 ≤ sizeLine ∧ rNewStrs (Txt.split a b) H Q
theorem ev_join {sep : Str} {ys : List Str} (ho : Ev ta σ H (.str sep)) (he : EvL tb σ H (sl ys)) (hz : (ys.map (·.length)).sum + ys.length * sep.length ≤ 16777216) : Ev (tM1 (rJoin K) ta tb) σ H (.str (Txt.join sep ys)) := fun H1 e Q q =>
  ho H1 e _ fun H2 e2 => ⟨⟨_, rfl⟩, he H2 (e.trans e2) _ fun p H3 n3 e3 h3 => ⟨sep, p, ys, rfl, rfl, .inl (SqL.of h3), hz, q H3 (e2.trans e3)⟩⟩
theorem ev_joinS {sep : Str} {ys : List Str} {p : Addr} (ho : Ev ta σ H (.str sep)) (he : Ev tb σ H (.ref p)) (h : SqL K H p (sl ys) ∨ SqT K H p (sl ys)) (hz : (ys.map (·.length)).sum + ys.length * sep.length ≤ 16777216) : Ev (tM1 (rJoin K) ta tb) σ H (.str (Txt.join sep ys)) := fun H1 e Q q =>
  ho H1 e _ fun H2 e2 => ⟨⟨_, rfl⟩, he H2 (e.trans e2) _ fun H3 e3 => ⟨sep, p, ys, rfl, rfl, h.elim (fun z => .inl (ex_l ((e.trans e2).trans e3) z)) (fun z => .inr (ex_t ((e.trans e2).trans e3) z)), hz, q H3 (e2.trans e3)⟩⟩
theorem el_split {x sep : Str} (ho : Ev ta σ H (.str x)) (he : Ev tb σ H (.str sep)) (h0 : (sep.length == 0) = false) (hz : x.length + 2 ≤ sizeLine) : EvL (tM1 rSplit ta tb) σ H (sl (Txt.split x sep)) := fun H1 e Q q =>
  ho H1 e _ fun H2 e2 => ⟨⟨_, rfl⟩, he H2 (e.trans e2) _ fun H3 e3 => ⟨x, sep, rfl, rfl, h0, hz, fun p n => q p _ (fresh_back (e2.trans e3) n) ((e2.trans e3).trans (Ex.new n)) upd_same⟩⟩
theorem el_catR {b : Addr} (ha : EvL ta σ H xs) (hb : Ev tb σ H (.ref b)) (h : H b = some (.lst ys)) (hz : xs.length + ys.length ≤ 100000) : EvL (tOp rCat ta tb) σ H (xs ++ ys) := fun H1 e Q q =>
  ha H1 e _ fun p H2 n2 e2 h2 => hb H2 (e.trans e2) _ fun H3 e3 =>
    ⟨p, b, xs, ys, rfl, rfl, e3 _ _ h2, e3 _ _ (e2 _ _ (e _ _ h)), sz_of hz, fun l nl => q l _ (fresh_back (e2.trans e3) nl) ((e2.trans e3).trans (Ex.new nl)) upd_same⟩
theorem el_listS {p : Addr} (ha : Ev ta σ H (.ref p)) (h : SqL K H p xs ∨ SqT K H p xs) : EvL (tCB (rListS K) (tCons ta tNil)) σ H xs := fun H1 e Q q =>
  ha H1 e _ fun H2 e2 => ⟨p, xs, rfl, h.elim (fun z => .inl (ex_l (e.trans e2) z)) (fun z => .inr (ex_t (e.trans e2) z)), fun l nl => q l _ (fresh_back e2 nl) (e2.trans (Ex.new nl)) upd_same⟩
theorem ev_dget {d b : Addr} {kvs : List (List Key × V)} {k : List Key} {v : V} (ha : Ev ta σ H (.ref d)) (hb : Ev tb σ H (.ref b)) (hd : Rd H d (.dT kvs)) (ht : H b = some (.tup (k.map kV))) (hv : valV kvs k = some v) : Ev (tDGet ta tb) σ H v := fun H1 e Q q =>
  ha H1 e _ fun H2 e2 => hb H2 (e.trans e2) _ fun H3 e3 => ⟨d, v, rfl, .inr ⟨kvs, k, b, ex_rd ((e.trans e2).trans e3) hd, rfl, e3 _ _ (e2 _ _ (e _ _ ht)), hv.symm⟩, q H3 (e2.trans e3)⟩
theorem valV_at {kvs : List (List Key × V)} : ∀ {i : Nat} {k : List Key} {v : V}, (kvs.map (·.1)).Nodup → kvs[i]? = some (k, v) → valV kvs k = some v := by
  induction kvs with
  | nil => intro i k v _ h; cases h
  | cons p r ih =>
    intro i k v hn h
    rw [List.map_cons, List.nodup_cons] at hn
    cases i with
    | zero =>
      have e : p = (k, v) := by injection h
      rw [valV_pos (by rw [e]), e]
    | succ i =>
      have z := ih hn.2 (show r[i]? = some (k, v) from h)
      have m : k ∈ r.map (·.1) := List.mem_map.mpr ⟨(k, v), List.mem_of_getElem? (show r[i]? = some (k, v) from h), rfl⟩
      rw [valV_neg (fun q => hn.1 (by rw [q]; exact m))]
      exact z
/-- constants in a row -/
theorem ea_str {tr : TA} {x : Str} {vs : List V} (h : EvA tr σ H vs) : EvA (tCons (tC (.str x)) tr) σ H (.str x :: vs) := ea_cons ev_c h
end
end XB
/-! Own: terms that give a tuple, new or known; comprehensions over tuples of texts. -/
namespace XB
open PySem PySem.Spec PyProof.Rows L2 Evl
/-- a tuple of xs comes, new or known -/
def EvS (K : PySem.W.Frag) (te : TE) (σ : L2.St) (H : Hp) (xs : List V) : Prop := ∀ H1, Ex H H1 → ∀ Q : VK, (∀ p H2, Ex H1 H2 → SqT K H2 p xs → Q (.ref p) H2) → te σ H1 Q
section
variable {K : PySem.W.Frag} {σ : L2.St} {H : Hp} {t : TT} {ta tb te : TE} {xs ys : List V}
theorem EvS.mono {H' : Hp} (e : Ex H H') (h : EvS K te σ H xs) : EvS K te σ H' xs := fun H1 a Q q => h H1 (e.trans a) Q q
theorem es_at {a : Addr} (h : Ev te σ H (.ref a)) (hx : SqT K H a xs) : EvS K te σ H xs := fun H1 e Q q => h H1 e _ fun H2 e2 => q a H2 e2 (ex_t (e.trans e2) hx)
theorem es_new (h : EvU te σ H xs) : EvS K te σ H xs := fun H1 e Q q => h H1 e _ fun p H2 n e2 hp => q p H2 e2 (st_of hp)
theorem es_is {zs : List V} (h : EvS K ta σ H xs) (e : xs = zs) : EvS K ta σ H zs := e ▸ h
theorem es_if {b : Bool} (h : EvT t σ H b) (h1 : b = true → EvS K ta σ H xs) (h2 : b = false → EvS K tb σ H xs) : EvS K (tIf t ta tb) σ H xs := fun H1 e Q q => h H1 e _ fun H2 e2 => by
  cases b with
  | true => exact iteT ((h1 rfl) H2 (e.trans e2) Q fun p H3 e3 h3 => q p H3 (e2.trans e3) h3)
  | false => exact iteF ((h2 rfl) H2 (e.trans e2) Q fun p H3 e3 h3 => q p H3 (e2.trans e3) h3)
theorem es_cat (ha : EvS K ta σ H xs) (hb : EvS K tb σ H ys) (hn : xs ≠ []) (hz : xs.length + ys.length ≤ 100000) : EvS K (tOp (rCatT K) ta tb) σ H (xs ++ ys) := fun H1 e Q q =>
  ha H1 e _ fun p H2 e2 h2 => hb H2 (e.trans e2) _ fun r H3 e3 h3 => ⟨p, r, xs, ys, rfl, rfl, ex_t e3 h2, h3, hn, sz_of hz, fun z => by
      subst z
      exact q p H3 (e2.trans e3) (by rw [List.append_nil]; exact ex_t e3 h2),
    fun _ l nl => q l _ ((e2.trans e3).trans (Ex.new nl)) (st_of upd_same)⟩
/-- tuple(a list) -/
def rTup (K : PySem.W.Frag) : List V → Hp → VK → Prop := fun xs H Q => ∃ p ys, xs = [.ref p] ∧ ((SqL K H p ys ∧ ∀ l, H l = none → Q (.ref l) (upd H l (.tup ys))) ∨ (SqT K H p ys ∧ Q (.ref p) H))
theorem eu_tuple (ha : EvL ta σ H xs) : EvU (tCB (rTup K) (tCons ta tNil)) σ H xs := fun H1 e Q q =>
  ha H1 e _ fun p H2 n2 e2 h2 => ⟨p, xs, rfl, .inl ⟨SqL.of h2, fun l nl => q l _ (fresh_back e2 nl) (e2.trans (Ex.new nl)) upd_same⟩⟩
theorem eu_tupleS {a : Addr} (ha : Ev ta σ H (.ref a)) (h : SqL K H a xs) : EvU (tCB (rTup K) (tCons ta tNil)) σ H xs := fun H1 e Q q =>
  ha H1 e _ fun H2 e2 => ⟨a, xs, rfl, .inl ⟨ex_l (e.trans e2) h, fun l nl => q l _ (fresh_back e2 nl) (e2.trans (Ex.new nl)) upd_same⟩⟩
theorem el_slN {tl th : TO} {lo hi : Option Int} (h : EvL te σ H xs) (h1 : EvO tl σ H lo) (h2 : EvO th σ H hi) : EvL (tSl (rSlL K) te tl th) σ H (cutV xs lo hi) := fun H1 e Q q =>
  h H1 e _ fun p H2 n2 e2 hp => h1 H2 (e.trans e2) _ fun H3 e3 => h2 H3 ((e.trans e2).trans e3) _ fun H4 e4 =>
    ⟨p, xs, rfl, SqL.of (e4 _ _ (e3 _ _ hp)), fun l nl => q l _ (fresh_back ((e2.trans e3).trans e4) nl) (((e2.trans e3).trans e4).trans (Ex.new nl)) upd_same⟩
theorem eu_slT {a : Addr} {tl th : TO} {lo hi : Option Int} (h : Ev te σ H (.ref a)) (hx : SqT K H a xs) (h1 : EvO tl σ H lo) (h2 : EvO th σ H hi) (hn : ¬ (HT.sIx xs.length 0 lo = 0 ∧ HT.sIx xs.length xs.length hi = xs.length)) : EvU (tSl (rSlT K) te tl th) σ H (cutV xs lo hi) := fun H1 e Q q =>
  h H1 e _ fun H2 e2 => h1 H2 (e.trans e2) _ fun H3 e3 => h2 H3 ((e.trans e2).trans e3) _ fun H4 e4 =>
    ⟨a, xs, rfl, ex_t (((e.trans e2).trans e3).trans e4) hx, hn, fun l nl => q l _ (fresh_back ((e2.trans e3).trans e4) nl) (((e2.trans e3).trans e4).trans (Ex.new nl)) upd_same⟩
theorem ev_lenS {p : Addr} (ha : Ev ta σ H (.ref p)) (h : SqL K H p xs ∨ SqT K H p xs) : Ev (tCB (rLenS K) (tCons ta tNil)) σ H (.int (xs.length : Int)) := fun H1 e Q q =>
  ha H1 e _ fun H2 e2 => ⟨p, xs, rfl, h.elim (fun z => .inl (ex_l (e.trans e2) z)) (fun z => .inr (ex_t (e.trans e2) z)), q H2 e2⟩
theorem ev_ixT {p : Addr} {i : Int} {v : V} (ha : Ev ta σ H (.ref p)) (hb : Ev tb σ H (.int i)) (h : SqT K H p xs) (hi : atI xs i = some v) : Ev (tOp (rIxT K) ta tb) σ H v := ev_op ha hb (rv_ixT h hi)
/-- isinstance(x, a built-in type) -/
theorem ev_isi {x : V} {T U : String} {b : Bool} (ha : Ev ta σ H x) (hx : ∀ H1, Ex H H1 → TyX K H1 x (.type T)) (hk : kitB T U = some b) : Ev (tCB (rIsi K) (tCons ta (tCons (tC (.ty U)) tNil))) σ H (.bl b) := fun H1 e Q q =>
  ha H1 e _ fun H2 e2 => ⟨x, .ty U, .type T, .type U, b, rfl, .ty U, hx H2 (e.trans e2), kit_ty hk, q H2 e2⟩
theorem tyx_str (x : Str) : TyX K H (.str x) (.type "str") := .base (.str x)
theorem tyx_sqt {a : Addr} (h : SqT K H a xs) : TyX K H (.ref a) (.type "tuple") := by
  rcases h with (h | ⟨o, h⟩) | ⟨o, its, n, h, hc, _⟩
  · exact .base (.tup h)
  · exact .fTuple h
  · exact .kTuple h hc
theorem ev_isStr {x : Str} (ha : Ev ta σ H (.str x)) : Ev (tCB (rIsi K) (tCons ta (tCons (tC (.ty "str")) tNil))) σ H (.bl true) := ev_isi ha (fun _ _ => tyx_str x) (by decide +kernel)
theorem ev_isTup {a : Addr} (ha : Ev ta σ H (.ref a)) (h : SqT K H a xs) : Ev (tCB (rIsi K) (tCons ta (tCons (tC (.ty "tuple")) tNil))) σ H (.bl true) := ev_isi ha (fun _ e => tyx_sqt (ex_t e h)) (by decide +kernel)
theorem ev_all {bs : List Bool} (h : EvL ta σ H (bs.map V.bl)) : Ev (tCB (rAll K) (tCons ta tNil)) σ H (.bl (bs.all id)) := fun H1 e Q q =>
  h H1 e _ fun p H2 n2 e2 h2 => ⟨p, bs, rfl, SqL.of h2, q H2 e2⟩
theorem ev_eqD {x y : V} {d d' : PyData} (ha : Ev ta σ H x) (hb : Ev tb σ H y) (hx : ∀ H1, Ex H H1 → Dp K H1 x d) (hy : ∀ H1, Ex H H1 → Dp K H1 y d') (sx : SeqAt.shaped d = true) (sy : SeqAt.shaped d' = true) : Ev (tOp (rEqD K) ta tb) σ H (.bl (PyData.eqv d d')) := fun H1 e Q q =>
  ha H1 e _ fun H2 e2 => hb H2 (e.trans e2) _ fun H3 e3 => ⟨d, d', hx H3 ((e.trans e2).trans e3), hy H3 ((e.trans e2).trans e3), sx, sy, q H3 (e2.trans e3)⟩
theorem dp_sl : ∀ ws : List Str, DpAll K H (sl ws) (ws.map PyData.str)
  | [] => .nil
  | x :: r => .cons (.str x) (dp_sl r)
theorem dp_tup {a : Addr} {ws : List Str} (h : SqT K H a (sl ws)) : Dp K H (.ref a) (.tuple (ws.map PyData.str)) := .tup h (dp_sl ws)
theorem ev_eqT {a : Addr} {ws us : List Str} (ha : Ev ta σ H (.ref a)) (h : SqT K H a (sl ws)) (hb : EvS K tb σ H (sl us)) (sx : SeqAt.shaped (.tuple (ws.map PyData.str)) = true) (sy : SeqAt.shaped (.tuple (us.map PyData.str)) = true) :
    Ev (tOp (rEqD K) ta tb) σ H (.bl (PyData.eqv (.tuple (ws.map PyData.str)) (.tuple (us.map PyData.str)))) := fun H1 e Q q =>
  ha H1 e _ fun H2 e2 => hb H2 (e.trans e2) _ fun p H3 e3 hp => ⟨_, _, dp_tup (ex_t ((e.trans e2).trans e3) h), dp_tup hp, sx, sy, q H3 (e2.trans e3)⟩
theorem es_call {sp : Sp} {dvs vs : List V} {E : XK} {ta : TA} (h : EvA ta σ H vs) (hs : ∀ H1, Ex H H1 → ∀ Q : VK, (∀ p H2, Ex H1 H2 → SqT K H2 p xs → Q (.ref p) H2) → ∀ E : XK, sp (vs ++ dvs) H1 Q E) : EvS K (tCall sp dvs E ta) σ H xs := fun H1 e Q q =>
  h H1 e _ fun H2 e2 => hs H2 (e.trans e2) _ (fun p H3 e3 hp => q p H3 (e2.trans e3) hp) E
variable {D : Ends} {tz : TS}
theorem s_retS (h : EvS K te σ H xs) (k : ∀ p H1, Ex H H1 → SqT K H1 p xs → D.rt (.ref p) H1) : tRet te D σ H := h H (Ex.refl H) _ k
theorem q_asgS {i : Nat} (h : EvS K te σ H xs) (k : ∀ p H1, Ex H H1 → SqT K H1 p xs → tz D (σ.set i (some (.ref p))) H1) : tSeq (tAsg te (gName i)) tz D σ H := h H (Ex.refl H) _ k
/-! ### comprehensions -/
theorem mem_at {ws : List Str} {i : Nat} {x : V} (h : (sl ws)[i]? = some x) : ∃ c, ws[i]? = some c ∧ x = .str c := by
  rw [List.getElem?_map] at h
  cases e : ws[i]? with
  | none => rw [e] at h; cases h
  | some c => rw [e] at h; cases h; exact ⟨c, rfl, rfl⟩
theorem el_lcS {ws : List Str} {tl : TE} {j : Nat} {vs : List Nat} (f : Str → Bool) (v : Str → V) (h : EvS K tl σ H (sl ws)) (hz : ws.length ≤ 40000) (hw : ∀ x, wipe ((wipe σ vs).set j (some x)) vs = wipe σ vs)
    (ht : ∀ c H1, Ex H H1 → c ∈ ws → EvT t ((wipe σ vs).set j (some (.str c))) H1 (f c)) (he : ∀ c H1, Ex H H1 → c ∈ ws → f c = true → Ev te ((wipe σ vs).set j (some (.str c))) H1 (v c)) :
    EvL (tLc (iTup K tl) (gName j) t te vs) σ H ((ws.filter f).map v) := fun H0 e Q q => h H0 e _ fun a H1 e1 hx => ⟨a, rfl, ⟨_, hx⟩, fun D hD =>
  lc_tup (xs := sl ws) (fun i G => Ex H1 G ∧ G D = some (.lst (((ws.take i).filter f).map v))) ⟨Ex.new hD, upd_same⟩ (fun i G _ p => ex_t p.1 hx) (fun i x G hi p => ⟨hw x, by
    obtain ⟨c, hc, rfl⟩ := mem_at hi
    have m := List.mem_of_getElem? hc
    have hi2 := (List.getElem?_eq_some_iff.mp hc).1
    have e2 := (e.trans e1).trans p.1
    refine ht c G e2 m G (Ex.refl G) _ fun G2 g2 => ?_
    have tk : ws.take (i + 1) = ws.take i ++ [c] := by rw [List.take_succ, hc]; rfl
    cases hf : f c with
    | true =>
      refine iteT (he c G2 (e2.trans g2) m hf G2 (Ex.refl G2) _ fun G3 g3 => ⟨_, g3 _ _ (g2 _ _ p.2), ?_, Ex.mut ((p.1.trans g2).trans g3) hD, ?_⟩)
      · refine sz_lt ?_
        have := List.length_filter_le f (ws.take i)
        rw [List.length_take] at this
        rw [List.length_map]
        omega
      · rw [upd_same, tk, List.filter_append, List.map_append, List.filter_cons, if_pos hf]
        rfl
    | false =>
      refine iteF ⟨p.1.trans g2, ?_⟩
      rw [tk, List.filter_append, List.map_append, List.filter_cons, if_neg (by rw [hf]; decide)]
      show _ = some (HO.lst (_ ++ []))
      rw [List.append_nil]
      exact g2 _ _ p.2⟩)
    (fun G p => q D G (fresh_back e1 hD) (e1.trans p.1) (by rw [p.2, show (sl ws).length = ws.length from XB.len_sl ws, List.take_length]))⟩
theorem tYes_go {P R : Hp → Prop} (h : P H) : tYes σ H fun b H3 => if b = true then P H3 else R H3 := by
  show if true = true then P H else R H
  rw [if_pos rfl]
  exact h
theorem sqt_put {G : Hp} {b D : Addr} {xs zs : List V} {o : HO} (h : SqT K G b xs) (hD : G D = some (.lst zs)) : SqT K (upd G D o) b xs := by
  rcases h with (h | ⟨u, h⟩) | h
  · exact .inl (.inl (kpm h (ne_of h hD fun q => by cases q)))
  · exact .inl (.inr ⟨u, kpm h (ne_of h hD fun q => by cases q)⟩)
  · exact .inr h
/-- two walks: a text for each pair -/
theorem el_lc2S {ws us : List Str} {tl tl1 : TE} {j j1 : Nat} {vs vs1 : List Nat} (v : Str → Str → Str) (h : EvS K tl σ H (sl ws)) (hz : ws.length * us.length ≤ 40000)
    (hw : ∀ x, wipe ((wipe σ vs).set j (some x)) vs = wipe σ vs) (hw1 : ∀ x y, wipe ((wipe ((wipe σ vs).set j (some x)) vs1).set j1 (some y)) vs1 = wipe ((wipe σ vs).set j (some x)) vs1)
    (h1 : ∀ c H1, Ex H H1 → c ∈ ws → EvS K tl1 ((wipe σ vs).set j (some (.str c))) H1 (sl us))
    (he : ∀ c r H1, Ex H H1 → c ∈ ws → r ∈ us → Ev te ((wipe ((wipe σ vs).set j (some (.str c))) vs1).set j1 (some (.str r))) H1 (.str (v c r))) :
    EvL (tLc2 (iTup K tl) (gName j) tYes (iTup K tl1) (gName j1) tYes te vs vs1) σ H (sl (ws.flatMap fun c => us.map (v c))) := fun H0 e Q q => h H0 e _ fun a H1 e1 hx => ⟨a, rfl, ⟨_, hx⟩, fun D hD => by
  refine ⟨fun i m G => m = ws.length - i ∧ i ≤ ws.length ∧ Ex H1 G ∧ G D = some (.lst (sl ((ws.take i).flatMap fun c => us.map (v c)))), ⟨ws.length, by simp, Nat.zero_le _, Ex.new hD, upd_same⟩, ?_⟩
  rintro i m G ⟨rfl, hi, g1, g2⟩
  by_cases hlt : i < ws.length
  · have hc : ws[i]? = some (ws[i]'hlt) := List.getElem?_eq_getElem hlt
    generalize ws[i]'hlt = c at hc
    have m := List.mem_of_getElem? hc
    have hcs : (sl ws)[i]? = some (.str c) := by rw [List.getElem?_map, hc]; rfl
    have tk : ws.take (i + 1) = ws.take i ++ [c] := by rw [List.take_succ, hc]; rfl
    refine .inr ⟨⟨sl ws, .str c, ex_t g1 hx, hcs⟩, fun G' => Ex H1 G' ∧ G' D = some (.lst (sl ((ws.take (i + 1)).flatMap fun c => us.map (v c)))), fun G' p' => ⟨ws.length - (i + 1), by omega, rfl, hlt, p'⟩, ?_⟩
    rintro x G' ⟨rfl, hx2⟩
    have ex : x = .str c := by
      have z := hx2 _ (ex_t g1 hx)
      rw [hcs] at z
      injection z with z
      exact z.symm
    subst ex
    have e2 := (e.trans e1).trans g1
    refine ⟨hw _, tYes_go ?_⟩
    refine h1 c _ e2 m _ (Ex.refl _) _ fun b G1 k1 hb => ⟨b, rfl, ⟨_, hb⟩, ?_⟩
    refine ⟨fun n m G => m = us.length - n ∧ n ≤ us.length ∧ Ex H1 G ∧ SqT K G b (sl us) ∧ G D = some (.lst (sl (((ws.take i).flatMap fun c => us.map (v c)) ++ (us.take n).map (v c)))), ⟨us.length, by simp, Nat.zero_le _, g1.trans k1, hb, ?_⟩, ?_⟩
    · rw [k1 _ _ g2]
      show _ = some (HO.lst (sl (_ ++ [])))
      rw [List.append_nil]
    · rintro n m G2 ⟨rfl, hn, k2, hb2, hD2⟩
      by_cases hlt2 : n < us.length
      · have hr : us[n]? = some (us[n]'hlt2) := List.getElem?_eq_getElem hlt2
        generalize us[n]'hlt2 = r at hr
        have mr := List.mem_of_getElem? hr
        have hrs : (sl us)[n]? = some (.str r) := by rw [List.getElem?_map, hr]; rfl
        have tk2 : us.take (n + 1) = us.take n ++ [r] := by rw [List.take_succ, hr]; rfl
        refine .inr ⟨⟨sl us, .str r, hb2, hrs⟩, fun G' => Ex H1 G' ∧ SqT K G' b (sl us) ∧ G' D = some (.lst (sl (((ws.take i).flatMap fun c => us.map (v c)) ++ (us.take (n + 1)).map (v c)))), fun G' p' => ⟨us.length - (n + 1), by omega, rfl, hlt2, p'⟩, ?_⟩
        rintro x G' ⟨rfl, hx2⟩
        have ex : x = .str r := by
          have z := hx2 _ hb2
          rw [hrs] at z
          injection z with z
          exact z.symm
        subst ex
        refine ⟨hw1 _ _, tYes_go ?_⟩
        refine he c r _ ((e.trans e1).trans k2) m mr _ (Ex.refl _) _ fun G3 k3 => ⟨_, k3 _ _ hD2, ?_, Ex.mut (k2.trans k3) hD, ?_, at_sl (ys := [v c r]) upd_same ?_⟩
        · refine sz_lt ?_
          rw [XB.len_sl, List.length_append, List.length_map, List.length_take]
          have : ((ws.take i).flatMap fun c => us.map (v c)).length = i * us.length := by
            rw [List.length_flatMap]
            have : ((ws.take i).map fun c => (us.map (v c)).length) = (ws.take i).map fun _ => us.length := List.map_congr_left fun c _ => List.length_map _
            rw [this, List.map_const', List.sum_replicate_nat, List.length_take, Nat.min_eq_left hi]
          rw [this]
          have : (i + 1) * us.length ≤ ws.length * us.length := Nat.mul_le_mul_right _ hlt
          rw [Nat.succ_mul] at this
          omega
        · exact sqt_put (ex_t k3 hb2) (k3 _ _ hD2)
        · rw [tk2, List.map_append, List.append_assoc]
          rfl
      · have : n = us.length := by omega
        subst this
        refine .inl ⟨⟨sl us, hb2, by rw [XB.len_sl]; exact Nat.le_refl _⟩, k2, ?_⟩
        rw [hD2, tk, List.flatMap_append, List.take_length]
        show some (HO.lst (sl (_ ++ us.map (v c)))) = some (HO.lst (sl (_ ++ (us.map (v c) ++ []))))
        rw [List.append_nil]
  · have : i = ws.length := by omega
    subst this
    refine .inl ⟨⟨sl ws, ex_t g1 hx, by rw [XB.len_sl]; exact Nat.le_refl _⟩, q D G (fresh_back e1 hD) (e1.trans g1) (by rw [g2, List.take_length])⟩⟩
end
end XB
/-! Own: == and != by an own __eq__, with either answer; a class in a local name, called; a classmethod called by keywords. -/
namespace XC
open PySem PySem.Spec PyProof.Rows L2 ClX
open PySem.W (Frag findIn isFn mroIn InstAt notFirst Looks looks_findIn looks_subIn check_slot callWith_of keeps_M MethP methodObj)
section
variable {prog : Program} {w : World} {A : Around} {E : Value → Shared → Prop} {s : Shared} {K : Frag} {x C L f : Addr} {h₀ : Heap} {m : Str → Option Value} {ox : Obj} {od : Option Obj} {b tb : Value}
/-- x != b where the class has __eq__ alone -/
theorem ne_own {Q : Value → Shared → Prop} (hu : A.units + 1 < cLine) (F : Fr h₀ L s.heap m) (X₀ : K.In h₀) (I : InstAt s.heap x ox C od) (hb : Looks (model prog w) s.heap (typeOf b) tb) (hn : notFirst K C tb = true)
    (hs : findIn K (.ref C) "__ne__" = some (some (.builtin "object.__ne__"))) (hm : mroIn K C (.type "object") = some true) (he : findIn K (.ref C) "__eq__" = some (some (.ref f))) (hf : isFn K (.ref f) = true)
    (h : wpAny (model prog w) A.in1 (call (.ref f) [.ref x, b]) (fun v s' => ∃ r, v = .bool r ∧ Q (.bool (!r)) s') E s) : wpAny (model prog w) A (richCompare .NotEq (.ref x) b) Q E s := by
  have X := X₀.keeps F.keep
  have entry : wpAny (model prog w) A.in1 (Builtin.«object.__ne__» ⟨[.ref x, b], []⟩) (fun fin s' => ∃ r, fin = .done (.ret (.bool (!r))) ∧ Q (.bool (!r)) s') E s := by
    unfold Builtin.«object.__ne__»
    repeat (first
      | with_reducible refine wpAny_cRoomFor (show A.in1.units < cLine from hu) ?_
      | (refine wpAny_bind (m := callSpecialIfBound? (.ref x) (Str.ofString "__eq__") [b]) (PySem.W.ifBound_K X I he hf (wpAny_mono h (fun v s' hv => by
          obtain ⟨r, rfl, hq⟩ := hv
          repeat (first | exact wpAny_pure ⟨r, rfl, hq⟩ | exact ⟨r, rfl, hq⟩ | (refine wpAny_bind (m := truthy (.bool _)) (wpAny_truthy_bool ?_)) | wp_step)) fun _ _ e => e)))
      | wp_step)
  have code : wpAny (model prog w) A (call (.builtin "object.__ne__") [.ref x, b]) (fun v s' => ∃ r, v = .bool (!r) ∧ Q (.bool (!r)) s') E s := by
    refine wpAny_call (codeAny_call_builtin PySem.F.cmp_object.ne.plain PySem.F.cmpEntry_ne
      (check_slot PySem.F.cmpKind_ne PySem.F.cmpSplit_ne (I.type.andThen (looks_subIn X (by exact hm))) (PySem.F.cmpArgs_ne _ _) (wpAny_mono entry (fun v s' hv => ?_) fun _ _ e => e)))
    obtain ⟨r, rfl, hq⟩ := hv
    first | exact ⟨r, rfl, hq⟩ | exact wpAny_pure ⟨r, rfl, hq⟩
  have bound : wpAny (model prog w) A (callSpecialIfBound? (.ref x) (Str.ofString "__ne__") [b]) (fun o s' => ∃ r, o = some (.bool (!r)) ∧ Q (.bool (!r)) s') E s := by
    simp only [callSpecialIfBound?, bindSpecialIfBound?]
    refine wpAny_holding (wpAny_bind (wpAny_bind (wpAny_bind (I.type.here ((looks_findIn X hs).here ?_)))))
    simp only [PySem.F.cmp_object.ne.bind]
    refine wpAny_bind (wpAny_askSetting (wpAny_ite ?_))
    have fin : wpAny (model prog w) A (call (.builtin "object.__ne__") ([.ref x] ++ [b]) >>= fun v => pure (some v)) (fun o s' => ∃ r, o = some (.bool (!r)) ∧ Q (.bool (!r)) s') E s :=
      wpAny_bind (wpAny_mono code (fun v s' h' => by
        obtain ⟨r, rfl, hq⟩ := h'
        exact wpAny_pure ⟨r, rfl, hq⟩) fun _ _ h' => h')
    split
    · exact wpAny_bind (wpAny_pure (wpAny_pure fin))
    · exact wpAny_tryCatch (wpAny_bind (wpAny_pure (wpAny_pure fin)))
  have one : wpAny (model prog w) A (tryCompare (.ref x) "__ne__" b) (fun r s' => ∃ v, r = some v ∧ Q v s') E s := by
    unfold tryCompare
    refine wpAny_bind (wpAny_mono bound (fun v s' hv => ?_) fun _ _ e => e)
    obtain ⟨r, rfl, hq⟩ := hv
    exact wpAny_pure ⟨_, rfl, hq⟩
  unfold richCompare
  simp only [oneThing_ref]
  refine wpAny_holding (wpAny_bind (wpAny_cRoomFor (Nat.lt_of_succ_lt hu) ?_))
  refine wpAny_bind (I.type.here (wpAny_bind (hb.here ?_)))
  split
  · rename_i q
    have e : PySem.W.subIn K tb (.ref C) = some false := by
      rcases Bool.or_eq_true_iff.mp hn with e | e
      · rw [beq_iff_eq.mp e] at q; simp at q
      · exact beq_iff_eq.mp e
    refine wpAny_bind ((looks_subIn X e).here ?_)
    simp only [Bool.false_eq_true, if_false]
    refine wpAny_bind (wpAny_mono one (fun r s' z => ?_) fun _ _ e => e)
    obtain ⟨v, rfl, hq⟩ := z
    exact wpAny_pure hq
  · refine wpAny_bind (wpAny_pure ?_)
    simp only [Bool.false_eq_true, if_false]
    refine wpAny_bind (wpAny_mono one (fun r s' z => ?_) fun _ _ e => e)
    obtain ⟨v, rfl, hq⟩ := z
    exact wpAny_pure hq
end
section
variable {X : Cx} {k : Nat} {C f : Addr} {fd : FuncData} {sp : Sp}
/-- own ==, !=: the promise of __eq__, its answer a truth value -/
def rEqO (C : Addr) (sp : Sp) (neg : Bool) : R2 := fun x y H Q => ∃ a dx fs b dy gs, x = .ref a ∧ y = .ref b ∧ H a = some (.ins C dx fs) ∧ H b = some (.ins C dy gs) ∧ sp [.ref a, .ref b] H (fun v H' => ∃ r : Bool, v = .bl r ∧ Q (.bl (if neg then !r else r)) H') E0
/-- what == and != ask of the class -/
structure EqC (K : Frag) (C f : Addr) : Prop where
  eq : findIn K (.ref C) "__eq__" = some (some (.ref f))
  fn : isFn K (.ref f) = true
  ne : findIn K (.ref C) "__ne__" = some (some (.builtin "object.__ne__"))
  ob : mroIn K C (.type "object") = some true
theorem run_eqO {pins : List (Addr × Obj)} {σ : L2.St} {H : Hp} {s : Shared} {a b : Addr} {Q : VK} {A : Around} {G : Value → Shared → Prop} (F : FnOk X.prog X.w X.K X.mg X.base CX0 k f fd ["self", "other"] sp) (hr : Room k A) (he : Env0 X.prog X.w X.K X.mg X.base A X.stack s H)
    (hb : Binds X.K fd ["self", "other"] []) (I : L2.Inv X pins σ H s) (h : sp [.ref a, .ref b] H Q E0) : wpAny (model X.prog X.w) A (call (.ref f) [.ref a, .ref b]) (EP X pins σ Q) G s := by
  refine wpAny_call (codeAny_mono (F.run A X.stack s H ⟨[.ref a, .ref b], []⟩ [.ref a, .ref b] [.ref a, .ref b] Q E0 hr he (hb s [.ref a, .ref b] I.kIn rfl) (.cons rfl (.cons rfl .nil)) h) fun r s' hq => ?_)
  cases r with
  | error er => exact hq.elim
  | ok fl =>
    cases fl with
    | ret u => exact I.after hq
    | _ => exact False.elim hq
theorem op_eqO (c : EqC X.K C f) (F : FnOk X.prog X.w X.K X.mg X.base CX0 k f fd ["self", "other"] sp) (hr : Room (k + 1) X.A) (hb : Binds X.K fd ["self", "other"] []) : OpR X (compareOp .Eq) (rEqO C sp false) := by
  intro pins s σ H x y v u Q I rx ry h
  obtain ⟨a, dx, fs, b, dy, gs, rfl, rfl, ha, hb', q⟩ := h
  cases rx
  cases ry
  obtain ⟨od, J⟩ := XO.inst_look I ha
  obtain ⟨od', J'⟩ := XO.inst_look I hb'
  obtain ⟨m, hF⟩ := I.fr
  show wpAny (model X.prog X.w) X.A (richCompare .Eq (.ref a) (.ref b)) (EP X pins σ Q) X.xe s
  refine PySem.W.cmp_K (op := .Eq) (tb := .ref C) hr.units0 hF I.ok.mod.kin J J'.type (by simp [PySem.W.notFirst]) c.eq c.fn (thn (run_eqO F (hr.mono (Nat.le_succ _)) I.env0 hb I q) fun w s' ⟨z, H1, I1, rz, r, ez, q1⟩ => ?_)
  subst ez
  cases rz
  exact ⟨.bl r, H1, I1, rfl, q1⟩
theorem op_neO (c : EqC X.K C f) (F : FnOk X.prog X.w X.K X.mg X.base CX0 k f fd ["self", "other"] sp) (hr : Room (k + 1) X.A) (hb : Binds X.K fd ["self", "other"] []) : OpR X (compareOp .NotEq) (rEqO C sp true) := by
  intro pins s σ H x y v u Q I rx ry h
  obtain ⟨a, dx, fs, b, dy, gs, rfl, rfl, ha, hb', q⟩ := h
  cases rx
  cases ry
  obtain ⟨od, J⟩ := XO.inst_look I ha
  obtain ⟨od', J'⟩ := XO.inst_look I hb'
  obtain ⟨m, hF⟩ := I.fr
  show wpAny (model X.prog X.w) X.A (richCompare .NotEq (.ref a) (.ref b)) (EP X pins σ Q) X.xe s
  refine ne_own (tb := .ref C) (by have := hr.units; omega) hF I.ok.mod.kin J J'.type (by simp [PySem.W.notFirst]) c.ne c.ob c.eq c.fn (thn (run_eqO F hr.in1 I.env0.in1 hb I q) fun w s' ⟨z, H1, I1, rz, r, ez, q1⟩ => ?_)
  subst ez
  cases rz
  exact ⟨r, rfl, .bl (!r), H1, I1, rfl, q1⟩
end
section
variable {X : Cx} {CX : CXT} {k n : Nat} {C f g p : Addr} {mc : Value} {fd : FuncData} {ps ks : List Str} {sp : Sp} {E : XK} {x m : Str} {pos apos p' : Pos} {o e : Expr} {es : List Expr} {kws : List Keyword} {t tk ta : TA} {to : TE} {ds : List Value} {dvs : List V} {pl : Sem Bool}
/-- C(..), the class in a local name -/
def tMakeL (i : Nat) (C : Addr) (sp : Sp) (dvs : List V) (E : XK) (t : TA) : TE := fun σ H Q => σ[i]? = some (some (.ref C)) ∧ tMake C sp dvs E t σ H Q
theorem pe_makeL {i : Nat} (M : Mk X.K C f) (F : FnOk X.prog X.w X.K X.mg X.base CX k f fd ps sp) (hr : Room (k + 1) X.A) (hN : X.N[i]? = some x) (hv : Vis X.env.scope x) (hb : Binds X.K fd ps ds) (hd : Vals dvs ds) (hx : Passes CX X E) (ha : PA X (e :: es) t)
    (hdb : (x == ("__debug__" : Str)) = false := by decide) (hcd : (x == ("__classdict__" : Str)) = false := by decide)
    (he : starEach (e :: es) X.env = (false, eval e X.env) :: starEach es X.env := by rfl) (hpl : (backTo pos (starEach es X.env)).any (·.1) = false := by rfl) :
    PE X (.Call (.Name x p') (e :: es) [] pos) (tMakeL i C sp dvs E t) := by
  refine ⟨fun pins s σ H Q I h => ?_⟩
  obtain ⟨hs, h⟩ := h
  refine wpAny_Call_Name_kw (thn ((pe_var (pos := p') hN hv hdb hcd).run pins s σ H (fun v H1 => v = .ref C ∧ H1 = H) I ⟨.ref C, hs, rfl, rfl⟩) fun u s1 ⟨v, H1, I1, r1, q1⟩ => ?_)
  obtain ⟨rfl, rfl⟩ := q1
  cases r1
  refine PySem.W.callWith_K (h₀ := X.base) I.ok.mod.kin M.kp (thn (ha.run pos pins s1 σ _ _ I1 h) fun us s2 ⟨vs, H2, I2, r, q⟩ => ⟨I2.kIn, ?_⟩) he hpl
  exact run_make M F hr hb hd hx I2 r q
/-- C.m(k = v, ..), m a classmethod; its def by name at g -/
def tCMethK (C : Addr) (m : Nat) (sp : Sp) (gV : List V → List V → List V) (E : XK) (to : TE) (tk : TA) : TE := fun σ H Q => to σ H fun x H1 => x = .ref C ∧ tk σ H1 fun zs H2 => zs.length = m ∧ sp (gV [.ref C] zs) H2 Q E
theorem pe_cmethK {gg : List Value → List Value → List Value} {gV : List V → List V → List V} (he : PE X o to) (r : CRead X.K C mc) (c : CMet X.K C mc m p g) (F : FnOk X.prog X.w X.K X.mg X.base CX k g fd ps sp) (hr : Room k X.A) (hb : KBn X.K fd ps 1 ks gg gV) (hx : Passes CX X E) (hkw : PK X kws tk)
    (hall : (backToKw pos (keywordEach kws X.env)).all (·.1.isSome) = true := by rfl) (hks : (backToKw pos (keywordEach kws X.env)).filterMap (·.1) = ks := by rfl)
    (hpl : ((backTo pos (starEach [] X.env)).any (·.1) || (backToKw pos (keywordEach kws X.env)).any (·.1.isNone)) = false := by rfl)
    (ht : eval (.Call (.Attribute o m apos) [] kws pos) X.env = (do
      let ov ← eval o X.env
      standAt apos.atName
      let (f, first) ← holding [ov] (getMethod ov m pl)
      callWith pos f first (backTo pos (starEach [] X.env)) (backToKw pos (keywordEach kws X.env))) := by rfl) :
    PE X (.Call (.Attribute o m apos) [] kws pos) (tCMethK C ks.length sp gV E to tk) := by
  refine ⟨fun pins s σ H Q I h => ?_⟩
  refine PySem.W.methodCall_KW (pl := pl) (thn (he.run pins s σ H _ I h) fun u s1 ⟨x, H1, I1, rx, ex, q⟩ => ?_) ht
  subst ex
  obtain rfl : u = Value.ref C := rx
  refine getmethcm_ok I1 r c fun s2 I2 => ?_
  refine callWith_of hpl (keeps_M c.fi) (evalArgs_kw2_nil hall (thn (hkw.run pos _ s2 σ H1 _ I2 q) fun ws s3 ⟨zs, H2, I3, rz, l2, q2⟩ => ⟨⟨pin_at I3, I3.kIn⟩, ?_⟩))
  rw [hks]
  have z : wpAny (model X.prog X.w) X.A (call (.ref _) [] (ks.zip ws)) (EP X _ σ Q) X.xe s3 :=
    wpAny_call (PySem.W.method_call (pin_at I3) (codeAny_mono (F.run X.A X.stack s3 H2 ⟨[.ref C], ks.zip ws⟩ (gg [.ref C] ws) (gV [.ref C] zs) Q E hr I3.env0 (hb.to s3 [.ref C] ws I3.kIn rfl (rz.length.symm.trans l2)) (hb.rel (.cons rfl .nil) rz) q2) fun r s' hq => by
      cases r with
      | error e => exact hx _ σ H2 s3 e s' I3 hq
      | ok fl =>
        cases fl with
        | ret u => exact I3.after hq
        | _ => exact False.elim hq))
  exact thn z fun _ _ y => unpinE y
end
end XC
/-! Own: o[i] by an own __getitem__. -/
namespace XGt
open PySem PySem.Spec PyProof.Rows L2
structure GetC (K : PySem.W.Frag) (C f : Addr) : Prop where
  get : PySem.W.findIn K (.ref C) "__getitem__" = some (some (.ref f))
  fi : PySem.W.fnIn K f = true
  fn : PySem.W.isFn K (.ref f) = true
section
variable {X : Cx} {k : Nat} {C f : Addr} {fd : FuncData} {sp : Sp} {a b : Expr} {pos : Pos} {ta tb : TE}
def rGetO (C : Addr) (sp : Sp) : R2 := fun x y H Q => ∃ o dx fs, x = .ref o ∧ H o = some (.ins C dx fs) ∧ sp [.ref o, y] H Q E0
theorem pe_getO (c : GetC X.K C f) (F : FnOk X.prog X.w X.K X.mg X.base CX0 k f fd ["self", "at"] sp) (hr : Room (k + 1) X.A) (hb : Binds X.K fd ["self", "at"] []) (ha : PE X a ta) (hi : PE X b tb)
    (hsl : ∀ (x : Addr) (i : Value), subscripted b true (.ref x) i = runValue (.builtin "lifetime.subscript" ⟨[.ref x, i], []⟩) := by intro _ _; with_unfolding_all rfl) : PE X (.Subscript a b pos) (tOp (rGetO C sp) ta tb) := by
  refine ⟨fun pins s σ H Q I h => ?_⟩
  refine Subscript_ (binT ha hi I h fun v u s2 x y H2 I2 rx ry q => ?_)
  obtain ⟨o, dx, fs, rfl, ea, q⟩ := q
  obtain rfl : v = Value.ref o := rx
  obtain ⟨od, J⟩ := XO.inst_look I2 ea
  obtain ⟨m, hF⟩ := I2.fr
  refine PySem.W.sub_K hF I2.ok.mod.kin J c.get c.fi c.fn ?_ (hsl o u)
  refine wpAny_call (codeAny_mono (F.run X.A.in1 X.stack s2 H2 ⟨[.ref o, u], []⟩ [.ref o, u] [.ref o, y] Q E0 hr.in1 I2.env0.in1 (hb s2 [.ref o, u] I2.kIn rfl) (.cons rfl (.cons ry .nil)) q) fun r s' hq => ?_)
  cases r with
  | error er => exact hq.elim
  | ok fl =>
    cases fl with
    | ret w => exact I2.after hq
    | _ => exact False.elim hq
end
section
variable {X : Cx} {CX : CXT} {k : Nat} {C f : Addr} {fd : FuncData} {ps ks : List Str} {sp : Sp} {E : XK} {o : Expr} {kws : List Keyword} {m : Str} {pos apos : Pos} {ta : TE} {tk : TA} {pl : Sem Bool}
/-- o.m(k = v, ..) -/
def tMethKw (C : Addr) (m : Str) (n : Nat) (sp : Sp) (gV : List V → List V → List V) (E : XK) (ta : TE) (tk : TA) : TE := fun σ H Q => ta σ H fun x H1 => ∃ a dx fs, x = .ref a ∧ H1 a = some (.ins C dx fs) ∧ fs.lookup m = none ∧ tk σ H1 fun zs H2 => zs.length = n ∧ sp (gV [x] zs) H2 Q E
theorem pe_methKw {gg : List Value → List Value → List Value} {gV : List V → List V → List V} (he : PE X o ta) (c : Cls X.K C) (hm : Meth X.K C m f) (F : FnOk X.prog X.w X.K X.mg X.base CX k f fd ps sp) (hr : Room k X.A) (hb : KBn X.K fd ps 1 ks gg gV) (hx : Passes CX X E) (hkw : PK X kws tk)
    (hall : (backToKw pos (keywordEach kws X.env)).all (·.1.isSome) = true := by rfl) (hks : (backToKw pos (keywordEach kws X.env)).filterMap (·.1) = ks := by rfl)
    (hpl : ((backTo pos (starEach [] X.env)).any (·.1) || (backToKw pos (keywordEach kws X.env)).any (·.1.isNone)) = false := by rfl)
    (ht : eval (.Call (.Attribute o m apos) [] kws pos) X.env = (do
      let ov ← eval o X.env
      standAt apos.atName
      let (f, first) ← holding [ov] (getMethod ov m pl)
      callWith pos f first (backTo pos (starEach [] X.env)) (backToKw pos (keywordEach kws X.env))) := by rfl) :
    PE X (.Call (.Attribute o m apos) [] kws pos) (tMethKw C m ks.length sp gV E ta tk) := by
  refine ⟨fun pins s σ H Q I h => ?_⟩
  refine PySem.W.methodCall_KW (pl := pl) (thn (he.run pins s σ H _ I h) fun u s1 ⟨x, H1, I1, rx, a, dx, fs, ex, ea, l, q⟩ => ?_) ht
  subst ex
  obtain rfl : u = Value.ref a := rx
  refine getmeth_ok I1 ea c hm l ?_
  refine PySem.W.callWith_KW0 (first := [.ref a]) (h₀ := X.base) I1.ok.mod.kin hm.kp hall (thn (hkw.run pos pins s1 σ H1 _ I1 q) fun ws s2 ⟨zs, H2, I2, rz, l2, q2⟩ => ⟨I2.kIn, ?_⟩) hpl
  rw [hks]
  exact run_fnN (us := [.ref a]) (vs := [.ref a]) F hr hb hx I2 (.cons rfl .nil) rz rfl l2 q2
end
end XGt
namespace T
open PySem PySem.Spec PyProof.Rows L2 XB
def topS (i : Nat) : Stmt := PySem.Challenge.pw_passedits_k19_whole_written_otherwise.main.body.getD i (.Pass ⟨0, 0, 0, 0⟩)
abbrev s_is_integer : Stmt := topS 24
abbrev N_is_integer : List Str := ["value"]
theorem sc_is_integer : FnScope N_is_integer ["value"] (defScope s_is_integer) := ⟨rfl, rfl, rfl, by decide +kernel, rfl, by decide +kernel, by decide +kernel⟩
abbrev s_is_word : Stmt := topS 25
abbrev N_is_word : List Str := ["value", "words"]
theorem sc_is_word : FnScope N_is_word ["value", "words"] (defScope s_is_word) := ⟨rfl, rfl, rfl, by decide +kernel, rfl, by decide +kernel, by decide +kernel⟩
abbrev s_is_place : Stmt := topS 26
abbrev N_is_place : List Str := ["value"]
theorem sc_is_place : FnScope N_is_place ["value"] (defScope s_is_place) := ⟨rfl, rfl, rfl, by decide +kernel, rfl, by decide +kernel, by decide +kernel⟩
abbrev s_is_sign : Stmt := topS 27
abbrev N_is_sign : List Str := ["value"]
theorem sc_is_sign : FnScope N_is_sign ["value"] (defScope s_is_sign) := ⟨rfl, rfl, rfl, by decide +kernel, rfl, by decide +kernel, by decide +kernel⟩
abbrev s_is_edit : Stmt := topS 28
abbrev N_is_edit : List Str := ["value"]
theorem sc_is_edit : FnScope N_is_edit ["value"] (defScope s_is_edit) := ⟨rfl, rfl, rfl, by decide +kernel, rfl, by decide +kernel, by decide +kernel⟩
abbrev s_is_edit_of : Stmt := topS 29
abbrev N_is_edit_of : List Str := ["value", "kinds"]
theorem sc_is_edit_of : FnScope N_is_edit_of ["value", "kinds"] (defScope s_is_edit_of) := ⟨rfl, rfl, rfl, by decide +kernel, rfl, by decide +kernel, by decide +kernel⟩
abbrev s_are_kinds : Stmt := topS 30
abbrev N_are_kinds : List Str := ["value", "kind"]
theorem sc_are_kinds : FnScope N_are_kinds ["value"] (defScope s_are_kinds) := ⟨rfl, rfl, rfl, by decide +kernel, rfl, by decide +kernel, by decide +kernel⟩
abbrev s_is_cell : Stmt := topS 31
abbrev N_is_cell : List Str := ["value", "kinds", "mine", "its", "relation"]
theorem sc_is_cell : FnScope N_is_cell ["value", "kinds"] (defScope s_is_cell) := ⟨rfl, rfl, rfl, by decide +kernel, rfl, by decide +kernel, by decide +kernel⟩
abbrev s_cell_of : Stmt := topS 32
abbrev N_cell_of : List Str := ["row"]
theorem sc_cell_of : FnScope N_cell_of ["row"] (defScope s_cell_of) := ⟨rfl, rfl, rfl, by decide +kernel, rfl, by decide +kernel, by decide +kernel⟩
abbrev s_options_of : Stmt := topS 33
abbrev N_options_of : List Str := ["row"]
theorem sc_options_of : FnScope N_options_of ["row"] (defScope s_options_of) := ⟨rfl, rfl, rfl, by decide +kernel, rfl, by decide +kernel, by decide +kernel⟩
abbrev s_conditions_for : Stmt := topS 34
abbrev N_conditions_for : List Str := ["mine", "its"]
theorem sc_conditions_for : FnScope N_conditions_for ["mine", "its"] (defScope s_conditions_for) := ⟨rfl, rfl, rfl, by decide +kernel, rfl, by decide +kernel, by decide +kernel⟩
abbrev s_results_for : Stmt := topS 35
abbrev N_results_for : List Str := ["mine", "kinds"]
theorem sc_results_for : FnScope N_results_for ["mine", "kinds"] (defScope s_results_for) := ⟨rfl, rfl, rfl, by decide +kernel, rfl, by decide +kernel, by decide +kernel⟩
abbrev s_is_row : Stmt := topS 36
abbrev N_is_row : List Str := ["value", "kinds", "mine", "its", "_", "options", "results", "tested", "condition", "result", "option"]
theorem sc_is_row : FnScope N_is_row ["value", "kinds"] (defScope s_is_row) := ⟨rfl, rfl, rfl, by decide +kernel, rfl, by decide +kernel, by decide +kernel⟩
abbrev s_first_wrong_row : Stmt := topS 37
abbrev N_first_wrong_row : List Str := ["rows", "kinds", "cells", "index", "row"]
theorem sc_first_wrong_row : FnScope N_first_wrong_row ["rows", "kinds"] (defScope s_first_wrong_row) := ⟨rfl, rfl, rfl, by decide +kernel, rfl, by decide +kernel, by decide +kernel⟩
abbrev s_kinds_and_rows : Stmt := topS 38
abbrev N_kinds_and_rows : List Str := ["text", "lines"]
theorem sc_kinds_and_rows : FnScope N_kinds_and_rows ["text"] (defScope s_kinds_and_rows) := ⟨rfl, rfl, rfl, by decide +kernel, rfl, by decide +kernel, by decide +kernel⟩
abbrev s_is_table_text : Stmt := topS 39
abbrev N_is_table_text : List Str := ["value", "kinds", "rows"]
theorem sc_is_table_text : FnScope N_is_table_text ["value"] (defScope s_is_table_text) := ⟨rfl, rfl, rfl, by decide +kernel, rfl, by decide +kernel, by decide +kernel⟩
abbrev s_is_list : Stmt := topS 40
abbrev N_is_list : List Str := ["value", "sign"]
theorem sc_is_list : FnScope N_is_list ["value"] (defScope s_is_list) := ⟨rfl, rfl, rfl, by decide +kernel, rfl, by decide +kernel, by decide +kernel⟩
abbrev s_is_arrival : Stmt := topS 41
abbrev N_is_arrival : List Str := ["value", "many", "index"]
theorem sc_is_arrival : FnScope N_is_arrival ["value", "many"] (defScope s_is_arrival) := ⟨rfl, rfl, rfl, by decide +kernel, rfl, by decide +kernel, by decide +kernel⟩
abbrev s_Table___init__ : Stmt := inClass (topS 44) 0
abbrev N_Table___init__ : List Str := ["self", "kinds", "rows", "wrong", "row"]
theorem sc_Table___init__ : FnScope N_Table___init__ ["self", "kinds", "rows"] (defScope s_Table___init__) := ⟨rfl, rfl, rfl, by decide +kernel, rfl, by decide +kernel, by decide +kernel⟩
abbrev s_Table_read : Stmt := inClass (topS 44) 1
abbrev N_Table_read : List Str := ["cls", "text", "kinds", "rows"]
theorem sc_Table_read : FnScope N_Table_read ["cls", "text"] (defScope s_Table_read) := ⟨rfl, rfl, rfl, by decide +kernel, rfl, by decide +kernel, by decide +kernel⟩
abbrev s_Table_kinds : Stmt := inClass (topS 44) 2
abbrev N_Table_kinds : List Str := ["self"]
theorem sc_Table_kinds : FnScope N_Table_kinds ["self"] (defScope s_Table_kinds) := ⟨rfl, rfl, rfl, by decide +kernel, rfl, by decide +kernel, by decide +kernel⟩
abbrev s_Table_rows : Stmt := inClass (topS 44) 3
abbrev N_Table_rows : List Str := ["self"]
theorem sc_Table_rows : FnScope N_Table_rows ["self"] (defScope s_Table_rows) := ⟨rfl, rfl, rfl, by decide +kernel, rfl, by decide +kernel, by decide +kernel⟩
abbrev s_Table_passed : Stmt := inClass (topS 44) 4
abbrev N_Table_passed : List Str := ["self", "edit", "past", "first"]
theorem sc_Table_passed : FnScope N_Table_passed ["self", "edit", "past", "first"] (defScope s_Table_passed) := ⟨rfl, rfl, rfl, by decide +kernel, rfl, by decide +kernel, by decide +kernel⟩
abbrev s_Table_changed : Stmt := inClass (topS 44) 5
abbrev N_Table_changed : List Str := ["self", "change"]
theorem sc_Table_changed : FnScope N_Table_changed ["self", "change"] (defScope s_Table_changed) := ⟨rfl, rfl, rfl, by decide +kernel, rfl, by decide +kernel, by decide +kernel⟩
abbrev s_Table___getitem__ : Stmt := inClass (topS 44) 6
abbrev N_Table___getitem__ : List Str := ["self", "at"]
theorem sc_Table___getitem__ : FnScope N_Table___getitem__ ["self", "at"] (defScope s_Table___getitem__) := ⟨rfl, rfl, rfl, by decide +kernel, rfl, by decide +kernel, by decide +kernel⟩
abbrev s_Table___iter__ : Stmt := inClass (topS 44) 7
abbrev N_Table___iter__ : List Str := ["self"]
theorem sc_Table___iter__ : FnScope N_Table___iter__ ["self"] (defScope s_Table___iter__) := ⟨rfl, rfl, rfl, by decide +kernel, rfl, by decide +kernel, by decide +kernel⟩
abbrev s_Table___len__ : Stmt := inClass (topS 44) 8
abbrev N_Table___len__ : List Str := ["self"]
theorem sc_Table___len__ : FnScope N_Table___len__ ["self"] (defScope s_Table___len__) := ⟨rfl, rfl, rfl, by decide +kernel, rfl, by decide +kernel, by decide +kernel⟩
abbrev s_Table___bool__ : Stmt := inClass (topS 44) 9
abbrev N_Table___bool__ : List Str := ["self"]
theorem sc_Table___bool__ : FnScope N_Table___bool__ ["self"] (defScope s_Table___bool__) := ⟨rfl, rfl, rfl, by decide +kernel, rfl, by decide +kernel, by decide +kernel⟩
abbrev s_Table___str__ : Stmt := inClass (topS 44) 10
abbrev N_Table___str__ : List Str := ["self"]
theorem sc_Table___str__ : FnScope N_Table___str__ ["self"] (defScope s_Table___str__) := ⟨rfl, rfl, rfl, by decide +kernel, rfl, by decide +kernel, by decide +kernel⟩
abbrev s_Table___eq__ : Stmt := inClass (topS 44) 11
abbrev N_Table___eq__ : List Str := ["self", "other"]
theorem sc_Table___eq__ : FnScope N_Table___eq__ ["self", "other"] (defScope s_Table___eq__) := ⟨rfl, rfl, rfl, by decide +kernel, rfl, by decide +kernel, by decide +kernel⟩
abbrev s_ask_for_table : Stmt := topS 45
abbrev N_ask_for_table : List Str := ["value"]
theorem sc_ask_for_table : FnScope N_ask_for_table ["value"] (defScope s_ask_for_table) := ⟨rfl, rfl, rfl, by decide +kernel, rfl, by decide +kernel, by decide +kernel⟩
abbrev s_turned : Stmt := topS 46
abbrev N_turned : List Str := ["table", "edit", "past", "first", "options"]
theorem sc_turned : FnScope N_turned ["table", "edit", "past", "first"] (defScope s_turned) := ⟨rfl, rfl, rfl, by decide +kernel, rfl, by decide +kernel, by decide +kernel⟩
abbrev s_compared : Stmt := topS 47
abbrev N_compared : List Str := ["mine", "its", "words"]
theorem sc_compared : FnScope N_compared ["mine", "its", "words"] (defScope s_compared) := ⟨rfl, rfl, rfl, by decide +kernel, rfl, by decide +kernel, by decide +kernel⟩
abbrev s_conditions_met : Stmt := topS 48
abbrev N_conditions_met : List Str := ["edit", "past", "first", "met"]
theorem sc_conditions_met : FnScope N_conditions_met ["edit", "past", "first"] (defScope s_conditions_met) := ⟨rfl, rfl, rfl, by decide +kernel, rfl, by decide +kernel, by decide +kernel⟩
abbrev s_chosen : Stmt := topS 49
abbrev N_chosen : List Str := ["options", "met", "option", "condition", "_", "result"]
theorem sc_chosen : FnScope N_chosen ["options", "met"] (defScope s_chosen) := ⟨rfl, rfl, rfl, by decide +kernel, rfl, by decide +kernel, by decide +kernel⟩
abbrev s_formed : Stmt := topS 50
abbrev N_formed : List Str := ["edit", "result"]
theorem sc_formed : FnScope N_formed ["edit", "result"] (defScope s_formed) := ⟨rfl, rfl, rfl, by decide +kernel, rfl, by decide +kernel, by decide +kernel⟩
abbrev s_ended : Stmt := topS 52
abbrev N_ended : List Str := ["table", "text", "edits", "arrival", "wrong"]
theorem sc_ended : FnScope N_ended ["table", "text", "edits", "arrival"] (defScope s_ended) := ⟨rfl, rfl, rfl, by decide +kernel, rfl, by decide +kernel, by decide +kernel⟩
abbrev s_list_behind : Stmt := topS 53
abbrev N_list_behind : List Str := ["text", "edit", "kind", "place", "last"]
theorem sc_list_behind : FnScope N_list_behind ["text", "edit"] (defScope s_list_behind) := ⟨rfl, rfl, rfl, by decide +kernel, rfl, by decide +kernel, by decide +kernel⟩
abbrev s_first_wrong_edit : Stmt := topS 54
abbrev N_first_wrong_edit : List Str := ["edits", "kinds", "text", "index", "edit"]
theorem sc_first_wrong_edit : FnScope N_first_wrong_edit ["edits", "kinds", "text"] (defScope s_first_wrong_edit) := ⟨rfl, rfl, rfl, by decide +kernel, rfl, by decide +kernel, by decide +kernel⟩
abbrev s_end_of : Stmt := topS 55
abbrev N_end_of : List Str := ["table", "text", "edits", "arrival", "forms", "many", "site", "other"]
theorem sc_end_of : FnScope N_end_of ["table", "text", "edits", "arrival"] (defScope s_end_of) := ⟨rfl, rfl, rfl, by decide +kernel, rfl, by decide +kernel, by decide +kernel⟩
abbrev s__law_purse : Stmt := topS 57
abbrev N__law_purse : List Str := ["script", "k", "cell", "digits", "seed"]
theorem sc__law_purse : FnScope N__law_purse ["script", "k"] (defScope s__law_purse) := ⟨rfl, rfl, rfl, by decide +kernel, rfl, by decide +kernel, by decide +kernel⟩
abbrev s__law_draw : Stmt := topS 58
abbrev N__law_draw : List Str := ["purse", "size", "seed", "by", "digit"]
theorem sc__law_draw : FnScope N__law_draw ["purse", "size"] (defScope s__law_draw) := ⟨rfl, rfl, rfl, by decide +kernel, rfl, by decide +kernel, by decide +kernel⟩
abbrev s__law_pick : Stmt := topS 59
abbrev N__law_pick : List Str := ["purse", "menu"]
theorem sc__law_pick : FnScope N__law_pick ["purse", "menu"] (defScope s__law_pick) := ⟨rfl, rfl, rfl, by decide +kernel, rfl, by decide +kernel, by decide +kernel⟩
abbrev s__law_sorts : Stmt := topS 60
abbrev N__law_sorts : List Str := ["purse", "menu"]
theorem sc__law_sorts : FnScope N__law_sorts ["purse"] (defScope s__law_sorts) := ⟨rfl, rfl, rfl, by decide +kernel, rfl, by decide +kernel, by decide +kernel⟩
abbrev s__law_keys : Stmt := topS 61
abbrev N__law_keys : List Str := ["sorts", "found", "mine", "its", "sign"]
theorem sc__law_keys : FnScope N__law_keys ["sorts"] (defScope s__law_keys) := ⟨rfl, rfl, rfl, by decide +kernel, rfl, by decide +kernel, by decide +kernel⟩
abbrev s__law_shuffled : Stmt := topS 62
abbrev N__law_shuffled : List Str := ["purse", "some", "left", "found", "k"]
theorem sc__law_shuffled : FnScope N__law_shuffled ["purse", "some"] (defScope s__law_shuffled) := ⟨rfl, rfl, rfl, by decide +kernel, rfl, by decide +kernel, by decide +kernel⟩
abbrev s__law_options : Stmt := topS 63
abbrev N__law_options : List Str := ["purse", "mine", "its", "sorts", "ends", "heads", "found", "k"]
theorem sc__law_options : FnScope N__law_options ["purse", "mine", "its", "sorts"] (defScope s__law_options) := ⟨rfl, rfl, rfl, by decide +kernel, rfl, by decide +kernel, by decide +kernel⟩
abbrev s__law_cells : Stmt := topS 64
abbrev N__law_cells : List Str := ["purse", "sorts", "found", "key"]
theorem sc__law_cells : FnScope N__law_cells ["purse", "sorts"] (defScope s__law_cells) := ⟨rfl, rfl, rfl, by decide +kernel, rfl, by decide +kernel, by decide +kernel⟩
abbrev s__law_lines : Stmt := topS 65
abbrev N__law_lines : List Str := ["cells", "key"]
theorem sc__law_lines : FnScope N__law_lines ["cells"] (defScope s__law_lines) := ⟨rfl, rfl, rfl, by decide +kernel, rfl, by decide +kernel, by decide +kernel⟩
abbrev s__law_text : Stmt := topS 66
abbrev N__law_text : List Str := ["sorts", "lines"]
theorem sc__law_text : FnScope N__law_text ["sorts", "lines"] (defScope s__law_text) := ⟨rfl, rfl, rfl, by decide +kernel, rfl, by decide +kernel, by decide +kernel⟩
abbrev s__law_sign : Stmt := topS 67
abbrev N__law_sign : List Str := ["purse", "letters"]
theorem sc__law_sign : FnScope N__law_sign ["purse"] (defScope s__law_sign) := ⟨rfl, rfl, rfl, by decide +kernel, rfl, by decide +kernel, by decide +kernel⟩
abbrev s__law_deed : Stmt := topS 68
abbrev N__law_deed : List Str := ["purse", "sorts", "low", "high", "sort", "place"]
theorem sc__law_deed : FnScope N__law_deed ["purse", "sorts", "low", "high"] (defScope s__law_deed) := ⟨rfl, rfl, rfl, by decide +kernel, rfl, by decide +kernel, by decide +kernel⟩
abbrev s__law_made : Stmt := topS 69
abbrev N__law_made : List Str := ["purse", "sorts", "size", "count", "found", "k", "sort", "most_here"]
theorem sc__law_made : FnScope N__law_made ["purse", "sorts", "size", "count"] (defScope s__law_made) := ⟨rfl, rfl, rfl, by decide +kernel, rfl, by decide +kernel, by decide +kernel⟩
abbrev s__law_row : Stmt := topS 70
abbrev N__law_row : List Str := ["purse", "size", "k"]
theorem sc__law_row : FnScope N__law_row ["purse", "size"] (defScope s__law_row) := ⟨rfl, rfl, rfl, by decide +kernel, rfl, by decide +kernel, by decide +kernel⟩
abbrev s__law_wordy : Stmt := topS 71
abbrev N__law_wordy : List Str := ["purse", "some", "key", "heads", "at", "head", "spot"]
theorem sc__law_wordy : FnScope N__law_wordy ["purse", "some", "key"] (defScope s__law_wordy) := ⟨rfl, rfl, rfl, by decide +kernel, rfl, by decide +kernel, by decide +kernel⟩
abbrev s__law_rewritten : Stmt := topS 72
abbrev N__law_rewritten : List Str := ["purse", "sorts", "cells", "found", "key"]
theorem sc__law_rewritten : FnScope N__law_rewritten ["purse", "sorts", "cells"] (defScope s__law_rewritten) := ⟨rfl, rfl, rfl, by decide +kernel, rfl, by decide +kernel, by decide +kernel⟩
abbrev s__law_pairs : Stmt := topS 73
abbrev N__law_pairs : List Str := ["sorts", "found", "key", "place", "sign", "mine"]
theorem sc__law_pairs : FnScope N__law_pairs ["sorts"] (defScope s__law_pairs) := ⟨rfl, rfl, rfl, by decide +kernel, rfl, by decide +kernel, by decide +kernel⟩
abbrev s__law_right : Stmt := topS 74
abbrev N__law_right : List Str := ["purse", "sorts", "cells", "more", "lines", "line", "mine", "its", "pair", "is_first", "turn", "row", "count", "made", "own"]
theorem sc__law_right : FnScope N__law_right ["purse"] (defScope s__law_right) := ⟨rfl, rfl, rfl, by decide +kernel, rfl, by decide +kernel, by decide +kernel⟩
abbrev s_law : Stmt := topS 75
abbrev N_law : List Str := ["script", "k"]
theorem sc_law : FnScope N_law ["script"] (defScope s_law) := ⟨rfl, rfl, rfl, by decide +kernel, rfl, by decide +kernel, by decide +kernel⟩
end T
namespace T
open PySem PySem.Spec PyProof.Rows L2 XB
section
variable {P : Program} {w : World} {K : PySem.W.Frag} {mg : Str → Option Value} {base : Heap}
/-! ### _law_purse -/
def spPurse (K : PySem.W.Frag) : Sp := fun vs H Q _ => ∃ (a : Addr) (ns : List Int) (k : Int), vs = [.ref a, .int k] ∧ SqL K H a (ns.map V.int) ∧ 0 ≤ k ∧ k < 2 ^ 20 ∧ ns.length ≤ 1000 ∧ ∀ p H', Same H H' → H p = none → Purse H' p → Q (.ref p) H'
theorem c_purse (D : At K mg "_law_purse" s__law_purse ["script", "k"]) (B : Bl mg) : C8.Cal P w K mg base 1 "_law_purse" (spPurse K) [] := by
  refine cal_of D sc__law_purse (fun vs H Q E h => ?_) (fun f cdv A outer s H vs Q E hr h => ?_)
  · obtain ⟨a, ns, k, rfl, _⟩ := h
    rfl
  · obtain ⟨a, ns, k, rfl, hS, k0, k1, hl, q⟩ := h
    refine ⟨_, pss_cons (ps_if (pt_cmpR op_lt (pv 1) (pe_callB call_len_seq (by rfl) B.len PySem.boot_len (pa_cons (pv 0) pa_nil)) (nomark _))
        (pss_cons (ps_set (i := 2) sc__law_purse.nd rfl (.inl rfl) (pe_ix ix_list (pv 0) (pv 1) (fun _ _ => rfl)))
        (pss_cons (ps_set (i := 3) sc__law_purse.nd rfl (.inl rfl) (pe_ifExp (PW.pt (pw_or (pt_cmpR op_lt (pv 2) pe_int (nomark _)) (pw_or1 (pt_cmpR op_ge (pv 2) (pe_op op_pow pe_int pe_int) (nomark _))))) (pe_callB call_abs (by rfl) B.abs_ (by decide +kernel) (pa_cons (pv 2) pa_nil)) pe_int))
        (pss_one (ps_ret (pe_lst (pa_cons (pv 3) (pa_cons (pe_op op_mod (pe_callTy call_int1 (by rfl) B.int_ (by decide +kernel) (pa_cons (pe_op op_add (pe_op op_add (pe_op op_mul (pv 2) pe_int) (pe_op op_mul pe_int (pv 1))) pe_int) pa_nil)) pe_int) (pa_cons pe_int pa_nil)))))))) pss_nil)
      (pss_cons (ps_set (i := 4) sc__law_purse.nd rfl (.inl rfl) (pe_op op_add (pe_op op_mul pe_int (pv 1)) pe_int))
      (pss_cons (ps_for PassesOwn.never rfl (pi_list (pe_slice sl_list (pv 0) po_none (po_some pe_int))) (pg_name (i := 2) sc__law_purse.nd rfl (.inl rfl))
        (pss_one (ps_set (i := 4) sc__law_purse.nd rfl (.inl rfl) (pe_op op_mod (pe_callTy call_int1 (by rfl) B.int_ (by decide +kernel) (pa_cons (pe_op op_add (pe_op op_mul (pv 4) pe_int) (pv 2)) pa_nil)) pe_int))))
      (pss_one (ps_ret (pe_lst (pa_cons pe_int (pa_cons (pv 4) (pa_cons pe_int pa_nil)))))))), ?_⟩
    refine ⟨_, rfl, _, rfl, a, _, rfl, .inl hS, k, _, rfl, rfl, _, rfl, ite2 (fun e => ?_) (fun e => ?_)⟩
    · have hk : k.toNat < ns.length := by
        have z := of_decide_eq_true e
        rw [List.length_map] at z
        omega
      have g : (ns.map V.int)[k.toNat]? = some (.int ns[k.toNat]) := by
        rw [List.getElem?_map, List.getElem?_eq_getElem hk]
        rfl
      refine ⟨_, rfl, _, rfl, a, _, k, _, rfl, rfl, hS, at_of (by omega) g, ?_⟩
      generalize ns[k.toNat] = c
      have last : ∀ dg : Int, (tRet (tLst (tCons (tVar 3) (tCons (tOp (rI (fun _ j => 0 < j) fun i j => .int (i % j)) (tCB (fun xs H Q => (∃ i, xs = [V.int i] ∧ Q (V.int i) H) ∨ ∃ k, xs = [V.bl k] ∧ Q (V.int (if k = true then 1 else 0)) H)
          (tCons (tOp (rI0 fun i j => V.int (i + j)) (tOp (rI0 fun i j => V.int (i + j)) (tOp (rI CMul fun i j => V.int (i * j)) (tVar 2) (tC (V.int 39373))) (tOp (rI CMul fun i j => V.int (i * j)) (tC (V.int 104723)) (tVar 1))) (tC (V.int 17))) tNil)) (tC (V.int 2147483629))) (tCons (tC (V.int 0)) tNil)))))
          { nx := fun _ _ => True, rt := Q } [some (.ref a), some (.int k), some (.int c), some (.int dg), none] H := fun dg => by
        refine ⟨_, rfl, _, rfl, _, _, rfl, rfl, .inr ⟨by decide, by decide⟩, _, rfl, _, _, rfl, rfl, .inl ⟨by decide, by decide⟩, _, _, rfl, rfl, _, _, rfl, rfl, .inl ⟨_, rfl, _, _, rfl, rfl, (by show (0 : Int) < 2147483629; decide), (by show 3 ≤ sizeLine; decide), fun p hp => ?_⟩⟩
        exact q p _ (Same.new (Same.refl H) hp) hp ⟨_, _, _, upd_same⟩
      refine ⟨_, rfl, _, _, rfl, rfl, _, rfl, ite2 (fun e1 => ?_) (fun e1 => ?_)⟩
      · exact ⟨_, rfl, _, rfl, last _⟩
      · refine ⟨_, rfl, _, _, rfl, rfl, ⟨by decide, by decide, by decide⟩, _, _, rfl, rfl, _, rfl, ite2 (fun e2 => ?_) (fun e2 => ?_)⟩
        · exact ⟨_, rfl, _, rfl, last _⟩
        · exact last _
    · refine ⟨_, rfl, _, _, rfl, rfl, .inl ⟨by decide, by decide⟩, _, _, rfl, rfl, ?_⟩
      refine ⟨_, rfl, 4, rfl, a, _, rfl, hS, fun c nc => ?_⟩
      have sm : Same H (upd H c (.lst (cutV (ns.map V.int) none (some 4)))) := Same.new (Same.refl H) nc
      refine ⟨c, rfl, ⟨_, .inl (.inl upd_same)⟩, for_list (K := K) (a := c) (xs := cutV (ns.map V.int) none (some 4))
        (fun i σ H' => ∃ (z : Int) (v : Option V), σ = [some (.ref a), some (.int k), v, none, some (.int z)] ∧ H' = upd H c (.lst (cutV (ns.map V.int) none (some 4)))) ⟨_, none, rfl, rfl⟩ (fun i σ H' _ ⟨_, _, _, e⟩ => by rw [e]; exact .inl (.inl upd_same)) ?_ ?_⟩
      · rintro i y σ H' hi ⟨z, v, rfl, rfl⟩
        obtain ⟨u, rfl⟩ : ∃ u, y = V.int u := by
          have m : y ∈ ns.map V.int := List.mem_of_mem_drop (List.mem_of_mem_take (List.mem_of_getElem? hi))
          obtain ⟨u, _, e⟩ := List.mem_map.mp m
          exact ⟨u, e.symm⟩
        exact ⟨_, rfl, _, _, rfl, rfl, .inr ⟨by decide, by decide⟩, _, rfl, _, _, rfl, rfl, .inl ⟨_, rfl, _, _, rfl, rfl, (by show (0 : Int) < 2147483587; decide), _, _, rfl, rfl⟩⟩
      · rintro σ H' ⟨z, v, rfl, rfl⟩
        exact ⟨_, rfl, (by show 3 ≤ sizeLine; decide), fun p hp => q p _ (Same.new sm hp) (sm.free hp) ⟨_, _, _, upd_same⟩⟩
/-! ### _law_draw -/
theorem short_div {d n : Int} (h0 : 0 < n) (h1 : n < 2 ^ 62) : Builtin.divisionGoesByPylong d n = false := by
  have a : n.natAbs < 2 ^ 62 := by omega
  have b : n.natAbs ≠ 0 := by omega
  have l : n.natAbs.log2 < 62 := (Nat.log2_lt b).mpr a
  show (decide ((if n == 0 then 0 else n.natAbs.log2 / 30 + 1) > 300) && decide ((if d == 0 then 0 else d.natAbs.log2 / 30 + 1) > (if n == 0 then 0 else n.natAbs.log2 / 30 + 1) + 150)) = false
  rw [if_neg (show ¬ (n == 0) = true by simpa using (show n ≠ 0 by omega)), decide_eq_false (show ¬ (n.natAbs.log2 / 30 + 1 > 300) by omega), Bool.false_and]
def spDraw : Sp := fun vs H Q _ => ∃ (p : Addr) (n : Int), vs = [.ref p, .int n] ∧ Purse H p ∧ 0 < n ∧ n < 2 ^ 62 ∧ ∀ i H', 0 ≤ i → i < n → Purse H' p → Chg p H H' → Q (.int i) H'
theorem c_draw (D : At K mg "_law_draw" s__law_draw ["purse", "size"]) (B : Bl mg) : C8.Cal P w K mg base 1 "_law_draw" spDraw [] := by
  refine cal_of D sc__law_draw (fun vs H Q E h => ?_) (fun f cdv A outer s H vs Q E hr h => ?_)
  · obtain ⟨a, k, rfl, _⟩ := h
    rfl
  · obtain ⟨p, n, rfl, ⟨d, z, c, hp⟩, n0, n1, q⟩ := h
    refine ⟨_, pss_cons (ps_par (i := 2) (j := 3) (by rfl) sc__law_draw.nd rfl rfl (by decide) rfl rfl (pa_cons (pe_ix ix_list (pv 0) pe_int (fun _ _ => rfl)) (pa_cons (pe_op op_add (pe_op op_mod (pe_callTy call_int1 (by rfl) B.int_ (by decide +kernel) (pa_cons (pe_ix ix_list (pv 0) pe_int (fun _ _ => rfl)) pa_nil)) pe_int) pe_int) pa_nil)) (by rfl))
      (pss_cons (ps_asg (pe_op op_add (pe_ix ix_list (pv 0) pe_int (fun _ _ => rfl)) pe_int) (pg_sub (pv 0) pe_int set_list))
      (pss_cons (ps_asg (pe_op op_mod (pe_callTy call_int1 (by rfl) B.int_ (by decide +kernel) (pa_cons (pe_op op_add (pe_op op_add (pe_op op_mul (pv 2) (pv 3)) (pe_op op_mul pe_int (pe_ix ix_list (pv 0) pe_int (fun _ _ => rfl)))) pe_int) pa_nil)) pe_int) (pg_sub (pv 0) pe_int set_list))
      (pss_cons (ps_if (pt_cmpR op_gt (pe_ix ix_list (pv 0) pe_int (fun _ _ => rfl)) pe_int (nomark _))
        (pss_cons (ps_asg (pe_callB call_divmodW (by rfl) B.divmod (by decide +kernel) (pa_cons (pe_ix ix_list (pv 0) pe_int (fun _ _ => rfl)) (pa_cons (pv 1) pa_nil))) (pg_tup (by rfl) (pgs_cons (pg_sub (pv 0) pe_int set_list) (pgs_cons (pg_name (i := 4) sc__law_draw.nd rfl (.inl rfl)) pgs_nil))))
          (pss_one (ps_ret (pv 4)))) pss_nil)
      (pss_one (ps_ret (pe_op op_modN (pe_callTy call_int1 (by rfl) B.int_ (by decide +kernel) (pa_cons (pe_op op_fdiv (pe_ix ix_list (pv 0) pe_int (fun _ _ => rfl)) pe_int) pa_nil)) (pv 1))))))), ?_⟩
    refine ⟨_, rfl, p, _, 1, _, rfl, rfl, SqL.of hp, atI_nat (j := 1) rfl, _, rfl, p, _, 1, _, rfl, rfl, SqL.of hp, atI_nat (j := 1) rfl, .inl ⟨_, rfl, _, _, rfl, rfl, (by show (0 : Int) < 40009; decide), _, _, rfl, rfl, _, _, rfl, ?_⟩⟩
    have b0 : 0 ≤ z % 40009 := Int.emod_nonneg _ (by decide)
    have b1 : z % 40009 < 40009 := Int.emod_lt_of_pos _ (by decide)
    refine ⟨_, rfl, p, _, 2, _, rfl, rfl, SqL.of hp, atI_nat (j := 2) rfl, _, _, rfl, rfl, _, rfl, p, _, 2, 2, rfl, rfl, hp, rfl, ?_⟩
    refine ⟨_, rfl, _, rfl, _, _, rfl, rfl, .inr ⟨by omega, by omega⟩, _, rfl, p, _, 2, _, rfl, rfl, SqL.of upd_same, atI_nat (j := 2) rfl, _, _, rfl, rfl, .inl ⟨by decide, by decide⟩, _, _, rfl, rfl, _, _, rfl, rfl, .inl ⟨_, rfl, _, _, rfl, rfl, (by show (0 : Int) < 2147483629; decide), _, rfl, p, _, 1, 1, rfl, rfl, upd_same, rfl, ?_⟩⟩
    have ch : ∀ o u, Chg p H (upd (upd H p o) p u) := fun o u => (Chg.refl p H).at.at
    refine ⟨_, rfl, p, _, 0, _, rfl, rfl, SqL.of upd_same, atI_nat (j := 0) rfl, _, _, rfl, rfl, _, rfl, ite2 (fun _ => ?_) (fun _ => ?_)⟩
    · refine ⟨_, rfl, p, _, 0, _, rfl, rfl, SqL.of upd_same, atI_nat (j := 0) rfl, _, rfl, _, n, rfl, ⟨n0, ?_⟩, fun t ht => ?_⟩
      · exact short_div n0 n1
      · have nt : p ≠ t := ne_of_none upd_same ht
        refine ⟨t, _, rfl, .inl (.inl upd_same), rfl, _, _, rfl, _, rfl, p, _, 0, 0, rfl, rfl, (by rw [upd_ne nt]; exact upd_same), rfl, _, _, rfl, rfl, ?_⟩
        refine ⟨_, rfl, q _ _ (Int.emod_nonneg _ (by omega)) (Int.emod_lt_of_pos _ n0) ⟨_, _, _, upd_same⟩ ?_⟩
        exact (Chg.new (ch _ _) ht).at
    · refine ⟨_, rfl, p, _, 1, _, rfl, rfl, SqL.of upd_same, atI_nat (j := 1) rfl, _, _, rfl, rfl, ⟨by decide, by decide⟩, .inl ⟨_, rfl, _, rfl, _, _, rfl, rfl, (by omega), ?_⟩⟩
      refine q _ _ ?_ ?_ ⟨_, _, _, upd_same⟩ (ch _ _)
      · rw [Int.fmod_eq_emod_of_nonneg _ (by omega)]
        exact Int.emod_nonneg _ (by omega)
      · rw [Int.fmod_eq_emod_of_nonneg _ (by omega)]
        exact Int.emod_lt_of_pos _ n0
/-! ### _law_pick -/
def spPick (K : PySem.W.Frag) : Sp := fun vs H Q _ => ∃ (p : Addr) (m : V), vs = [.ref p, m] ∧ Purse H p ∧
  ((∃ (a : Addr) (xs : List V), m = .ref a ∧ a ≠ p ∧ SqL K H a xs ∧ xs ≠ [] ∧ xs.length ≤ 1000 ∧ ∀ x ∈ xs, ∀ H', Purse H' p → Chg p H H' → Q x H') ∨
   ∃ z : Str, m = .str z ∧ 0 < z.length ∧ z.length ≤ 1000 ∧ ∀ c ∈ z.cps.toList, ∀ H', Purse H' p → Chg p H H' → Q (.str ⟨#[c]⟩) H')
theorem c_pick (D : At K mg "_law_pick" s__law_pick ["purse", "menu"]) (B : Bl mg) (Cd : C8.Cal P w K mg base 1 "_law_draw" spDraw []) : C8.Cal P w K mg base 2 "_law_pick" (spPick K) [] := by
  refine cal_of D sc__law_pick (fun vs H Q E h => ?_) (fun f cdv A outer s H vs Q E hr h => ?_)
  · obtain ⟨a, k, rfl, _⟩ := h
    rfl
  · obtain ⟨p, m, rfl, hp, h⟩ := h
    refine ⟨_, pss_one (ps_ret (pe_ix ix_seq (pv 1) (C8.pe_c Cd hr (by decide) (by rfl) (pa_cons (pv 0) (pa_cons (pe_callB call_len (by rfl) B.len (by decide +kernel) (pa_cons (pv 1) pa_nil)) pa_nil))) (fun _ _ => rfl))), ?_⟩
    rcases h with ⟨a, xs, rfl, ne, hS, hne, hl, q⟩ | ⟨z, rfl, z0, z1, q⟩
    · have l0 : 0 < xs.length := List.length_pos_iff.mpr hne
      refine ⟨_, rfl, _, rfl, _, rfl, _, xs.length, rfl, .inl ⟨_, hS, rfl⟩, p, _, rfl, hp, by omega, by omega, fun i H' i0 i1 hp' ch => ?_⟩
      have hi : i.toNat < xs.length := by omega
      exact .inl ⟨a, xs, i, xs[i.toNat], rfl, rfl, ch.seq ne hS, at_of (j := i.toNat) (by omega) (List.getElem?_eq_getElem hi), q _ (List.getElem_mem hi) H' hp' ch⟩
    · refine ⟨_, rfl, _, rfl, _, rfl, _, z.length, rfl, ⟨Nat.le_trans z1 (by rw [sizeLine_eq]; omega), rfl⟩, p, _, rfl, hp, by omega, by omega, fun i H' i0 i1 hp' ch => ?_⟩
      have hz : z.cps.toList.length = z.length := Array.length_toList
      have hi : i.toNat < z.cps.toList.length := by omega
      exact .inr (.inr ⟨z, i, z.cps.toList[i.toNat], rfl, rfl, Nat.le_trans z1 (by rw [sizeLine_eq]; omega), (by have e := atI_nat (xs := z.cps.toList) (j := i.toNat) (List.getElem?_eq_getElem hi); rwa [show ((i.toNat : Nat) : Int) = i by omega] at e), q _ (List.getElem_mem hi) H' hp' ch⟩)
/-! ### _law_sorts -/
def kinds7 : List (List Str) := [["put"], ["out"], ["set"], ["put", "out"], ["put", "set"], ["out", "set"], ["put", "out", "set"]]
/-- one of the seven lists of kinds stands at l -/
def KL (H : Hp) (p l : Addr) : Prop := ∃ ks, ks ∈ kinds7 ∧ H l = some (.lst (sl ks)) ∧ l ≠ p
theorem KL.new {H : Hp} {p l q : Addr} {o : HO} (h : KL H p l) (n : H q = none) : KL (upd H q o) p l := by
  obtain ⟨ks, a, b, c⟩ := h
  exact ⟨ks, a, by rw [upd_ne (ne_of_none b n)]; exact b, c⟩
theorem KL.chg {H H' : Hp} {p l : Addr} (h : KL H p l) (c : Chg p H H') : KL H' p l := by
  obtain ⟨ks, a, b, n⟩ := h
  exact ⟨ks, a, c _ _ n b, n⟩
theorem KL.mk {H : Hp} {p l : Addr} (ks : List Str) (m : ks ∈ kinds7) (hp : Purse H p) (n : H l = none) : KL (upd H l (.lst (sl ks))) p l := ⟨ks, m, upd_same, (hp.ne n).symm⟩
def spSorts : Sp := fun vs H Q _ => ∃ p, vs = [.ref p] ∧ Purse H p ∧ ∀ l ks H', ks ∈ kinds7 → H' l = some (.lst (sl ks)) → l ≠ p → Purse H' p → Chg p H H' → Q (.ref l) H'
theorem c_sorts (D : At K mg "_law_sorts" s__law_sorts ["purse"]) (B : Bl mg) (Cp : C8.Cal P w K mg base 2 "_law_pick" (spPick K) []) : C8.Cal P w K mg base 3 "_law_sorts" spSorts [] := by
  refine cal_of D sc__law_sorts (fun vs H Q E h => ?_) (fun f cdv A outer s H vs Q E hr h => ?_)
  · obtain ⟨a, rfl, _⟩ := h
    rfl
  · obtain ⟨p, rfl, hp, q⟩ := h
    refine ⟨_, pss_cons (ps_set (i := 1) sc__law_sorts.nd rfl (.inl rfl) (pe_lst (pa_cons (pe_lst (pa_cons pe_str pa_nil)) (pa_cons (pe_lst (pa_cons pe_str pa_nil)) (pa_cons (pe_lst (pa_cons pe_str pa_nil)) (pa_cons (pe_lst (pa_cons pe_str (pa_cons pe_str pa_nil)))
        (pa_cons (pe_lst (pa_cons pe_str (pa_cons pe_str pa_nil))) (pa_cons (pe_lst (pa_cons pe_str (pa_cons pe_str pa_nil))) (pa_cons (pe_lst (pa_cons pe_str (pa_cons pe_str (pa_cons pe_str pa_nil)))) pa_nil)))))))))
      (pss_one (ps_ret (C8.pe_c Cp hr (by decide) (by rfl) (pa_cons (pv 0) (pa_cons (pe_op op_cat (pv 1) (pe_op op_rep (pe_lst (pa_cons (pe_ix ix_list (pv 1) pe_int (fun _ _ => rfl)) pa_nil)) pe_int)) pa_nil))))), ?_⟩
    have step : ∀ {H1 : Hp} {ls : List Addr} (ks : List Str) {l : Addr}, ks ∈ kinds7 → (Purse H1 p ∧ Chg p H H1 ∧ ∀ a ∈ ls, KL H1 p a) → H1 l = none → Purse (upd H1 l (.lst (sl ks))) p ∧ Chg p H (upd H1 l (.lst (sl ks))) ∧ ∀ a ∈ ls ++ [l], KL (upd H1 l (.lst (sl ks))) p a := fun {H1 ls} ks {l} m ⟨h1, h2, h3⟩ n => by
      refine ⟨h1.new n, h2.new n, fun a ha => ?_⟩
      rcases List.mem_append.mp ha with z | z
      · exact (h3 a z).new n
      · rw [List.mem_singleton.mp z]
        exact KL.mk ks m h1 n
    refine ⟨by decide, fun l0 n0 => ?_⟩
    have s1 := step (ls := []) ["put"] (by decide) ⟨hp, Chg.refl p H, fun _ z => by cases z⟩ n0
    refine ⟨by decide, fun l1 n1 => ?_⟩
    have s2 := step ["out"] (by decide) s1 n1
    refine ⟨by decide, fun l2 n2 => ?_⟩
    have s3 := step ["set"] (by decide) s2 n2
    refine ⟨by decide, fun l3 n3 => ?_⟩
    have s4 := step ["put", "out"] (by decide) s3 n3
    refine ⟨by decide, fun l4 n4 => ?_⟩
    have s5 := step ["put", "set"] (by decide) s4 n4
    refine ⟨by decide, fun l5 n5 => ?_⟩
    have s6 := step ["out", "set"] (by decide) s5 n5
    refine ⟨by decide, fun l6 n6 => ?_⟩
    have s7 := step ["put", "out", "set"] (by decide) s6 n6
    refine ⟨by show 7 ≤ sizeLine; decide, fun m nm => ?_⟩
    clear s1 s2 s3 s4 s5 s6
    simp only [sl, List.map_cons, List.map_nil] at s7
    generalize upd (upd (upd (upd (upd (upd (upd H l0 _) l1 _) l2 _) l3 _) l4 _) l5 _) l6 _ = G at s7 nm ⊢
    obtain ⟨hpG, chG, kl⟩ := s7
    have np := (hpG.ne nm).symm
    have hpM := hpG.new (o := .lst [.ref l0, .ref l1, .ref l2, .ref l3, .ref l4, .ref l5, .ref l6]) nm
    have chM := chG.new (o := .lst [.ref l0, .ref l1, .ref l2, .ref l3, .ref l4, .ref l5, .ref l6]) nm
    have klM : ∀ a ∈ [l0, l1, l2, l3, l4, l5, l6], KL (upd G m (.lst [.ref l0, .ref l1, .ref l2, .ref l3, .ref l4, .ref l5, .ref l6])) p a := fun a ha => (kl a ha).new nm
    have em : (upd G m (.lst [.ref l0, .ref l1, .ref l2, .ref l3, .ref l4, .ref l5, .ref l6])) m = some (.lst [.ref l0, .ref l1, .ref l2, .ref l3, .ref l4, .ref l5, .ref l6]) := upd_same
    generalize upd G m _ = M at hpM chM klM em ⊢
    -- menu + [menu[6]] * 4
    refine ⟨_, rfl, _, rfl, _, rfl, m, _, 6, _, rfl, rfl, SqL.of em, atI_nat (j := 6) rfl, (by show 1 ≤ sizeLine; decide), fun u nu => ?_⟩
    refine ⟨u, 4, _, rfl, rfl, upd_same, by decide, by decide, (by show 4 ≤ sizeLine; decide), fun v nv => ?_⟩
    change upd M u (.lst [.ref l6]) v = none at nv
    show ∃ l b xs zs, _ = V.ref l ∧ _ = V.ref b ∧ (upd (upd M u (.lst [.ref l6])) v (.lst [.ref l6, .ref l6, .ref l6, .ref l6])) l = some (.lst xs) ∧ _
    have emu := kp (u := .lst [.ref l6, .ref l6, .ref l6, .ref l6]) (kp (u := .lst [.ref l6]) em nu) nv
    refine ⟨m, v, _, _, rfl, rfl, emu, upd_same, (by show 11 ≤ sizeLine; decide), fun x nx => ?_⟩
    have hpV := (hpM.new (o := .lst [.ref l6]) nu).new (o := .lst [.ref l6, .ref l6, .ref l6, .ref l6]) nv
    have chV := (chM.new (o := .lst [.ref l6]) nu).new (o := .lst [.ref l6, .ref l6, .ref l6, .ref l6]) nv
    have klV : ∀ a ∈ [l0, l1, l2, l3, l4, l5, l6], KL (upd (upd M u (.lst [.ref l6])) v (.lst [.ref l6, .ref l6, .ref l6, .ref l6])) p a := fun a ha => ((klM a ha).new nu).new nv
    refine ⟨p, _, rfl, hpV.new nx, .inl ⟨x, _, rfl, (hpV.ne nx).symm, SqL.of upd_same, by simp, (by show 11 ≤ 1000; decide), fun y hy H' hp' ch' => ?_⟩⟩
    obtain ⟨a, ha, rfl⟩ : ∃ a ∈ [l0, l1, l2, l3, l4, l5, l6], y = V.ref a := by
      change y ∈ ([.ref l0, .ref l1, .ref l2, .ref l3, .ref l4, .ref l5, .ref l6] ++ [.ref l6, .ref l6, .ref l6, .ref l6] : List V) at hy
      simp only [List.mem_append, List.mem_cons, List.not_mem_nil, or_false] at hy
      rcases hy with (rfl | rfl | rfl | rfl | rfl | rfl | rfl) | (rfl | rfl | rfl | rfl) <;> exact ⟨_, by simp, rfl⟩
    obtain ⟨ks, k1, k2, k3⟩ := ((klV a ha).new nx).chg ch'
    exact q a ks H' k1 k2 k3 hp' ((chV.new nx).trans ch')
end
end T
namespace T
open PySem PySem.Spec PyProof.Rows L2 Evl XB
/-! ### cells by their names -/
abbrev Nm := List Key
def nm3 (m i s : Str) : Nm := [.inr m, .inr i, .inr s]
def rels : List Str := ["<", "=", ">"]
def IsCell (ks : List Str) (n : Nm) : Prop := ∃ m i s, m ∈ ks ∧ i ∈ ks ∧ s ∈ rels ∧ n = nm3 m i s
/-- a cell's names stand at v -/
def KeyAt (H : Hp) (ks : List Str) (v : V) : Prop := ∃ a n, v = .ref a ∧ IsCell ks n ∧ H a = some (.tup (n.map kV))
theorem KeyAt.same {H H' : Hp} {ks : List Str} {v : V} (h : KeyAt H ks v) (s : Same H H') : KeyAt H' ks v := by
  obtain ⟨a, n, e, c, t⟩ := h
  exact ⟨a, n, e, c, s _ _ t⟩
section
variable {P : Program} {w : World} {K : PySem.W.Frag} {mg : Str → Option Value} {base : Heap}
/-! ### _law_keys -/
def spKeys (K : PySem.W.Frag) : Sp := fun vs H Q _ => ∃ (a : Addr) (ks : List Str), vs = [.ref a] ∧ SqL K H a (sl ks) ∧ ks.length ≤ 3 ∧ ∀ l xs H', Same H H' → H l = none → H' l = some (.lst xs) → xs.length = 3 * ks.length * ks.length → (∀ x ∈ xs, KeyAt H' ks x) → Q (.ref l) H'
theorem c_keys (D : At K mg "_law_keys" s__law_keys ["sorts"]) : C8.Cal P w K mg base 1 "_law_keys" (spKeys K) [] := by
  refine cal_of D sc__law_keys (fun vs H Q E h => ?_) (fun f cdv A outer s H vs Q E hr h => ?_)
  · obtain ⟨a, ks, rfl, _⟩ := h
    rfl
  · obtain ⟨a, ks, rfl, hS, hk, q⟩ := h
    refine ⟨_, pss_cons (ps_set (i := 1) sc__law_keys.nd rfl (.inl rfl) (pe_lst pa_nil))
      (pss_cons (ps_for PassesOwn.never rfl (pi_list (pv 0)) (pg_name (i := 2) sc__law_keys.nd rfl (.inr rfl))
        (pss_one (ps_for PassesOwn.never rfl (pi_list (pv 0)) (pg_name (i := 3) sc__law_keys.nd rfl (.inr rfl))
          (pss_one (ps_set (i := 1) sc__law_keys.nd rfl (.inl rfl) (pe_op op_cat (pv 1) (pe_lc (own := [("sign", 4)]) (g := gName 4) (tt := tYes) rfl sc__law_keys.nd (pi_list (pe_lst (pa_cons pe_str (pa_cons pe_str (pa_cons pe_str pa_nil)))))
            (blkOk_by (own := [("sign", 4)]) (N := N__law_keys) (sc := defScope s__law_keys) (by decide +kernel)) (fun _ _ _ _ _ => pg_name (i := 4) sc__law_keys.nd rfl (Or.inl rfl)) (fun _ _ _ _ _ => pts_nil)
            (fun _ _ _ _ _ => pe_tup (pa_cons (pv 2) (pa_cons (pv 3) (pa_cons (pv 4) pa_nil))))))))))) 
      (pss_one (ps_ret (pv 1)))), ?_⟩
    refine ⟨Nat.zero_le _, fun l0 n0 => ?_⟩
    have sm0 : Same H (upd H l0 (.lst [])) := Same.new (Same.refl H) n0
    refine ⟨_, rfl, a, rfl, ⟨_, sm0.seq hS⟩, for_list (K := K) (a := a) (xs := sl ks)
      (fun i σ H' => ∃ l xs y2 y3, σ = [some (.ref a), some (.ref l), y2, y3, none] ∧ Same H H' ∧ H l = none ∧ H' l = some (.lst xs) ∧ xs.length = 3 * ks.length * i ∧ ∀ x ∈ xs, KeyAt H' ks x)
      ⟨l0, [], none, none, rfl, sm0, n0, upd_same, rfl, fun _ z => by cases z⟩ (fun i σ H' _ ⟨_, _, _, _, _, sm, _⟩ => sm.seq hS) ?_ ?_⟩
    · rintro i y σ H' hi ⟨l, xs, y2, y3, rfl, sm, nl, hl, hlen, hx⟩
      obtain ⟨m, mk, rfl⟩ : ∃ m, m ∈ ks ∧ y = V.str m := by
        obtain ⟨m, mk, e⟩ := List.mem_map.mp (List.mem_of_getElem? hi)
        exact ⟨m, mk, e.symm⟩
      refine ⟨_, rfl, a, rfl, ⟨_, sm.seq hS⟩, for_list (K := K) (a := a) (xs := sl ks)
        (fun j σ H' => ∃ l xs y3, σ = [some (.ref a), some (.ref l), some (.str m), y3, none] ∧ Same H H' ∧ H l = none ∧ H' l = some (.lst xs) ∧ xs.length = 3 * ks.length * i + 3 * j ∧ ∀ x ∈ xs, KeyAt H' ks x)
        ⟨l, xs, y3, rfl, sm, nl, hl, hlen, hx⟩ (fun i σ H' _ ⟨_, _, _, _, sm, _⟩ => sm.seq hS) ?_ ?_⟩
      · rintro j y σ H1 hj ⟨l, xs, y3, rfl, sm, nl, hl, hlen, hx'⟩
        obtain ⟨t, tk, rfl⟩ : ∃ m, m ∈ ks ∧ y = V.str m := by
          obtain ⟨m, mk, e⟩ := List.mem_map.mp (List.mem_of_getElem? hj)
          exact ⟨m, mk, e.symm⟩
        have hi3 : i < ks.length := by have z := (List.getElem?_eq_some_iff.mp hi).1; rw [List.length_map] at z; exact z
        have hj3 : j < ks.length := by have z := (List.getElem?_eq_some_iff.mp hj).1; rw [List.length_map] at z; exact z
        refine ⟨_, rfl, (by show 3 ≤ sizeLine; decide), fun c nc => ⟨c, rfl, ⟨_, .inl (.inl upd_same)⟩, fun D nD => lc_list (K := K) (a := c) (xs := [.str "<", .str "=", .str ">"])
          (fun n G => Same H1 G ∧ G c = some (.lst [.str "<", .str "=", .str ">"]) ∧ ∃ acc, G D = some (.lst acc) ∧ acc.length = n ∧ ∀ x ∈ acc, KeyAt G ks x) ?_ (fun n G _ ⟨_, e, _⟩ => .inl (.inl e)) ?_ ?_⟩⟩
        · exact ⟨Same.new (Same.new (Same.refl H1) nc) nD, kp upd_same nD, [], upd_same, rfl, fun _ z => by cases z⟩
        · rintro n x G hn ⟨sG, eG, acc, hD, hacc, hk2⟩
          obtain ⟨r, rr, rfl⟩ : ∃ r, r ∈ rels ∧ x = V.str r := by
            have z := List.mem_of_getElem? hn
            simp only [List.mem_cons, List.not_mem_nil, or_false] at z
            rcases z with rfl | rfl | rfl
            · exact ⟨"<", by decide, rfl⟩
            · exact ⟨"=", by decide, rfl⟩
            · exact ⟨">", by decide, rfl⟩
          have hn3 : n < 3 := (List.getElem?_eq_some_iff.mp hn).1
          refine ⟨rfl, _, rfl, _, rfl, _, rfl, (by show 3 ≤ sizeLine; decide), fun u nu => ⟨acc, kp hD nu, by rw [sizeLine_eq]; omega, ?_⟩⟩
          have dD : D ≠ c := fun z => by rw [z, upd_same] at nD; cases nD
          have nDc : H1 D = none := by rw [upd_ne dD] at nD; exact nD
          have sG2 : Same H1 (upd G u (.tup [.str m, .str t, .str r])) := Same.new sG nu
          refine ⟨Same.own sG2 nDc, ?_, _, upd_same, by rw [List.length_append, List.length_singleton, hacc], fun x hx => ?_⟩
          · rw [upd_ne dD.symm]
            exact kp eG nu
          · have own : ∀ b o, b ≠ D → (upd G u (.tup [.str m, .str t, .str r])) b = some o → (upd (upd G u (.tup [.str m, .str t, .str r])) D (.lst (acc ++ [.ref u]))) b = some o := fun b o n e => by
              rw [upd_ne n]
              exact e
            have uD : u ≠ D := (ne_of_none hD nu).symm
            rcases List.mem_append.mp hx with z | z
            · obtain ⟨b, nm, e, ic, tp⟩ := hk2 x z
              exact ⟨b, nm, e, ic, own b _ (ne_of tp hD fun q => by cases q) (kp tp nu)⟩
            · exact ⟨u, nm3 m t r, List.mem_singleton.mp z, ⟨m, t, r, mk, tk, rr, rfl⟩, own u _ uD upd_same⟩
        · rintro G ⟨sG, eG, acc, hD, hacc, hk2⟩
          refine ⟨l, D, xs, acc, rfl, rfl, sG _ _ hl, hD, ?_, fun r nr => ?_⟩
          · have z : xs.length ≤ 27 := by
              rw [hlen]
              have : 3 * ks.length * i ≤ 9 * 2 := Nat.mul_le_mul (by omega) (by omega)
              omega
            have hacc3 : acc.length = 3 := hacc
            rw [hacc3, sizeLine_eq]
            omega
          · have sR : Same G (upd G r (.lst (xs ++ acc))) := Same.new (Same.refl G) nr
            refine ⟨r, xs ++ acc, _, rfl, (sm.trans sG).trans sR, (sm.trans sG).free nr, upd_same, ?_, fun x hx => ?_⟩
            · rw [List.length_append, hlen, hacc]
              show _ + 3 = _
              omega
            · rcases List.mem_append.mp hx with z | z
              · exact ((hx' x z).same sG).same sR
              · exact (hk2 x z).same sR
      · rintro σ H1 ⟨l, xs, y3, rfl, sm, nl, hl, hlen, hx⟩
        refine ⟨l, xs, _, _, rfl, sm, nl, hl, ?_, hx⟩
        rw [hlen, List.length_map, Nat.mul_add]
        omega
    · rintro σ H1 ⟨l, xs, y2, y3, rfl, sm, nl, hl, hlen, hx⟩
      refine ⟨_, rfl, q l xs H1 sm nl hl ?_ hx⟩
      rw [hlen, List.length_map]
/-! ### _law_shuffled -/
theorem erase_perm {α : Type} : ∀ (l : List α) (i : Nat) (h : i < l.length), (l[i] :: l.eraseIdx i).Perm l
  | [], _, h => absurd h (Nat.not_lt_zero _)
  | x :: r, 0, _ => List.Perm.refl _
  | x :: r, i + 1, h => by
    have h' : i < r.length := Nat.lt_of_succ_lt_succ h
    have z := erase_perm r i h'
    show (r[i]'h' :: x :: r.eraseIdx i).Perm (x :: r)
    exact (List.Perm.swap x (r[i]'h') _).trans (z.cons x)
def spShuf (K : PySem.W.Frag) : Sp := fun vs H Q _ => ∃ (p a : Addr) (xs : List V), vs = [.ref p, .ref a] ∧ Purse H p ∧ SqL K H a xs ∧ a ≠ p ∧ xs.length ≤ 1000 ∧
  ∀ l ys H', Chg p H H' → Purse H' p → H l = none → l ≠ p → H' l = some (.lst ys) → ys.Perm xs → Q (.ref l) H'
theorem c_shuf (D : At K mg "_law_shuffled" s__law_shuffled ["purse", "some"]) (B : Bl mg) (Cd : C8.Cal P w K mg base 1 "_law_draw" spDraw []) : C8.Cal P w K mg base 2 "_law_shuffled" (spShuf K) [] := by
  refine cal_of D sc__law_shuffled (fun vs H Q E h => ?_) (fun f cdv A outer s H vs Q E hr h => ?_)
  · obtain ⟨p, a, xs, rfl, _⟩ := h
    rfl
  · obtain ⟨p, a, xs, rfl, hp, hS, ne, hl, q⟩ := h
    refine ⟨_, pss_cons (ps_par (i := 2) (j := 3) (by rfl) sc__law_shuffled.nd rfl rfl (by decide) rfl rfl (pa_cons (pe_callTy call_list_of (by rfl) B.list (by decide +kernel) (pa_cons (pv 1) pa_nil)) (pa_cons (pe_lst pa_nil) pa_nil)) (by rfl))
      (pss_cons (ps_for PassesOwn.never rfl (pi_range1 (by rfl) B.range (pa_cons (pe_callB call_len_seq (by rfl) B.len PySem.boot_len (pa_cons (pv 1) pa_nil)) pa_nil)) (pg_name (i := 4) sc__law_shuffled.nd rfl (.inl rfl))
        (pss_one (ps_expr (pe_bm PySem.F.plainAttrs_list PySem.F.slot_list_append PySem.F.type_list_append mt_append (pv 3)
          (pa_cons (pe_bm PySem.F.plainAttrs_list PySem.F.slot_list_pop PySem.F.type_list_pop mt_popAt (pv 2) (pa_cons (C8.pe_c Cd hr (by decide) (by rfl) (pa_cons (pv 0) (pa_cons (pe_callB call_len_seq (by rfl) B.len PySem.boot_len (pa_cons (pv 2) pa_nil)) pa_nil))) pa_nil)) pa_nil)))))
      (pss_one (ps_ret (pv 3)))), ?_⟩
    refine ⟨_, rfl, a, xs, rfl, .inl hS, fun c nc => ⟨Nat.zero_le _, fun l nl => ⟨_, _, rfl, ?_⟩⟩⟩
    have ncp := (hp.ne nc).symm
    have hp1 := (hp.new (o := .lst xs) nc).new (o := .lst []) nl
    have nlp := ((hp.new (o := .lst xs) nc).ne nl).symm
    have ch1 : Chg p H (upd (upd H c (.lst xs)) l (.lst [])) := ((Chg.refl p H).new nc).new nl
    have ncl : c ≠ l := ne_of_none upd_same nl
    have nlH : H l = none := by rw [upd_ne ncl.symm] at nl; exact nl
    refine ⟨_, rfl, a, xs, rfl, .inl (ch1.seq ne hS), (xs.length : Int), rfl, by omega, by omega, for_range (lo := 0) (n := ((xs.length : Nat) : Int).toNat)
      (fun i σ H' => ∃ y4 rest ys, σ = [some (.ref p), some (.ref a), some (.ref c), some (.ref l), y4] ∧ Chg p H H' ∧ Purse H' p ∧ H' c = some (.lst rest) ∧ H' l = some (.lst ys) ∧ rest.length + i = xs.length ∧ (ys ++ rest).Perm xs)
      ⟨none, xs, [], rfl, ch1, hp1, kp upd_same nl, upd_same, by omega, List.Perm.refl _⟩ ?_ ?_⟩
    · rintro i σ H1 hi ⟨y4, rest, ys, rfl, ch, hp', hc, hl', hlen, pm⟩
      have hi2 : i < xs.length := by omega
      refine ⟨_, rfl, .inl ⟨rfl, _, SqL.of hl'⟩, _, rfl, .inl ⟨rfl, _, SqL.of hc⟩, _, rfl, _, rfl, c, rest, rfl, .inl (SqL.of hc), p, _, rfl, hp', by omega, by omega, fun j H2 j0 j1 hp2 ch2 => ?_⟩
      have hc2 := ch2 _ _ ncp hc
      have hl2 := ch2 _ _ nlp hl'
      have hj : j.toNat < rest.length := by omega
      have hix : seqIndex? j rest.length = some j.toNat := (ixN_seq (n := rest.length) (i := j) (j := j.toNat) (by unfold ixN; rw [if_pos j0, if_pos j1])).1
      refine ⟨c, rest, j, j.toNat, rest[j.toNat], rfl, rfl, hc2, by omega, by omega, hix, List.getElem?_eq_getElem hj, l, ys, _, rfl, rfl, kpm hl2 ncl.symm, ?_, ?_⟩
      · have z := pm.length_eq
        rw [List.length_append] at z
        rw [sizeLine_eq]
        omega
      · refine ⟨_, rest.eraseIdx j.toNat, ys ++ [rest[j.toNat]], rfl, ?_, ?_, ?_, upd_same, ?_, ?_⟩
        · exact ((ch.trans ch2).own nc).own nlH
        · obtain ⟨d, z, e, hq⟩ := hp2
          exact ⟨d, z, e, by rw [upd_ne nlp.symm, upd_ne ncp.symm]; exact hq⟩
        · rw [upd_ne ncl, upd_same]
        · rw [List.length_eraseIdx_of_lt hj]
          omega
        · rw [List.append_assoc]
          exact ((erase_perm rest _ hj).append_left ys).trans pm
    · rintro σ H1 ⟨y4, rest, ys, rfl, ch, hp', hc, hl', hlen, pm⟩
      have r0 : rest = [] := List.length_eq_zero_iff.mp (by omega)
      subst r0
      rw [List.append_nil] at pm
      exact ⟨_, rfl, q l ys H1 ch hp' nlH nlp hl' pm⟩
/-! ### _law_options -/
def resultsOf (m : Str) (ks : List Str) : List Str := ([("keep" : Str), "up", "down", "stay"] : List Str) ++ (if m = "set" ∧ ("put" : Str) ∈ ks then [("put" : Str)] else [])
def condsOf (m i : Str) : List Str := if m = "out" ∨ i = "out" then ["first"] else ["first", "less", "same", "more"]
/-- options with a condition, and one without -/
def IsOpts (m i : Str) (ks : List Str) (ws : List Str) : Prop := ∃ pre z, ws = pre ++ [z] ∧ pre.length ≤ 4 ∧ (∀ o ∈ pre, ∃ c ∈ condsOf m i, ∃ r ∈ resultsOf m ks, o = c ++ ":" ++ r) ∧ z ∈ resultsOf m ks
def spOpts (K : PySem.W.Frag) : Sp := fun vs H Q _ => ∃ (p a : Addr) (m i : Str) (ks : List Str), vs = [.ref p, .str m, .str i, .ref a] ∧ Purse H p ∧ SqL K H a (sl ks) ∧ a ≠ p ∧
  ∀ l ws H', Chg p H H' → Purse H' p → H l = none → l ≠ p → H' l = some (.lst (sl ws)) → IsOpts m i ks ws → Q (.ref l) H'
theorem c_opts (D : At K mg "_law_options" s__law_options ["purse", "mine", "its", "sorts"]) (B : Bl mg) (Cp : C8.Cal P w K mg base 2 "_law_pick" (spPick K) []) : C8.Cal P w K mg base 3 "_law_options" (spOpts K) [] := by
  refine cal_of D sc__law_options (fun vs H Q E h => ?_) (fun f cdv A outer s H vs Q E hr h => ?_)
  · obtain ⟨p, a, m, i, ks, rfl, _⟩ := h
    rfl
  · obtain ⟨p, a, m, i, ks, rfl, hp, hS, ne, q⟩ := h
    refine ⟨_, pss_cons (ps_set (i := 4) sc__law_options.nd rfl (.inl rfl) (pe_op op_cat (pe_lst (pa_cons pe_str (pa_cons pe_str (pa_cons pe_str (pa_cons pe_str pa_nil)))))
        (pe_ifExp (PW.pt (pw_and (pt_cmpR op_eq (pv 1) pe_str (nomark _)) (pw_and1 (pt_cmpR op_in_seq pe_str (pv 3) (by rfl))))) (pe_lst (pa_cons pe_str pa_nil)) (pe_lst pa_nil))))
      (pss_cons (ps_set (i := 5) sc__law_options.nd rfl (.inl rfl) (pe_ifExp (PW.pt (pw_or (pt_cmpR op_eq (pv 1) pe_str (nomark _)) (pw_or1 (pt_cmpR op_eq (pv 2) pe_str (nomark _))))) (pe_lst (pa_cons pe_str pa_nil)) (pe_lst (pa_cons pe_str (pa_cons pe_str (pa_cons pe_str (pa_cons pe_str pa_nil)))))))
      (pss_cons (ps_set (i := 6) sc__law_options.nd rfl (.inl rfl) (pe_lst pa_nil))
      (pss_cons (ps_for PassesOwn.never rfl (pi_range1 (by rfl) B.range (pa_cons (C8.pe_c Cp hr (by decide) (by rfl) (pa_cons (pv 0) (pa_cons (pe_lst (pa_cons pe_int (pa_cons pe_int (pa_cons pe_int (pa_cons pe_int (pa_cons pe_int (pa_cons pe_int (pa_cons pe_int pa_nil)))))))) pa_nil))) pa_nil)) (pg_name (i := 7) sc__law_options.nd rfl (.inl rfl))
        (pss_one (ps_expr (pe_bm PySem.F.plainAttrs_list PySem.F.slot_list_append PySem.F.type_list_append mt_append (pv 6)
          (pa_cons (pe_op op_add_str (pe_op op_add_str (C8.pe_c Cp hr (by decide) (by rfl) (pa_cons (pv 0) (pa_cons (pv 5) pa_nil))) pe_str) (C8.pe_c Cp hr (by decide) (by rfl) (pa_cons (pv 0) (pa_cons (pv 4) pa_nil)))) pa_nil)))))
      (pss_one (ps_ret (pe_op op_cat (pv 6) (pe_lst (pa_cons (C8.pe_c Cp hr (by decide) (by rfl) (pa_cons (pv 0) (pa_cons (pv 4) pa_nil))) pa_nil)))))))), ?_⟩
    refine q_asgL (xs := sl (resultsOf m ks)) (el_is (el_cat (xs := sl ["keep", "up", "down", "stay"]) (ys := sl (if m = "set" ∧ ("put" : Str) ∈ ks then [("put" : Str)] else [])) (el_lst (ea_str (ea_str (ea_str (ea_str ea_nil)))) (by decide))
      (el_if (et_and (et_test (ev_eqS (ev_var rfl) ev_c)) (fun _ => et_test (ev_inL ev_c (ev_var rfl) hS))) (fun b => ?_) (fun b => ?_)) ?_) ?_) fun l4 H1 n4 e1 h4 => ?_
    · rw [Bool.and_eq_true, decide_eq_true_eq, decide_eq_true_eq] at b
      rw [if_pos b]
      exact el_lst (ea_str ea_nil) (by decide)
    · rw [if_neg (fun z => by rw [decide_eq_true z.1, decide_eq_true z.2] at b; cases b)]
      exact el_lst ea_nil (by decide)
    · split <;> decide
    · show _ = (_ ++ _ : List Str).map V.str
      rw [List.map_append]
    refine q_asgL (xs := sl (condsOf m i)) (el_if (et_or (et_test (ev_eqS (ev_var rfl) ev_c)) (fun _ => et_test (ev_eqS (ev_var rfl) ev_c))) (fun b => ?_) (fun b => ?_)) fun l5 H2 n5 e2 h5 => ?_
    · rw [Bool.or_eq_true, decide_eq_true_eq, decide_eq_true_eq] at b
      rw [condsOf, if_pos b]
      exact el_lst (ea_str ea_nil) (by decide)
    · rw [condsOf, if_neg (fun z => by rw [Bool.or_eq_false_iff, decide_eq_false_iff_not, decide_eq_false_iff_not] at b; exact z.elim b.1 b.2)]
      exact el_lst (ea_str (ea_str (ea_str (ea_str ea_nil)))) (by decide)
    refine q_asgL (xs := []) (el_lst ea_nil (by decide)) fun l6 H3 n6 e3 h6 => ?_
    have s12 := e1.trans e2
    have s2 : Same H H3 := s12.trans e3
    have hp3 : Purse H3 p := by
      obtain ⟨d, z, c, e⟩ := hp
      exact ⟨d, z, c, s2 _ _ e⟩
    have n4p : l4 ≠ p := (hp.ne n4).symm
    have n5p : l5 ≠ p := by
      obtain ⟨d, z, c, e⟩ := hp
      exact (ne_of_none (e1 _ _ e) n5).symm
    have n6p : l6 ≠ p := by
      obtain ⟨d, z, c, e⟩ := hp
      exact (ne_of_none (s12 _ _ e) n6).symm
    have n6H : H l6 = none := fresh_back s12 n6
    have h4' := e2 _ _ h4
    have resL : (sl (resultsOf m ks)) ≠ [] ∧ (sl (resultsOf m ks)).length ≤ 1000 := by
      unfold resultsOf
      split <;> exact ⟨(by intro z; cases z), by decide⟩
    have conL : (sl (condsOf m i)) ≠ [] ∧ (sl (condsOf m i)).length ≤ 1000 := by
      unfold condsOf
      split <;> exact ⟨(by intro z; cases z), by decide⟩
    have resS : ∀ r ∈ resultsOf m ks, r.length ≤ 10 := by
      unfold resultsOf
      split <;> decide
    have conS : ∀ r ∈ condsOf m i, r.length ≤ 10 := by
      unfold condsOf
      split <;> decide
    refine ⟨_, rfl, (by show 7 ≤ sizeLine; decide), fun l7 n7 => ⟨p, _, rfl, hp3.new n7, .inl ⟨l7, _, rfl, (hp3.ne n7).symm, SqL.of upd_same, (by intro z; cases z), (by show 7 ≤ 1000; decide), fun x hx H4 hp4 c4 => ?_⟩⟩⟩
    obtain ⟨n, hn, rfl⟩ : ∃ n : Nat, n ≤ 4 ∧ x = V.int (n : Int) := by
      simp only [List.mem_cons, List.not_mem_nil, or_false] at hx
      rcases hx with rfl | rfl | rfl | rfl | rfl | rfl | rfl
      
      · exact ⟨0, by decide, rfl⟩
      · exact ⟨0, by decide, rfl⟩
      · exact ⟨1, by decide, rfl⟩
      · exact ⟨1, by decide, rfl⟩
      · exact ⟨2, by decide, rfl⟩
      · exact ⟨3, by decide, rfl⟩
      · exact ⟨4, by decide, rfl⟩
    have c24 : Chg p H2 H4 := ((Same.chg e3).new n7).trans c4
    refine ⟨(n : Int), rfl, by omega, by omega, for_range (lo := 0) (n := ((n : Nat) : Int).toNat)
      (fun j σ H' => ∃ y7 os, σ = [some (.ref p), some (.str m), some (.str i), some (.ref a), some (.ref l4), some (.ref l5), some (.ref l6), y7] ∧ Chg p H2 H' ∧ Purse H' p ∧ H' l6 = some (.lst (sl os)) ∧ os.length = j ∧ ∀ o ∈ os, ∃ c ∈ condsOf m i, ∃ r ∈ resultsOf m ks, o = c ++ ":" ++ r)
      ⟨none, [], rfl, c24, hp4, c4 _ _ n6p (kp h6 n7), rfl, fun _ z => by cases z⟩ ?_ ?_⟩
    · rintro j σ H5 hj ⟨y7, os, rfl, c5, hp5, h65, hl5, ho⟩
      refine ⟨_, rfl, .inl ⟨rfl, _, SqL.of h65⟩, _, rfl, _, rfl, p, _, rfl, hp5, .inl ⟨l5, _, rfl, n5p, c5.seq n5p (SqL.of h5), conL.1, conL.2, fun x hx H6 hp6 c6 => ?_⟩⟩
      obtain ⟨c, hc, rfl⟩ := List.mem_map.mp hx
      refine ⟨_, _, rfl, rfl, (by have := conS c hc; rw [sizeLine_eq]; show _ + 1 ≤ _; omega), ?_⟩
      have c56 := c5.trans c6
      refine ⟨_, rfl, _, rfl, p, _, rfl, hp6, .inl ⟨l4, _, rfl, n4p, c56.seq n4p (SqL.of h4'), resL.1, resL.2, fun y hy H7 hp7 c7 => ?_⟩⟩
      obtain ⟨r, hr2, rfl⟩ := List.mem_map.mp hy
      refine ⟨_, _, rfl, rfl, ?_, ?_⟩
      · rw [show (c ++ ":" : Str).length = c.length + 1 from by rw [Str.length_append] <;> rfl, sizeLine_eq]
        have := conS c hc
        have := resS r hr2
        omega
      · have h67 := c7 _ _ n6p (c6 _ _ n6p h65)
        refine ⟨l6, _, _, rfl, rfl, h67, (by rw [XB.len_sl, sizeLine_eq]; omega), ?_⟩
        refine ⟨_, os ++ [c ++ ":" ++ r], rfl, (c56.trans c7).own n6, ?_, ?_, ?_, ?_⟩
        · obtain ⟨d, z, w, e⟩ := hp7
          exact ⟨d, z, w, by rw [upd_ne n6p.symm]; exact e⟩
        · exact at_sl (ys := [c ++ ":" ++ r]) upd_same rfl
        · rw [List.length_append, hl5]
          rfl
        · intro o hh
          rcases List.mem_append.mp hh with z | z
          · exact ho o z
          · exact ⟨c, hc, r, hr2, List.mem_singleton.mp z⟩
    · rintro σ H5 ⟨y7, os, rfl, c5, hp5, h65, hl5, ho⟩
      refine ⟨_, rfl, _, rfl, _, rfl, p, _, rfl, hp5, .inl ⟨l4, _, rfl, n4p, c5.seq n4p (SqL.of h4'), resL.1, resL.2, fun y hy H6 hp6 c6 => ?_⟩⟩
      obtain ⟨r, hr2, rfl⟩ := List.mem_map.mp hy
      refine ⟨(by show 1 ≤ sizeLine; decide), fun l8 n8 => ?_⟩
      have h66 := kp (u := HO.lst [V.str r]) (c6 _ _ n6p h65) n8
      refine ⟨l6, l8, _, _, rfl, rfl, h66, upd_same, (by rw [XB.len_sl, sizeLine_eq]; show _ + 1 ≤ _; omega), fun l9 n9 => ?_⟩
      have cf : Chg p H2 _ := ((c5.trans c6).new (o := .lst [.str r]) n8)
      have hp8 := hp6.new (o := .lst [.str r]) n8
      have n9p := (hp8.ne n9).symm
      refine q l9 (os ++ [r]) _ ((Same.chg s12).trans (cf.new n9)) (hp8.new n9) (fresh_back s12 (cf.free n9p n9)) n9p ?_ ⟨os, r, rfl, by omega, ho, hr2⟩
      exact at_sl (ys := [r]) upd_same rfl
end
end T
namespace T
open PySem PySem.Spec PyProof.Rows L2 Evl XB
/-! ### dicts of cells -/
theorem putK_keys {kvs : List (Nm × V)} {k : Nm} {v : V} (h : (kvs.any fun kv => decide (kv.1 = k)) = true) : (putK kvs k v).map (·.1) = kvs.map (·.1) := by
  unfold putK
  rw [if_pos h, List.map_map]
  refine List.map_congr_left fun p _ => ?_
  show (if p.1 = k then (p.1, v) else p).1 = p.1
  split <;> rfl
theorem putK_nd {kvs : List (Nm × V)} {k : Nm} {v : V} (hn : (kvs.map (·.1)).Nodup) : ((putK kvs k v).map (·.1)).Nodup := by
  by_cases h : (kvs.any fun kv => decide (kv.1 = k)) = true
  · rw [putK_keys h]
    exact hn
  · refine nd_putK v hn ?_
    have z := valV_any k kvs
    cases e : valV kvs k with
    | none => rfl
    | some x => rw [e] at z; exact absurd z h
theorem putK_mem {kvs : List (Nm × V)} {k : Nm} {v : V} {q : Nm × V} (h : q ∈ putK kvs k v) : q = (k, v) ∨ q ∈ kvs := by
  unfold putK at h
  split at h
  · obtain ⟨r, hr, rfl⟩ := List.mem_map.mp h
    show (if r.1 = k then (r.1, v) else r) = (k, v) ∨ _
    by_cases e : r.1 = k
    · rw [if_pos e, e]
      exact .inl rfl
    · rw [if_neg e]
      exact .inr hr
  · rcases List.mem_append.mp h with z | z
    · exact .inr z
    · exact .inl (List.mem_singleton.mp z)
/-- a cell with its options -/
def CellAt (H : Hp) (ks : List Str) (q : Nm × V) : Prop := ∃ m i s l ws, m ∈ ks ∧ i ∈ ks ∧ s ∈ rels ∧ q = (nm3 m i s, .ref l) ∧ IsOpts m i ks ws ∧ H l = some (.lst (sl ws))
def CellsAt (H : Hp) (ks : List Str) (kvs : List (Nm × V)) : Prop := (kvs.map (·.1)).Nodup ∧ ∀ q ∈ kvs, CellAt H ks q
theorem KeyAt.chg {H H' : Hp} {p : Addr} {ks : List Str} {v : V} (h : KeyAt H ks v) (hp : Purse H p) (c : Chg p H H') : KeyAt H' ks v := by
  obtain ⟨a, n, e, i, t⟩ := h
  obtain ⟨d, z, w, u⟩ := hp
  exact ⟨a, n, e, i, c _ _ (ne_of t u fun q => by cases q) t⟩
theorem KeyAt.put {H : Hp} {D : Addr} {ks : List Str} {v : V} {kvs kvs' : List (Nm × V)} (h : KeyAt H ks v) (e : H D = some (.dT kvs)) : KeyAt (upd H D (.dT kvs')) ks v := by
  obtain ⟨a, n, u, i, t⟩ := h
  exact ⟨a, n, u, i, kpm t (ne_of t e fun q => by cases q)⟩
theorem CellAt.chg {H H' : Hp} {p : Addr} {ks : List Str} {v : Nm × V} (h : CellAt H ks v) (hp : Purse H p) (c : Chg p H H') : CellAt H' ks v := by
  obtain ⟨m, i, s, l, ws, h1, h2, h3, h4, ho, t⟩ := h
  obtain ⟨d, z, w, u⟩ := hp
  refine ⟨m, i, s, l, ws, h1, h2, h3, h4, ho, c _ _ (ne_of t u fun q => ?_) t⟩
  injection q with q
  cases ws with
  | nil =>
    obtain ⟨pre, z, e, _⟩ := ho
    exact absurd e (by cases pre <;> intro x <;> cases x)
  | cons x r =>
    injection q with q _
    cases q
theorem CellAt.put {H : Hp} {D : Addr} {ks : List Str} {v : Nm × V} {kvs kvs' : List (Nm × V)} (h : CellAt H ks v) (e : H D = some (.dT kvs)) : CellAt (upd H D (.dT kvs')) ks v := by
  obtain ⟨m, i, s, l, ws, h1, h2, h3, h4, ho, t⟩ := h
  exact ⟨m, i, s, l, ws, h1, h2, h3, h4, ho, kpm t (ne_of t e fun q => by cases q)⟩
section
variable {P : Program} {w : World} {K : PySem.W.Frag} {mg : Str → Option Value} {base : Heap}
def spCells (K : PySem.W.Frag) : Sp := fun vs H Q _ => ∃ (p a : Addr) (ks : List Str), vs = [.ref p, .ref a] ∧ Purse H p ∧ SqL K H a (sl ks) ∧ a ≠ p ∧ ks.length ≤ 3 ∧
  ∀ D kvs H', Chg p H H' → Purse H' p → H D = none → D ≠ p → H' D = some (.dT kvs) → CellsAt H' ks kvs → kvs.length ≤ 27 → Q (.ref D) H'
theorem c_cells (D : At K mg "_law_cells" s__law_cells ["purse", "sorts"]) (Ck : C8.Cal P w K mg base 1 "_law_keys" (spKeys K) []) (Cs : C8.Cal P w K mg base 2 "_law_shuffled" (spShuf K) []) (Cd : C8.Cal P w K mg base 1 "_law_draw" spDraw [])
    (Co : C8.Cal P w K mg base 3 "_law_options" (spOpts K) []) : C8.Cal P w K mg base 4 "_law_cells" (spCells K) [] := by
  refine cal_of D sc__law_cells (fun vs H Q E h => ?_) (fun f cdv A outer s H vs Q E hr h => ?_)
  · obtain ⟨p, a, ks, rfl, _⟩ := h
    rfl
  · obtain ⟨p, a, ks, rfl, hp, hS, ne, hk, q⟩ := h
    refine ⟨_, pss_cons (ps_set (i := 2) sc__law_cells.nd rfl (.inl rfl) pe_dnewT)
      (pss_cons (ps_for PassesOwn.never rfl (pi_list (C8.pe_c Cs hr (by decide) (by rfl) (pa_cons (pv 0) (pa_cons (C8.pe_c Ck hr (by decide) (by rfl) (pa_cons (pv 1) pa_nil)) pa_nil)))) (pg_name (i := 3) sc__law_cells.nd rfl (.inl rfl))
        (pss_one (ps_if (pt_cmpR op_gt (C8.pe_c Cd hr (by decide) (by rfl) (pa_cons (pv 0) (pa_cons pe_int pa_nil))) pe_int (nomark _))
          (pss_one (ps_dput (by have := hr.units; exact Nat.lt_of_le_of_lt (Nat.add_le_add_left (by decide) _) this) (pv 2) (pv 3) (C8.pe_c Co hr (by decide) (by rfl) (pa_cons (pv 0) (pa_cons (pe_ix ix_tup (pv 3) pe_int (fun _ _ => rfl)) (pa_cons (pe_ix ix_tup (pv 3) pe_int (fun _ _ => rfl)) (pa_cons (pv 1) pa_nil))))) (by rfl)))
          pss_nil)))
      (pss_one (ps_ret (pv 2)))), ?_⟩
    refine fun D nD => ?_
    have hp0 := hp.new (o := .dT []) nD
    have nDp : D ≠ p := (hp.ne nD).symm
    have hS0 : SqL K (upd H D (.dT [])) a (sl ks) := kpL hS nD
    have hD0 : (upd H D (.dT [])) D = some (.dT []) := upd_same
    have cD0 : Chg p H (upd H D (.dT [])) := (Chg.refl p H).new nD
    refine ⟨_, rfl, _, rfl, a, ks, rfl, hS0, hk, fun l xs H1 s1 nl hl hlen hx => ?_⟩
    have hp1 : Purse H1 p := by
      obtain ⟨d, z, c, e⟩ := hp0
      exact ⟨d, z, c, s1 _ _ e⟩
    have nlp : l ≠ p := (hp0.ne nl).symm
    have hlen' : xs.length ≤ 27 := by
      rw [hlen]
      have : 3 * ks.length * ks.length ≤ 9 * 3 := Nat.mul_le_mul (by omega) hk
      omega
    refine ⟨p, l, xs, rfl, hp1, SqL.of hl, nlp, by omega, fun l2 ys H2 c2 hp2 n2 n2p h2 pm => ?_⟩
    have hlen2 : ys.length ≤ 27 := by rw [pm.length_eq]; exact hlen'
    have hD1 := s1 _ _ hD0
    refine ⟨l2, rfl, ⟨_, SqL.of h2⟩, for_list (K := K) (a := l2) (xs := ys)
      (fun i σ H' => ∃ y3 kvs, σ = [some (.ref p), some (.ref a), some (.ref D), y3] ∧ Chg p H H' ∧ Purse H' p ∧ SqL K H' a (sl ks) ∧ H' l2 = some (.lst ys) ∧ (∀ y ∈ ys, KeyAt H' ks y) ∧ H' D = some (.dT kvs) ∧ CellsAt H' ks kvs ∧ kvs.length ≤ i)
      ⟨none, [], rfl, (cD0.trans (Same.chg s1)).trans c2, hp2, c2.seq ne (s1.seq hS0), h2, fun y hy => (hx y (pm.mem_iff.mp hy)).chg hp1 c2, c2 _ _ nDp hD1, ⟨List.nodup_nil, fun _ z => by cases z⟩, Nat.zero_le _⟩
      (fun i σ H' _ ⟨_, _, _, _, _, _, e, _⟩ => SqL.of e) ?_ ?_⟩
    · rintro i y σ H3 hi ⟨y3, kvs, rfl, c3, hp3, hS3, h23, hk3, hD3, hc3, hl3⟩
      obtain ⟨b, n, rfl, ⟨m, t, r, hm, ht, hrr, rfl⟩, hb⟩ := hk3 y (List.mem_of_getElem? hi)
      have hi2 : i < 27 := by have := (List.getElem?_eq_some_iff.mp hi).1; omega
      refine ⟨_, rfl, p, 3, rfl, hp3, by decide, by decide, fun j H4 j0 j1 hp4 c4 => ⟨_, _, rfl, rfl, _, rfl, ite2 (fun _ => ?_) (fun _ => ?_)⟩⟩
      · have bp : b ≠ p := by
          obtain ⟨d, z, c, e⟩ := hp3
          exact ne_of hb e fun q => by cases q
        have hb4 := c4 _ _ bp hb
        refine ⟨_, rfl, _, rfl, b, _, 0, _, rfl, rfl, SqT.of hb4, atI_nat (j := 0) rfl, _, rfl, b, _, 1, _, rfl, rfl, SqT.of hb4, atI_nat (j := 1) rfl, _, rfl, p, a, m, t, ks, rfl, hp4, c4.seq ne hS3, ne, fun l5 ws H5 c5 hp5 n5 n5p h5 ho => ?_⟩
        have c45 := c4.trans c5
        have hD5 := c45 _ _ nDp hD3
        refine ⟨_, rfl, _, rfl, D, _, rfl, DPut.t (k := nm3 m t r) hD5 (c5 _ _ bp hb4) (by rw [sizeLine_eq]; omega), ?_⟩
        refine ⟨_, _, rfl, ?_, ?_, ?_, ?_, ?_, upd_same, ⟨putK_nd hc3.1, ?_⟩, Nat.le_trans (DSub.putK_len _ _ _) (Nat.succ_le_succ hl3)⟩
        · exact (c3.trans c45).own nD
        · obtain ⟨d, z, w, e⟩ := hp5
          exact ⟨d, z, w, kpm e nDp.symm⟩
        · have := c45.seq ne hS3
          rcases this with (e | ⟨o, e⟩) | e
          · exact .inl (.inl (kpm e (ne_of e hD5 fun q => by cases q)))
          · exact .inl (.inr ⟨o, kpm e (ne_of e hD5 fun q => by cases q)⟩)
          · exact .inr e
        · exact kpm (c45 _ _ n2p h23) (ne_of (c45 _ _ n2p h23) hD5 fun q => by cases q)
        · exact fun y hy => ((hk3 y hy).chg hp3 c45).put hD5
        · intro q hq
          rcases putK_mem hq with rfl | z
          · exact ⟨m, t, r, l5, ws, hm, ht, hrr, rfl, ho, kpm h5 (ne_of h5 hD5 fun q => by cases q)⟩
          · exact ((hc3.2 q z).chg hp3 c45).put hD5
      · exact ⟨_, kvs, rfl, c3.trans c4, hp4, c4.seq ne hS3, c4 _ _ n2p h23, fun y hy => (hk3 y hy).chg hp3 c4, c4 _ _ nDp hD3, ⟨hc3.1, fun q hq => (hc3.2 q hq).chg hp3 c4⟩, Nat.le_succ_of_le hl3⟩
    · rintro σ H3 ⟨y3, kvs, rfl, c3, hp3, hS3, h23, hk3, hD3, hc3, hl3⟩
      exact ⟨_, rfl, q D kvs H3 c3 hp3 nD nDp hD3 hc3 (Nat.le_trans hl3 hlen2)⟩
end
end T
namespace T
open PySem PySem.Spec PyProof.Rows L2 Evl XB TL
/-! ### lines -/
/-- a cell: mine, its, relation, the options -/
abbrev Cell := Str × Str × Str × List Str
def partsOf (c : Cell) : List Str := c.1 :: c.2.1 :: c.2.2.1 :: c.2.2.2
def lineOf (c : Cell) : Str := Txt.join " " (partsOf c)
def nmOf (c : Cell) : Nm := nm3 c.1 c.2.1 c.2.2.1
def GoodC (ks : List Str) (c : Cell) : Prop := c.1 ∈ ks ∧ c.2.1 ∈ ks ∧ c.2.2.1 ∈ rels ∧ IsOpts c.1 c.2.1 ks c.2.2.2
structure Cells (ks : List Str) (cs : List Cell) : Prop where
  nd : (cs.map nmOf).Nodup
  good : ∀ c ∈ cs, GoodC ks c
  few : cs.length ≤ 27
theorem cells_of {H : Hp} {ks : List Str} : ∀ {kvs : List (Nm × V)}, (∀ q ∈ kvs, CellAt H ks q) → ∃ cs : List Cell, kvs.map (·.1) = cs.map nmOf ∧ (∀ c ∈ cs, GoodC ks c) ∧ cs.length = kvs.length ∧
    ∀ (i : Nat) (c : Cell), cs[i]? = some c → ∃ l : Addr, kvs[i]? = some (nmOf c, V.ref l) ∧ H l = some (.lst (sl c.2.2.2))
  | [], _ => ⟨[], rfl, (fun _ z => by cases z), rfl, (fun _ _ z => by cases z)⟩
  | q :: r, h => by
    obtain ⟨cs, e, g, l, at_⟩ := cells_of (kvs := r) fun x hx => h x (List.mem_cons_of_mem _ hx)
    obtain ⟨m, i, s, a, ws, h1, h2, h3, rfl, ho, t⟩ := h q List.mem_cons_self
    refine ⟨(m, i, s, ws) :: cs, ?_, ?_, ?_, ?_⟩
    · show _ :: _ = _ :: _
      rw [e]
      rfl
    · intro c hc
      rcases List.mem_cons.mp hc with rfl | z
      · exact ⟨h1, h2, h3, ho⟩
      · exact g c z
    · rw [List.length_cons, List.length_cons, l]
    · intro j c hj
      cases j with
      | zero =>
        cases hj
        exact ⟨a, rfl, t⟩
      | succ j => exact at_ j c hj
/-- what a part is made of -/
def Small (x : Str) : Prop := (x.length ≤ 16 && (tl x).all fun n => decide (33 ≤ n ∧ n ≤ 122 ∧ n ≠ 39 ∧ n ≠ 34 ∧ n ≠ 92)) = true
instance (x : Str) : Decidable (Small x) := by unfold Small; infer_instance
theorem small_ks {ks : List Str} (h : ks ∈ kinds7) : ∀ k ∈ ks, Small k := by
  have all : ∀ ks ∈ kinds7, ∀ k ∈ ks, Small k := by decide +kernel
  exact all ks h
theorem small_rel {s : Str} (h : s ∈ rels) : Small s := by
  have all : ∀ s ∈ rels, Small s := by decide +kernel
  exact all s h
theorem small_res {m : Str} {ks : List Str} : ∀ r ∈ resultsOf m ks, Small r := by
  unfold resultsOf
  split <;> decide +kernel
theorem small_opt {m i : Str} {ks : List Str} : ∀ c ∈ condsOf m i, ∀ r ∈ resultsOf m ks, Small (c ++ ":" ++ r) := by
  unfold condsOf resultsOf
  split <;> split <;> decide +kernel
theorem len7 {ks : List Str} (h : ks ∈ kinds7) : ks.length ≤ 3 := by
  have all : ∀ ks ∈ kinds7, ks.length ≤ 3 := by decide
  exact all ks h
theorem small_ws {m i : Str} {ks ws : List Str} (h : IsOpts m i ks ws) : (∀ p ∈ ws, Small p) ∧ ws.length ≤ 5 := by
  obtain ⟨pre, z, rfl, hl, hp, hz⟩ := h
  refine ⟨fun p hm => ?_, by rw [List.length_append, List.length_singleton]; omega⟩
  rcases List.mem_append.mp hm with x | x
  · obtain ⟨c, hc, r, hr, rfl⟩ := hp p x
    exact small_opt c hc r hr
  · rw [List.mem_singleton.mp x]
    exact small_res z hz
theorem small_parts {ks : List Str} {c : Cell} (h : ks ∈ kinds7) (g : GoodC ks c) : (∀ p ∈ partsOf c, Small p) ∧ (partsOf c).length ≤ 8 := by
  obtain ⟨g1, g2, g3, g4⟩ := g
  obtain ⟨w1, w2⟩ := small_ws g4
  refine ⟨fun p hp => ?_, by show c.2.2.2.length + 1 + 1 + 1 ≤ 8; omega⟩
  rcases List.mem_cons.mp hp with rfl | hp
  · exact small_ks h _ g1
  rcases List.mem_cons.mp hp with rfl | hp
  · exact small_ks h _ g2
  rcases List.mem_cons.mp hp with rfl | hp
  · exact small_rel g3
  · exact w1 p hp
theorem Small.len {x : Str} (h : Small x) : x.length ≤ 16 := by
  unfold Small at h
  rw [Bool.and_eq_true, decide_eq_true_eq] at h
  exact h.1
theorem sum_le {B : Nat} : ∀ {ws : List Str}, (∀ p ∈ ws, p.length ≤ B) → (ws.map (·.length)).sum ≤ ws.length * B
  | [], _ => Nat.zero_le _
  | x :: r, h => by
    have z := sum_le (B := B) (ws := r) fun p hp => h p (List.mem_cons_of_mem _ hp)
    have := h x List.mem_cons_self
    rw [List.map_cons, List.sum_cons, List.length_cons, Nat.succ_mul]
    omega
theorem join_bound {B n : Nat} {ws : List Str} (h : ∀ p ∈ ws, p.length ≤ B) (hn : ws.length ≤ n) (hb : n * B + n ≤ 16777216) {sep : Str} (hs : sep.length = 1) : (ws.map (·.length)).sum + ws.length * sep.length ≤ 16777216 := by
  have z := sum_le h
  have y : ws.length * B ≤ n * B := Nat.mul_le_mul_right _ hn
  rw [hs]
  omega
section
variable {P : Program} {w : World} {K : PySem.W.Frag} {mg : Str → Option Value} {base : Heap}
def spLines : Sp := fun vs H Q _ => ∃ (d : Addr) (ks : List Str) (kvs : List (Nm × V)), vs = [.ref d] ∧ ks ∈ kinds7 ∧ H d = some (.dT kvs) ∧ CellsAt H ks kvs ∧ kvs.length ≤ 27 ∧
  ∀ l cs H', Same H H' → H l = none → H' l = some (.lst (sl (cs.map lineOf))) → Cells ks cs → kvs.map (·.1) = cs.map nmOf → (∀ (i : Nat) (c : Cell), cs[i]? = some c → ∃ a : Addr, kvs[i]? = some (nmOf c, V.ref a) ∧ H a = some (.lst (sl c.2.2.2))) → Q (.ref l) H'
theorem c_lines (D : At K mg "_law_lines" s__law_lines ["cells"]) (B : Bl mg) : C8.Cal P w K mg base 1 "_law_lines" spLines [] := by
  refine cal_of D sc__law_lines (fun vs H Q E h => ?_) (fun f cdv A outer s H vs Q E hr h => ?_)
  · obtain ⟨a, ks, kvs, rfl, _⟩ := h
    rfl
  · obtain ⟨d, ks, kvs, rfl, hks, hd, hC, hl, q⟩ := h
    refine ⟨_, pss_one (ps_ret (pe_lock (pe_lc (own := [("key", 1)]) (g := gName 1) (tt := tYes) (te := tM1 (rJoin K) (tC (.str " ")) (tOp rCat (tCB (rListS K) (tCons (tVar 1) tNil)) (tDGet (tVar 0) (tVar 1)))) rfl sc__law_lines.nd (pi_keys (pv 0))
            (blkOk_by (own := [("key", 1)]) (N := N__law_lines) (sc := defScope s__law_lines) (by decide +kernel)) (fun _ _ _ _ _ => pg_name (i := 1) sc__law_lines.nd rfl (Or.inl rfl)) (fun _ _ _ _ _ => pts_nil)
            (fun _ _ _ _ _ => pe_join pe_str (pe_op op_cat (pe_callTy call_list_of (by rfl) B.list (by decide +kernel) (pa_cons (pv 1) pa_nil)) (pe_dget (by have := hr.units; exact Nat.lt_of_le_of_lt (Nat.add_le_add_left (by decide) _) this) (pv 0) (pv 1) (fun _ _ => rfl))))))), ?_⟩
    obtain ⟨cs, hk, hg, hlen, hat⟩ := cells_of hC.2
    have nd : (cs.map nmOf).Nodup := hk ▸ hC.1
    have CC : Cells ks cs := ⟨nd, hg, by omega⟩
    refine ⟨d, .dT kvs, hd, trivial, fun od => ⟨_, rfl, d, od, rfl, .inr ⟨kvs, upd_same, fun l nl => ?_⟩⟩⟩
    refine lc_it walk_keysT (fun n G => Same (upd H d (.frz od (.dT kvs))) G ∧ G l = some (.lst (sl ((cs.take n).map lineOf)))) ⟨Same.new (Same.refl _) nl, upd_same⟩ (fun i G _ p => p.1 _ _ upd_same) ?_ ?_
    · rintro i x G' G hi ⟨sm, hG⟩ ⟨rfl, k, v, qa, hk, rfl, hq⟩
      have hc : cs[i]? = some (cs[i]'(by omega)) := List.getElem?_eq_getElem _
      generalize cs[i]'(by omega) = c at hc
      obtain ⟨b, hb1, hb2⟩ := hat i c hc
      rw [hk] at hb1
      obtain ⟨rfl, rfl⟩ : k = nmOf c ∧ v = .ref b := by
        injection hb1 with e
        injection e with e1 e2
        exact ⟨e1, e2⟩
      obtain ⟨sp1, sp2⟩ := small_parts hks (hg c (List.mem_of_getElem? hc))
      have bd : b ≠ d := ne_of hb2 hd fun z => by cases z
      have hb3 : G b = some (.lst (sl c.2.2.2)) := sm _ _ (kpm hb2 bd)
      refine ⟨rfl, ?_⟩
      refine (ev_join (ys := partsOf c) ev_c (el_is (el_catR (xs := sl [c.1, c.2.1, c.2.2.1]) (ys := sl c.2.2.2) (el_listS (ev_var rfl) (.inr (SqT.of hq))) (ev_dget (ev_var rfl) (ev_var rfl) (.inr ⟨od, sm _ _ upd_same⟩) hq (valV_at hC.1 hk)) hb3 ?_) ?_) (join_bound (B := 16) (n := 8) (fun p hp => (sp1 p hp).len) sp2 (by decide) rfl)) G (Ex.refl G) _ fun H4 e4 => ?_
      · have : c.2.2.2.length + 1 + 1 + 1 ≤ 8 := sp2
        rw [XB.len_sl c.2.2.2]
        show 3 + _ ≤ _
        omega
      · exact sl_cat _ _
      · refine ⟨_, e4 _ _ hG, ?_, Same.own (sm.trans e4) nl, at_sl (ys := [lineOf c]) upd_same ?_⟩
        · rw [XB.len_sl, List.length_map, List.length_take, sizeLine_eq]
          omega
        · rw [List.take_succ, hc, List.map_append]
          rfl
    · rintro G ⟨sm, hG⟩
      refine ⟨sm _ _ upd_same, q l cs _ ?_ ?_ ?_ CC hk hat⟩
      · intro b o hb
        by_cases e : b = d
        · rw [e, hd] at hb
          rw [e, upd_same]
          exact hb
        · rw [upd_ne e]
          exact sm _ _ (kpm hb e)
      · by_cases e : l = d
        · rw [e, upd_same] at nl
          cases nl
        · rw [upd_ne e] at nl
          exact nl
      · have e : l ≠ d := fun e => by rw [e, upd_same] at nl; cases nl
        rw [upd_ne e, hG, show kvs.length = cs.length from hlen.symm, List.take_length]
end
end T
namespace T
open PySem PySem.Spec PyProof.Rows L2 Evl XB TL
section
variable {P : Program} {w : World} {K : PySem.W.Frag} {mg : Str → Option Value} {base : Heap}
/-- a tuple of texts is the module's constant x -/
structure TupC (K : PySem.W.Frag) (mg : Str → Option Value) (x : Str) (ws : List Str) : Prop where
  ex : ∃ a, mg x = some (.ref a) ∧ ∀ H, SqT K H a (sl ws)
/-! ### _law_text -/
def headOf (ks : List Str) : Str := Txt.join " " ("kinds" :: ks)
def textOf (ks lns : List Str) : Str := Txt.join "\n" (headOf ks :: lns)
theorem joinL_len (S : List Nat) : ∀ ps : List (List Nat), (joinL S ps).length ≤ (ps.map (·.length)).sum + ps.length * S.length
  | [] => Nat.zero_le _
  | [p] => by
    show p.length ≤ (p.length + 0) + 1 * S.length
    omega
  | p :: q :: r => by
    have z := joinL_len S (q :: r)
    show (p ++ (S ++ joinL S (q :: r))).length ≤ (p.length + ((q :: r).map (·.length)).sum) + ((q :: r).length + 1) * S.length
    rw [List.length_append, List.length_append, Nat.succ_mul]
    omega
theorem tl_len (x : Str) : (tl x).length = x.length := Array.length_toList
theorem join_len (sep : Str) (ys : List Str) : (Txt.join sep ys).length ≤ (ys.map (·.length)).sum + ys.length * sep.length := by
  have z := joinL_len (tl sep) (ys.map tl)
  rw [join_eq, ← tl_len, tl_join]
  rw [List.map_map, List.length_map, tl_len] at z
  rw [show (List.length ∘ tl) = (fun x : Str => x.length) from funext fun x => tl_len x] at z
  exact z
theorem join_le {B n : Nat} {ws : List Str} (h : ∀ p ∈ ws, p.length ≤ B) (hn : ws.length ≤ n) {sep : Str} (hs : sep.length = 1) : (Txt.join sep ws).length ≤ n * B + n := by
  have z := sum_le h
  have y : ws.length * B ≤ n * B := Nat.mul_le_mul_right _ hn
  have := join_len sep ws
  rw [hs] at this
  omega
theorem line_len {ks : List Str} {c : Cell} (h : ks ∈ kinds7) (g : GoodC ks c) : (lineOf c).length ≤ 136 := join_le (B := 16) (n := 8) (fun p hp => ((small_parts h g).1 p hp).len) (small_parts h g).2 rfl
theorem head_len {ks : List Str} (h : ks ∈ kinds7) : (headOf ks).length ≤ 100 := by
  have z := len7 h
  refine Nat.le_trans (join_le (B := 16) (n := 4) (fun p hp => ?_) (by show ks.length + 1 ≤ 4; omega) rfl) (by decide)
  rcases List.mem_cons.mp hp with rfl | hp
  · decide
  · exact (small_ks h p hp).len
def spText : Sp := fun vs H Q _ => ∃ (a b : Addr) (ks lns : List Str), vs = [.ref a, .ref b] ∧ ks ∈ kinds7 ∧ H a = some (.lst (sl ks)) ∧ H b = some (.lst (sl lns)) ∧ lns.length ≤ 27 ∧ (∀ x ∈ lns, x.length ≤ 136) ∧ ∀ H', Ex H H' → Q (.str (textOf ks lns)) H'
theorem c_text (D : At K mg "_law_text" s__law_text ["sorts", "lines"]) : C8.Cal P w K mg base 1 "_law_text" spText [] := by
  refine cal_of D sc__law_text (fun vs H Q E h => ?_) (fun f cdv A outer s H vs Q E hr h => ?_)
  · obtain ⟨a, b, ks, lns, rfl, _⟩ := h
    rfl
  · obtain ⟨a, b, ks, lns, rfl, hks, ha, hb, hl, hx, q⟩ := h
    refine ⟨_, pss_one (ps_ret (pe_join pe_str (pe_op op_cat (pe_lst (pa_cons (pe_join pe_str (pe_op op_cat (pe_lst (pa_cons pe_str pa_nil)) (pv 0))) pa_nil)) (pv 1)))), ?_⟩
    have l7 := len7 hks
    refine s_ret (ev_join (ys := headOf ks :: lns) ev_c (el_catR (xs := sl [headOf ks]) (ys := sl lns) (el_lst (ea_cons (ev_join (ys := "kinds" :: ks) ev_c (el_catR (xs := sl ["kinds"]) (ys := sl ks) (el_lst (ea_str ea_nil) (by decide)) (ev_var rfl) ha ?_) ?_) ea_nil) (by show 1 ≤ 100000; decide)) (ev_var rfl) hb ?_) ?_) fun H1 e1 => q H1 e1
    · rw [XB.len_sl, XB.len_sl]
      show 1 + _ ≤ _
      omega
    · refine join_bound (B := 16) (n := 4) (fun p hp => ?_) (by show ks.length + 1 ≤ 4; omega) (by decide) rfl
      rcases List.mem_cons.mp hp with rfl | hp
      · decide
      · exact (small_ks hks p hp).len
    · rw [XB.len_sl, XB.len_sl]
      show 1 + _ ≤ _
      omega
    · refine join_bound (B := 136) (n := 28) (fun p hp => ?_) (by show lns.length + 1 ≤ 28; omega) (by decide) rfl
      rcases List.mem_cons.mp hp with rfl | hp
      · exact Nat.le_trans (head_len hks) (by decide)
      · exact hx p hp
/-! ### is_word -/
def spWord (K : PySem.W.Frag) : Sp := fun vs H Q _ => ∃ (x : Str) (a : Addr) (ws : List Str), vs = [.str x, .ref a] ∧ SqT K H a (sl ws) ∧ ∀ H', Ex H H' → Q (.bl (decide (x ∈ ws))) H'
theorem c_word (D : At K mg "is_word" s_is_word ["value", "words"]) (B : Bl mg) : C8.Cal P w K mg base 1 "is_word" (spWord K) [] := by
  refine cal_of D sc_is_word (fun vs H Q E h => ?_) (fun f cdv A outer s H vs Q E hr h => ?_)
  · obtain ⟨a, b, ws, rfl, _⟩ := h
    rfl
  · obtain ⟨x, a, ws, rfl, hS, q⟩ := h
    refine ⟨_, pss_one (ps_ret (pe_and (pe_callB call_isi (by rfl) B.isin (by decide +kernel) (pa_cons (pv 0) (pa_cons (pe_bltn (v := .ty "str") (by rfl) B.str (by decide +kernel) rfl) pa_nil))) (pe_one (pe_cmpR op_in_seq (pv 0) (pv 1) (by rfl))))), ?_⟩
    exact s_ret (ev_andV (ev_isStr (ev_var rfl)) (fun _ => ev_inT (ev_var rfl) (ev_var rfl) hS)) fun H1 e1 => by rw [Bool.true_and]; exact q H1 e1
theorem word_at {σ : L2.St} {H : Hp} {ta tb : TE} {x : Str} {a : Addr} {ws : List Str} {E : XK} (ha : Ev ta σ H (.str x)) (hb : Ev tb σ H (.ref a)) (hS : SqT K H a (sl ws)) : Ev (tCall (spWord K) [] E (tCons ta (tCons tb tNil))) σ H (.bl (decide (x ∈ ws))) :=
  ev_call (ea_cons ha (ea_cons hb ea_nil)) fun H1 e Q q E => ⟨x, a, ws, rfl, ex_t e hS, q⟩
/-! ### are_kinds -/
def KINDSc : List Str := ["put", "out", "set"]
def spKinds (K : PySem.W.Frag) : Sp := fun vs H Q _ => ∃ (a : Addr) (ks : List Str), vs = [.ref a] ∧ SqT K H a (sl ks) ∧ ks ∈ kinds7 ∧ ∀ H', Ex H H' → Q (.bl true) H'
theorem kinds_all {ks : List Str} (h : ks ∈ kinds7) : (ks.map fun c => decide (c ∈ KINDSc)).all id = true := by
  have all : ∀ ks ∈ kinds7, (ks.map fun c => decide (c ∈ KINDSc)).all id = true := by decide +kernel
  exact all ks h
theorem kinds_fil {ks : List Str} (h : ks ∈ kinds7) : (KINDSc.filter fun c => decide (c ∈ ks)) = ks := by
  have all : ∀ ks ∈ kinds7, (KINDSc.filter fun c => decide (c ∈ ks)) = ks := by decide +kernel
  exact all ks h
theorem kinds_pos {ks : List Str} (h : ks ∈ kinds7) : 0 < ks.length := by
  have all : ∀ ks ∈ kinds7, 0 < ks.length := by decide +kernel
  exact all ks h
theorem kinds_sh {ks : List Str} (h : ks ∈ kinds7) : SeqAt.shaped (.tuple (ks.map PyData.str)) = true := by
  have all : ∀ ks ∈ kinds7, SeqAt.shaped (.tuple (ks.map PyData.str)) = true := by decide +kernel
  exact all ks h
theorem kinds_eq {ks : List Str} (h : ks ∈ kinds7) : PyData.eqv (.tuple (ks.map PyData.str)) (.tuple (ks.map PyData.str)) = true := by
  have all : ∀ ks ∈ kinds7, PyData.eqv (.tuple (ks.map PyData.str)) (.tuple (ks.map PyData.str)) = true := by decide +kernel
  exact all ks h
theorem c_kinds (D : At K mg "are_kinds" s_are_kinds ["value"]) (B : Bl mg) (T : TupC K mg "KINDS" KINDSc) (Cw : C8.Cal P w K mg base 1 "is_word" (spWord K) []) : C8.Cal P w K mg base 2 "are_kinds" (spKinds K) [] := by
  obtain ⟨ak, mk, hK⟩ := T.ex
  refine cal_of D sc_are_kinds (fun vs H Q E h => ?_) (fun f cdv A outer s H vs Q E hr h => ?_)
  · obtain ⟨a, ks, rfl, _⟩ := h
    rfl
  · obtain ⟨a, ks, rfl, hS, hks, q⟩ := h
    refine ⟨_, pss_cons (ps_if (PW.pt (pw_or (pt_not (pt_val (pe_callB call_isi (by rfl) B.isin (by decide +kernel) (pa_cons (pv 0) (pa_cons (pe_bltn (v := .ty "tuple") (by rfl) B.tuple (by decide +kernel) rfl) pa_nil))))) (pw_or1 (pt_not (pt_val (pe_callB (cr_all rfl) (by rfl) B.all_ (by decide +kernel) (pa_cons
        (pe_lc (own := [("kind", 1)]) (g := gName 1) (tt := tYes) (te := tCall (spWord K) [] C8.E0 (tCons (tVar 1) (tCons (tC (.ref ak)) tNil))) rfl sc_are_kinds.nd (pi_tup (pv 0))
            (blkOk_by (own := [("kind", 1)]) (N := N_are_kinds) (sc := defScope s_are_kinds) (by decide +kernel)) (fun _ _ _ _ _ => pg_name (i := 1) sc_are_kinds.nd rfl (Or.inl rfl)) (fun _ _ _ _ _ => pts_nil)
            (fun _ _ _ _ _ => C8.pe_c Cw hr (by decide) (by rfl) (pa_cons (pv 1) (pa_cons (pe_glob (v := .ref ak) (by rfl) mk rfl) pa_nil)))) pa_nil))))))) (pss_one (ps_ret pe_bl)) pss_nil)
      (pss_one (ps_ret (pe_and (pe_cmpR op_gt (pe_callB call_len_seq (by rfl) B.len (by decide +kernel) (pa_cons (pv 0) pa_nil)) pe_int (nomark _)) (pe_one (pe_cmpR (op_eqD hr.units) (pv 0) (pe_callTy call_tuple_of (by rfl) B.tuple (by decide +kernel) (pa_cons 
        (pe_lc (own := [("kind", 1)]) (g := gName 1) (tt := tTest (tOp (rIn K false) (tVar 1) (tVar 0))) (te := tVar 1) rfl sc_are_kinds.nd (pi_tup (pe_glob (v := .ref ak) (by rfl) mk rfl))
            (blkOk_by (own := [("kind", 1)]) (N := N_are_kinds) (sc := defScope s_are_kinds) (by decide +kernel)) (fun _ _ _ _ _ => pg_name (i := 1) sc_are_kinds.nd rfl (Or.inl rfl)) (fun _ _ _ _ _ => pts_one (pt_cmpR op_in_seq (pv 1) (pv 0) (by rfl)))
            (fun _ _ _ _ _ => pv 1)) pa_nil)) (nomark _)))))), ?_⟩
    refine q_when (b := false) (et_is (et_or (et_not (et_B (ev_isTup (ev_var rfl) hS))) (fun _ => et_not (et_B (ev_all (bs := ks.map fun c => decide (c ∈ KINDSc)) (el_is (el_lcS (ws := ks) (fun _ => true) (fun c => .bl (decide (c ∈ KINDSc))) (es_at (ev_var rfl) hS) ?_ (fun _ => rfl) (fun _ _ _ _ => fun H1 _ _ z => z H1 (Ex.refl H1)) (fun c H1 e1 _ _ => word_at (ev_var rfl) ev_c (hK _))) ?_))))) ?_) (fun z => by cases z) (fun _ H1 e1 => ?_)
    · have := len7 hks
      omega
    · rw [List.map_map, List.filter_eq_self.mpr (fun _ _ => rfl)]
      rfl
    · rw [kinds_all hks]
      rfl
    · refine s_ret (ev_is (ev_andV (ev_op (ev_lenS (ev_var rfl) (.inr (ex_t e1 hS))) ev_c rv_I0) (fun _ => ev_eqT (us := KINDSc.filter fun c => decide (c ∈ ks)) (ev_var rfl) (ex_t e1 hS) (es_new (eu_tuple (el_lcS (ws := KINDSc) (fun c => decide (c ∈ ks)) V.str (es_at ev_c (hK _)) (by decide) (fun _ => rfl) (fun c H2 e2 _ => et_test (ev_inT (ev_var rfl) (ev_var rfl) (ex_t (e1.trans e2) hS))) (fun c H2 e2 _ _ => ev_var rfl)))) (kinds_sh hks) ?_)) ?_) fun H2 e2 => q H2 (e1.trans e2)
      · rw [kinds_fil hks]
        exact kinds_sh hks
      · rw [kinds_fil hks, kinds_eq hks, Bool.and_true]
        have : 0 < (sl ks).length := by rw [XB.len_sl]; exact kinds_pos hks
        show V.bl (decide ((0 : Int) < ((sl ks).length : Int))) = _
        rw [decide_eq_true (by omega)]
end
end T
namespace T
open PySem PySem.Spec PyProof.Rows L2 Evl XB TL
section
variable {P : Program} {w : World} {K : PySem.W.Frag} {mg : Str → Option Value} {base : Heap}
/-! ### is_cell -/
def spIsCell (K : PySem.W.Frag) : Sp := fun vs H Q _ => ∃ (a b : Addr) (m i s : Str) (ks : List Str), vs = [.ref a, .ref b] ∧ SqT K H a (sl [m, i, s]) ∧ SqT K H b (sl ks) ∧ ∀ H', Ex H H' → Q (.bl (decide (m ∈ ks) && (decide (i ∈ ks) && decide (s ∈ rels)))) H'
theorem c_isCell (D : At K mg "is_cell" s_is_cell ["value", "kinds"]) (B : Bl mg) (T : TupC K mg "RELATIONS" rels) (Cw : C8.Cal P w K mg base 1 "is_word" (spWord K) []) : C8.Cal P w K mg base 2 "is_cell" (spIsCell K) [] := by
  obtain ⟨ak, mk, hK⟩ := T.ex
  refine cal_of D sc_is_cell (fun vs H Q E h => ?_) (fun f cdv A outer s H vs Q E hr h => ?_)
  · obtain ⟨a, b, m, i, s, ks, rfl, _⟩ := h
    rfl
  · obtain ⟨a, b, m, i, s, ks, rfl, hS, hk, q⟩ := h
    refine ⟨_, pss_cons (ps_if (PW.pt (pw_or (pt_not (pt_val (pe_callB call_isi (by rfl) B.isin (by decide +kernel) (pa_cons (pv 0) (pa_cons (pe_bltn (v := .ty "tuple") (by rfl) B.tuple (by decide +kernel) rfl) pa_nil))))) (pw_or1 (pt_cmpR op_ne (pe_callB call_len_seq (by rfl) B.len (by decide +kernel) (pa_cons (pv 0) pa_nil)) pe_int (nomark _))))) (pss_one (ps_ret pe_bl)) pss_nil)
      (pss_cons (ps_asg (pv 0) (pg_tup (by rfl) (pgs_cons (pg_name (i := 2) sc_is_cell.nd rfl (.inl rfl)) (pgs_cons (pg_name (i := 3) sc_is_cell.nd rfl (.inl rfl)) (pgs_cons (pg_name (i := 4) sc_is_cell.nd rfl (.inl rfl)) pgs_nil)))))
      (pss_one (ps_ret (pe_and (C8.pe_c Cw hr (by decide) (by rfl) (pa_cons (pv 2) (pa_cons (pv 1) pa_nil))) (pe_and (C8.pe_c Cw hr (by decide) (by rfl) (pa_cons (pv 3) (pa_cons (pv 1) pa_nil))) (pe_one (C8.pe_c Cw hr (by decide) (by rfl) (pa_cons (pv 4) (pa_cons (pe_glob (v := .ref ak) (by rfl) mk rfl) pa_nil))))))))), ?_⟩
    refine q_when (b := false) (et_or (et_not (et_B (ev_isTup (ev_var rfl) hS))) (fun _ => et_test (ev_is (ev_op (ev_lenS (ev_var rfl) (.inr hS)) ev_c (rv_ne rfl)) rfl))) (fun z => by cases z) (fun _ H1 e1 => ?_)
    refine ⟨_, rfl, a, _, rfl, ex_t e1 hS, rfl, _, _, rfl, _, _, rfl, _, _, rfl, rfl, ?_⟩
    refine s_ret (v := .bl (decide (m ∈ ks) && (decide (i ∈ ks) && decide (s ∈ rels)))) (ev_andV (word_at (x := m) (ev_var rfl) (ev_var rfl) (ex_t e1 hk)) (fun _ => ev_andV (word_at (x := i) (ev_var rfl) (ev_var rfl) (ex_t e1 hk)) (fun _ => word_at (x := s) (ev_var rfl) ev_c (hK _)))) ?_
    exact fun H2 e2 => q H2 (e1.trans e2)
/-! ### cell_of, options_of -/
def spCellOf (n : Nat → List Str → List Str) : Sp := fun vs H Q _ => ∃ (x : Str), vs = [.str x] ∧ x.length ≤ 1000 ∧ ∀ l H', Ex H H' → H l = none → H' l = some (.tup (sl (n 3 (Txt.split x " ")))) → Q (.ref l) H'
theorem cut_take (xs : List V) : cutV xs none (some 3) = xs.take 3 := by
  unfold cutV
  rw [HT.sIx_none, show (some (3 : Int)) = some ((3 : Nat) : Int) from rfl, HT.sIx_nat, List.drop_zero, Nat.sub_zero]
  by_cases h : 3 ≤ xs.length
  · rw [Nat.min_eq_left h]
  · rw [Nat.min_eq_right (by omega), List.take_length, List.take_of_length_le (by omega)]
theorem cut_drop (xs : List V) : cutV xs (some 3) none = xs.drop 3 := by
  unfold cutV
  rw [HT.sIx_none, show (some (3 : Int)) = some ((3 : Nat) : Int) from rfl, HT.sIx_nat]
  by_cases h : 3 ≤ xs.length
  · rw [Nat.min_eq_left h, List.take_of_length_le (by rw [List.length_drop] <;> exact Nat.le_refl _)]
  · rw [Nat.min_eq_right (by omega), Nat.sub_self, List.take_zero, List.drop_eq_nil_of_le (by omega)]
theorem c_cellOf (D : At K mg "cell_of" s_cell_of ["row"]) (B : Bl mg) : C8.Cal P w K mg base 1 "cell_of" (spCellOf List.take) [] := by
  refine cal_of D sc_cell_of (fun vs H Q E h => ?_) (fun f cdv A outer s H vs Q E hr h => ?_)
  · obtain ⟨x, rfl, _⟩ := h
    rfl
  · obtain ⟨x, rfl, hx, q⟩ := h
    refine ⟨_, pss_one (ps_ret (pe_callTy call_tuple_of (by rfl) B.tuple (by decide +kernel) (pa_cons (pe_slice sl_list (pe_split (pv 0) pe_str) po_none (po_some pe_int)) pa_nil))), ?_⟩
    exact s_retU (eu_tuple (el_is (el_slN (el_split (ev_var rfl) ev_c rfl (by rw [sizeLine_eq]; omega)) eo_none (eo_some ev_c)) (by rw [cut_take]; exact List.map_take.symm))) fun l H1 n1 e1 h1 => q l H1 e1 n1 h1
theorem c_optsOf (D : At K mg "options_of" s_options_of ["row"]) (B : Bl mg) : C8.Cal P w K mg base 1 "options_of" (spCellOf List.drop) [] := by
  refine cal_of D sc_options_of (fun vs H Q E h => ?_) (fun f cdv A outer s H vs Q E hr h => ?_)
  · obtain ⟨x, rfl, _⟩ := h
    rfl
  · obtain ⟨x, rfl, hx, q⟩ := h
    refine ⟨_, pss_one (ps_ret (pe_callTy call_tuple_of (by rfl) B.tuple (by decide +kernel) (pa_cons (pe_slice sl_list (pe_split (pv 0) pe_str) (po_some pe_int) po_none) pa_nil))), ?_⟩
    exact s_retU (eu_tuple (el_is (el_slN (el_split (ev_var rfl) ev_c rfl (by rw [sizeLine_eq]; omega)) (eo_some ev_c) eo_none) (by rw [cut_drop]; exact List.map_drop.symm))) fun l H1 n1 e1 h1 => q l H1 e1 n1 h1
/-! ### conditions_for, results_for -/
def spConds (K : PySem.W.Frag) : Sp := fun vs H Q _ => ∃ (m i : Str) (ks : List Str), vs = [.str m, .str i] ∧ ks ∈ kinds7 ∧ m ∈ ks ∧ i ∈ ks ∧ ∀ l H', Ex H H' → SqT K H' l (sl (condsOf m i)) → Q (.ref l) H'
theorem conds_eq {m i : Str} {ks : List Str} (h : ks ∈ kinds7) (hm : m ∈ ks) (hi : i ∈ ks) : condsOf m i = if m ∈ [("put" : Str), "set"] ∧ i ∈ [("put" : Str), "set"] then ("first" : Str) :: ["less", "same", "more"] else ["first"] := by
  have all : ∀ ks ∈ kinds7, ∀ m ∈ ks, ∀ i ∈ ks, condsOf m i = if m ∈ [("put" : Str), "set"] ∧ i ∈ [("put" : Str), "set"] then ("first" : Str) :: ["less", "same", "more"] else ["first"] := by decide +kernel
  exact all ks h m hm i hi
theorem c_conds (D : At K mg "conditions_for" s_conditions_for ["mine", "its"]) (T : TupC K mg "KINDS_WITH_SIGN" ["put", "set"]) (T2 : TupC K mg "SIGN_CONDITIONS" ["less", "same", "more"]) : C8.Cal P w K mg base 1 "conditions_for" (spConds K) [] := by
  obtain ⟨ak, mk, hK⟩ := T.ex
  obtain ⟨ac, mc, hc⟩ := T2.ex
  refine cal_of D sc_conditions_for (fun vs H Q E h => ?_) (fun f cdv A outer s H vs Q E hr h => ?_)
  · obtain ⟨m, i, ks, rfl, _⟩ := h
    rfl
  · obtain ⟨m, i, ks, rfl, hks, hm, hi, q⟩ := h
    refine ⟨_, pss_cons (ps_if (PW.pt (pw_and (pt_cmpR op_in_seq (pv 0) (pe_glob (v := .ref ak) (by rfl) mk rfl) (by rfl)) (pw_and1 (pt_cmpR op_in_seq (pv 1) (pe_glob (v := .ref ak) (by rfl) mk rfl) (by rfl))))) (pss_one (ps_ret (pe_op op_catT (pe_tup (pa_cons pe_str pa_nil)) (pe_glob (v := .ref ac) (by rfl) mc rfl)))) pss_nil)
      (pss_one (ps_ret (pe_tup (pa_cons pe_str pa_nil)))), ?_⟩
    rw [conds_eq hks hm hi] at q
    refine q_when (et_and (et_test (ev_inT (ev_var rfl) ev_c (hK _))) (fun _ => et_test (ev_inT (ev_var rfl) ev_c (hK _)))) (fun z H1 e1 => ?_) (fun z H1 e1 => ?_)
    · rw [Bool.and_eq_true, decide_eq_true_eq, decide_eq_true_eq] at z
      rw [if_pos z] at q
      exact s_retS (es_cat (xs := sl ["first"]) (es_new (eu_tup (ea_str ea_nil) (by decide))) (es_at ev_c (hc _)) (by intro z; cases z) (by decide)) fun p H2 e2 h2 => q p H2 (e1.trans e2) h2
    · rw [if_neg (fun y => by rw [decide_eq_true y.1, decide_eq_true y.2] at z; cases z)] at q
      exact s_retS (es_new (eu_tup (ea_str ea_nil) (by decide))) fun p H2 e2 h2 => q p H2 (e1.trans e2) h2
def spRes (K : PySem.W.Frag) : Sp := fun vs H Q _ => ∃ (m : Str) (b : Addr) (ks : List Str), vs = [.str m, .ref b] ∧ SqT K H b (sl ks) ∧ ∀ l H', Ex H H' → SqT K H' l (sl (resultsOf m ks)) → Q (.ref l) H'
theorem c_res (D : At K mg "results_for" s_results_for ["mine", "kinds"]) (T : TupC K mg "RESULTS" ["keep", "up", "down", "stay"]) : C8.Cal P w K mg base 1 "results_for" (spRes K) [] := by
  obtain ⟨ak, mk, hK⟩ := T.ex
  refine cal_of D sc_results_for (fun vs H Q E h => ?_) (fun f cdv A outer s H vs Q E hr h => ?_)
  · obtain ⟨m, b, ks, rfl, _⟩ := h
    rfl
  · obtain ⟨m, b, ks, rfl, hb, q⟩ := h
    refine ⟨_, pss_cons (ps_if (PW.pt (pw_and (pt_cmpR op_eq (pv 0) pe_str (nomark _)) (pw_and1 (pt_cmpR op_in_seq pe_str (pv 1) (by rfl))))) (pss_one (ps_ret (pe_op op_catT (pe_glob (v := .ref ak) (by rfl) mk rfl) (pe_tup (pa_cons pe_str pa_nil))))) pss_nil)
      (pss_one (ps_ret (pe_glob (v := .ref ak) (by rfl) mk rfl))), ?_⟩
    unfold resultsOf at q
    refine q_when (et_and (et_test (ev_eqS (ev_var rfl) ev_c)) (fun _ => et_test (ev_inT ev_c (ev_var rfl) hb))) (fun z H1 e1 => ?_) (fun z H1 e1 => ?_)
    · rw [Bool.and_eq_true, decide_eq_true_eq, decide_eq_true_eq] at z
      rw [if_pos z] at q
      exact s_retS (es_cat (xs := sl ["keep", "up", "down", "stay"]) (es_at ev_c (hK _)) (es_new (eu_tup (ea_str ea_nil) (by decide))) (by intro z; cases z) (by decide)) fun p H2 e2 h2 => q p H2 (e1.trans e2) h2
    · rw [if_neg (fun y => by rw [decide_eq_true y.1, decide_eq_true y.2] at z; cases z), List.append_nil] at q
      exact s_retS (es_at ev_c (hK _)) fun p H2 e2 h2 => q p H2 (e1.trans e2) h2
end
end T
namespace T
open PySem PySem.Spec PyProof.Rows L2 Evl XB TL
theorem parts_split {ks : List Str} {c : Cell} (h : ks ∈ kinds7) (g : GoodC ks c) : Txt.split (lineOf c) " " = partsOf c := by
  refine split_join (s := 32) (S := []) rfl (by decide +kernel) (by intro z; cases z) fun p hp z => ?_
  have sm := (small_parts h g).1 p hp
  unfold Small at sm
  rw [Bool.and_eq_true, List.all_eq_true] at sm
  have := sm.2 32 z
  simp at this
theorem cut_init (xs : List V) (z : V) : cutV (xs ++ [z]) none (some (-1)) = xs := by
  unfold cutV
  rw [HT.sIx_none, List.drop_zero, Nat.sub_zero, List.length_append, List.length_singleton]
  have : HT.sIx (xs.length + 1) (xs.length + 1) (some (-1)) = xs.length := by
    show (if (-1 : Int) < 0 then ((-1 : Int) + ((xs.length + 1 : Nat) : Int)).toNat else min (-1 : Int).toNat (xs.length + 1)) = _
    rw [if_pos (by decide)]
    omega
  rw [this, List.take_left']
  rfl
theorem atI_last (l : List V) (v : V) : atI (l ++ [v]) (-1) = some v := by
  unfold atI ixN
  rw [List.length_append, List.length_singleton, if_neg (by decide), if_pos (by omega), show ((-1 : Int) + ((l.length + 1 : Nat) : Int)).toNat = l.length by omega]
  exact List.getElem?_concat_length
theorem cut_not (n : Nat) : ¬ (HT.sIx (n + 1) 0 none = 0 ∧ HT.sIx (n + 1) (n + 1) (some (-1)) = n + 1) := fun ⟨_, h⟩ => by
  have : (if (-1 : Int) < 0 then ((-1 : Int) + ((n + 1 : Nat) : Int)).toNat else min (-1 : Int).toNat (n + 1)) = n + 1 := h
  rw [if_pos (by decide)] at this
  omega
section
variable {P : Program} {w : World} {K : PySem.W.Frag} {mg : Str → Option Value} {base : Heap}
section
variable {σ : L2.St} {H : Hp} {ta tb te : TE} {tz : TS} {D : Ends}
theorem eu_cell {n : Nat → List Str → List Str} {x : Str} {E : XK} (ha : Ev ta σ H (.str x)) (hx : x.length ≤ 1000) : EvU (tCall (spCellOf n) [] E (tCons ta tNil)) σ H (sl (n 3 (Txt.split x " "))) := fun H1 e Q q =>
  ha H1 e _ fun H2 e2 => ⟨x, rfl, hx, fun l H3 e3 n3 h3 => q l H3 (fresh_back e2 n3) (e2.trans e3) h3⟩
theorem ev_isCell {m i s : Str} {b : Addr} {ks : List Str} {E : XK} (ha : EvS K ta σ H (sl [m, i, s])) (hb : Ev tb σ H (.ref b)) (hS : SqT K H b (sl ks)) : Ev (tCall (spIsCell K) [] E (tCons ta (tCons tb tNil))) σ H (.bl (decide (m ∈ ks) && (decide (i ∈ ks) && decide (s ∈ rels)))) := fun H1 e Q q =>
  ha H1 e _ fun p H2 e2 hp => hb H2 (e.trans e2) _ fun H3 e3 => ⟨p, b, m, i, s, ks, rfl, ex_t e3 hp, ex_t ((e.trans e2).trans e3) hS, fun H' e' => q H' ((e2.trans e3).trans e')⟩
theorem q_asgT3 {i j k : Nat} {x y z : V} (h : EvS K te σ H [x, y, z]) (q : ∀ H1, Ex H H1 → tz D (((σ.set i (some x)).set j (some y)).set k (some z)) H1) : tSeq (tAsg te (gTup K 3 (gCons (gName i) (gCons (gName j) (gCons (gName k) gNil))))) tz D σ H :=
  h H (Ex.refl H) _ fun p H1 e1 hp => ⟨p, _, rfl, hp, rfl, _, _, rfl, _, _, rfl, _, _, rfl, rfl, q H1 e1⟩
theorem ev_addS {x y : Str} (ha : Ev ta σ H (.str x)) (hb : Ev tb σ H (.str y)) (hz : x.length + y.length ≤ 100000) : Ev (tOp (fun x y H Q => ∃ i j, x = .str i ∧ y = .str j ∧ i.length + j.length ≤ sizeLine ∧ Q (.str (i ++ j)) H) ta tb) σ H (.str (x ++ y)) :=
  ev_op ha hb fun H1 e Q q => ⟨x, y, rfl, rfl, sz_of hz, q H1 (Ex.refl H1)⟩
theorem es_conds {m i : Str} {ks : List Str} {E : XK} (ha : Ev ta σ H (.str m)) (hb : Ev tb σ H (.str i)) (hk : ks ∈ kinds7) (hm : m ∈ ks) (hi : i ∈ ks) : EvS K (tCall (spConds K) [] E (tCons ta (tCons tb tNil))) σ H (sl (condsOf m i)) := fun H1 e Q q =>
  ha H1 e _ fun H2 e2 => hb H2 (e.trans e2) _ fun H3 e3 => ⟨m, i, ks, rfl, hk, hm, hi, fun l H4 e4 h4 => q l H4 ((e2.trans e3).trans e4) h4⟩
theorem es_res {m : Str} {b : Addr} {ks : List Str} {E : XK} (ha : Ev ta σ H (.str m)) (hb : Ev tb σ H (.ref b)) (hS : SqT K H b (sl ks)) : EvS K (tCall (spRes K) [] E (tCons ta (tCons tb tNil))) σ H (sl (resultsOf m ks)) := fun H1 e Q q =>
  ha H1 e _ fun H2 e2 => hb H2 (e.trans e2) _ fun H3 e3 => ⟨m, b, ks, rfl, ex_t ((e.trans e2).trans e3) hS, fun l H4 e4 h4 => q l H4 ((e2.trans e3).trans e4) h4⟩
end
theorem res_len (m : Str) (ks : List Str) : (resultsOf m ks).length ≤ 5 := by
  unfold resultsOf
  split <;> decide
theorem cond_len (m i : Str) : (condsOf m i).length ≤ 4 := by
  unfold condsOf
  split <;> decide
theorem res_sm {m : Str} {ks : List Str} : ∀ r ∈ resultsOf m ks, r.length ≤ 16 := fun r h => (small_res r h).len
theorem cond_sm {m i : Str} : ∀ r ∈ condsOf m i, r.length ≤ 16 := by
  unfold condsOf
  split <;> decide
def spIsRow (K : PySem.W.Frag) : Sp := fun vs H Q _ => ∃ (b : Addr) (ks : List Str) (c : Cell), vs = [.str (lineOf c), .ref b] ∧ ks ∈ kinds7 ∧ GoodC ks c ∧ SqT K H b (sl ks) ∧ ∀ H', Ex H H' → Q (.bl true) H'
theorem c_isRow (D : At K mg "is_row" s_is_row ["value", "kinds"]) (B : Bl mg) {t : Tok} (mo : mg "MOST_OPTIONS" = some (.int 5 t)) (C1 : C8.Cal P w K mg base 2 "is_cell" (spIsCell K) []) (C2 : C8.Cal P w K mg base 1 "cell_of" (spCellOf List.take) []) (C3 : C8.Cal P w K mg base 1 "options_of" (spCellOf List.drop) [])
    (C4 : C8.Cal P w K mg base 1 "conditions_for" (spConds K) []) (C5 : C8.Cal P w K mg base 1 "results_for" (spRes K) []) : C8.Cal P w K mg base 3 "is_row" (spIsRow K) [] := by
  refine cal_of D sc_is_row (fun vs H Q E h => ?_) (fun f cdv A outer s H vs Q E hr h => ?_)
  · obtain ⟨b, ks, c, rfl, _⟩ := h
    rfl
  · obtain ⟨b, ks, c, rfl, hks, hg, hb, q⟩ := h
    refine ⟨_, pss_cons (ps_if (PW.pt (pw_or (pt_not (pt_val (pe_callB call_isi (by rfl) B.isin (by decide +kernel) (pa_cons (pv 0) (pa_cons (pe_bltn (v := .ty "str") (by rfl) B.str (by decide +kernel) rfl) pa_nil))))) (pw_or1 (pt_not (pt_val (C8.pe_c C1 hr (by decide) (by rfl) (pa_cons (C8.pe_c C2 hr (by decide) (by rfl) (pa_cons (pv 0) pa_nil)) (pa_cons (pv 1) pa_nil)))))))) (pss_one (ps_ret pe_bl)) pss_nil)
      (pss_cons (ps_asg (C8.pe_c C2 hr (by decide) (by rfl) (pa_cons (pv 0) pa_nil)) (pg_tup (by rfl) (pgs_cons (pg_name (i := 2) sc_is_row.nd rfl (.inl rfl)) (pgs_cons (pg_name (i := 3) sc_is_row.nd rfl (.inl rfl)) (pgs_cons (pg_name (i := 4) sc_is_row.nd rfl (.inl rfl)) pgs_nil)))))
      (pss_cons (ps_set (i := 5) sc_is_row.nd rfl (.inl rfl) (C8.pe_c C3 hr (by decide) (by rfl) (pa_cons (pv 0) pa_nil)))
      (pss_cons (ps_if (PW.pt (pw_or (pt_cmpR op_eq (pe_callB call_len_seq (by rfl) B.len (by decide +kernel) (pa_cons (pv 5) pa_nil)) pe_int (nomark _)) (pw_or1 (pt_cmpR op_gt (pe_callB call_len_seq (by rfl) B.len (by decide +kernel) (pa_cons (pv 5) pa_nil)) (pe_glob (v := .int 5) (by rfl) mo ⟨_, rfl⟩) (nomark _))))) (pss_one (ps_ret pe_bl)) pss_nil)
      (pss_cons (ps_set (i := 6) sc_is_row.nd rfl (.inr rfl) (C8.pe_c C5 hr (by decide) (by rfl) (pa_cons (pv 2) (pa_cons (pv 1) pa_nil))))
      (pss_cons (ps_set (i := 7) sc_is_row.nd rfl (.inr rfl) (pe_lc2 (own := [("condition", 8), ("result", 9)]) (vs1 := [9]) (g := gName 8) (g1 := gName 9) (tt := tYes) (tt1 := tYes) (wi1 := iTup K (tVar 6)) (te := tOp (fun x y H Q => ∃ i j, x = .str i ∧ y = .str j ∧ i.length + j.length ≤ sizeLine ∧ Q (.str (i ++ j)) H) (tOp (fun x y H Q => ∃ i j, x = .str i ∧ y = .str j ∧ i.length + j.length ≤ sizeLine ∧ Q (.str (i ++ j)) H) (tVar 8) (tC (.str ":"))) (tVar 9))
          rfl sc_is_row.nd (pi_tup (C8.pe_c C4 hr (by decide) (by rfl) (pa_cons (pv 2) (pa_cons (pv 3) pa_nil))))
          (blkOk_by (own := [("condition", 8), ("result", 9)]) (N := N_is_row) (sc := defScope s_is_row) (by decide +kernel)) (by decide) (fun _ _ _ _ _ => pg_name (i := 8) sc_is_row.nd rfl (Or.inl rfl)) (fun _ _ _ _ _ => pts_nil)
          (fun _ _ _ _ _ => pi_tup (pv 6)) (fun _ _ _ _ _ => pg_name (i := 9) sc_is_row.nd rfl (Or.inl rfl)) (fun _ _ _ _ _ => pts_nil) (fun _ _ _ _ _ => pe_op op_add_str (pe_op op_add_str (pv 8) pe_str) (pv 9))))
      (pss_one (ps_ret (pe_and (pe_callB (cr_all rfl) (by rfl) B.all_ (by decide +kernel) (pa_cons
        (pe_lc (own := [("option", 10)]) (g := gName 10) (tt := tYes) (te := tOp (rIn K false) (tVar 10) (tVar 7)) rfl sc_is_row.nd (pi_tup (pe_slice sl_tup (pv 5) po_none (po_some (pe_un un_neg pe_int))))
            (blkOk_by (own := [("option", 10)]) (N := N_is_row) (sc := defScope s_is_row) (by decide +kernel)) (fun _ _ _ _ _ => pg_name (i := 10) sc_is_row.nd rfl (Or.inl rfl)) (fun _ _ _ _ _ => pts_nil)
            (fun _ _ _ _ _ => pe_cmpR op_in_seq (pv 10) (pv 7) (by rfl))) pa_nil)) (pe_one (pe_cmpR op_in_seq (pe_ix ix_tup (pv 5) (pe_un un_neg pe_int) (fun _ _ => rfl)) (pv 6) (by rfl))))))))))), ?_⟩
    obtain ⟨g1, g2, g3, g4⟩ := hg
    have sp := parts_split hks (show GoodC ks c from ⟨g1, g2, g3, g4⟩)
    have ll := line_len hks (show GoodC ks c from ⟨g1, g2, g3, g4⟩)
    have cellT : ∀ {H1 : Hp} {σ : L2.St} {E : XK}, σ[0]? = some (some (.str (lineOf c))) → EvU (tCall (spCellOf List.take) [] E (tCons (tVar 0) tNil)) σ H1 (sl [c.1, c.2.1, c.2.2.1]) := fun {H1 σ E} e => by
      have z := eu_cell (n := List.take) (H := H1) (E := E) (ev_var e) (by omega)
      rw [sp] at z
      exact z
    have cellD : ∀ {H1 : Hp} {σ : L2.St} {E : XK}, σ[0]? = some (some (.str (lineOf c))) → EvU (tCall (spCellOf List.drop) [] E (tCons (tVar 0) tNil)) σ H1 (sl c.2.2.2) := fun {H1 σ E} e => by
      have z := eu_cell (n := List.drop) (H := H1) (E := E) (ev_var e) (by omega)
      rw [sp] at z
      exact z
    obtain ⟨pre, z, hws, hpl, hpre, hz⟩ := g4
    have wl : (sl c.2.2.2).length = pre.length + 1 := by rw [XB.len_sl, hws, List.length_append]; rfl
    have rl := res_len c.1 ks
    have cl := cond_len c.1 c.2.1
    refine q_when (b := false) (et_is (et_or (et_not (et_B (ev_isStr (ev_var rfl)))) (fun _ => et_not (et_B (ev_isCell (es_new (cellT rfl)) (ev_var rfl) hb)))) (by rw [decide_eq_true g1, decide_eq_true g2, decide_eq_true g3]; rfl)) (fun z => by cases z) (fun _ H1 e1 => ?_)
    refine q_asgT3 (es_new (cellT rfl)) fun H2 e2 => ?_
    refine q_asgU (cellD rfl) fun po H3 n3 e3 h3 => ?_
    refine q_when (b := false) (et_is (et_or (et_test (ev_op (ev_lenS (ev_var rfl) (.inr (st_of h3))) ev_c (rv_eq rfl))) (fun _ => et_test (ev_op (ev_lenS (ev_var rfl) (.inr (st_of h3))) ev_c rv_I0))) ?_) (fun z => by cases z) (fun _ H4 e4 => ?_)
    · rw [wl]
      show (decide (V.int ((pre.length + 1 : Nat) : Int) = V.int 0) || decide ((5 : Int) < ((pre.length + 1 : Nat) : Int))) = false
      rw [decide_eq_false (fun q => by injection q with q; omega), decide_eq_false (by omega)]
      rfl
    have e14 := ((e1.trans e2).trans e3).trans e4
    refine q_asgS (es_res (ev_var rfl) (ev_var rfl) (ex_t e14 hb)) fun pr H5 e5 h5 => ?_
    refine q_asgL (el_lc2S (ws := condsOf c.1 c.2.1) (us := resultsOf c.1 ks) (fun a b => a ++ ":" ++ b) (es_conds (ev_var rfl) (ev_var rfl) hks g1 g2) ?_ (fun _ => rfl) (fun _ _ => rfl) (fun a G eG _ => es_at (ev_var rfl) (ex_t eG h5)) (fun a r G eG ma mr => ev_addS (ev_addS (ev_var rfl) ev_c ?_) (ev_var rfl) ?_)) fun pt H6 n6 e6 h6 => ?_
    · have : (condsOf c.1 c.2.1).length * (resultsOf c.1 ks).length ≤ 4 * 5 := Nat.mul_le_mul cl rl
      omega
    · have := cond_sm a ma
      show _ + 1 ≤ _
      omega
    · rw [show (a ++ ":" : Str).length = a.length + 1 from by rw [Str.length_append] <;> rfl]
      have := cond_sm a ma
      have := res_sm r mr
      omega
    have h36 := (e4.trans e5).trans e6 _ _ h3
    have hpt : SqT K H6 po (sl pre ++ [.str z]) := by
      have : sl c.2.2.2 = sl pre ++ [.str z] := by rw [hws]; exact (sl_cat pre [z]).symm
      rw [← this]
      exact st_of h36
    refine s_ret (ev_is (ev_andV (b := true) (ev_all (bs := pre.map fun _ => true) (el_is (el_lcS (ws := pre) (fun _ => true) (fun _ => .bl true) (es_is (es_new (eu_slT (ev_var rfl) hpt eo_none (eo_some (ev_un ev_c ru_neg)) ?_)) (cut_init _ _)) (by omega) (fun _ => rfl) (fun _ _ _ _ => fun H1 _ _ z => z H1 (Ex.refl H1)) (fun o G eG mo _ => ev_is (ev_inL (ev_var rfl) (ev_var rfl) (sq_of (eG _ _ h6))) ?_)) ?_)) (fun _ => ev_is (ev_inT (x := z) (ev_ixT (ev_var rfl) (ev_un ev_c ru_neg) hpt ?_) (ev_var rfl) (ex_t e6 h5)) (by rw [decide_eq_true hz]))) ?_) fun H7 e7 => q H7 (((e14.trans e5).trans e6).trans e7)
    · rw [List.length_append]
      exact cut_not _
    · obtain ⟨a, ha, r, hr, rfl⟩ := hpre o mo
      rw [decide_eq_true]
      exact List.mem_flatMap.mpr ⟨a, ha, List.mem_map.mpr ⟨r, hr, rfl⟩⟩
    · rw [List.filter_eq_self.mpr (fun _ _ => rfl), List.map_map]
      rfl
    · exact atI_last _ _
    · rw [Bool.and_true, List.all_map]
      show V.bl (pre.all fun _ => true) = .bl true
      rw [List.all_eq_true.mpr (fun _ _ => rfl)]
end
end T
namespace T
open PySem PySem.Spec PyProof.Rows L2 Evl XB TL XS XI
theorem walk_enumT {K : PySem.W.Frag} {a : Addr} {xs : List V} : Walk (Itet K a) xs.length (fun H => SqT K H a xs) (YPair (fun i => some (.int (i : Nat))) (fun i => xs[i]?)) := by
  refine ⟨fun i _ hi q => ⟨xs, xs[i], q, by simp [hi]⟩, fun _ q => ⟨xs, q, Nat.le_refl _⟩, fun i H v H' _ q y => ?_⟩
  obtain ⟨T, x, h1, h2, h3, h4⟩ := y
  exact ⟨T, .int (i : Nat), x, h1, h2, h3, rfl, h4 xs q⟩
theorem Rows.ex {H H' : Hp} {L : List (Addr × XS.Nm)} (h : XS.Rows H L) (e : Ex H H') : XS.Rows H' L := fun p hp => e _ _ (h p hp)
theorem nd_not {α : Type} {l : List α} (hn : l.Nodup) {i : Nat} {x : α} (h : l[i]? = some x) : x ∉ l.take i := fun m => by
  obtain ⟨j, hj⟩ := List.mem_iff_getElem?.mp m
  have hlt : j < (l.take i).length := (List.getElem?_eq_some_iff.mp hj).1
  rw [List.length_take] at hlt
  rw [List.getElem?_take_of_lt (by omega)] at hj
  have := L2.nd_ix hn hj h
  omega
section
variable {P : Program} {w : World} {K : PySem.W.Frag} {mg : Str → Option Value} {base : Heap}
theorem ev_isRow {σ : L2.St} {H : Hp} {ta tb : TE} {b : Addr} {ks : List Str} {c : Cell} {E : XK} (ha : Ev ta σ H (.str (lineOf c))) (hb : Ev tb σ H (.ref b)) (hS : SqT K H b (sl ks)) (hk : ks ∈ kinds7) (hg : GoodC ks c) : Ev (tCall (spIsRow K) [] E (tCons ta (tCons tb tNil))) σ H (.bl true) :=
  ev_call (ea_cons ha (ea_cons hb ea_nil)) fun H1 e Q q E => ⟨b, ks, c, rfl, hk, hg, ex_t e hS, q⟩
theorem eu_cellT {σ : L2.St} {H : Hp} {ta : TE} {ks : List Str} {c : Cell} {E : XK} (ha : Ev ta σ H (.str (lineOf c))) (hk : ks ∈ kinds7) (hg : GoodC ks c) : EvU (tCall (spCellOf List.take) [] E (tCons ta tNil)) σ H ((nmOf c).map kV) := by
  have z := eu_cell (n := List.take) (E := E) ha (by have := line_len hk hg; omega)
  rw [parts_split hk hg] at z
  exact z
theorem eu_cellD {σ : L2.St} {H : Hp} {ta : TE} {ks : List Str} {c : Cell} {E : XK} (ha : Ev ta σ H (.str (lineOf c))) (hk : ks ∈ kinds7) (hg : GoodC ks c) : EvU (tCall (spCellOf List.drop) [] E (tCons ta tNil)) σ H (sl c.2.2.2) := by
  have z := eu_cell (n := List.drop) (E := E) ha (by have := line_len hk hg; omega)
  rw [parts_split hk hg] at z
  exact z
def spFirst (K : PySem.W.Frag) : Sp := fun vs H Q _ => ∃ (r b : Addr) (ks : List Str) (cs : List Cell), vs = [.ref r, .ref b] ∧ ks ∈ kinds7 ∧ Cells ks cs ∧ SqT K H r (sl (cs.map lineOf)) ∧ SqT K H b (sl ks) ∧ ∀ H', Ex H H' → Q .non H'
theorem c_first (D : At K mg "first_wrong_row" s_first_wrong_row ["rows", "kinds"]) (B : Bl mg) (C1 : C8.Cal P w K mg base 3 "is_row" (spIsRow K) []) (C2 : C8.Cal P w K mg base 1 "cell_of" (spCellOf List.take) []) : C8.Cal P w K mg base 4 "first_wrong_row" (spFirst K) [] := by
  refine cal_of D sc_first_wrong_row (fun vs H Q E h => ?_) (fun f cdv A outer s H vs Q E hr h => ?_)
  · obtain ⟨r, b, ks, cs, rfl, _⟩ := h
    rfl
  · obtain ⟨r, b, ks, cs, rfl, hks, hC, hrr, hb, q⟩ := h
    have hu : (cxOf CX0 P w K mg base N_first_wrong_row "first_wrong_row" (defScope s_first_wrong_row) f cdv A outer s H E).nox.A.units + 1 < cLine := by have := hr.units; exact Nat.lt_of_le_of_lt (Nat.add_le_add_left (by decide) _) this
    refine ⟨_, pss_cons (ps_set (i := 2) sc_first_wrong_row.nd rfl (.inl rfl) (pe_callTy0 cr_setNew (by rfl) B.set_ (by decide +kernel)))
      (pss_cons (ps_for PassesOwn.never rfl (pi_enumT (by rfl) B.enum (pa_cons (pv 0) pa_nil)) (pg_tup (by rfl) (pgs_cons (pg_name (i := 3) sc_first_wrong_row.nd rfl (.inl rfl)) (pgs_cons (pg_name (i := 4) sc_first_wrong_row.nd rfl (.inl rfl)) pgs_nil)))
        (pss_cons (ps_if (PW.pt (pw_or (pt_not (pt_val (C8.pe_c C1 hr (by decide) (by rfl) (pa_cons (pv 4) (pa_cons (pv 1) pa_nil))))) (pw_or1 (pt_cmpR (op_setIn hu) (C8.pe_c C2 hr (by decide) (by rfl) (pa_cons (pv 4) pa_nil)) (pv 2) (by rfl))))) (pss_one (ps_ret (pv 3))) pss_nil)
        (pss_one (ps_expr (pe_setAdd hu (pv 2) (pa_cons (C8.pe_c C2 hr (by decide) (by rfl) (pa_cons (pv 4) pa_nil)) pa_nil))))))
      (pss_one (ps_ret pe_non))), ?_⟩
    refine ⟨rfl, fun D nD => ?_⟩
    have sD : Same H (upd H D (SetN P w D [])) := Same.new (Same.refl H) nD
    refine ⟨_, rfl, r, _, rfl, Same.tup sD hrr, for_it walk_enumT
      (fun i σ G => ∃ y3 y4 L, σ = [some (.ref r), some (.ref b), some (.ref D), y3, y4] ∧ Same H G ∧ G D = some (SetN P w D L) ∧ XS.Rows G L ∧ (∀ n ∈ names L, n ∈ (cs.take i).map nmOf) ∧ L.length ≤ i)
      ⟨none, none, [], rfl, sD, upd_same, (fun _ z => by cases z), (fun _ z => by cases z), Nat.zero_le _⟩ (fun i σ G _ ⟨_, _, _, _, e, _⟩ => Same.tup e hrr) ?_ ?_⟩
    · rintro i x σ G G' hi ⟨y3, y4, L, rfl, sG, hD, hR, hN, hlen⟩ ⟨T, a1, a2, rfl, nT, rfl, e1, e2⟩
      injection e1 with e1
      subst e1
      obtain ⟨ln, hln, rfl⟩ := mem_at e2
      rw [List.getElem?_map] at hln
      obtain ⟨c, hc, rfl⟩ : ∃ c, cs[i]? = some c ∧ ln = lineOf c := by
        cases e : cs[i]? with
        | none => rw [e] at hln; cases hln
        | some c => rw [e] at hln; cases hln; exact ⟨c, rfl, rfl⟩
      have hi2 : i < 27 := by
        have := hC.few
        have := (List.getElem?_eq_some_iff.mp hc).1
        omega
      have hg := hC.good c (List.mem_of_getElem? hc)
      have nin : nmOf c ∉ names L := fun m => by
        have z := hN _ m
        have y : (cs.map nmOf)[i]? = some (nmOf c) := by rw [List.getElem?_map, hc]; rfl
        rw [List.map_take] at z
        exact nd_not hC.nd y z
      have sT : Ex G (upd G T (.tup [.int (i : Nat), .str (lineOf c)])) := Ex.new nT
      refine ⟨T, _, rfl, SqT.of upd_same, rfl, _, _, rfl, _, _, rfl, rfl, ?_⟩
      have hD1 := sT _ _ hD
      have hR1 := Rows.ex hR sT
      have sH1 : Same H _ := sG.trans sT
      refine q_when (b := false) (et_or (et_not (et_B (ev_isRow (ev_var rfl) (ev_var rfl) (Same.tup sH1 hb) hks hg))) (fun _ => et_test fun G1 g1 Q1 q1 => eu_cellT (ev_var rfl) hks hg G1 g1 _ fun p G2 n2 e2 hp => ⟨_, rfl, D, p, nmOf c, L, rfl, rfl, e2 _ _ (g1 _ _ hD1), Rows.ex (Rows.ex hR1 g1) e2, hp, by rw [hasN_neg nin]; exact q1 G2 e2⟩)) (fun z => by cases z) (fun _ G1 g1 => ?_)
      have hD2 := g1 _ _ hD1
      have hR2 := Rows.ex hR1 g1
      refine ⟨_, rfl, ⟨D, L, rfl, hD2, hR2⟩, eu_cellT (ev_var rfl) hks hg G1 (Ex.refl _) _ fun p G2 n2 e2 hp => ⟨D, p, nmOf c, L, rfl, rfl, e2 _ _ hD2, Rows.ex hR2 e2, hp, by omega, fun L' h1 h2 => ?_⟩⟩
      have pm := h2 nin
      have hD3 := e2 _ _ hD2
      refine ⟨_, _, L', rfl, Same.own ((sH1.trans g1).trans e2) nD, upd_same, ?_, ?_, ?_⟩
      · intro y hy
        rcases List.mem_cons.mp (pm.mem_iff.mp hy) with rfl | z
        · exact kpm hp (ne_of hp hD3 fun q => by cases q)
        · exact kpm ((Rows.ex hR2 e2) y z) (ne_of ((Rows.ex hR2 e2) y z) hD3 fun q => by cases q)
      · intro n hn
        have : n ∈ names ((p, nmOf c) :: L) := (pm.map _).mem_iff.mp hn
        rw [List.take_succ, hc, List.map_append]
        rcases List.mem_cons.mp this with rfl | z
        · exact List.mem_append_right _ (List.mem_singleton.mpr rfl)
        · exact List.mem_append_left _ (hN n z)
      · rw [pm.length_eq]
        exact Nat.succ_le_succ hlen
    · rintro σ G ⟨y3, y4, L, rfl, sG, hD, hR, hN, hlen⟩
      exact q G sG
end
end T
namespace L2
open PySem PySem.Spec PyProof.Rows
/-- own: f(.., k = v, ..), positional defaults, no keyword-only parameter -/
theorem FunD.kbinds1 {K : PySem.W.Frag} {x qual : Str} {params : Arguments} {body : List Stmt} {scope : Scope} {dvs : List V} {f : Addr} {fd : FuncData} {ps : List Str} (F : FunD K x qual params body scope dvs [] f fd) (n : Nat) (ks : List Str) (g : List Value → List Value → List Value → List Value) (gV : List V → List V → List V → List V) (hd : dvs ≠ [])
    (hrel : ∀ {vs ds zs : List V} {us its ws : List Value}, Vals vs us → Vals ds its → Vals zs ws → Vals (gV vs ds zs) (g us its ws))
    (h : ∀ (T : Addr) (kV doc pm : Value) (an : Option Addr) (cdv ct : Value) (us its ws : List Value), us.length = n → its.length = dvs.length → ws.length = ks.length →
      ∃ k, bindArgs (PySem.W.fnOf x qual params body scope (.ref T) kV doc pm an cdv ct) ⟨us, ks.zip ws⟩ = seqItems? (.ref T) >>= k ∧ k (some its.toArray) = pure (ps.zip (g us its ws))) :
    ∃ its : List Value, KBn K fd ps n ks (fun us ws => g us its ws) (fun vs zs => gV vs dvs zs) := by
  obtain ⟨oc, od, dV, kV, doc, pm, an, cdv, ct, osl, rfl, lk, hcd, hD, hK⟩ := F.ex
  rcases hD with ⟨e, _⟩ | ⟨_, T, o, its, m, rfl, lT, oT, rT⟩
  · exact absurd e hd
  · refine ⟨its, ⟨fun s us ws X l1 l2 => ?_, fun r1 r2 => hrel r1 rT r2⟩⟩
    obtain ⟨k, e1, e2⟩ := h T kV doc pm an cdv ct us its ws l1 rT.length.symm l2
    refine BindsTo.of_looks fun M => ?_
    rw [e1]
    exact looks_items X lT oT (.of_pure e2)
end L2
namespace T
open PySem PySem.Spec PyProof.Rows L2 Evl XB TL XS XI
section
variable {P : Program} {w : World} {K : PySem.W.Frag} {mg : Str → Option Value} {base : Heap}
/-- the class of tables -/
structure TabC (K : PySem.W.Frag) (mg : Str → Option Value) (C : Addr) : Prop where
  mgT : mg "Table" = some (.ref C)
  cl : Cls K C
  k : NoAttr K C "_kinds"
  r : NoAttr K C "_rows"
  c : NoAttr K C "_cells"
/-- the dict of these cells -/
def DictOf (H : Hp) (kvs : List (Nm × V)) (cs : List Cell) : Prop := kvs.length = cs.length ∧ ∀ (i : Nat) (c : Cell), cs[i]? = some c → ∃ t : Addr, kvs[i]? = some (nmOf c, V.ref t) ∧ H t = some (.tup (sl c.2.2.2))
theorem DictOf.ex {H H' : Hp} {kvs : List (Nm × V)} {cs : List Cell} (h : DictOf H kvs cs) (e : Ex H H') : DictOf H' kvs cs := ⟨h.1, fun i c hc => by
  obtain ⟨t, h1, h2⟩ := h.2 i c hc
  exact ⟨t, h1, e _ _ h2⟩⟩
theorem DictOf.chg {H H' : Hp} {q : Addr} {zs : List V} {kvs : List (Nm × V)} {cs : List Cell} (h : DictOf H kvs cs) (hq : H q = some (.lst zs)) (c : Chg q H H') : DictOf H' kvs cs := ⟨h.1, fun i d hc => by
  obtain ⟨t, h1, h2⟩ := h.2 i d hc
  exact ⟨t, h1, c _ _ (ne_of h2 hq fun z => by cases z) h2⟩⟩
theorem DictOf.keys {H : Hp} {kvs : List (Nm × V)} {cs : List Cell} (h : DictOf H kvs cs) : kvs.map (·.1) = cs.map nmOf := by
  refine List.ext_getElem? fun i => ?_
  rw [List.getElem?_map, List.getElem?_map]
  cases e : cs[i]? with
  | none =>
    have : kvs[i]? = none := List.getElem?_eq_none (by rw [h.1]; exact List.getElem?_eq_none_iff.mp e)
    rw [this]
    rfl
  | some c =>
    obtain ⟨t, h1, _⟩ := h.2 i c e
    rw [h1]
    rfl
theorem valV_no {kvs : List (Nm × V)} {k : Nm} (h : k ∉ kvs.map (·.1)) : valV kvs k = none := by
  cases e : valV kvs k with
  | none => rfl
  | some v => exact absurd (valV_in e) h
theorem DictOf.put {H : Hp} {kvs : List (Nm × V)} {cs : List Cell} {c : Cell} {t : Addr} (h : DictOf H kvs cs) (n : nmOf c ∉ cs.map nmOf) (ht : H t = some (.tup (sl c.2.2.2))) : DictOf H (putK kvs (nmOf c) (.ref t)) (cs ++ [c]) := by
  rw [putK_new _ (valV_no (by rw [h.keys]; exact n))]
  refine ⟨by rw [List.length_append, List.length_append, h.1]; rfl, fun i d hd => ?_⟩
  by_cases hi : i < cs.length
  · rw [List.getElem?_append_left hi] at hd
    obtain ⟨u, h1, h2⟩ := h.2 i d hd
    exact ⟨u, by rw [List.getElem?_append_left (by rw [h.1]; exact hi)]; exact h1, h2⟩
  · rw [List.getElem?_append_right (by omega)] at hd
    have : i - cs.length = 0 := by
      have := (List.getElem?_eq_some_iff.mp hd).1
      rw [List.length_singleton] at this
      omega
    rw [this] at hd
    have e : d = c := by injection hd with z; exact z.symm
    subst e
    exact ⟨t, by rw [List.getElem?_append_right (by rw [h.1]; omega), h.1, this]; rfl, ht⟩
/-- .. written at D, where a dict stood -/
theorem DictOf.own {H : Hp} {D : Addr} {kvs ks' kvs0 : List (Nm × V)} {cs : List Cell} (h : DictOf H kvs cs) (hD : H D = some (.dT kvs0)) : DictOf (upd H D (.dT ks')) kvs cs := ⟨h.1, fun i c hc => by
  obtain ⟨t, h1, h2⟩ := h.2 i c hc
  exact ⟨t, h1, kpm h2 (ne_of h2 hD fun z => by cases z)⟩⟩
/-- .. and at an instance -/
theorem DictOf.ins {H : Hp} {x C dx : Addr} {fs : List (Str × V)} {o : HO} {kvs : List (Nm × V)} {cs : List Cell} (h : DictOf H kvs cs) (hx : H x = some (.ins C dx fs)) : DictOf (upd H x o) kvs cs := ⟨h.1, fun i c hc => by
  obtain ⟨t, h1, h2⟩ := h.2 i c hc
  exact ⟨t, h1, kpm h2 (ne_of h2 hx fun z => by cases z)⟩⟩
/-- a table of these kinds and cells stands at x -/
structure TabF (K : PySem.W.Frag) (C : Addr) (H : Hp) (x dx D a r : Addr) (kvs : List (Nm × V)) (ks : List Str) (cs : List Cell) : Prop where
  hx : H x = some (.ins C dx [("_kinds", .ref a), ("_rows", .ref r), ("_cells", .ref D)])
  ha : SqT K H a (sl ks)
  hr : SqT K H r (sl (cs.map lineOf))
  hD : H D = some (.dT kvs)
  d : DictOf H kvs cs
  c : Cells ks cs
def TabAt (K : PySem.W.Frag) (C : Addr) (H : Hp) (x : Addr) (ks lns : List Str) : Prop := ∃ dx D a r kvs cs, lns = cs.map lineOf ∧ TabF K C H x dx D a r kvs ks cs
theorem TabAt.raw {C : Addr} {H : Hp} {x : Addr} {ks lns : List Str} (h : TabAt K C H x ks lns) : ∃ dx D a r, H x = some (.ins C dx [("_kinds", .ref a), ("_rows", .ref r), ("_cells", .ref D)]) ∧ SqT K H a (sl ks) ∧ SqT K H r (sl lns) := by
  obtain ⟨dx, D, a, r, kvs, cs, rfl, f⟩ := h
  exact ⟨dx, D, a, r, f.hx, f.ha, f.hr⟩
theorem TabAt.ex {C : Addr} {H H' : Hp} {x : Addr} {ks lns : List Str} (h : TabAt K C H x ks lns) (e : Ex H H') : TabAt K C H' x ks lns := by
  obtain ⟨dx, D, a, r, kvs, cs, rfl, f⟩ := h
  exact ⟨dx, D, a, r, kvs, cs, rfl, e _ _ f.hx, ex_t e f.ha, ex_t e f.hr, e _ _ f.hD, f.d.ex e, f.c⟩
theorem ev_kinds {σ : L2.St} {H : Hp} {ta : TE} {a : Addr} {ks : List Str} {E : XK} (h : Ev ta σ H (.ref a)) (ha : SqT K H a (sl ks)) (hk : ks ∈ kinds7) : Ev (tCall (spKinds K) [] E (tCons ta tNil)) σ H (.bl true) :=
  ev_call (ea_cons h ea_nil) fun H1 e Q q E => ⟨a, ks, rfl, ex_t e ha, hk, q⟩
theorem ev_first {σ : L2.St} {H : Hp} {ta tb : TE} {a r : Addr} {ks : List Str} {cs : List Cell} {E : XK} (h : Ev ta σ H (.ref r)) (h2 : Ev tb σ H (.ref a)) (hk : ks ∈ kinds7) (hC : Cells ks cs) (hr : SqT K H r (sl (cs.map lineOf))) (ha : SqT K H a (sl ks)) : Ev (tCall (spFirst K) [] E (tCons ta (tCons tb tNil))) σ H .non :=
  ev_call (ea_cons h (ea_cons h2 ea_nil)) fun H1 e Q q E => ⟨r, a, ks, cs, rfl, hk, hC, ex_t e hr, ex_t e ha, q⟩
theorem sqt_ins {G : Hp} {b x C dx : Addr} {xs : List V} {fs : List (Str × V)} {o : HO} (h : SqT K G b xs) (hD : G x = some (.ins C dx fs)) : SqT K (upd G x o) b xs := by
  rcases h with (h | ⟨u, h⟩) | h
  · exact .inl (.inl (kpm h (ne_of h hD fun q => by cases q)))
  · exact .inl (.inr ⟨u, kpm h (ne_of h hD fun q => by cases q)⟩)
  · exact .inr h
def spInit (K : PySem.W.Frag) (C : Addr) : Sp := fun vs H Q _ => ∃ (x a r dx : Addr) (ks : List Str) (cs : List Cell), vs = [.ref x, .ref a, .ref r] ∧ H x = some (.ins C dx []) ∧ ks ∈ kinds7 ∧ Cells ks cs ∧ SqT K H a (sl ks) ∧ SqT K H r (sl (cs.map lineOf)) ∧
  ∀ D kvs H', H D = none → Chg x H H' → TabF K C H' x dx D a r kvs ks cs → Q .non H'
theorem c_init {C f : Addr} {fd : FuncData} {dvs : List V} (F : FunD K "__init__" "Table.__init__" (defArgs s_Table___init__) (defBody s_Table___init__) (defScope s_Table___init__) dvs [] f fd) (B : Bl mg) (T : TabC K mg C)
    (C1 : C8.Cal P w K mg base 2 "are_kinds" (spKinds K) []) (C2 : C8.Cal P w K mg base 4 "first_wrong_row" (spFirst K) []) (C3 : C8.Cal P w K mg base 1 "cell_of" (spCellOf List.take) []) (C4 : C8.Cal P w K mg base 1 "options_of" (spCellOf List.drop) []) :
    FnOk P w K mg base CX0 5 f fd ["self", "kinds", "rows"] (spInit K C) := by
  refine F.ok sc_Table___init__ (fun vs H Q E h => ?_) (fun cdv A outer s H vs Q E hr h => ?_)
  · obtain ⟨x, a, r, dx, ks, cs, rfl, _⟩ := h
    rfl
  · obtain ⟨x, a, r, dx, ks, cs, rfl, hx, hks, hC, ha, hrr, q⟩ := h
    have hu : (cxOf CX0 P w K mg base N_Table___init__ "Table.__init__" (defScope s_Table___init__) f cdv A outer s H E).nox.A.units + 1 < cLine := by have := hr.units; exact Nat.lt_of_le_of_lt (Nat.add_le_add_left (by decide) _) this
    refine ⟨_, PSs.nox (pss_cons (ps_if (pt_not (pt_val (C8.pe_c C1 hr (by decide) (by rfl) (pa_cons (pv 1) pa_nil)))) pss_never pss_nil)
      (pss_cons (ps_if (pt_not (pt_val (pe_callB call_isi (by rfl) B.isin (by decide +kernel) (pa_cons (pv 2) (pa_cons (pe_bltn (v := .ty "tuple") (by rfl) B.tuple (by decide +kernel) rfl) pa_nil))))) pss_never pss_nil)
      (pss_cons (ps_set (i := 3) sc_Table___init__.nd rfl (.inl rfl) (C8.pe_c C2 hr (by decide) (by rfl) (pa_cons (pv 2) (pa_cons (pv 1) pa_nil))))
      (pss_cons (ps_if (pt_cmpR op_notN (pv 3) pe_non (nomark _)) pss_never pss_nil)
      (pss_cons (ps_fld (pv 0) (pv 1) rfl)
      (pss_cons (ps_fld (pv 0) (pv 2) rfl)
      (pss_one (ps_fld (pv 0) (pe_dcT (own := [("row", 4)]) (g := gName 4) (tt := tYes) (tk := tCall (spCellOf List.take) [] C8.E0 (tCons (tVar 4) tNil)) (tv := tCall (spCellOf List.drop) [] C8.E0 (tCons (tVar 4) tNil)) hu rfl sc_Table___init__.nd (pi_tup (pv 2))
          (blkOk_by (own := [("row", 4)]) (N := N_Table___init__) (sc := defScope s_Table___init__) (by decide +kernel)) (fun _ _ _ _ _ => pg_name (i := 4) sc_Table___init__.nd rfl (Or.inl rfl)) (fun _ _ _ _ _ => pts_nil)
          (fun _ _ _ _ _ => C8.pe_c C3 hr (by decide) (by rfl) (pa_cons (pv 4) pa_nil)) (fun _ _ _ _ _ => C8.pe_c C4 hr (by decide) (by rfl) (pa_cons (pv 4) pa_nil))) rfl)))))))), ?_⟩
    refine q_when (b := false) (et_not (et_B (ev_kinds (ev_var rfl) ha hks))) (fun z => by cases z) (fun _ H1 e1 => ?_)
    refine q_when (b := false) (et_not (et_B (ev_isTup (ev_var rfl) (ex_t e1 hrr)))) (fun z => by cases z) (fun _ H2 e2 => ?_)
    have e12 := e1.trans e2
    refine q_asg (v := .non) (ev_first (ev_var rfl) (ev_var rfl) hks hC (ex_t e12 hrr) (ex_t e12 ha)) fun H3 e3 => ?_
    refine q_when (b := false) (et_test (ev_op (ev_var rfl) ev_c fun H1 e Q q => ⟨rfl, q H1 (Ex.refl H1)⟩)) (fun z => by cases z) (fun _ H4 e4 => ?_)
    have e14 := (e12.trans e3).trans e4
    have hx4 := e14 _ _ hx
    refine ⟨_, rfl, _, rfl, x, C, dx, [], rfl, hx4, T.cl, T.k, by decide, ?_⟩
    refine ⟨_, rfl, _, rfl, x, C, dx, _, rfl, upd_same, T.cl, T.r, by show 1 < 1000; decide, ?_⟩
    have hr5 : SqT K (upd (upd H4 x (.ins C dx (putF "_kinds" (.ref a) []))) x (.ins C dx (putF "_rows" (.ref r) (putF "_kinds" (.ref a) [])))) r (sl (cs.map lineOf)) := sqt_ins (sqt_ins (ex_t e14 hrr) hx4) upd_same
    have ha5 : SqT K (upd (upd H4 x (.ins C dx (putF "_kinds" (.ref a) []))) x (.ins C dx (putF "_rows" (.ref r) (putF "_kinds" (.ref a) [])))) a (sl ks) := sqt_ins (sqt_ins (ex_t e14 ha) hx4) upd_same
    have hx5 : (upd (upd H4 x (.ins C dx (putF "_kinds" (.ref a) []))) x (.ins C dx (putF "_rows" (.ref r) (putF "_kinds" (.ref a) [])))) x = some (.ins C dx [("_kinds", .ref a), ("_rows", .ref r)]) := upd_same
    have ch5 : Chg x H (upd (upd H4 x (.ins C dx (putF "_kinds" (.ref a) []))) x (.ins C dx (putF "_rows" (.ref r) (putF "_kinds" (.ref a) [])))) := ((Same.chg e14).at).at
    refine ⟨_, rfl, r, rfl, ⟨_, hr5⟩, fun D nD => ?_⟩
    have nDH : H D = none := by
      cases z : H D with
      | none => rfl
      | some o =>
        by_cases y : D = x
        · rw [y, hx5] at nD; cases nD
        · rw [ch5 _ _ y z] at nD; cases nD
    refine dcT_tup (xs := sl (cs.map lineOf)) (fun i G => Same (upd (upd H4 x (.ins C dx (putF "_kinds" (.ref a) []))) x (.ins C dx (putF "_rows" (.ref r) (putF "_kinds" (.ref a) [])))) G ∧ ∃ kvs, G D = some (.dT kvs) ∧ DictOf G kvs (cs.take i))
      ⟨Same.new (Same.refl _) nD, [], upd_same, rfl, fun i c z => by rw [List.take_zero] at z; cases z⟩ (fun i G _ p => Same.tup p.1 hr5) ?_ ?_
    · rintro i y G hi ⟨sG, kvs, hD, hl⟩
      obtain ⟨ln, hln, rfl⟩ := mem_at hi
      rw [List.getElem?_map] at hln
      obtain ⟨c, hc, rfl⟩ : ∃ c, cs[i]? = some c ∧ ln = lineOf c := by
        cases e : cs[i]? with
        | none => rw [e] at hln; cases hln
        | some c => rw [e] at hln; cases hln; exact ⟨c, rfl, rfl⟩
      have hi2 : i < 27 := by
        have := hC.few
        have := (List.getElem?_eq_some_iff.mp hc).1
        omega
      have hg := hC.good c (List.mem_of_getElem? hc)
      refine ⟨rfl, ?_⟩
      refine eu_cellT (ev_var rfl) hks hg G (Ex.refl _) _ fun p G1 n1 g1 hp => eu_cellD (ev_var rfl) hks hg G1 (Ex.refl _) _ fun p2 G2 n2 g2 hp2 => ⟨kvs, nmOf c, p, rfl, g2 _ _ hp, g2 _ _ (g1 _ _ hD), by rw [sizeLine_eq, hl.1, List.length_take]; omega, Same.own ((sG.trans g1).trans g2) nD, _, upd_same, ?_⟩
      rw [List.take_succ, hc]
      refine DictOf.own (DictOf.put ((hl.ex g1).ex g2) ?_ hp2) (g2 _ _ (g1 _ _ hD))
      rw [List.map_take]
      exact nd_not hC.nd (by rw [List.getElem?_map, hc]; rfl)
    · rintro G ⟨sG, kvs, hD, hl⟩
      refine ⟨_, rfl, x, C, dx, _, rfl, sG _ _ hx5, T.cl, T.c, by show 2 < 1000; decide, q D kvs _ nDH ?_ ⟨upd_same, sqt_ins (Same.tup sG ha5) (sG _ _ hx5), sqt_ins (Same.tup sG hr5) (sG _ _ hx5), kpm hD (ne_of hD (sG _ _ hx5) fun z => by cases z), DictOf.ins (by rw [show (sl (cs.map lineOf)).length = cs.length from by rw [XB.len_sl, List.length_map], List.take_length] at hl; exact hl) (sG _ _ hx5), hC⟩⟩
      exact (ch5.trans (Same.chg sG)).at
end
end T
namespace T
open PySem PySem.Spec PyProof.Rows L2 Evl XB TL XS XI
section
variable {P : Program} {w : World} {K : PySem.W.Frag} {mg : Str → Option Value} {base : Heap} {k : Nat} {C : Addr} {m : Str} {sp : Sp}
theorem meth_ok {x qual : Str} {st : Stmt} {f : Addr} {fd : FuncData} {N ps : List Str} (F : Fun K x qual st f fd) (S : FnScope N ps (defScope st)) (len : ∀ vs H Q E, sp vs H Q E → vs.length = ps.length)
    (hbody : ∀ (cdv : Value) (A : Around) (outer : List Env) (s : Shared) (H : Hp) (vs : List V) (Q : VK) (E : XK), Room k (A.deeper (envOfC qual (defScope st) s.heap.objs.size f cdv)) → sp vs H Q E →
      ∃ t, PSs (cxOf CX0 P w K mg base N qual (defScope st) f cdv A outer s H E).nox (defBody st) t ∧ t { nx := fun _ H' => Q .non H', rt := Q } (start N vs) H) : FnOk P w K mg base CX0 (k + 1) f fd ps sp := F.ok S len hbody
/-- a method of the class's own, a property of it: the def, as it stands -/
structure MetD (K : PySem.W.Frag) (C : Addr) (m qual : Str) (st : Stmt) : Prop where
  ex : ∃ (f : Addr) (fd : FuncData), Fun K m qual st f fd ∧ XO.Own K C m f ∧ Binds K fd ["self"] []
structure ProD (K : PySem.W.Frag) (C : Addr) (m qual : Str) (st : Stmt) : Prop where
  ex : ∃ (f : Addr) (fd : FuncData) (p : Addr), Fun K m qual st f fd ∧ PropOf K C m p f ∧ Binds K fd ["self"] []
structure OwnM (P : Program) (w : World) (K : PySem.W.Frag) (mg : Str → Option Value) (base : Heap) (k : Nat) (C : Addr) (m : Str) (sp : Sp) : Prop where
  ex : ∃ (f : Addr) (fd : FuncData), FnOk P w K mg base CX0 k f fd ["self"] sp ∧ XO.Own K C m f ∧ Binds K fd ["self"] []
structure ProM (P : Program) (w : World) (K : PySem.W.Frag) (mg : Str → Option Value) (base : Heap) (k : Nat) (C : Addr) (m : Str) (sp : Sp) : Prop where
  ex : ∃ (f : Addr) (fd : FuncData) (p : Addr), FnOk P w K mg base CX0 k f fd ["self"] sp ∧ PropOf K C m p f ∧ Binds K fd ["self"] []
def spKindsP (K : PySem.W.Frag) (C : Addr) : Sp := fun vs H Q _ => ∃ (x : Addr) (ks lns : List Str), vs = [.ref x] ∧ TabAt K C H x ks lns ∧ ∀ a, SqT K H a (sl ks) → Q (.ref a) H
def spRowsP (K : PySem.W.Frag) (C : Addr) : Sp := fun vs H Q _ => ∃ (x : Addr) (ks lns : List Str), vs = [.ref x] ∧ TabAt K C H x ks lns ∧ ∀ a, SqT K H a (sl lns) → Q (.ref a) H
def spLenP (K : PySem.W.Frag) (C : Addr) : Sp := fun vs H Q _ => ∃ (x : Addr) (ks lns : List Str), vs = [.ref x] ∧ TabAt K C H x ks lns ∧ Q (.int (lns.length : Nat)) H
def spBoolP (K : PySem.W.Frag) (C : Addr) : Sp := fun vs H Q _ => ∃ (x : Addr) (ks lns : List Str), vs = [.ref x] ∧ TabAt K C H x ks lns ∧ Q (.bl true) H
def spStrP (K : PySem.W.Frag) (C : Addr) : Sp := fun vs H Q _ => ∃ (x : Addr) (ks lns : List Str), vs = [.ref x] ∧ TabAt K C H x ks lns ∧ ks ∈ kinds7 ∧ lns.length ≤ 27 ∧ (∀ x ∈ lns, x.length ≤ 136) ∧ ∀ H', Ex H H' → Q (.str (textOf ks lns)) H'
theorem p_kinds (D : ProD K C "kinds" "Table.kinds" s_Table_kinds) (T : TabC K mg C) : ProM P w K mg base 1 C "kinds" (spKindsP K C) := by
  obtain ⟨f, fd, p, F, hp, hb⟩ := D.ex
  refine ⟨f, fd, p, meth_ok F sc_Table_kinds (fun vs H Q E h => ?_) (fun cdv A outer s H vs Q E hr h => ?_), hp, hb⟩
  · obtain ⟨x, ks, lns, rfl, _⟩ := h
    rfl
  · obtain ⟨x, ks, lns, rfl, tt, q⟩ := h
    obtain ⟨dx, D', a, r, hx, h1, h2⟩ := tt.raw
    exact ⟨_, pss_one (ps_ret (pe_fld (pv 0) rfl)), _, rfl, x, C, dx, _, _, rfl, hx, T.cl, T.k, rfl, q a h1⟩
theorem p_rows (D : ProD K C "rows" "Table.rows" s_Table_rows) (T : TabC K mg C) : ProM P w K mg base 1 C "rows" (spRowsP K C) := by
  obtain ⟨f, fd, p, F, hp, hb⟩ := D.ex
  refine ⟨f, fd, p, meth_ok F sc_Table_rows (fun vs H Q E h => ?_) (fun cdv A outer s H vs Q E hr h => ?_), hp, hb⟩
  · obtain ⟨x, ks, lns, rfl, _⟩ := h
    rfl
  · obtain ⟨x, ks, lns, rfl, tt, q⟩ := h
    obtain ⟨dx, D', a, r, hx, h1, h2⟩ := tt.raw
    exact ⟨_, pss_one (ps_ret (pe_fld (pv 0) rfl)), _, rfl, x, C, dx, _, _, rfl, hx, T.cl, T.r, rfl, q r h2⟩
theorem p_len (D : MetD K C "__len__" "Table.__len__" s_Table___len__) (T : TabC K mg C) (B : Bl mg) : OwnM P w K mg base 1 C "__len__" (spLenP K C) := by
  obtain ⟨f, fd, F, hp, hb⟩ := D.ex
  refine ⟨f, fd, meth_ok F sc_Table___len__ (fun vs H Q E h => ?_) (fun cdv A outer s H vs Q E hr h => ?_), hp, hb⟩
  · obtain ⟨x, ks, lns, rfl, _⟩ := h
    rfl
  · obtain ⟨x, ks, lns, rfl, tt, q⟩ := h
    obtain ⟨dx, D', a, r, hx, h1, h2⟩ := tt.raw
    refine ⟨_, pss_one (ps_ret (pe_callB call_len_seq (by rfl) B.len (by decide +kernel) (pa_cons (pe_fld (pv 0) rfl) pa_nil))), _, rfl, x, C, dx, _, _, rfl, hx, T.cl, T.r, rfl, r, _, rfl, .inr h2, ?_⟩
    rw [XB.len_sl]
    exact q
theorem p_bool (D : MetD K C "__bool__" "Table.__bool__" s_Table___bool__) : OwnM P w K mg base 1 C "__bool__" (spBoolP K C) := by
  obtain ⟨f, fd, F, hp, hb⟩ := D.ex
  refine ⟨f, fd, meth_ok F sc_Table___bool__ (fun vs H Q E h => ?_) (fun cdv A outer s H vs Q E hr h => ?_), hp, hb⟩
  · obtain ⟨x, ks, lns, rfl, _⟩ := h
    rfl
  · obtain ⟨x, ks, lns, rfl, _, q⟩ := h
    exact ⟨_, pss_one (ps_ret pe_bl), q⟩
theorem ev_fld {σ : L2.St} {H : Hp} {ta : TE} {x dx : Addr} {f : Str} {fs : List (Str × V)} {v : V} (h : Ev ta σ H (.ref x)) (hx : H x = some (.ins C dx fs)) (c : Cls K C) (n : NoAttr K C f) (l : fs.lookup f = some v) : Ev (tFld K ta f) σ H v := fun H1 e Q q =>
  h H1 e _ fun H2 e2 => ⟨x, C, dx, fs, v, rfl, e2 _ _ (e _ _ hx), c, n, l, q H2 e2⟩
theorem ea_star {σ : L2.St} {H : Hp} {te : TE} {t : TA} {p : Addr} {xs ys : List V} (h : Ev te σ H (.ref p)) (hx : SqT K H p xs) (ht : EvA t σ H ys) : EvA (StX.tStar K te t) σ H (xs ++ ys) := fun H1 e Q q =>
  h H1 e _ fun H2 e2 => ⟨p, xs, rfl, .inl (ex_t (e.trans e2) hx), ht H2 (e.trans e2) _ fun H3 e3 => q H3 (e2.trans e3)⟩
theorem ea_is {σ : L2.St} {H : Hp} {t : TA} {xs ys : List V} (h : EvA t σ H xs) (e : xs = ys) : EvA t σ H ys := e ▸ h
theorem head_eq {ks : List Str} (h : ks ∈ kinds7) : ("kinds " : Str) ++ Txt.join " " ks = headOf ks := by
  have all : ∀ ks ∈ kinds7, ("kinds " : Str) ++ Txt.join " " ks = headOf ks := by decide +kernel
  exact all ks h
theorem p_str (D : MetD K C "__str__" "Table.__str__" s_Table___str__) (T : TabC K mg C) : OwnM P w K mg base 1 C "__str__" (spStrP K C) := by
  obtain ⟨f, fd, F, hp, hb⟩ := D.ex
  refine ⟨f, fd, meth_ok F sc_Table___str__ (fun vs H Q E h => ?_) (fun cdv A outer s H vs Q E hr h => ?_), hp, hb⟩
  · obtain ⟨x, ks, lns, rfl, _⟩ := h
    rfl
  · obtain ⟨x, ks, lns, rfl, tt, hks, hl, hx2, q⟩ := h
    obtain ⟨dx, D', a, r, hx, h1, h2⟩ := tt.raw
    refine ⟨_, pss_one (ps_ret (pe_join pe_str (pe_lst (pa_cons (pe_op op_add_str pe_str (pe_join pe_str (pe_fld (pv 0) rfl))) (StX.pa_star (pe_fld (pv 0) rfl) pa_nil))))), ?_⟩
    refine s_ret (ev_join (ys := headOf ks :: lns) ev_c (el_lst (ea_cons (ev_is (ev_addS ev_c (ev_joinS (ys := ks) ev_c (ev_fld (ev_var rfl) hx T.cl T.k rfl) (.inr h1) ?_) ?_) (by rw [head_eq hks])) (ea_is (ea_star (ev_fld (ev_var rfl) hx T.cl T.r rfl) h2 ea_nil) (List.append_nil _))) ?_) ?_) fun H1 e1 => q H1 e1
    · exact join_bound (B := 16) (n := 3) (fun p hp => (small_ks hks p hp).len) (len7 hks) (by decide) rfl
    · have := join_le (B := 16) (n := 3) (ws := ks) (fun p hp => (small_ks hks p hp).len) (len7 hks) (sep := " ") rfl
      show 6 + _ ≤ _
      omega
    · rw [XB.len_sl]
      show lns.length + 1 ≤ _
      omega
    · refine join_bound (B := 136) (n := 28) (fun p hp => ?_) (by show lns.length + 1 ≤ 28; omega) (by decide) rfl
      rcases List.mem_cons.mp hp with rfl | hp
      · exact Nat.le_trans (head_len hks) (by decide)
      · exact hx2 p hp
end
end T
namespace T
open PySem PySem.Spec PyProof.Rows L2 Evl XB TL XS XI
/-! ### what repr shows -/
theorem shw_strs : ∀ ws : List Str, PyData.showableAll (ws.map PyData.str) = true
  | [] => rfl
  | x :: r => by
    show (true && PyData.showableAll (r.map PyData.str)) = true
    rw [shw_strs r]
    rfl
theorem hd_strs : ∀ ws : List Str, PyData.hasDictAll (ws.map PyData.str) = false
  | [] => rfl
  | x :: r => by
    show (false || PyData.hasDictAll (r.map PyData.str)) = false
    rw [hd_strs r]
    rfl
theorem dep_strs : ∀ ws : List Str, PyData.depthAll (ws.map PyData.str) = 0
  | [] => rfl
  | x :: r => by
    show max 0 (PyData.depthAll (r.map PyData.str)) = 0
    rw [dep_strs r]
    rfl
def Lo (x : Str) : Prop := ∀ c ∈ tl x, c < 128
theorem lv_str {x : Str} (h : Lo x) : PyData.leavesShort 13 (.str x) = true := List.all_eq_true.mpr fun c m => decide_eq_true (Nat.lt_trans (h c m) (by decide))
theorem lv_strs : ∀ {ws : List Str}, (∀ x ∈ ws, Lo x) → PyData.leavesShortAll 13 (ws.map PyData.str) = true
  | [], _ => rfl
  | x :: r, h => by
    show (PyData.leavesShort 13 (.str x) && PyData.leavesShortAll 13 (r.map PyData.str)) = true
    rw [lv_str (h x List.mem_cons_self), lv_strs fun y m => h y (List.mem_cons_of_mem _ m)]
    rfl
theorem wt_strs {B : Nat} : ∀ {ws : List Str}, (∀ x ∈ ws, x.length ≤ B) → PyData.weightAll (ws.map PyData.str) ≤ ws.length * (B + 1)
  | [], _ => Nat.zero_le _
  | x :: r, h => by
    have z := wt_strs (B := B) (ws := r) fun y m => h y (List.mem_cons_of_mem _ m)
    have y := h x List.mem_cons_self
    show x.length + 1 + PyData.weightAll (r.map PyData.str) ≤ (r.length + 1) * (B + 1)
    rw [Nat.succ_mul]
    omega
theorem lo_joinL {S : List Nat} (hS : ∀ c ∈ S, c < 128) : ∀ {ps : List (List Nat)}, (∀ p ∈ ps, ∀ c ∈ p, c < 128) → ∀ c ∈ joinL S ps, c < 128
  | [], _, c, m => by cases m
  | [p], h, c, m => h p List.mem_cons_self c m
  | p :: q :: r, h, c, m => by
    rcases List.mem_append.mp (show c ∈ p ++ (S ++ joinL S (q :: r)) from m) with m | m
    · exact h p List.mem_cons_self c m
    · rcases List.mem_append.mp m with m | m
      · exact hS c m
      · exact lo_joinL hS (fun y hy => h y (List.mem_cons_of_mem _ hy)) c m
theorem lo_join {sep : Str} {ys : List Str} (hs : Lo sep) (h : ∀ y ∈ ys, Lo y) : Lo (Txt.join sep ys) := fun c m => by
  rw [join_eq, tl_join] at m
  exact lo_joinL hs (fun p hp => by
    obtain ⟨y, hy, rfl⟩ := List.mem_map.mp hp
    exact h y hy) c m
theorem Small.lo {x : Str} (h : Small x) : Lo x := fun c m => by
  unfold Small at h
  rw [Bool.and_eq_true, List.all_eq_true] at h
  have := of_decide_eq_true (h.2 c m)
  omega
theorem lo_sp : Lo " " := fun c m => by
  have : c ∈ [32] := m
  rw [List.mem_singleton.mp this]
  decide
theorem lo_nl : Lo "\n" := fun c m => by
  have : c ∈ [10] := m
  rw [List.mem_singleton.mp this]
  decide
theorem lo_line {ks : List Str} {c : Cell} (h : ks ∈ kinds7) (g : GoodC ks c) : Lo (lineOf c) := lo_join lo_sp fun y hy => ((small_parts h g).1 y hy).lo
theorem lo_head {ks : List Str} (h : ks ∈ kinds7) : Lo (headOf ks) := lo_join lo_sp fun y hy => by
  rcases List.mem_cons.mp hy with rfl | hy
  · exact Small.lo (by decide +kernel)
  · exact (small_ks h y hy).lo
/-- what a box tells -/
def dueOf (ks lns : List Str) : PyData := .list [.tuple (ks.map PyData.str), .tuple (lns.map PyData.str), .int (lns.length : Nat), .str (textOf ks lns), .bool true, .bool true]
theorem due_ok {ks : List Str} {cs : List Cell} (h : ks ∈ kinds7) (hC : Cells ks cs) :
    (dueOf ks (cs.map lineOf)).showable = true ∧ (dueOf ks (cs.map lineOf)).hasDict = false ∧ (dueOf ks (cs.map lineOf)).depth ≤ 32 ∧ (dueOf ks (cs.map lineOf)).shown.length ≤ sizeLine := by
  have few : (cs.map lineOf).length ≤ 27 := by rw [List.length_map]; exact hC.few
  have lens : ∀ x ∈ cs.map lineOf, x.length ≤ 136 := fun x hx => by
    obtain ⟨c, hc, rfl⟩ := List.mem_map.mp hx
    exact line_len h (hC.good c hc)
  have los : ∀ x ∈ cs.map lineOf, Lo x := fun x hx => by
    obtain ⟨c, hc, rfl⟩ := List.mem_map.mp hx
    exact lo_line h (hC.good c hc)
  have kl := len7 h
  have hl := head_len h
  generalize cs.map lineOf = lns at few lens los
  have lt : Lo (textOf ks lns) := lo_join lo_nl fun y hy => by
    rcases List.mem_cons.mp hy with rfl | hy
    · exact lo_head h
    · exact los y hy
  have tlen : (textOf ks lns).length ≤ 28 * 136 + 28 := join_le (B := 136) (n := 28) (fun p hp => by
    rcases List.mem_cons.mp hp with rfl | hp
    · exact Nat.le_trans hl (by decide)
    · exact lens p hp) (by show lns.length + 1 ≤ 28; omega) rfl
  refine ⟨?_, ?_, ?_, ?_⟩
  · show (PyData.showableAll (ks.map PyData.str) && (PyData.showableAll (lns.map PyData.str) && (decide (((lns.length : Nat) : Int).natAbs.log2 < 1920) && (true && (true && (true && true)))))) = true
    rw [shw_strs, shw_strs, decide_eq_true]
    · rfl
    · have : ((lns.length : Nat) : Int).natAbs = lns.length := Int.natAbs_natCast _
      rw [this]
      refine Nat.lt_of_le_of_lt (Nat.log2_le_self _) (by omega)
  · show (PyData.hasDictAll (ks.map PyData.str) || (PyData.hasDictAll (lns.map PyData.str) || (false || (false || (false || (false || false)))))) = false
    rw [hd_strs, hd_strs]
    rfl
  · show max (PyData.depthAll (ks.map PyData.str) + 1) (max (PyData.depthAll (lns.map PyData.str) + 1) (max 0 (max 0 (max 0 (max 0 0))))) + 1 ≤ 32
    rw [dep_strs, dep_strs]
    decide
  · refine PyData.shown_fits (B := 13) (by decide) (by decide) ?_ ?_
    · show (PyData.leavesShortAll 13 (ks.map PyData.str) && (PyData.leavesShortAll 13 (lns.map PyData.str) && (decide ((PyData.shown (.int (lns.length : Nat))).length ≤ 13) && (PyData.leavesShort 13 (.str (textOf ks lns)) && (true && (true && true)))))) = true
      rw [lv_strs fun x hx => (small_ks h x hx).lo, lv_strs los, lv_str lt, decide_eq_true (PyData.shown_int_le (by omega))]
      rfl
    · have w1 := wt_strs (B := 16) (ws := ks) fun x hx => (small_ks h x hx).len
      have w2 := wt_strs (B := 136) (ws := lns) lens
      have w3 : PyData.weight (.int ((lns.length : Nat) : Int)) ≤ 100 := by
        show (if ((lns.length : Nat) : Int) == 0 then 0 else ((lns.length : Nat) : Int).natAbs.log2 + 1) ≤ 100
        split
        · omega
        · have : ((lns.length : Nat) : Int).natAbs = lns.length := Int.natAbs_natCast _
          rw [this]
          have := Nat.log2_le_self lns.length
          omega
      show PyData.weightAll (ks.map PyData.str) + 1 + (PyData.weightAll (lns.map PyData.str) + 1 + (PyData.weight (.int ((lns.length : Nat) : Int)) + 1 + ((textOf ks lns).length + 1 + (0 + 1 + (0 + 1 + 0))))) ≤ 2 ^ 20
      have y1 : ks.length * (16 + 1) ≤ 3 * 17 := Nat.mul_le_mul_right _ kl
      have y2 : lns.length * (136 + 1) ≤ 27 * 137 := Nat.mul_le_mul_right _ few
      omega
end T
namespace T
open PySem PySem.Spec PyProof.Rows L2 Evl XB TL XS XI
def swp {α : Type} : List α → List α
  | [a, b] => [b, a]
  | _ => []
section
variable {P : Program} {w : World} {K : PySem.W.Frag} {mg : Str → Option Value} {base : Heap} {C : Addr}
def psI : List Str := ["self", "kinds", "rows"]
/-- the class and how its tables are made -/
structure TabM (P : Program) (w : World) (K : PySem.W.Frag) (mg : Str → Option Value) (base : Heap) (C : Addr) : Prop where
  T : TabC K mg C
  I : C8.InsC K C
  ex : ∃ (f : Addr) (fd : FuncData), Mk K C f ∧ FnOk P w K mg base CX0 5 f fd psI (spInit K C) ∧ Binds K fd psI [] ∧ (∃ (ae : Addr) (ds : List Value), Vals [.ref ae] ds ∧ Binds K fd psI ds ∧ ∀ H, SqT K H ae []) ∧
    (∃ its : List Value, KBn K fd psI 1 ["rows", "kinds"] (fun us ws => us ++ swp ws) (fun vs zs => vs ++ swp zs)) ∧ KBn K fd psI 1 ["kinds", "rows"] (fun us ws => us ++ ws) (fun vs zs => vs ++ zs)
/-- a table comes -/
def EvTab (K : PySem.W.Frag) (C : Addr) (te : TE) (σ : L2.St) (H : Hp) (ks lns : List Str) : Prop := ∀ H1, Ex H H1 → ∀ Q : VK, (∀ x H2, Ex H1 H2 → TabAt K C H2 x ks lns → Q (.ref x) H2) → te σ H1 Q
theorem init_go {H3 : Hp} {p r x dx : Addr} {ks : List Str} {cs : List Cell} {Q : VK} {E : XK} (hks : ks ∈ kinds7) (hC : Cells ks cs) (hp : SqT K H3 p (sl ks)) (hr : SqT K H3 r (sl (cs.map lineOf))) (nx : H3 x = none) (ndx : H3 dx = none) (nex : dx ≠ x)
    (q : ∀ H4, Ex H3 H4 → TabAt K C H4 x ks (cs.map lineOf) → Q (.ref x) H4) : spInit K C [.ref x, .ref p, .ref r] (upd (upd H3 dx (.own x)) x (.ins C dx [])) (fun v H2 => v = .non ∧ Q (.ref x) H2) E := by
  have e1 : Ex H3 (upd (upd H3 dx (.own x)) x (.ins C dx [])) := (Ex.new ndx).trans (Ex.new (by rw [upd_ne nex.symm]; exact nx))
  refine ⟨x, p, r, dx, ks, cs, rfl, upd_same, hks, hC, ex_t e1 hp, ex_t e1 hr, fun D kvs H4 _ ch f => ⟨rfl, ?_⟩⟩
  have e2 : Ex H3 H4 := fun b o h => ch b o (ne_of_none h nx) (e1 b o h)
  exact q H4 e2 ⟨dx, D, p, r, kvs, cs, rfl, f⟩
variable {σ : L2.St} {H : Hp} {ta tb te : TE} {ks : List Str} {cs : List Cell} {E : XK}
theorem et_make (hks : ks ∈ kinds7) (hC : Cells ks cs) (ha : EvS K ta σ H (sl ks)) (hb : EvS K tb σ H (sl (cs.map lineOf))) : EvTab K C (tMake C (spInit K C) [] E (tCons ta (tCons tb tNil))) σ H ks (cs.map lineOf) := fun H1 e Q q =>
  ha H1 e _ fun p H2 e2 hp => hb H2 (e.trans e2) _ fun r H3 e3 hr => fun x dx nx ndx nex => init_go hks hC (ex_t e3 hp) hr nx ndx nex fun H4 e4 t => q x H4 ((e2.trans e3).trans e4) t
theorem et_make1 {ae : Addr} (hks : ks ∈ kinds7) (hC : Cells ks []) (ha : EvS K ta σ H (sl ks)) (he : ∀ H, SqT K H ae []) : EvTab K C (tMake C (spInit K C) [.ref ae] E (tCons ta tNil)) σ H ks [] := fun H1 e Q q =>
  ha H1 e _ fun p H2 e2 hp => fun x dx nx ndx nex => init_go (cs := []) hks hC hp (he _) nx ndx nex fun H4 e4 t => q x H4 (e2.trans e4) t
theorem et_makeRK (hks : ks ∈ kinds7) (hC : Cells ks cs) (ha : EvS K ta σ H (sl (cs.map lineOf))) (hb : EvS K tb σ H (sl ks)) : EvTab K C (tMakeK C 0 2 (spInit K C) (fun vs zs => vs ++ swp zs) E tNil (tCons ta (tCons tb tNil))) σ H ks (cs.map lineOf) := fun H1 e Q q =>
  ha H1 e _ fun r H2 e2 hr => hb H2 (e.trans e2) _ fun p H3 e3 hp => ⟨rfl, rfl, fun x dx nx ndx nex => init_go hks hC hp (ex_t e3 hr) nx ndx nex fun H4 e4 t => q x H4 ((e2.trans e3).trans e4) t⟩
theorem et_makeKR (hks : ks ∈ kinds7) (hC : Cells ks cs) (ha : EvS K ta σ H (sl ks)) (hb : EvS K tb σ H (sl (cs.map lineOf))) : EvTab K C (tMakeK C 0 2 (spInit K C) (fun vs zs => vs ++ zs) E tNil (tCons ta (tCons tb tNil))) σ H ks (cs.map lineOf) := fun H1 e Q q =>
  ha H1 e _ fun p H2 e2 hp => hb H2 (e.trans e2) _ fun r H3 e3 hr => ⟨rfl, rfl, fun x dx nx ndx nex => init_go hks hC (ex_t e3 hp) hr nx ndx nex fun H4 e4 t => q x H4 ((e2.trans e3).trans e4) t⟩
/-! ### boxes -/
theorem TabAt.chg {H' : Hp} {p x : Addr} {ks lns : List Str} {zs : List V} (h : TabAt K C H x ks lns) (hp : H p = some (.lst zs)) (c : Chg p H H') : TabAt K C H' x ks lns := by
  obtain ⟨dx, D, a, r, kvs, cs, rfl, f⟩ := h
  have go : ∀ {a : Addr} {xs : List V}, SqT K H a xs → SqT K H' a xs := fun {a xs} h => by
    rcases h with (h | ⟨u, h⟩) | h
    · exact .inl (.inl (c _ _ (ne_of h hp fun q => by cases q) h))
    · exact .inl (.inr ⟨u, c _ _ (ne_of h hp fun q => by cases q) h⟩)
    · exact .inr h
  exact ⟨dx, D, a, r, kvs, cs, rfl, c _ _ (ne_of f.hx hp fun q => by cases q) f.hx, go f.ha, go f.hr, c _ _ (ne_of f.hD hp fun q => by cases q) f.hD, f.d.chg hp c, f.c⟩
structure Box (K : PySem.W.Frag) (C : Addr) (H : Hp) (p D b s l x : Addr) (ks : List Str) (cs : List Cell) : Prop where
  hb : H b = some (.lst [.ref s, .ref l, .ref x])
  bp : b ≠ p
  bD : b ≠ D
  hs : H s = some (.lst (sl ks))
  sp : s ≠ p
  sD : s ≠ D
  hl : H l = some (.lst (sl (cs.map lineOf)))
  lp : l ≠ p
  lD : l ≠ D
  t : TabAt K C H x ks (cs.map lineOf)
  k : ks ∈ kinds7
  c : Cells ks cs
def BoxAt (K : PySem.W.Frag) (C : Addr) (H : Hp) (p D : Addr) (v : V) : Prop := ∃ b s l x ks cs, v = .ref b ∧ Box K C H p D b s l x ks cs
theorem BoxAt.chg {H' : Hp} {p D : Addr} {v : V} (h : BoxAt K C H p D v) (hp : Purse H p) (c : Chg p H H') : BoxAt K C H' p D v := by
  obtain ⟨b, s, l, x, ks, cs, e, B⟩ := h
  obtain ⟨d, z, w, u⟩ := hp
  exact ⟨b, s, l, x, ks, cs, e, ⟨c _ _ B.bp B.hb, B.bp, B.bD, c _ _ B.sp B.hs, B.sp, B.sD, c _ _ B.lp B.hl, B.lp, B.lD, B.t.chg u c, B.k, B.c⟩⟩
theorem BoxAt.chgD {H' : Hp} {p D : Addr} {v : V} {zs : List V} (h : BoxAt K C H p D v) (hD : H D = some (.lst zs)) (c : Chg D H H') : BoxAt K C H' p D v := by
  obtain ⟨b, s, l, x, ks, cs, e, B⟩ := h
  exact ⟨b, s, l, x, ks, cs, e, ⟨c _ _ B.bD B.hb, B.bp, B.bD, c _ _ B.sD B.hs, B.sp, B.sD, c _ _ B.lD B.hl, B.lp, B.lD, B.t.chg hD c, B.k, B.c⟩⟩
/-- held.append([sorts, lines, a table]) -/
theorem app_boxL {D' : Ends} {p D s : Addr} {bs : List V} {t1 t2 : TE} (hD : H D = some (.lst bs)) (hl : bs.length ≤ 1000) (h1 : σ[1]? = some (some (.ref D))) (h3 : σ[3]? = some (some (.ref s))) (hp : Purse H p) (hDp : D ≠ p)
    (hs : H s = some (.lst (sl ks))) (sp : s ≠ p) (sD : s ≠ D) (hk : ks ∈ kinds7) (hC : Cells ks cs)
    (ht1 : ∀ H1, Ex H H1 → ∀ Q : VK, (∀ l H2, Ex H1 H2 → H2 l = some (.lst (sl (cs.map lineOf))) → l ≠ p → l ≠ D → Q (.ref l) H2) → t1 σ H1 Q) (ht2 : EvTab K C t2 σ H ks (cs.map lineOf))
    (q : ∀ b H4, Chg D H H4 → Purse H4 p → H4 D = some (.lst (bs ++ [.ref b])) → BoxAt K C H4 p D (.ref b) → D'.nx σ H4) :
    tDrop (tBM K "list" rAppend (tVar 1) (tCons (tLst (tCons (tVar 3) (tCons t1 (tCons t2 tNil)))) tNil)) D' σ H := by
  refine ⟨_, h1, .inl ⟨rfl, _, SqL.of hD⟩, _, h3, ?_⟩
  refine ht1 H (Ex.refl H) _ fun l H2 e2 hl2 lp lD => ht2 H2 e2 _ fun x H3 e3 tx => ⟨(by show 3 ≤ sizeLine; decide), fun b nb => ?_⟩
  have e13 := e2.trans e3
  have hD3 := e13 _ _ hD
  have hD4 := kp (u := HO.lst [.ref s, .ref l, .ref x]) hD3 nb
  refine ⟨D, bs, .ref b, rfl, rfl, hD4, by rw [sizeLine_eq]; omega, ?_⟩
  have nbH : H b = none := fresh_back e13 nb
  have bD : b ≠ D := (ne_of_none hD3 nb).symm
  have bp : b ≠ p := (hp.ne nbH).symm
  have hc : Chg D H (upd (upd H3 b (.lst [.ref s, .ref l, .ref x])) D (.lst (bs ++ [.ref b]))) := ((Same.chg e13).new nb).at
  have hc3 : Chg D H3 (upd (upd H3 b (.lst [.ref s, .ref l, .ref x])) D (.lst (bs ++ [.ref b]))) := ((Chg.refl D H3).new nb).at
  refine q b _ hc ?_ upd_same ⟨b, s, l, x, ks, cs, rfl, ⟨kpm upd_same bD, bp, bD, hc _ _ sD hs, sp, sD, hc3 _ _ lD (e3 _ _ hl2), lp, lD, tx.chg hD3 hc3, hk, hC⟩⟩
  obtain ⟨d, z, w, u⟩ := hp
  exact ⟨d, z, w, hc _ _ hDp.symm u⟩
/-- .. and more behind it -/
theorem app_box {tz : TS} {D' : Ends} {p D s : Addr} {bs : List V} {t1 t2 : TE} (hD : H D = some (.lst bs)) (hl : bs.length ≤ 1000) (h1 : σ[1]? = some (some (.ref D))) (h3 : σ[3]? = some (some (.ref s))) (hp : Purse H p) (hDp : D ≠ p)
    (hs : H s = some (.lst (sl ks))) (sp : s ≠ p) (sD : s ≠ D) (hk : ks ∈ kinds7) (hC : Cells ks cs)
    (ht1 : ∀ H1, Ex H H1 → ∀ Q : VK, (∀ l H2, Ex H1 H2 → H2 l = some (.lst (sl (cs.map lineOf))) → l ≠ p → l ≠ D → Q (.ref l) H2) → t1 σ H1 Q) (ht2 : EvTab K C t2 σ H ks (cs.map lineOf))
    (q : ∀ b H4, Chg D H H4 → Purse H4 p → H4 D = some (.lst (bs ++ [.ref b])) → BoxAt K C H4 p D (.ref b) → tz D' σ H4) :
    tSeq (tDrop (tBM K "list" rAppend (tVar 1) (tCons (tLst (tCons (tVar 3) (tCons t1 (tCons t2 tNil)))) tNil))) tz D' σ H :=
  app_boxL (D' := { D' with nx := tz D' }) hD hl h1 h3 hp hDp hs sp sD hk hC ht1 ht2 q
/-! ### what a box holds and what is told of it -/
def Due (K : PySem.W.Frag) (H : Hp) (l : Addr) (ks lns : List Str) : Prop := ∃ a r, H l = some (.lst [.ref a, .ref r, .int (lns.length : Nat), .str (textOf ks lns), .bl true, .bl true]) ∧ SqT K H a (sl ks) ∧ SqT K H r (sl lns)
theorem Due.ex {H' : Hp} {l : Addr} {lns : List Str} (h : Due K H l ks lns) (e : Ex H H') : Due K H' l ks lns := by
  obtain ⟨a, r, h1, h2, h3⟩ := h
  exact ⟨a, r, e _ _ h1, ex_t e h2, ex_t e h3⟩
theorem Due.dp {l : Addr} {lns : List Str} (h : Due K H l ks lns) : Dp K H (.ref l) (dueOf ks lns) := by
  obtain ⟨a, r, h1, h2, h3⟩ := h
  exact .lst (SqL.of h1) (.cons (dp_tup h2) (.cons (dp_tup h3) (.cons (.int _) (.cons (.str _) (.cons (.bl true) (.cons (.bl true) .nil))))))
def EvDue (K : PySem.W.Frag) (te : TE) (σ : L2.St) (H : Hp) (ks lns : List Str) : Prop := ∀ H1, Ex H H1 → ∀ Q : VK, (∀ l H2, Ex H1 H2 → Due K H2 l ks lns → Q (.ref l) H2) → te σ H1 Q
theorem ed_list {t1 t2 t3 t4 t5 t6 : TE} {lns : List Str} (h1 : EvS K t1 σ H (sl ks)) (h2 : EvS K t2 σ H (sl lns)) (h3 : Ev t3 σ H (.int (lns.length : Nat))) (h4 : Ev t4 σ H (.str (textOf ks lns))) (h5 : Ev t5 σ H (.bl true)) (h6 : Ev t6 σ H (.bl true)) :
    EvDue K (tLst (tCons t1 (tCons t2 (tCons t3 (tCons t4 (tCons t5 (tCons t6 tNil))))))) σ H ks lns := fun H0 e Q q =>
  h1 H0 e _ fun a H1 e1 ha => h2 H1 (e.trans e1) _ fun r H2 e2 hr => h3 H2 ((e.trans e1).trans e2) _ fun H3 e3 => h4 H3 (((e.trans e1).trans e2).trans e3) _ fun H4 e4 =>
    h5 H4 ((((e.trans e1).trans e2).trans e3).trans e4) _ fun H5 e5 => h6 H5 (((((e.trans e1).trans e2).trans e3).trans e4).trans e5) _ fun H6 e6 => ⟨(by show 6 ≤ sizeLine; decide), fun l nl => by
      have e26 := ((e3.trans e4).trans e5).trans e6
      have en : Ex H6 (upd H6 l (.lst [.ref a, .ref r, .int (lns.length : Nat), .str (textOf ks lns), .bl true, .bl true])) := Ex.new nl
      exact q l _ (((e1.trans e2).trans e26).trans en) ⟨a, r, upd_same, ex_t ((e2.trans e26).trans en) ha, ex_t (e26.trans en) hr⟩⟩
theorem q_asgDue {tz : TS} {D : Ends} {i : Nat} {lns : List Str} (h : EvDue K te σ H ks lns) (k : ∀ l H1, Ex H H1 → Due K H1 l ks lns → tz D (σ.set i (some (.ref l))) H1) : tSeq (tAsg te (gName i)) tz D σ H := h H (Ex.refl H) _ k
variable {x : Addr} {lns : List Str}
theorem es_propK {F : XK} (h : Ev ta σ H (.ref x)) (t : TabAt K C H x ks lns) : EvS K (tProp C (spKindsP K C) [] F ta) σ H (sl ks) := fun H1 e Q q => h H1 e _ fun H2 e2 => by
  have t2 := t.ex (e.trans e2)
  obtain ⟨dx, D, a, r, hx, _⟩ := t2.raw
  exact ⟨x, dx, _, rfl, hx, x, ks, lns, rfl, t2, fun a ha => q a H2 e2 ha⟩
theorem es_propR {F : XK} (h : Ev ta σ H (.ref x)) (t : TabAt K C H x ks lns) : EvS K (tProp C (spRowsP K C) [] F ta) σ H (sl lns) := fun H1 e Q q => h H1 e _ fun H2 e2 => by
  have t2 := t.ex (e.trans e2)
  obtain ⟨dx, D, a, r, hx, _⟩ := t2.raw
  exact ⟨x, dx, _, rfl, hx, x, ks, lns, rfl, t2, fun a ha => q a H2 e2 ha⟩
theorem ev_lenT (h : Ev ta σ H (.ref x)) (t : TabAt K C H x ks lns) (hl : lns.length ≤ 27) : Ev (tCB (XO.rLenO C (spLenP K C)) (tCons ta tNil)) σ H (.int (lns.length : Nat)) := fun H1 e Q q => h H1 e _ fun H2 e2 => by
  have t2 := t.ex (e.trans e2)
  obtain ⟨dx, D, a, r, hx, _⟩ := t2.raw
  exact ⟨x, dx, _, rfl, hx, x, ks, lns, rfl, t2, _, rfl, by omega, by omega, q H2 e2⟩
theorem ev_strT (h : Ev ta σ H (.ref x)) (t : TabAt K C H x ks lns) (hk : ks ∈ kinds7) (hl : lns.length ≤ 27) (hx2 : ∀ x ∈ lns, x.length ≤ 136) : Ev (tCB (XO.rStrO C (spStrP K C)) (tCons ta tNil)) σ H (.str (textOf ks lns)) := fun H1 e Q q => h H1 e _ fun H2 e2 => by
  have t2 := t.ex (e.trans e2)
  obtain ⟨dx, D, a, r, hx, _⟩ := t2.raw
  exact ⟨x, dx, _, rfl, hx, x, ks, lns, rfl, t2, hk, hl, hx2, fun H3 e3 => ⟨_, rfl, q H3 (e2.trans e3)⟩⟩
theorem ev_boolT (h : Ev ta σ H (.ref x)) (t : TabAt K C H x ks lns) : Ev (tCB (XO.rBoolO C (spBoolP K C)) (tCons ta tNil)) σ H (.bl true) := fun H1 e Q q => h H1 e _ fun H2 e2 => by
  have t2 := t.ex (e.trans e2)
  obtain ⟨dx, D, a, r, hx, _⟩ := t2.raw
  exact ⟨x, dx, _, rfl, hx, x, ks, lns, rfl, t2, _, rfl, q H2 e2⟩
theorem ev_isT (h : Ev ta σ H (.ref x)) (t : TabAt K C H x ks lns) : Ev (tCB (fun xs H Q => ∃ a dx fs, xs = [.ref a, .ref C] ∧ H a = some (.ins C dx fs) ∧ Q (.bl true) H) (tCons ta (tCons (tC (.ref C)) tNil))) σ H (.bl true) := fun H1 e Q q => h H1 e _ fun H2 e2 => by
  have t2 := t.ex (e.trans e2)
  obtain ⟨dx, D, a, r, hx, _⟩ := t2.raw
  exact ⟨x, dx, _, rfl, hx, q H2 e2⟩
theorem ev_textT {E : XK} {s l : Addr} {lns : List Str} (h1 : Ev ta σ H (.ref s)) (h2 : Ev tb σ H (.ref l)) (hk : ks ∈ kinds7) (hs : H s = some (.lst (sl ks))) (hl : H l = some (.lst (sl lns))) (few : lns.length ≤ 27) (hx : ∀ x ∈ lns, x.length ≤ 136) : Ev (tCall spText [] E (tCons ta (tCons tb tNil))) σ H (.str (textOf ks lns)) :=
  ev_call (ea_cons h1 (ea_cons h2 ea_nil)) fun H1 e Q q E => ⟨s, l, ks, lns, rfl, hk, e _ _ hs, e _ _ hl, few, hx, q⟩
theorem ev_repr {l : Addr} (h : Ev ta σ H (.ref l)) (d : Due K H l ks (cs.map lineOf)) (hk : ks ∈ kinds7) (hC : Cells ks cs) : Ev (tCB (XG.rRepr K) (tCons ta tNil)) σ H (.str (dueOf ks (cs.map lineOf)).shown) := fun H1 e Q q => h H1 e _ fun H2 e2 => by
  obtain ⟨o1, o2, o3, o4⟩ := due_ok hk hC
  exact ⟨.ref l, _, rfl, (d.ex (e.trans e2)).dp, o1, o2, o3, o4, q H2 e2⟩
theorem ev_ixL {p : Addr} {xs : List V} {i : Int} {v : V} (h : Ev ta σ H (.ref p)) (hb : Ev tb σ H (.int i)) (hx : SqL K H p xs) (ha : atI xs i = some v) : Ev (tOp (rIxL K) ta tb) σ H v := ev_op h hb (rv_ixL hx ha)
end
end T
namespace T
open PySem PySem.Spec PyProof.Rows L2 Evl XB TL XS XI
/-! ### a table's text, cut -/
theorem small_no {x : Str} (h : Small x) {n : Nat} (hn : n ≤ 32) : n ∉ tl x := fun z => by
  unfold Small at h
  rw [Bool.and_eq_true, List.all_eq_true] at h
  have := of_decide_eq_true (h.2 n z)
  omega
theorem no_joinL {S : List Nat} {n : Nat} (hS : n ∉ S) : ∀ {ps : List (List Nat)}, (∀ p ∈ ps, n ∉ p) → n ∉ joinL S ps
  | [], _, m => by cases m
  | [p], h, m => h p List.mem_cons_self m
  | p :: q :: r, h, m => by
    rcases List.mem_append.mp (show n ∈ p ++ (S ++ joinL S (q :: r)) from m) with m | m
    · exact h p List.mem_cons_self m
    · rcases List.mem_append.mp m with m | m
      · exact hS m
      · exact no_joinL hS (fun y hy => h y (List.mem_cons_of_mem _ hy)) m
theorem no_join {sep : Str} {n : Nat} {ys : List Str} (hs : n ∉ tl sep) (h : ∀ y ∈ ys, n ∉ tl y) : n ∉ tl (Txt.join sep ys) := by
  rw [join_eq, tl_join]
  exact no_joinL hs fun p hp => by
    obtain ⟨y, hy, rfl⟩ := List.mem_map.mp hp
    exact h y hy
theorem head_parts {ks : List Str} (h : ks ∈ kinds7) : ∀ y ∈ ("kinds" :: ks : List Str), Small y := fun y hy => by
  rcases List.mem_cons.mp hy with rfl | hy
  · decide +kernel
  · exact small_ks h y hy
theorem head_split {ks : List Str} (h : ks ∈ kinds7) : Txt.split (headOf ks) " " = ("kinds" : Str) :: ks :=
  split_join (s := 32) (S := []) rfl (by decide +kernel) (by intro z; cases z) fun p hp => small_no (head_parts h p hp) (by decide)
theorem no_nl_head {ks : List Str} (h : ks ∈ kinds7) : 10 ∉ tl (headOf ks) := no_join (by decide) fun y hy => small_no (head_parts h y hy) (by decide)
theorem no_nl_line {ks : List Str} {c : Cell} (h : ks ∈ kinds7) (g : GoodC ks c) : 10 ∉ tl (lineOf c) := no_join (by decide) fun y hy => small_no ((small_parts h g).1 y hy) (by decide)
theorem text_split {ks : List Str} {cs : List Cell} (h : ks ∈ kinds7) (hC : Cells ks cs) : Txt.split (textOf ks (cs.map lineOf)) "\n" = headOf ks :: cs.map lineOf :=
  split_join (s := 10) (S := []) rfl (by decide +kernel) (by intro z; cases z) fun p hp => by
    rcases List.mem_cons.mp hp with rfl | hp
    · exact no_nl_head h
    · obtain ⟨c, hc, rfl⟩ := List.mem_map.mp hp
      exact no_nl_line h (hC.good c hc)
theorem text_head (ks lns : List Str) : ∃ y : Str, textOf ks lns = headOf ks ++ y := by
  cases lns with
  | nil => exact ⟨Str.empty, by rw [textOf, join_eq]; refine ext_tl ?_; rw [tl_append]; show tl (headOf ks) = tl (headOf ks) ++ []; rw [List.append_nil]⟩
  | cons l r => exact ⟨"\n" ++ Str.join "\n" (l :: r), by
      rw [textOf, join_eq]
      refine ext_tl ?_
      show tl (headOf ks ++ "\n" ++ Str.join "\n" (l :: r)) = _
      rw [tl_append, tl_append, tl_append, tl_append, List.append_assoc]⟩
theorem head_starts {ks : List Str} (h : ks ∈ kinds7) : Txt.startswith (headOf ks) "kinds " = true ∧ ("kinds " : Str).length ≤ (headOf ks).length := by
  have all : ∀ ks ∈ kinds7, Txt.startswith (headOf ks) "kinds " = true ∧ ("kinds " : Str).length ≤ (headOf ks).length := by decide +kernel
  exact all ks h
theorem text_starts {ks lns : List Str} (h : ks ∈ kinds7) : Txt.startswith (textOf ks lns) "kinds " = true := by
  obtain ⟨y, e⟩ := text_head ks lns
  rw [e, PySem.W.KAf.starts_left (head_starts h).2]
  exact (head_starts h).1
theorem text_len {ks : List Str} {cs : List Cell} (h : ks ∈ kinds7) (hC : Cells ks cs) : (textOf ks (cs.map lineOf)).length ≤ 4000 := by
  have few : (cs.map lineOf).length ≤ 27 := by rw [List.length_map]; exact hC.few
  refine Nat.le_trans (join_le (B := 136) (n := 28) (fun p hp => ?_) (by show (cs.map lineOf).length + 1 ≤ 28; omega) rfl) (by decide)
  rcases List.mem_cons.mp hp with rfl | hp
  · exact Nat.le_trans (head_len h) (by decide)
  · obtain ⟨c, hc, rfl⟩ := List.mem_map.mp hp
    exact line_len h (hC.good c hc)
end T
namespace T
open PySem PySem.Spec PyProof.Rows L2 Evl XB TL XS XI XC ClX
theorem lo_ok {x : Str} (h : Lo x) : PyData.strOk x = true := by
  unfold PyData.strOk
  rw [← Array.all_toList, List.all_eq_true]
  exact fun c m => decide_eq_true (Nat.lt_trans (h c m) (by decide))
theorem shp_strs {ws : List Str} (h : ∀ x ∈ ws, Lo x) : SeqAt.shaped (.tuple (ws.map PyData.str)) = true := by
  have e : ∀ {ws : List Str}, (∀ x ∈ ws, Lo x) → PyData.canLayAll0 (ws.map PyData.str) = true := fun {ws} => by
    induction ws with
    | nil => exact fun _ => rfl
    | cons x r ih =>
      intro h
      show (PyData.strOk x && PyData.canLayAll0 (r.map PyData.str)) = true
      rw [lo_ok (h x List.mem_cons_self), ih fun y m => h y (List.mem_cons_of_mem _ m)]
      rfl
  show (PyData.canLayAll0 (ws.map PyData.str) && decide (PyData.depthAll (ws.map PyData.str) + 1 ≤ 64)) = true
  rw [e h, dep_strs]
  rfl
theorem eqv_strs : ∀ ws us : List Str, PyData.eqvAll (ws.map PyData.str) (us.map PyData.str) = decide (ws = us)
  | [], [] => rfl
  | [], _ :: _ => rfl
  | _ :: _, [] => rfl
  | x :: r, y :: t => by
    show ((x == y) && PyData.eqvAll (r.map PyData.str) (t.map PyData.str)) = _
    rw [eqv_strs r t]
    by_cases e : x = y
    · by_cases e2 : r = t
      · rw [e, e2]
        simp
      · simp [e2]
    · simp [e]
section
variable {P : Program} {w : World} {K : PySem.W.Frag} {mg : Str → Option Value} {base : Heap} {C : Addr}
variable {σ : L2.St} {H : Hp} {ta tb te : TE} {tz : TS} {D : Ends} {ks : List Str} {cs : List Cell}
theorem cut_drop1 (xs : List V) : cutV xs (some 1) none = xs.drop 1 := by
  unfold cutV
  rw [HT.sIx_none, show (some (1 : Int)) = some ((1 : Nat) : Int) from rfl, HT.sIx_nat]
  by_cases h : 1 ≤ xs.length
  · rw [Nat.min_eq_left h, List.take_of_length_le (by rw [List.length_drop] <;> exact Nat.le_refl _)]
  · rw [Nat.min_eq_right (by omega), Nat.sub_self, List.take_zero, List.drop_eq_nil_of_le (by omega)]
theorem s_retT2 {xs ys : List V} (h1 : EvU ta σ H xs) (h2 : ∀ H1, Ex H H1 → EvU tb σ H1 ys) (k : ∀ t a r H', Ex H H' → H' t = some (.tup [.ref a, .ref r]) → H' a = some (.tup xs) → H' r = some (.tup ys) → D.rt (.ref t) H') : tRet (tTup (tCons ta (tCons tb tNil))) D σ H :=
  h1 H (Ex.refl H) _ fun a H2 na e2 ha => h2 H2 e2 H2 (Ex.refl _) _ fun r H3 nr e3 hr3 => ⟨(by show 2 ≤ sizeLine; decide), fun t nt =>
    k t a r _ ((e2.trans e3).trans (Ex.new nt)) upd_same (kp (e3 _ _ ha) nt) (kp hr3 nt)⟩
/-! ### kinds_and_rows -/
def spKR : Sp := fun vs H Q _ => ∃ (ks : List Str) (cs : List Cell), vs = [.str (textOf ks (cs.map lineOf))] ∧ ks ∈ kinds7 ∧ Cells ks cs ∧ ∀ t a r H', Ex H H' → H' t = some (.tup [.ref a, .ref r]) → H' a = some (.tup (sl ks)) → H' r = some (.tup (sl (cs.map lineOf))) → Q (.ref t) H'
theorem c_kr (D : At K mg "kinds_and_rows" s_kinds_and_rows ["text"]) (B : Bl mg) : C8.Cal P w K mg base 1 "kinds_and_rows" spKR [] := by
  refine cal_of D sc_kinds_and_rows (fun vs H Q E h => ?_) (fun f cdv A outer s H vs Q E hr h => ?_)
  · obtain ⟨ks, cs, rfl, _⟩ := h
    rfl
  · obtain ⟨ks, cs, rfl, hk, hC, q⟩ := h
    refine ⟨_, pss_cons (ps_set (i := 1) sc_kinds_and_rows.nd rfl (.inl rfl) (pe_split (pv 0) pe_str))
      (pss_one (ps_ret (pe_tup (pa_cons (pe_callTy call_tuple_of (by rfl) B.tuple (by decide +kernel) (pa_cons (pe_slice sl_list (pe_split (pe_ix ix_list (pv 1) pe_int (fun _ _ => rfl)) pe_str) (po_some pe_int) po_none) pa_nil))
        (pa_cons (pe_callTy call_tuple_of (by rfl) B.tuple (by decide +kernel) (pa_cons (pe_slice sl_list (pv 1) (po_some pe_int) po_none) pa_nil)) pa_nil))))), ?_⟩
    have tlen := text_len hk hC
    refine q_asgL (el_is (el_split (ev_var rfl) ev_c rfl (by rw [sizeLine_eq]; omega)) (by rw [text_split hk hC])) fun l H1 n1 e1 h1 => ?_
    have hh := head_len hk
    have t1 : EvU (tCB (rTup K) (tCons (tSl (rSlL K) (tM1 rSplit (tOp (rIxL K) (tVar 1) (tC (.int 0))) (tC (.str " "))) (tPart (tC (.int 1))) tNoPart) tNil)) [some (.str (textOf ks (cs.map lineOf))), some (.ref l)] H1 (sl ks) :=
      eu_tuple (el_is (el_slN (el_split (x := headOf ks) (ev_ixL (ev_var rfl) ev_c (SqL.of h1) (atI_nat (j := 0) rfl)) ev_c rfl (by rw [sizeLine_eq]; omega)) (eo_some ev_c) eo_none) (by rw [head_split hk, cut_drop1]; rfl))
    have t2 : ∀ {H2 : Hp}, Ex H1 H2 → EvU (tCB (rTup K) (tCons (tSl (rSlL K) (tVar 1) (tPart (tC (.int 1))) tNoPart) tNil)) [some (.str (textOf ks (cs.map lineOf))), some (.ref l)] H2 (sl (cs.map lineOf)) := fun e =>
      eu_tuple (el_is (el_sl (ev_var rfl) (eo_some ev_c) eo_none (SqL.of (e _ _ h1))) (by rw [cut_drop1]; rfl))
    exact s_retT2 t1 (fun H2 e => t2 e) fun t a r H3 e ht ha hr3 => q t a r H3 (e1.trans e) ht ha hr3
theorem q_kr {i j : Nat} {E : XK} (h : Ev ta σ H (.str (textOf ks (cs.map lineOf)))) (hk : ks ∈ kinds7) (hC : Cells ks cs) (q : ∀ a r H1, Ex H H1 → H1 a = some (.tup (sl ks)) → H1 r = some (.tup (sl (cs.map lineOf))) → tz D ((σ.set i (some (.ref a))).set j (some (.ref r))) H1) :
    tSeq (tAsg (tCall spKR [] E (tCons ta tNil)) (gTup K 2 (gCons (gName i) (gCons (gName j) gNil)))) tz D σ H :=
  h H (Ex.refl H) _ fun H1 e1 => ⟨ks, cs, rfl, hk, hC, fun t a r H2 e2 ht ha hr => ⟨t, _, rfl, SqT.of ht, rfl, _, _, rfl, _, _, rfl, rfl, q a r H2 (e1.trans e2) ha hr⟩⟩
/-! ### is_table_text -/
def spIsText : Sp := fun vs H Q _ => ∃ (ks : List Str) (cs : List Cell), vs = [.str (textOf ks (cs.map lineOf))] ∧ ks ∈ kinds7 ∧ Cells ks cs ∧ ∀ H', Ex H H' → Q (.bl true) H'
theorem ev_startsW {x y : Str} {b : Bool} (ho : Ev ta σ H (.str x)) (he : Ev tb σ H (.str y)) (e : Txt.startswith x y = b) : Ev (tM1 (fun x xs H Q => ∃ a b, x = .str a ∧ xs = [.str b] ∧ Q (.bl (Txt.startswith a b)) H) ta tb) σ H (.bl b) := fun H1 e1 Q q =>
  ho H1 e1 _ fun H2 e2 => ⟨⟨_, rfl⟩, he H2 (e1.trans e2) _ fun H3 e3 => ⟨x, y, rfl, rfl, by rw [e]; exact q H3 (e2.trans e3)⟩⟩
theorem c_isText (D : At K mg "is_table_text" s_is_table_text ["value"]) (B : Bl mg) (C1 : C8.Cal P w K mg base 1 "kinds_and_rows" spKR []) (C2 : C8.Cal P w K mg base 2 "are_kinds" (spKinds K) []) (C3 : C8.Cal P w K mg base 4 "first_wrong_row" (spFirst K) []) : C8.Cal P w K mg base 5 "is_table_text" spIsText [] := by
  refine cal_of D sc_is_table_text (fun vs H Q E h => ?_) (fun f cdv A outer s H vs Q E hr h => ?_)
  · obtain ⟨ks, cs, rfl, _⟩ := h
    rfl
  · obtain ⟨ks, cs, rfl, hk, hC, q⟩ := h
    refine ⟨_, pss_cons (ps_if (PW.pt (pw_or (pt_not (pt_val (pe_callB call_isi (by rfl) B.isin (by decide +kernel) (pa_cons (pv 0) (pa_cons (pe_bltn (v := .ty "str") (by rfl) B.str (by decide +kernel) rfl) pa_nil))))) (pw_or1 (pt_not (pt_val (pe_m1 PySem.F.slot_str_startswith PySem.F.type_str_startswith mt_startswith (pv 0) pe_str)))))) (pss_one (ps_ret pe_bl)) pss_nil)
      (pss_cons (ps_asg (C8.pe_c C1 hr (by decide) (by rfl) (pa_cons (pv 0) pa_nil)) (pg_tup (by rfl) (pgs_cons (pg_name (i := 1) sc_is_table_text.nd rfl (.inl rfl)) (pgs_cons (pg_name (i := 2) sc_is_table_text.nd rfl (.inl rfl)) pgs_nil))))
      (pss_one (ps_ret (pe_and (C8.pe_c C2 hr (by decide) (by rfl) (pa_cons (pv 1) pa_nil)) (pe_one (pe_cmpR op_isN (C8.pe_c C3 hr (by decide) (by rfl) (pa_cons (pv 2) (pa_cons (pv 1) pa_nil))) pe_non (nomark _))))))), ?_⟩
    refine q_when (b := false) (et_or (et_not (et_B (ev_isStr (ev_var rfl)))) (fun _ => et_not (et_B (ev_startsW (ev_var rfl) ev_c (text_starts hk))))) (fun z => by cases z) (fun _ H1 e1 => ?_)
    refine q_kr (ev_var rfl) hk hC fun a r H2 e2 ha hr2 => ?_
    exact s_ret (ev_andV (ev_kinds (ev_var rfl) (SqT.of ha) hk) (fun _ => ev_op (ev_first (ev_var rfl) (ev_var rfl) hk hC (SqT.of hr2) (SqT.of ha)) ev_c fun H3 e Q q => ⟨rfl, q H3 (Ex.refl H3)⟩)) fun H3 e3 => q H3 ((e1.trans e2).trans e3)
end
end T
namespace T
open PySem PySem.Spec PyProof.Rows L2 Evl XB TL XS XI XC ClX
section
variable {P : Program} {w : World} {K : PySem.W.Frag} {mg : Str → Option Value} {base : Heap} {C : Addr}
variable {σ : L2.St} {H : Hp} {ta tb te : TE} {tz : TS} {D : Ends} {ks : List Str} {cs : List Cell} {x y : Addr} {E : XK}
/-! ### Table.read -/
def spRead (K : PySem.W.Frag) (C : Addr) : Sp := fun vs H Q _ => ∃ (ks : List Str) (cs : List Cell), vs = [.ref C, .str (textOf ks (cs.map lineOf))] ∧ ks ∈ kinds7 ∧ Cells ks cs ∧ ∀ x H', Ex H H' → TabAt K C H' x ks (cs.map lineOf) → Q (.ref x) H'
theorem ev_isText (h : Ev ta σ H (.str (textOf ks (cs.map lineOf)))) (hk : ks ∈ kinds7) (hC : Cells ks cs) : Ev (tCall spIsText [] E (tCons ta tNil)) σ H (.bl true) :=
  ev_call (ea_cons h ea_nil) fun H1 e Q q E => ⟨ks, cs, rfl, hk, hC, q⟩
theorem s_retTab (h : EvTab K C te σ H ks (cs.map lineOf)) (k : ∀ x H', Ex H H' → TabAt K C H' x ks (cs.map lineOf) → D.rt (.ref x) H') : tRet te D σ H := h H (Ex.refl H) _ k
theorem et_makeL {i : Nat} (hi : σ[i]? = some (some (.ref C))) (h : EvTab K C (tMake C (spInit K C) [] E (tCons ta (tCons tb tNil))) σ H ks (cs.map lineOf)) : EvTab K C (tMakeL i C (spInit K C) [] E (tCons ta (tCons tb tNil))) σ H ks (cs.map lineOf) := fun H1 e Q q => ⟨hi, h H1 e Q q⟩
theorem c_read {f : Addr} {fd : FuncData} (F : Fun K "read" "Table.read" s_Table_read f fd) (M : TabM P w K mg base C) (C1 : C8.Cal P w K mg base 1 "kinds_and_rows" spKR []) (C2 : C8.Cal P w K mg base 5 "is_table_text" spIsText []) : FnOk P w K mg base CX0 7 f fd ["cls", "text"] (spRead K C) := by
  obtain ⟨f0, fd0, Mk0, F0, b3, _⟩ := M.ex
  refine meth_ok F sc_Table_read (fun vs H Q E h => ?_) (fun cdv A outer s H vs Q E hr h => ?_)
  · obtain ⟨ks, cs, rfl, _⟩ := h
    rfl
  · obtain ⟨ks, cs, rfl, hk, hC, q⟩ := h
    refine ⟨_, pss_cons (ps_if (pt_not (pt_val (C8.pe_c C2 hr (by decide) (by rfl) (pa_cons (pv 1) pa_nil)))) pss_never pss_nil)
      (pss_cons (ps_asg (C8.pe_c C1 hr (by decide) (by rfl) (pa_cons (pv 1) pa_nil)) (pg_tup (by rfl) (pgs_cons (pg_name (i := 2) sc_Table_read.nd rfl (.inl rfl)) (pgs_cons (pg_name (i := 3) sc_Table_read.nd rfl (.inl rfl)) pgs_nil))))
      (pss_one (ps_ret (pe_makeL (i := 0) Mk0 F0 hr rfl (.inl rfl) b3 .nil pass0 (pa_cons (pv 2) (pa_cons (pv 3) pa_nil)))))), ?_⟩
    refine q_when (b := false) (et_not (et_B (ev_isText (ev_var rfl) hk hC))) (fun z => by cases z) (fun _ H1 e1 => ?_)
    refine q_kr (ev_var rfl) hk hC fun a r H2 e2 ha hr2 => ?_
    exact s_retTab (et_makeL rfl (et_make hk hC (es_at (ev_var rfl) (SqT.of ha)) (es_at (ev_var rfl) (SqT.of hr2)))) fun x H3 e3 t => q x H3 ((e1.trans e2).trans e3) t
theorem et_read (h : Ev ta σ H (.ref C)) (h2 : Ev tb σ H (.str (textOf ks (cs.map lineOf)))) (hk : ks ∈ kinds7) (hC : Cells ks cs) : EvTab K C (tCMeth C (spRead K C) E ta (tCons tb tNil)) σ H ks (cs.map lineOf) := fun H1 e Q q =>
  h H1 e _ fun H2 e2 => ⟨rfl, h2 H2 (e.trans e2) _ fun H3 e3 => ⟨ks, cs, rfl, hk, hC, fun x H4 e4 t => q x H4 ((e2.trans e3).trans e4) t⟩⟩
theorem et_readK (h : Ev ta σ H (.ref C)) (h2 : Ev tb σ H (.str (textOf ks (cs.map lineOf)))) (hk : ks ∈ kinds7) (hC : Cells ks cs) : EvTab K C (tCMethK C 1 (spRead K C) (fun vs zs => vs ++ zs) E ta (tCons tb tNil)) σ H ks (cs.map lineOf) := fun H1 e Q q =>
  h H1 e _ fun H2 e2 => ⟨rfl, h2 H2 (e.trans e2) _ fun H3 e3 => ⟨rfl, ks, cs, rfl, hk, hC, fun x H4 e4 t => q x H4 ((e2.trans e3).trans e4) t⟩⟩
/-! ### Table.__eq__ -/
def LoT (ks lns : List Str) : Prop := (∀ x ∈ ks, Lo x) ∧ ∀ x ∈ lns, Lo x
theorem lo_tab (hk : ks ∈ kinds7) (hC : Cells ks cs) : LoT ks (cs.map lineOf) := ⟨fun x hx => (small_ks hk x hx).lo, fun x hx => by
  obtain ⟨c, hc, rfl⟩ := List.mem_map.mp hx
  exact lo_line hk (hC.good c hc)⟩
def spEqT (K : PySem.W.Frag) (C : Addr) : Sp := fun vs H Q _ => ∃ (x y : Addr) (ks lns ks' lns' : List Str), vs = [.ref x, .ref y] ∧ TabAt K C H x ks lns ∧ TabAt K C H y ks' lns' ∧ LoT ks lns ∧ LoT ks' lns' ∧ ∀ H', Ex H H' → Q (.bl (decide (ks = ks') && decide (lns = lns'))) H'
theorem c_eq {f : Addr} {fd : FuncData} (F : Fun K "__eq__" "Table.__eq__" s_Table___eq__ f fd) (B : Bl mg) (T : TabC K mg C) (I : C8.InsC K C) : FnOk P w K mg base CX0 1 f fd ["self", "other"] (spEqT K C) := by
  refine meth_ok F sc_Table___eq__ (fun vs H Q E h => ?_) (fun cdv A outer s H vs Q E hr h => ?_)
  · obtain ⟨x, y, _, _, _, _, rfl, _⟩ := h
    rfl
  · obtain ⟨x, y, ks, lns, ks', lns', rfl, t1, t2, l1, l2, q⟩ := h
    refine ⟨_, pss_one (ps_ret (pe_and (pe_callB (C8.call_isC I) (by rfl) B.isin (by decide +kernel) (pa_cons (pv 1) (pa_cons (pe_glob (v := .ref C) (by rfl) T.mgT rfl) pa_nil)))
      (pe_and (pe_cmpR (op_eqD hr.units) (pe_fld (pv 0) rfl) (pe_fld (pv 1) rfl) (nomark _)) (pe_one (pe_cmpR (op_eqD hr.units) (pe_fld (pv 0) rfl) (pe_fld (pv 1) rfl) (nomark _)))))), ?_⟩
    obtain ⟨dx, D1, a1, r1, hx, hk1, hl1⟩ := t1.raw
    obtain ⟨dy, D2, a2, r2, hy, hk2, hl2⟩ := t2.raw
    refine s_ret (ev_is (ev_andV (ev_isT (ev_var rfl) t2) (fun _ => ev_andV (ev_eqD (ev_fld (ev_var rfl) hx T.cl T.k rfl) (ev_fld (ev_var rfl) hy T.cl T.k rfl) (fun H1 e => dp_tup (ex_t e hk1)) (fun H1 e => dp_tup (ex_t e hk2)) (shp_strs l1.1) (shp_strs l2.1))
      (fun _ => ev_eqD (ev_fld (ev_var rfl) hx T.cl T.r rfl) (ev_fld (ev_var rfl) hy T.cl T.r rfl) (fun H1 e => dp_tup (ex_t e hl1)) (fun H1 e => dp_tup (ex_t e hl2)) (shp_strs l1.2) (shp_strs l2.2)))) ?_) fun H1 e1 => q H1 e1
    show V.bl (true && (PyData.eqvAll _ _ && PyData.eqvAll _ _)) = _
    rw [eqv_strs, eqv_strs, Bool.true_and]
/-- the answer of == and != of two tables -/
theorem ev_eqO {neg : Bool} {ks' lns lns' : List Str} (h : Ev ta σ H (.ref x)) (h2 : Ev tb σ H (.ref y)) (t1 : TabAt K C H x ks lns) (t2 : TabAt K C H y ks' lns') (l1 : LoT ks lns) (l2 : LoT ks' lns') :
    Ev (tOp (rEqO C (spEqT K C) neg) ta tb) σ H (.bl (if neg then !(decide (ks = ks') && decide (lns = lns')) else (decide (ks = ks') && decide (lns = lns')))) := fun H1 e Q q =>
  h H1 e _ fun H2 e2 => h2 H2 (e.trans e2) _ fun H3 e3 => by
    have u1 := t1.ex ((e.trans e2).trans e3)
    have u2 := t2.ex ((e.trans e2).trans e3)
    obtain ⟨dx, D1, a1, r1, hx, _⟩ := u1.raw
    obtain ⟨dy, D2, a2, r2, hy, _⟩ := u2.raw
    exact ⟨x, dx, _, y, dy, _, rfl, rfl, hx, hy, x, y, ks, lns, ks', lns', rfl, u1, u2, l1, l2, fun H4 e4 => ⟨_, rfl, q H4 ((e2.trans e3).trans e4)⟩⟩
theorem ev_eqTab {lns : List Str} (h : Ev ta σ H (.ref x)) (h2 : Ev tb σ H (.ref y)) (t1 : TabAt K C H x ks lns) (t2 : TabAt K C H y ks lns) (l1 : LoT ks lns) : Ev (tOp (rEqO C (spEqT K C) false) ta tb) σ H (.bl true) := ev_is (ev_eqO (neg := false) h h2 t1 t2 l1 l1) (by rw [decide_eq_true rfl, decide_eq_true rfl]; rfl)
theorem ev_neTab {lns : List Str} (h : Ev ta σ H (.ref x)) (h2 : Ev tb σ H (.ref y)) (t1 : TabAt K C H x ks lns) (t2 : TabAt K C H y ks lns) (l1 : LoT ks lns) : Ev (tOp (rEqO C (spEqT K C) true) ta tb) σ H (.bl false) := ev_is (ev_eqO (neg := true) h h2 t1 t2 l1 l1) (by rw [decide_eq_true rfl, decide_eq_true rfl]; rfl)
end
end T
/-! Own: enumerate(t, 1) over a tuple; sorted of a tuple of ints; a def called by keywords alone. -/
namespace XQ
open PySem PySem.Spec PyProof.Rows L2
open AutoSeq1 (wpAny_loadPart')
/-! ### enumerate(t, 1) -/
theorem tc_enum2 (a b : Value) : checkTypeCall "enumerate" ⟨[a, b], []⟩ = pure () := by kernel_rfl
theorem nc_enum2 (a b : Value) : checkBuiltinCall "enumerate.__new__" ⟨[.type "enumerate", a, b], []⟩ = pure () := by kernel_rfl
theorem enum1_new (l : Addr) (items : Array Value) (o : Obj) (tk : Tok) (hc : o.cls = .type "tuple") (n : Nat) (hd : o.data = .seq items n) :
    Meets (Builtin.«enumerate.__new__» ⟨[.type "enumerate", .ref l, .int 1 tk], []⟩) (fun _ R s => s.heap.get? l = some o ∧
      R (.ok (.ret (.ref (s.heap.push { cls := .type "tuple_iterator", data := .fields #[.ref l, .int 0 0] }).objs.size)))
        { s with heap := (s.heap.push { cls := .type "tuple_iterator", data := .fields #[.ref l, .int 0 0] }).push { cls := .type "enumerate", data := .fields #[.none, .bool false, .ref s.heap.objs.size, rawInt 1, .none, .none] } }) :=
  .of_wp fun prog w A R s h => by
    obtain ⟨hp, g, d, t, os⟩ := s
    obtain ⟨hl, h⟩ := h
    have hsub := sub_enumerate
    have hL : Heap.IsTuple (Shared.heap ⟨hp, g, d, t, os⟩) l items := ⟨o, hl, hc, n, hd⟩
    wp_walk using wpAny_loadPart' hl
    refine wpAny_stack_any fun st => wpAny_pure ?_
    split
    · rename_i c _ _ _ _ _
      cases (c == Value.type "enumerate")
      · wp_walk using wpAny_loadPart' hl, wpAny_pyIter_tuple hL
        exact ⟨_, rfl, h⟩
      · wp_walk using wpAny_loadPart' hl, wpAny_pyIter_tuple hL
        exact ⟨_, rfl, h⟩
    · wp_walk using wpAny_loadPart' hl, wpAny_pyIter_tuple hL
      exact ⟨_, rfl, h⟩
theorem enum1_call {prog : Program} {w : World} {A : Around} {E : Value → Shared → Prop} {s : Shared} {l : Addr} {items : Array Value} {tk : Tok} {Q : Value → Shared → Prop} (hL : s.heap.IsTuple l items)
    (h : ∀ h', IsEnum h' (s.heap.objs.size + 1) s.heap.objs.size 1 .none → h'.IsTupleIter s.heap.objs.size l 0 → h'.objs.size = s.heap.objs.size + 2 →
      (∀ b o, s.heap.get? b = some o → h'.get? b = some o) → Q (.ref (s.heap.objs.size + 1)) { s with heap := h' }) :
    wpAny (model prog w) A (call (.type "enumerate") [.ref l, .int 1 tk]) Q E s := by
  obtain ⟨o, hl, hc, n, hd⟩ := hL
  refine callType_new F.called_enumerate (by decide) (tc_enum2 _ _) (nc_enum2 _ _) (fun obj => F.args_object_init_3 obj _ _) F.entry_enumerate_new
    (enum1_new l items o tk hc n hd) ⟨hl, ?_⟩
  have hz : (s.heap.push { cls := .type "tuple_iterator", data := .fields #[.ref l, .int 0 0] }).objs.size = s.heap.objs.size + 1 := Heap.size_push ..
  show _ ∧ _
  rw [hz]
  have he : IsEnum ((s.heap.push { cls := .type "tuple_iterator", data := .fields #[.ref l, .int 0 0] }).push
      { cls := .type "enumerate", data := .fields #[.none, .bool false, .ref s.heap.objs.size, rawInt 1, .none, .none] }) (s.heap.objs.size + 1) s.heap.objs.size 1 .none := by
    have q := Heap.get?_push_size (s.heap.push { cls := .type "tuple_iterator", data := .fields #[.ref l, .int 0 0] })
      (o := { cls := .type "enumerate", data := .fields #[.none, .bool false, .ref s.heap.objs.size, rawInt 1, .none, .none] }) rfl
    rw [hz] at q
    exact q
  exact ⟨⟨_, he, rfl⟩, h _ he ⟨_, Heap.get?_push_of_some _ (Heap.get?_push_size _ rfl), rfl, rfl⟩ (by rw [Heap.size_push, hz]) fun b o x => Heap.get?_push_of_some _ (Heap.get?_push_of_some _ x)⟩
/-- the same draws, counted from 1 -/
theorem draws_up {prog : Program} {w : World} {A : Around} {it : Addr} {fp : List Addr} {n : Nat} {P : Nat → Value → Prop} {St : Nat → Heap → Prop} (D : Draws prog w A it fp n P St) :
    Draws prog w A it fp (n + 1) (fun j v => ∃ i, j = i + 1 ∧ P i v) (fun j h => ∃ i, j = i + 1 ∧ St i h) where
  live := fun j h st => by obtain ⟨i, _, q⟩ := st; exact D.live i h q
  frame := fun j h h' st k => by obtain ⟨i, e, q⟩ := st; exact ⟨i, e, D.frame i h h' q k⟩
  item := fun j s Q E hj st hQ => by
    obtain ⟨i, e, q⟩ := st
    exact D.item i s Q E (by omega) q fun x h' tk px st' sb => hQ x h' tk ⟨i, e, px⟩ ⟨i + 1, by omega, st'⟩ sb
  done := fun s Q E st hE => by
    obtain ⟨i, e, q⟩ := st
    obtain rfl : i = n := by omega
    exact D.done s Q E q hE
/-- the tuple at a, each item in a new pair with its place, counted from 1 -/
def Itet1 (K : PySem.W.Frag) (a : Addr) : It :=
  ⟨fun i H => ∃ (xs : List V) (x : V), SqT K H a xs ∧ xs[i]? = some x, fun i H v H' => ∃ T x, v = .ref T ∧ H T = none ∧ H' = upd H T (.tup [.int ((i + 1 : Nat) : Int), x]) ∧ ∀ xs, SqT K H a xs → xs[i]? = some x, fun i H => ∃ xs : List V, SqT K H a xs ∧ xs.length ≤ i⟩
theorem turn_enumT1 {P : Program} {w : World} {K : PySem.W.Frag} {elts : List Expr} {kk : Nat} {tpos : Pos} (a e it : Addr) :
    Turn P w K (.Tuple elts kk tpos) (Itet1 K a) [e, it] e (fun i h => (∃ old, IsEnum h e it ((i + 1 : Nat) : Int) old) ∧ h.IsTupleIter it a i ∧ e ≠ it ∧ a ≠ it ∧ a ≠ e) where
  mem := by simp
  obj := fun i h st b hb => by
    obtain ⟨⟨old, he⟩, ⟨o, ho, hc, hd⟩, _⟩ := st
    have e' : b = e ∨ b = it := by simpa using hb
    rcases e' with z | z
    · rw [z]; exact ⟨_, he, fun v q => nomatch q⟩
    · rw [z]; exact ⟨o, ho, fun v q => by rw [hd] at q; cases q⟩
  keep := fun i h h' st k => by
    obtain ⟨⟨old, he⟩, hi, hne⟩ := st
    exact ⟨⟨old, k e (by simp) _ he⟩, hi.at fun o q => k it (by simp) o q, hne⟩
  item := by
    intro X hP hw hK hc i pins s σ H E I hf st hg
    subst hP hw hK
    obtain ⟨⟨old, he⟩, hit, hne, hai, hae⟩ := st
    obtain ⟨xs, x, hq, hx⟩ := hg
    obtain ⟨its, rv, p, hz⟩ := I.tuple hq
    obtain ⟨u, hu, ru⟩ := rv.get hx
    have hel : e < s.heap.objs.size := Heap.lt_size he
    have hil : it < s.heap.objs.size := by obtain ⟨_, q, _⟩ := hit; exact Heap.lt_size q
    have hT : s.heap.IsTuple a its.toArray := p
    have hlt : i < its.toArray.size := by
      have z1 := (List.getElem?_eq_some_iff.mp hu).1
      simpa using z1
    refine wpAny_pyNext_enum_itemD (draws_up (Draws.tuple (A := X.A.in1) (I.ok.hd hc) it a hai its.toArray)) (i := i + 1) he ⟨i, rfl, hit, hT⟩ (Nat.succ_lt_succ hlt) hne (by simp [hne, Ne.symm hae]) fun y h' tk hy ho hst hT' hsz hk => ?_
    obtain ⟨i', ei, hy⟩ := hy
    obtain ⟨i'', ei', hit'⟩ := hst
    obtain rfl : i = i' := by omega
    obtain rfl : i'' = i + 1 := by omega
    obtain rfl : y = u := by
      have z1 : its.toArray[i]? = some u := by simpa using hu
      exact Option.some.inj (hy.symm.trans z1)
    refine ⟨_, rfl, wpAny_letOwnedTupleGo_enum (s := { s with heap := h', toks := tk + 1 }) ho fun h'' he' sb => ?_⟩
    have hT2 : h''.get? s.heap.objs.size = some { cls := .type "tuple", data := .seq #[.int ((i + 1 : Nat) : Int) tk, y] } := (sb.2 _ (Nat.ne_of_gt hel)).trans hT'
    have new : ObjOk X.prog X.w (upd H s.heap.objs.size (.tup [.int ((i + 1 : Nat) : Int), x])) h'' s.heap.objs.size (.tup [.int ((i + 1 : Nat) : Int), x]) :=
      ⟨by show 2 ≤ sizeLine; decide, [.int ((i + 1 : Nat) : Int) tk, y], .cons ⟨_, rfl⟩ (.cons ru .nil), ⟨_, hT2, rfl, _, rfl⟩⟩
    have I1 : L2.Inv X pins σ (upd H s.heap.objs.size (.tup [.int ((i + 1 : Nat) : Int), x])) { s with heap := h'', toks := tk + 1 } :=
      I.turnedNew (ch := [e, it]) (fun b ob hb q => (sb.2 b (fun z => hb (by simp [z]))).trans (hk b ob (fun z => hb (by simp [z])) (fun z => hb (by simp [z])) q)) hf (Nat.le_refl _) new
    refine ⟨.ref s.heap.objs.size, _, I1, rfl, ⟨_, x, rfl, I.hok.fresh (Nat.le_refl _), rfl, fun ys hy => by rw [I.tuple_inj hy hq]; exact hx⟩, ⟨⟨y, ?_⟩, hit'.1.at fun o q => (sb.2 it (Ne.symm hne)).trans q, hne, hai, hae⟩, fun b hb => ?_⟩
    · have e1 : ((i + 1 + 1 : Nat) : Int) = ((i + 1 : Nat) : Int) + 1 := by omega
      rw [e1]; exact he'
    · have hb' : b < s.heap.objs.size := by
        have e' : b = e ∨ b = it := by simpa using hb
        rcases e' with z | z
        · rw [z]; exact hel
        · rw [z]; exact hil
      rw [upd_ne (Nat.ne_of_lt hb')]
      exact (hf b hb).1
  done := by
    intro X hP hw hK hc i pins s σ H E I hf st hg
    subst hP hw hK
    obtain ⟨⟨old, he⟩, hit, hne, hai, hae⟩ := st
    obtain ⟨xs, hq, hx⟩ := hg
    obtain ⟨its, rv, p, hz⟩ := I.tuple hq
    obtain ⟨f0, f1, f2, f3, f4, f5⟩ := hf it (by simp)
    have hl := rv.length
    exact XI.enum_endT (I.ok.hd hc) he hit (show s.heap.IsTuple a its.toArray from p) (by simp; omega) fun h' eb => ⟨rfl, I.turned (t' := s.toks) (fun b o hb q => eb b o hb q) f0 f1 f3 f4 f5⟩
  self := fun A i s Q E st h => by
    obtain ⟨⟨_, he⟩, _⟩ := st
    exact wpAny_pyIter_enum he h
def iEnumT1 (K : PySem.W.Frag) (ta : TA) : TI := fun σ H R => ta σ H fun vs H1 => ∃ a xs, vs = [.ref a, .int 1] ∧ SqT K H1 a xs ∧ R (Itet1 K a) H1
theorem pi_enumT1 {X : Cx} {e e2 : Expr} {ta : TA} {p pos tpos : Pos} {elts : List Expr} {kk : Nat} (hg : Gl X "enumerate") (hm : X.mg "enumerate" = none) (ha : PA X [e, e2] ta) (hs : starEach [e, e2] X.env = (false, eval e X.env) :: starEach [e2] X.env := by rfl) (hpl : (backTo pos (starEach [e2] X.env)).any (·.1) = false := by rfl) :
    PI X (.Tuple elts kk tpos) (.Call (.Name "enumerate" p) [e, e2] [] pos) (iEnumT1 X.K ta) := by
  refine ⟨fun pins s σ H R I h => ?_⟩
  refine Call_ (ld_blt I hg hm boot_enumerate (PyProof.Rows.callWith_type1 (thn (ha.run pos pins s σ H _ I h) fun us s1 ⟨vs, H1, I1, r1, q1⟩ => ?_) hs hpl))
  obtain ⟨a, xs, ex, hq, q⟩ := q1
  subst ex
  cases r1 with
  | cons ra rr =>
    cases rr with
    | cons rb rr =>
      cases rr
      cases ra
      obtain ⟨tk, rfl⟩ := rb
      obtain ⟨its, rv, p', hz⟩ := I1.tuple hq
      have hal : a < s1.heap.objs.size := by obtain ⟨_, z, _⟩ := p'; exact Heap.lt_size z
      refine enum1_call p' fun h' he hit hsz hk => wpAny_pyIter_enum he ?_
      have I2 : L2.Inv X pins σ H1 { s1 with heap := h' } := I1.kept (t' := s1.toks) hk
      refine ⟨s1.heap.objs.size + 1, [s1.heap.objs.size + 1, s1.heap.objs.size], _, _, H1, rfl, I2, turn_enumT1 a (s1.heap.objs.size + 1) s1.heap.objs.size, ⟨⟨.none, he⟩, hit, Nat.succ_ne_self _, Nat.ne_of_lt hal, Nat.ne_of_lt (Nat.lt_succ_of_lt hal)⟩, fun b hb => ?_, q⟩
      have hle : s1.heap.objs.size ≤ b := by
        have e' : b = s1.heap.objs.size + 1 ∨ b = s1.heap.objs.size := by simpa using hb
        rcases e' with z | z
        · rw [z]; exact Nat.le_add_right _ _
        · rw [z]; exact Nat.le_refl _
      exact I1.fpOk hle (I1.hok.fresh hle)
theorem walk_enumT1 {K : PySem.W.Frag} {a : Addr} {xs : List V} : Walk (Itet1 K a) xs.length (fun H => SqT K H a xs) (YPair (fun i => some (.int ((i + 1 : Nat) : Int))) (fun i => xs[i]?)) := by
  refine ⟨fun i _ hi q => ⟨xs, xs[i], q, by simp [hi]⟩, fun _ q => ⟨xs, q, Nat.le_refl _⟩, fun i H v H' _ q y => ?_⟩
  obtain ⟨T, x, h1, h2, h3, h4⟩ := y
  exact ⟨T, .int ((i + 1 : Nat) : Int), x, h1, h2, h3, rfl, h4 xs q⟩
end XQ
namespace XQ
open PySem PySem.Spec PyProof.Rows L2 SrtO
/-! ### sorted of a tuple of ints -/
section
variable {prog : Program} {w : World} {A : Around} {E : Value → Shared → Prop} {s : Shared}
theorem sorted_tup {l : Addr} {vs : List Value} {ltv : Value → Value → Bool} {Q : Value → Shared → Prop} (O : Swo ltv) (hl : s.heap.IsTuple l vs.toArray) (hz : vs.length ≤ sizeLine)
    (hS : 2 ≤ vs.length → ∀ (h₁ : Heap) (a : Addr), h₁.get? a = some (seqObj "list" vs.toArray 0) → SortableO prog w A.in1.in1 { s with heap := h₁ } a vs ltv)
    (h : ∀ (out : List Value) (h1 h' : Heap) (p : Addr) (c : Nat), Srtd ltv out → Stb ltv out vs → (∀ b o, s.heap.get? b = some o → h1.get? b = some o) → (∀ b o, h1.get? b = some o → h'.get? b = some o) → h1.objs.size ≤ p → h'.get? p = some (seqObj "list" out.toArray c) → Q (.ref p) { s with heap := h' }) :
    wpAny (model prog w) A (call (.builtin "sorted") [.ref l]) Q E s := by
  obtain ⟨o, ho, hc, n, hd⟩ := hl
  refine Calls.call_function_entry kind_sorted plain_sorted entry_sorted (args_sorted1 _) ?_
  unfold Builtin.«sorted»
  refine wpAny_bind (m := checkCount "sorted" 1 1 _) (wpAny_pure ?_)
  refine wpAny_bind (wpAny_collect_seq l (.inr rfl) ho hc hd (fun h1 k1 => ?_) (by simpa using hz))
  have e0 : vs.toArray.toList = vs := by simp
  rw [e0]
  refine wpAny_bind (wpAny_newList ?_ hz)
  have hoL : (h1.push (seqObj "list" vs.toArray 0)).get? h1.objs.size = some (seqObj "list" vs.toArray 0) := Heap.get?_push_size _ rfl
  show wpAny _ _ _ _ _ { s with heap := h1.push (seqObj "list" vs.toArray 0) }
  refine wpAny_bind (wpAny_holding (wpAny_call_entry slot_list_sort ⟨_, hoL, rfl⟩ entry_list_sort (list_sort_ord O hoL hz (fun h2 => hS h2 _ _ hoL) fun out hs hb => ⟨_, rfl, ?_⟩) (args_list_sort _)))
  obtain ⟨c, hat⟩ := PyProof.Rows.sortedHeap_at (vs := vs) (out := out.toArray) hoL
  refine wpAny_pure ⟨_, rfl, h out h1 _ h1.objs.size c hs hb k1 (fun b u hb1 => ?_) (Nat.le_refl _) hat⟩
  have hlt := Heap.lt_size hb1
  rw [PyProof.Rows.sortedHeap_old (Nat.ne_of_lt hlt) (by rw [Heap.size_push]; exact Nat.lt_succ_of_lt hlt)]
  exact Heap.get?_push_of_some _ hb1
end
def rSortedT (K : PySem.W.Frag) : List V → Hp → VK → Prop := fun vs H Q => ∃ (a : Addr) (ns : List Int), vs = [V.ref a] ∧ SqT K H a (ns.map V.int) ∧
  ∀ (ns' : List Int) (p : Addr), ns'.Perm ns → ns'.Pairwise (· ≤ ·) → H p = none → Q (.ref p) (upd H p (.lst (ns'.map V.int)))
section
variable {X : Cx}
theorem cr_sortedT : CallR X (.builtin "sorted") (rSortedT X.K) := by
  intro pins s σ H vs us Q I r h
  obtain ⟨a, ns, rfl, hs, q⟩ := h
  obtain ⟨its, rv, hl, hz⟩ := I.tuple hs
  rw [Vals.ref1 r]
  have hi := rv.ints
  refine sorted_tup SrtO.swo_int hl (by rw [← rv.length]; exact hz) (fun h2 h₁ a' _ => SrtO.ints_sortable hi h2) fun out hm h' p c h1 h2 k0 kp hp hat => ?_
  obtain ⟨k1, k2, k3⟩ := SrtO.ints_out hi h1 h2
  have hlen : ((out.map SrtO.iv).map V.int).length ≤ sizeLine := by
    rw [List.length_map, k2.length_eq]
    rw [List.length_map] at hz
    exact hz
  have I1 : L2.Inv X pins σ H { s with heap := hm } := I.kept (t' := s.toks) k0
  exact ⟨.ref _, upd H p (.lst ((out.map SrtO.iv).map V.int)), I1.laid (t' := s.toks) kp hp ⟨hlen, out, c, vals_of_ints k1, hat⟩, rfl, q _ _ k2 k3 (I1.hok.fresh hp)⟩
end
/-! ### f(k = v, ..) -/
section
variable {X : Cx} {CX : CXT} {k : Nat} {f : Addr} {fd : FuncData} {ps ks : List Str} {sp : Sp} {E : XK} {x : Str} {p pos : Pos} {kws : List Keyword} {tk : TA} {gg : List Value → List Value → List Value} {gV : List V → List V → List V}
def tCallK0 (n : Nat) (sp : Sp) (gV : List V → List V → List V) (E : XK) (tk : TA) : TE := fun σ H Q => tk σ H fun zs H2 => zs.length = n ∧ sp (gV [] zs) H2 Q E
theorem pe_callK0 (F : FnOk X.prog X.w X.K X.mg X.base CX k f fd ps sp) (hr : Room k X.A) (hg : Gl X x) (hm : X.mg x = some (.ref f)) (hk : PySem.W.keepIn X.K (.ref f) = true) (hb : KBn X.K fd ps 0 ks gg gV) (hx : Passes CX X E) (hkw : PK X kws tk)
    (hall : (backToKw pos (keywordEach kws X.env)).all (·.1.isSome) = true := by rfl) (hks : (backToKw pos (keywordEach kws X.env)).filterMap (·.1) = ks := by rfl) (hdb : (x == ("__debug__" : Str)) = false := by decide)
    (hpl : ((backTo pos (starEach [] X.env)).any (·.1) || (backToKw pos (keywordEach kws X.env)).any (·.1.isNone)) = false := by rfl) :
    PE X (.Call (.Name x p) [] kws pos) (tCallK0 ks.length sp gV E tk) := by
  refine ⟨fun pins s σ H Q I h => ?_⟩
  refine wpAny_Call_Name_kw (ld_glob I hg hm ?_ hdb)
  refine PySem.W.callWith_KW0 (first := []) (h₀ := X.base) I.ok.mod.kin hk hall ?_ hpl
  refine thn (hkw.run pos pins s σ H _ I h) fun ws s2 ⟨zs, H2, I2, rz, l2, q2⟩ => ⟨I2.kIn, ?_⟩
  rw [hks]
  exact run_fnN (us := []) (vs := []) F hr hb hx I2 .nil rz rfl l2 q2
end
end XQ
namespace XB
open PySem PySem.Spec PyProof.Rows L2 Evl
section
variable {K : PySem.W.Frag} {σ : L2.St} {H : Hp} {t : TT} {ta tb te : TE}
/-- a comprehension over the signs of a text -/
theorem el_lcT {z : Str} {tl : TE} {j : Nat} {vs : List Nat} (v : Nat → V) (h : Ev tl σ H (.str z)) (hz : z.cps.size ≤ 40000) (hw : ∀ x, wipe ((wipe σ vs).set j (some x)) vs = wipe σ vs)
    (he : ∀ c H1, Ex H H1 → c ∈ z.cps.toList → Ev te ((wipe σ vs).set j (some (.str ⟨#[c]⟩))) H1 (v c)) :
    EvL (tLc (iStr tl) (gName j) tYes te vs) σ H (z.cps.toList.map v) := fun H0 e Q q => h H0 e _ fun H1 e1 => ⟨z, rfl, fun D hD => by
  refine lc_it walk_str (fun i G => Ex H1 G ∧ G D = some (.lst ((z.cps.toList.take i).map v))) ⟨Ex.new hD, upd_same⟩ (fun i G _ p => trivial) ?_ ?_
  · rintro i x G' G hi ⟨g1, g2⟩ ⟨rfl, c, hc, rfl⟩
    have hcl : z.cps.toList[i]? = some c := by rw [Array.getElem?_toList]; exact hc
    have m := List.mem_of_getElem? hcl
    have tk : z.cps.toList.take (i + 1) = z.cps.toList.take i ++ [c] := by rw [List.take_succ, hcl]; rfl
    refine ⟨hw _, tYes_go ?_⟩
    refine he c _ ((e.trans e1).trans g1) m _ (Ex.refl _) _ fun G3 g3 => ⟨_, g3 _ _ g2, ?_, Ex.mut (g1.trans g3) hD, ?_⟩
    · refine sz_lt ?_
      rw [List.length_map, List.length_take, Array.length_toList]
      omega
    · rw [upd_same, tk, List.map_append]
      rfl
  · rintro G ⟨g1, g2⟩
    refine q D G (fresh_back e1 hD) (e1.trans g1) ?_
    rw [g2, List.take_of_length_le (by rw [Array.length_toList]; exact Nat.le_refl _)]⟩
end
end XB
namespace T
open PySem PySem.Spec PyProof.Rows L2 Evl XB TL XS XI XC ClX
/-! ### edits -/
/-- one letter -/
def let1 (c : Nat) : Str := ⟨#[c]⟩
inductive Deed where
  | stay
  | out (n : Int)
  | sig (k : Str) (n : Int) (c : Nat)
def Deed.vs : Deed → List V
  | .stay => [.str "stay"]
  | .out n => [.str "out", .int n]
  | .sig k n c => [.str k, .int n, .str (let1 c)]
def Deed.ok (ks : List Str) : Deed → Prop
  | .stay => True
  | .out n => ("out" : Str) ∈ ks ∧ -9 ≤ n ∧ n ≤ 10 ^ 12
  | .sig k n c => k ∈ [("put" : Str), "set"] ∧ k ∈ ks ∧ -9 ≤ n ∧ n ≤ 10 ^ 12 ∧ 97 ≤ c ∧ c ≤ 122
section
variable {P : Program} {w : World} {K : PySem.W.Frag} {mg : Str → Option Value} {base : Heap} {C : Addr}
variable {σ : L2.St} {H : Hp} {ta tb tc te : TE} {tz : TS} {D' : Ends} {ks : List Str} {cs : List Cell} {x y a : Addr} {E : XK} {d : Deed}
theorem ev_isIntT {n : Int} (h : Ev ta σ H (.int n)) : Ev (tCB (rIsi K) (tCons ta (tCons (tC (.ty "int")) tNil))) σ H (.bl true) := ev_isi h (fun _ _ => .base (.int n)) (by decide +kernel)
theorem ev_isBoolI {n : Int} (h : Ev ta σ H (.int n)) : Ev (tCB (rIsi K) (tCons ta (tCons (tC (.ty "bool")) tNil))) σ H (.bl false) := ev_isi h (fun _ _ => .base (.int n)) (by decide +kernel)
theorem ev_chain {r r' : R2} {x y z : V} {a b : Bool} (h : Ev ta σ H x) (h2 : Ev tb σ H y) (h3 : Ev tc σ H z) (hr : RV r x y H (.bl a)) (hr' : a = true → RV r' y z H (.bl b)) : Ev (tChain r r' ta tb tc) σ H (.bl (a && b)) := fun H1 e Q q =>
  h H1 e _ fun H2 e2 => h2 H2 (e.trans e2) _ fun H3 e3 => hr H3 ((e.trans e2).trans e3) _ fun H4 e4 => ⟨a, rfl, by
    cases a with
    | true => exact iteT (h3 H4 (((e.trans e2).trans e3).trans e4) _ fun H5 e5 => hr' rfl H5 ((((e.trans e2).trans e3).trans e4).trans e5) _ fun H6 e6 => q H6 ((((e2.trans e3).trans e4).trans e5).trans e6))
    | false => exact iteF (q H4 ((e2.trans e3).trans e4))⟩
theorem one_lt {c d : Nat} : ([c] < [d]) ↔ c < d := by
  rw [List.cons_lt_cons_iff]
  constructor
  · rintro (h | ⟨_, h⟩)
    · exact h
    · cases h
  · exact .inl
theorem rv_leS {x y : Str} : RV (fun x y H Q => ∃ i j, x = .str i ∧ y = .str j ∧ Q (.bl (!decide (j.cps.toList < i.cps.toList))) H) (.str x) (.str y) H (.bl (!decide (y.cps.toList < x.cps.toList))) := fun H1 _ _ q => ⟨x, y, rfl, rfl, q H1 (Ex.refl H1)⟩
theorem rv_ltS {x y : Str} : RV (fun x y H Q => ∃ i j, x = .str i ∧ y = .str j ∧ Q (.bl (decide (i.cps.toList < j.cps.toList))) H) (.str x) (.str y) H (.bl (decide (x.cps.toList < y.cps.toList))) := fun H1 _ _ q => ⟨x, y, rfl, rfl, q H1 (Ex.refl H1)⟩
theorem ev_lenStr {x : Str} (h : Ev ta σ H (.str x)) (hz : x.length ≤ sizeLine) : Ev (tCB (fun xs H Q => ∃ z, xs = [.str z] ∧ z.length ≤ sizeLine ∧ Q (.int z.length) H) (tCons ta tNil)) σ H (.int (x.length : Nat)) := fun H1 e Q q => h H1 e _ fun H2 e2 => ⟨x, rfl, hz, q H2 e2⟩
/-! ### is_integer -/
def spInt : Sp := fun vs H Q _ => ∃ n : Int, vs = [.int n] ∧ ∀ H', Ex H H' → Q (.bl true) H'
theorem c_isInt (D : At K mg "is_integer" s_is_integer ["value"]) (B : Bl mg) (hi : mg "int" = none) : C8.Cal P w K mg base 1 "is_integer" spInt [] := by
  refine cal_of D sc_is_integer (fun vs H Q E h => ?_) (fun f cdv A outer s H vs Q E hr h => ?_)
  · obtain ⟨n, rfl, _⟩ := h
    rfl
  · obtain ⟨n, rfl, q⟩ := h
    refine ⟨_, pss_one (ps_ret (pe_and (pe_callB call_isi (by rfl) B.isin (by decide +kernel) (pa_cons (pv 0) (pa_cons (pe_bltn (v := .ty "int") (by rfl) hi (by decide +kernel) rfl) pa_nil)))
      (pe_one (pe_not (pe_callB call_isi (by rfl) B.isin (by decide +kernel) (pa_cons (pv 0) (pa_cons (pe_bltn (v := .ty "bool") (by rfl) B.bool (by decide +kernel) rfl) pa_nil))))))), ?_⟩
    exact s_ret (ev_andV (ev_isIntT (ev_var rfl)) (fun _ => ev_notV (ev_isBoolI (ev_var rfl)))) fun H1 e1 => q H1 e1
theorem ev_int {n : Int} (h : Ev ta σ H (.int n)) : Ev (tCall spInt [] E (tCons ta tNil)) σ H (.bl true) := ev_call (ea_cons h ea_nil) fun H1 e Q q E => ⟨n, rfl, q⟩
/-! ### is_place -/
def spPlace : Sp := fun vs H Q _ => ∃ n : Int, vs = [.int n] ∧ -9 ≤ n ∧ n ≤ 10 ^ 12 ∧ ∀ H', Ex H H' → Q (.bl true) H'
theorem c_isPlace (D : At K mg "is_place" s_is_place ["value"]) {t1 t2 : Tok} (lo : mg "LEAST_PLACE" = some (.int (-9) t1)) (hi : mg "MOST_PLACE" = some (.int (10 ^ 12) t2)) (C1 : C8.Cal P w K mg base 1 "is_integer" spInt []) : C8.Cal P w K mg base 2 "is_place" spPlace [] := by
  refine cal_of D sc_is_place (fun vs H Q E h => ?_) (fun f cdv A outer s H vs Q E hr h => ?_)
  · obtain ⟨n, rfl, _⟩ := h
    rfl
  · obtain ⟨n, rfl, h1, h2, q⟩ := h
    refine ⟨_, pss_one (ps_ret (pe_and (C8.pe_c C1 hr (by decide) (by rfl) (pa_cons (pv 0) pa_nil)) (pe_one (pe_chain op_le op_le (pe_glob (v := .int (-9)) (by rfl) lo ⟨_, rfl⟩) (pv 0) (pe_glob (v := .int (10 ^ 12)) (by rfl) hi ⟨_, rfl⟩))))), ?_⟩
    exact s_ret (ev_is (ev_andV (ev_int (ev_var rfl)) (fun _ => ev_chain ev_c (ev_var rfl) ev_c rv_I0 (fun _ => rv_I0))) (by rw [decide_eq_true h1, decide_eq_true h2]; rfl)) fun H1 e1 => q H1 e1
/-! ### is_sign -/
def spSign : Sp := fun vs H Q _ => ∃ c : Nat, vs = [.str (let1 c)] ∧ 97 ≤ c ∧ c ≤ 122 ∧ ∀ H', Ex H H' → Q (.bl true) H'
theorem c_isSign (D : At K mg "is_sign" s_is_sign ["value"]) (B : Bl mg) : C8.Cal P w K mg base 1 "is_sign" spSign [] := by
  refine cal_of D sc_is_sign (fun vs H Q E h => ?_) (fun f cdv A outer s H vs Q E hr h => ?_)
  · obtain ⟨n, rfl, _⟩ := h
    rfl
  · obtain ⟨c, rfl, h1, h2, q⟩ := h
    refine ⟨_, pss_one (ps_ret (pe_and (pe_callB call_isi (by rfl) B.isin (by decide +kernel) (pa_cons (pv 0) (pa_cons (pe_bltn (v := .ty "str") (by rfl) B.str (by decide +kernel) rfl) pa_nil)))
      (pe_and (pe_cmpR op_eq (pe_callB call_len_str (by rfl) B.len (by decide +kernel) (pa_cons (pv 0) pa_nil)) pe_int (nomark _)) (pe_one (pe_chain op_le_str op_le_str pe_str (pv 0) pe_str))))), ?_⟩
    exact s_ret (ev_is (ev_andV (ev_isStr (ev_var rfl)) (fun _ => ev_andV (ev_op (ev_lenStr (ev_var rfl) (by show 1 ≤ sizeLine; decide)) ev_c (rv_eq rfl)) (fun _ => ev_chain ev_c (ev_var rfl) ev_c rv_leS (fun _ => rv_leS)))) (by
      have n1 : ¬ ((let1 c).cps.toList < ("a" : Str).cps.toList) := fun z => by
        have := one_lt.mp (show [c] < [97] from z)
        omega
      have n2 : ¬ ((("z" : Str).cps.toList) < (let1 c).cps.toList) := fun z => by
        have := one_lt.mp (show [122] < [c] from z)
        omega
      rw [decide_eq_false n1, decide_eq_false n2]
      rfl)) fun H1 e1 => q H1 e1
theorem ev_sign {c : Nat} (h : Ev ta σ H (.str (let1 c))) (h1 : 97 ≤ c) (h2 : c ≤ 122) : Ev (tCall spSign [] E (tCons ta tNil)) σ H (.bl true) := ev_call (ea_cons h ea_nil) fun H1 e Q q E => ⟨c, rfl, h1, h2, q⟩
theorem ev_place {n : Int} (h : Ev ta σ H (.int n)) (h1 : -9 ≤ n) (h2 : n ≤ 10 ^ 12) : Ev (tCall spPlace [] E (tCons ta tNil)) σ H (.bl true) := ev_call (ea_cons h ea_nil) fun H1 e Q q E => ⟨n, rfl, h1, h2, q⟩
/-! ### is_edit -/
theorem word_S {x : Str} {ws : List Str} (ha : Ev ta σ H (.str x)) (hb : EvS K tb σ H (sl ws)) : Ev (tCall (spWord K) [] E (tCons ta (tCons tb tNil))) σ H (.bl (decide (x ∈ ws))) := fun H1 e Q q =>
  ha H1 e _ fun H2 e2 => hb H2 (e.trans e2) _ fun p H3 e3 hp => ⟨x, p, ws, rfl, hp, fun H4 e4 => q H4 ((e2.trans e3).trans e4)⟩
def spEdit (K : PySem.W.Frag) : Sp := fun vs H Q _ => ∃ (a : Addr) (ks : List Str) (d : Deed), vs = [.ref a] ∧ SqT K H a d.vs ∧ d.ok ks ∧ ∀ H', Ex H H' → Q (.bl true) H'
theorem c_isEdit (D : At K mg "is_edit" s_is_edit ["value"]) (B : Bl mg) (T : TupC K mg "KINDS_WITH_SIGN" ["put", "set"]) (Cw : C8.Cal P w K mg base 1 "is_word" (spWord K) []) (Cp : C8.Cal P w K mg base 2 "is_place" spPlace []) (Cs : C8.Cal P w K mg base 1 "is_sign" spSign []) : C8.Cal P w K mg base 3 "is_edit" (spEdit K) [] := by
  obtain ⟨ak, mk, hK⟩ := T.ex
  refine cal_of D sc_is_edit (fun vs H Q E h => ?_) (fun f cdv A outer s H vs Q E hr h => ?_)
  · obtain ⟨a, ks, d, rfl, _⟩ := h
    rfl
  · obtain ⟨a, ks, d, rfl, ha, ok, q⟩ := h
    refine ⟨_, pss_cons (ps_if (PW.pt (pw_or (pt_not (pt_val (pe_callB call_isi (by rfl) B.isin (by decide +kernel) (pa_cons (pv 0) (pa_cons (pe_bltn (v := .ty "tuple") (by rfl) B.tuple (by decide +kernel) rfl) pa_nil))))) (pw_or1 (pt_cmpR op_eq (pe_callB call_len_seq (by rfl) B.len (by decide +kernel) (pa_cons (pv 0) pa_nil)) pe_int (nomark _))))) (pss_one (ps_ret pe_bl)) pss_nil)
      (pss_cons (ps_if (pt_val (C8.pe_c Cw hr (by decide) (by rfl) (pa_cons (pe_ix ix_tup (pv 0) pe_int (fun _ _ => rfl)) (pa_cons (pe_glob (v := .ref ak) (by rfl) mk rfl) pa_nil))))
          (pss_one (ps_ret (pe_and (pe_cmpR op_eq (pe_callB call_len_seq (by rfl) B.len (by decide +kernel) (pa_cons (pv 0) pa_nil)) pe_int (nomark _)) (pe_and (C8.pe_c Cp hr (by decide) (by rfl) (pa_cons (pe_ix ix_tup (pv 0) pe_int (fun _ _ => rfl)) pa_nil)) (pe_one (C8.pe_c Cs hr (by decide) (by rfl) (pa_cons (pe_ix ix_tup (pv 0) pe_int (fun _ _ => rfl)) pa_nil))))))) pss_nil)
      (pss_cons (ps_if (pt_val (C8.pe_c Cw hr (by decide) (by rfl) (pa_cons (pe_ix ix_tup (pv 0) pe_int (fun _ _ => rfl)) (pa_cons (pe_tup (pa_cons pe_str pa_nil)) pa_nil))))
          (pss_one (ps_ret (pe_and (pe_cmpR op_eq (pe_callB call_len_seq (by rfl) B.len (by decide +kernel) (pa_cons (pv 0) pa_nil)) pe_int (nomark _)) (pe_one (C8.pe_c Cp hr (by decide) (by rfl) (pa_cons (pe_ix ix_tup (pv 0) pe_int (fun _ _ => rfl)) pa_nil)))))) pss_nil)
      (pss_one (ps_ret (pe_and (C8.pe_c Cw hr (by decide) (by rfl) (pa_cons (pe_ix ix_tup (pv 0) pe_int (fun _ _ => rfl)) (pa_cons (pe_tup (pa_cons pe_str pa_nil)) pa_nil))) (pe_one (pe_cmpR op_eq (pe_callB call_len_seq (by rfl) B.len (by decide +kernel) (pa_cons (pv 0) pa_nil)) pe_int (nomark _)))))))), ?_⟩
    have gl : ∀ {H1 : Hp} {σ : L2.St}, Ex H H1 → σ[0]? = some (some (.ref a)) → Ev (tCB (rLenS K) (tCons (tVar 0) tNil)) σ H1 (.int (d.vs.length : Int)) := fun e h0 => ev_lenS (ev_var h0) (.inr (ex_t e ha))
    have gi : ∀ {H1 : Hp} {σ : L2.St} (j : Nat) (v : V), Ex H H1 → σ[0]? = some (some (.ref a)) → d.vs[j]? = some v → Ev (tOp (rIxT K) (tVar 0) (tC (.int (j : Nat)))) σ H1 v := fun j v e h0 hj => ev_ixT (ev_var h0) ev_c (ex_t e ha) (atI_nat hj)
    refine q_when (b := false) (et_is (et_or (et_not (et_B (ev_isTup (ev_var rfl) ha))) (fun _ => et_test (ev_op (gl (Ex.refl H) rfl) ev_c (rv_eq rfl)))) (by cases d <;> rfl)) (fun z => by cases z) (fun _ H1 e1 => ?_)
    cases d with
    | stay =>
      refine q_when (b := false) (et_is (et_B (word_at (gi 0 (.str "stay") e1 rfl rfl) ev_c (hK _))) (by decide +kernel)) (fun z => by cases z) (fun _ H2 e2 => ?_)
      have e12 := e1.trans e2
      refine q_when (b := false) (et_is (et_B (word_S (ws := ["out"]) (gi 0 (.str "stay") e12 rfl rfl) (es_new (eu_tup (ea_str ea_nil) (by decide))))) (by decide +kernel)) (fun z => by cases z) (fun _ H3 e3 => ?_)
      have e13 := e12.trans e3
      exact s_ret (ev_is (ev_andV (word_S (ws := ["stay"]) (gi 0 (.str "stay") e13 rfl rfl) (es_new (eu_tup (ea_str ea_nil) (by decide)))) (fun _ => ev_op (gl e13 rfl) ev_c (rv_eq rfl))) (by decide +kernel)) fun H4 e4 => q H4 (e13.trans e4)
    | out n =>
      obtain ⟨o1, o2, o3⟩ := ok
      refine q_when (b := false) (et_is (et_B (word_at (gi 0 (.str "out") e1 rfl rfl) ev_c (hK _))) (by decide +kernel)) (fun z => by cases z) (fun _ H2 e2 => ?_)
      have e12 := e1.trans e2
      refine q_when (b := true) (et_is (et_B (word_S (ws := ["out"]) (gi 0 (.str "out") e12 rfl rfl) (es_new (eu_tup (ea_str ea_nil) (by decide))))) (by decide +kernel)) (fun _ H3 e3 => ?_) (fun z => by cases z)
      have e13 := e12.trans e3
      exact s_ret (ev_is (ev_andV (ev_op (gl e13 rfl) ev_c (rv_eq rfl)) (fun _ => ev_place (gi 1 (.int n) e13 rfl rfl) o2 o3)) rfl) fun H4 e4 => q H4 (e13.trans e4)
    | sig k n c =>
      obtain ⟨o1, o2, o3, o4, o5, o6⟩ := ok
      refine q_when (b := true) (et_is (et_B (word_at (gi 0 (.str k) e1 rfl rfl) ev_c (hK _))) (decide_eq_true o1)) (fun _ H2 e2 => ?_) (fun z => by cases z)
      have e12 := e1.trans e2
      exact s_ret (ev_is (ev_andV (ev_op (gl e12 rfl) ev_c (rv_eq rfl)) (fun _ => ev_andV (ev_place (gi 1 (.int n) e12 rfl rfl) o3 o4) (fun _ => ev_sign (gi 2 (.str (let1 c)) e12 rfl rfl) o5 o6))) rfl) fun H4 e4 => q H4 (e12.trans e4)
end
end T
namespace T
open PySem PySem.Spec PyProof.Rows L2 Evl XB TL XS XI XC ClX
def Deed.hd : Deed → Str
  | .stay => "stay"
  | .out _ => "out"
  | .sig k _ _ => k
theorem Deed.hd_at (d : Deed) : d.vs[0]? = some (.str d.hd) := by cases d <;> rfl
theorem Deed.hd_ok {ks : List Str} {d : Deed} (h : d.ok ks) : (decide (d.hd = "stay") || decide (d.hd ∈ ks)) = true := by
  cases d with
  | stay => rfl
  | out n => rw [decide_eq_true (show Deed.hd (.out n) ∈ ks from h.1), Bool.or_true]
  | sig k n c => rw [decide_eq_true (show Deed.hd (.sig k n c) ∈ ks from h.2.1), Bool.or_true]
def Deed.len3 : Deed → Bool
  | .sig _ _ _ => true
  | _ => false
theorem Deed.len3_eq (d : Deed) : decide (V.int (d.vs.length : Int) = V.int 3) = d.len3 := by cases d <;> rfl
/-- by the order of two -/
def pick3 {α : Type} (lt eq : Bool) (a b c : α) : α := if lt = true then a else if eq = true then b else c
section
variable {P : Program} {w : World} {K : PySem.W.Frag} {mg : Str → Option Value} {base : Heap} {C : Addr}
variable {σ : L2.St} {H : Hp} {ta tb tc te : TE} {tz : TS} {D' : Ends} {ks : List Str} {cs : List Cell} {x y a b : Addr} {E : XK} {d : Deed}
/-! ### is_edit_of -/
def spEditOf (K : PySem.W.Frag) : Sp := fun vs H Q _ => ∃ (a b : Addr) (ks : List Str) (d : Deed), vs = [.ref a, .ref b] ∧ SqT K H a d.vs ∧ SqT K H b (sl ks) ∧ d.ok ks ∧ ∀ H', Ex H H' → Q (.bl true) H'
theorem ev_edit (h : Ev ta σ H (.ref a)) (ha : SqT K H a d.vs) (ok : d.ok ks) : Ev (tCall (spEdit K) [] E (tCons ta tNil)) σ H (.bl true) := ev_call (ea_cons h ea_nil) fun H1 e Q q E => ⟨a, ks, d, rfl, ex_t e ha, ok, q⟩
theorem c_isEditOf (D : At K mg "is_edit_of" s_is_edit_of ["value", "kinds"]) (C1 : C8.Cal P w K mg base 3 "is_edit" (spEdit K) []) : C8.Cal P w K mg base 4 "is_edit_of" (spEditOf K) [] := by
  refine cal_of D sc_is_edit_of (fun vs H Q E h => ?_) (fun f cdv A outer s H vs Q E hr h => ?_)
  · obtain ⟨a, b, ks, d, rfl, _⟩ := h
    rfl
  · obtain ⟨a, b, ks, d, rfl, ha, hb, ok, q⟩ := h
    refine ⟨_, pss_one (ps_ret (pe_and (C8.pe_c C1 hr (by decide) (by rfl) (pa_cons (pv 0) pa_nil)) (pe_one (pe_or (pe_cmpR op_eq (pe_ix ix_tup (pv 0) pe_int (fun _ _ => rfl)) pe_str (nomark _)) (pe_one (pe_cmpR op_in_seq (pe_ix ix_tup (pv 0) pe_int (fun _ _ => rfl)) (pv 1) (by rfl))))))), ?_⟩
    have gi : ∀ {H1 : Hp} {σ : L2.St}, Ex H H1 → σ[0]? = some (some (.ref a)) → Ev (tOp (rIxT K) (tVar 0) (tC (.int 0))) σ H1 (.str d.hd) := fun e h0 => ev_ixT (ev_var h0) ev_c (ex_t e ha) (atI_nat (j := 0) d.hd_at)
    exact s_ret (ev_is (ev_andV (ev_edit (ev_var rfl) ha ok) (fun _ => ev_orV (ev_eqS (gi (Ex.refl H) rfl) ev_c) (fun _ => ev_inT (gi (Ex.refl H) rfl) (ev_var rfl) hb))) (by rw [Deed.hd_ok ok]; rfl)) fun H1 e1 => q H1 e1
/-! ### compared -/
/-- two numbers, or two letters -/
inductive Two : V → V → Bool → Bool → Prop
  | int (n m : Int) : Two (.int n) (.int m) (decide (n < m)) (decide (n = m))
  | let1 (c e : Nat) : Two (.str (let1 c)) (.str (let1 e)) (decide (c < e)) (decide (c = e))
def spCmp (K : PySem.W.Frag) : Sp := fun vs H Q _ => ∃ (u v : V) (b : Addr) (lt eq : Bool) (s0 s1 s2 : Str), vs = [u, v, .ref b] ∧ Two u v lt eq ∧ SqT K H b (sl [s0, s1, s2]) ∧ ∀ H', Ex H H' → Q (.str (pick3 lt eq s0 s1 s2)) H'
theorem Two.eq {u v : V} {lt eq : Bool} (t : Two u v lt eq) (ha : Ev ta σ H u) (hb : Ev tb σ H v) : Ev (tOp rEq ta tb) σ H (.bl eq) := by
  cases t with
  | int n m => exact ev_is (ev_op ha hb (rv_eq rfl)) (by
      by_cases h : n = m
      · rw [h, decide_eq_true rfl, decide_eq_true rfl]
      · rw [decide_eq_false h, decide_eq_false fun z => h (by injection z)])
  | let1 c e => exact ev_is (ev_op ha hb (rv_eq rfl)) (by
      by_cases h : c = e
      · rw [h, decide_eq_true rfl, decide_eq_true rfl]
      · rw [decide_eq_false h, decide_eq_false fun z => h (by injection z with z; injection z with z; injection z with z; injection z with z)])
def rLtA : R2 := fun x y H Q => (∃ i j, x = .int i ∧ y = .int j ∧ Q (.bl (decide (i < j))) H) ∨ ∃ i j, x = .str i ∧ y = .str j ∧ Q (.bl (decide (i.cps.toList < j.cps.toList))) H
theorem op_ltA {X : Cx} : OpR X (compareOp .Lt) rLtA := op_lt.or op_lt_str
theorem Two.lt {u v : V} {lt eq : Bool} (t : Two u v lt eq) (ha : Ev ta σ H u) (hb : Ev tb σ H v) : Ev (tOp rLtA ta tb) σ H (.bl lt) := by
  cases t with
  | int n m => exact ev_op ha hb fun H1 e Q q => .inl ⟨n, m, rfl, rfl, q H1 (Ex.refl H1)⟩
  | let1 c e => exact ev_is (ev_op ha hb fun H1 e Q q => .inr ⟨_, _, rfl, rfl, q H1 (Ex.refl H1)⟩) (by
      show V.bl (decide ([c] < [e])) = _
      rw [decide_eq_decide.mpr one_lt])
theorem c_cmp (D : At K mg "compared" s_compared ["mine", "its", "words"]) : C8.Cal P w K mg base 1 "compared" (spCmp K) [] := by
  refine cal_of D sc_compared (fun vs H Q E h => ?_) (fun f cdv A outer s H vs Q E hr h => ?_)
  · obtain ⟨u, v, b, lt, eq, s0, s1, s2, rfl, _⟩ := h
    rfl
  · obtain ⟨u, v, b, lt, eq, s0, s1, s2, rfl, t, hb, q⟩ := h
    refine ⟨_, pss_cons (ps_if (pt_cmpR op_ltA (pv 0) (pv 1) (nomark _)) (pss_one (ps_ret (pe_ix ix_tup (pv 2) pe_int (fun _ _ => rfl)))) pss_nil)
      (pss_cons (ps_if (pt_cmpR op_eq (pv 0) (pv 1) (nomark _)) (pss_one (ps_ret (pe_ix ix_tup (pv 2) pe_int (fun _ _ => rfl)))) pss_nil)
      (pss_one (ps_ret (pe_ix ix_tup (pv 2) pe_int (fun _ _ => rfl))))), ?_⟩
    refine q_when (et_test (t.lt (ev_var rfl) (ev_var rfl))) (fun z H1 e1 => ?_) (fun z H1 e1 => ?_)
    · subst z
      exact s_ret (ev_ixT (ev_var rfl) ev_c (ex_t e1 hb) (atI_nat (j := 0) rfl)) fun H2 e2 => q H2 (e1.trans e2)
    · subst z
      refine q_when (et_test (t.eq (ev_var rfl) (ev_var rfl))) (fun z H2 e2 => ?_) (fun z H2 e2 => ?_)
      · subst z
        exact s_ret (ev_ixT (ev_var rfl) ev_c (ex_t (e1.trans e2) hb) (atI_nat (j := 1) rfl)) fun H3 e3 => q H3 ((e1.trans e2).trans e3)
      · subst z
        exact s_ret (ev_ixT (ev_var rfl) ev_c (ex_t (e1.trans e2) hb) (atI_nat (j := 2) rfl)) fun H3 e3 => q H3 ((e1.trans e2).trans e3)
theorem ev_cmp {u v : V} {lt eq : Bool} {s0 s1 s2 : Str} (h1 : Ev ta σ H u) (h2 : Ev tb σ H v) (h3 : Ev tc σ H (.ref b)) (t : Two u v lt eq) (hb : SqT K H b (sl [s0, s1, s2])) : Ev (tCall (spCmp K) [] E (tCons ta (tCons tb (tCons tc tNil)))) σ H (.str (pick3 lt eq s0 s1 s2)) :=
  ev_call (ea_cons h1 (ea_cons h2 (ea_cons h3 ea_nil))) fun H1 e Q q E => ⟨u, v, b, lt, eq, s0, s1, s2, rfl, t, ex_t e hb, q⟩
theorem es_catA {xs ys : List V} (ha : EvS K ta σ H xs) (hb : EvS K tb σ H ys) (hz : xs.length + ys.length ≤ 100000) : EvS K (tOp (rCatA K) ta tb) σ H (xs ++ ys) := fun H1 e Q q =>
  ha H1 e _ fun p H2 e2 h2 => hb H2 (e.trans e2) _ fun r H3 e3 h3 => ⟨p, r, xs, ys, rfl, rfl, ex_t e3 h2, h3, sz_of hz, (fun z => by
      subst z
      exact q r H3 (e2.trans e3) h3), (fun _ z => by
      subst z
      exact q p H3 (e2.trans e3) (by rw [List.append_nil]; exact ex_t e3 h2)),
    fun _ _ l nl => q l _ ((e2.trans e3).trans (Ex.new nl)) (st_of upd_same)⟩
/-! ### conditions_met -/
def metOf (d e : Deed) (first : Bool) : List Str := (if first = true then [("first" : Str)] else []) ++ (match d, e with
  | .sig _ _ c, .sig _ _ c' => [pick3 (decide (c < c')) (decide (c = c')) ("less" : Str) "same" "more"]
  | _, _ => [])
def spMet (K : PySem.W.Frag) : Sp := fun vs H Q _ => ∃ (a b : Addr) (d e : Deed) (first : Bool), vs = [.ref a, .ref b, .bl first] ∧ SqT K H a d.vs ∧ SqT K H b e.vs ∧ ∀ l H', Ex H H' → SqT K H' l (sl (metOf d e first)) → Q (.ref l) H'
theorem c_met (D : At K mg "conditions_met" s_conditions_met ["edit", "past", "first"]) (B : Bl mg) (T : TupC K mg "SIGN_CONDITIONS" ["less", "same", "more"]) (C1 : C8.Cal P w K mg base 1 "compared" (spCmp K) []) : C8.Cal P w K mg base 2 "conditions_met" (spMet K) [] := by
  obtain ⟨ak, mk, hK⟩ := T.ex
  refine cal_of D sc_conditions_met (fun vs H Q E h => ?_) (fun f cdv A outer s H vs Q E hr h => ?_)
  · obtain ⟨a, b, d, e, first, rfl, _⟩ := h
    rfl
  · obtain ⟨a, b, d, e, first, rfl, ha, hb, q⟩ := h
    refine ⟨_, pss_cons (ps_set (i := 3) sc_conditions_met.nd rfl (.inl rfl) (pe_ifExp (pt_val (pv 2)) (pe_tup (pa_cons pe_str pa_nil)) (pe_tup pa_nil)))
      (pss_cons (ps_if (PW.pt (pw_and (pt_cmpR op_eq (pe_callB call_len_seq (by rfl) B.len (by decide +kernel) (pa_cons (pv 0) pa_nil)) pe_int (nomark _)) (pw_and1 (pt_cmpR op_eq (pe_callB call_len_seq (by rfl) B.len (by decide +kernel) (pa_cons (pv 1) pa_nil)) pe_int (nomark _))))) (pss_one (ps_ret (pe_op op_catA (pv 3) (pe_tup (pa_cons (C8.pe_c C1 hr (by decide) (by rfl) (pa_cons (pe_ix ix_tup (pv 0) pe_int (fun _ _ => rfl)) (pa_cons (pe_ix ix_tup (pv 1) pe_int (fun _ _ => rfl)) (pa_cons (pe_glob (v := .ref ak) (by rfl) mk rfl) pa_nil)))) pa_nil))))) pss_nil)
      (pss_one (ps_ret (pv 3)))), ?_⟩
    have gl : ∀ {H1 : Hp} {σ : L2.St}, Ex H H1 → σ[0]? = some (some (.ref a)) → Ev (tCB (rLenS K) (tCons (tVar 0) tNil)) σ H1 (.int (d.vs.length : Int)) := fun z h0 => ev_lenS (ev_var h0) (.inr (ex_t z ha))
    have gl' : ∀ {H1 : Hp} {σ : L2.St}, Ex H H1 → σ[1]? = some (some (.ref b)) → Ev (tCB (rLenS K) (tCons (tVar 1) tNil)) σ H1 (.int (e.vs.length : Int)) := fun z h0 => ev_lenS (ev_var h0) (.inr (ex_t z hb))
    refine q_asgS (K := K) (xs := sl (if first = true then [("first" : Str)] else [])) (es_if (et_B (ev_var rfl)) (fun z => by rw [if_pos z]; exact es_new (eu_tup (ea_str ea_nil) (by decide))) (fun z => by rw [if_neg (by rw [z]; decide)]; exact es_new (eu_tup ea_nil (by decide)))) fun m H1 e1 h1 => ?_
    have out : ∀ {H2 : Hp}, Ex H1 H2 → metOf d e first = (if first = true then [("first" : Str)] else []) → tRet (tVar 3) { nx := fun x H' => Q V.non H', rt := Q } [some (.ref a), some (.ref b), some (.bl first), some (.ref m)] H2 := fun {H2} z w => s_retS (es_at (ev_var rfl) (ex_t z h1)) fun p H3 e3 h3 => q p H3 ((e1.trans z).trans e3) (by rw [w]; exact h3)
    refine q_when (b := d.len3 && e.len3) (et_and (et_test (ev_is (ev_op (gl e1 rfl) ev_c (rv_eq rfl)) (by rw [Deed.len3_eq]))) (fun _ => et_test (ev_is (ev_op (gl' e1 rfl) ev_c (rv_eq rfl)) (by rw [Deed.len3_eq])))) (fun z H2 e2 => ?_) (fun z H2 e2 => ?_)
    · cases d with
      | stay => cases z
      | out n => cases z
      | sig k n c => cases e with
        | stay => cases z
        | out n => cases z
        | sig k' n' c' =>
          have e12 := e1.trans e2
          refine s_retS (es_is (es_catA (xs := sl (if first = true then [("first" : Str)] else [])) (ys := sl [pick3 (decide (c < c')) (decide (c = c')) ("less" : Str) "same" "more"]) (es_at (ev_var rfl) (ex_t e2 h1)) (es_new (eu_tup (ea_cons (ev_cmp (ev_ixT (ev_var rfl) ev_c (ex_t e12 ha) (atI_nat (j := 2) rfl)) (ev_ixT (ev_var rfl) ev_c (ex_t e12 hb) (atI_nat (j := 2) rfl)) ev_c (.let1 c c') (hK _)) ea_nil) (by show 1 ≤ 100000; decide))) ?_) (sl_cat _ _)) fun p H3 e3 h3 => q p H3 (e12.trans e3) h3
          split
          · show 1 + 1 ≤ 100000
            decide
          · show 0 + 1 ≤ 100000
            decide
    · refine out e2 ?_
      cases d <;> cases e <;> first | exact List.append_nil _ | (cases z)
end
end T
namespace T
open PySem PySem.Spec PyProof.Rows L2 Evl XB TL XS XI XC ClX
def jn (p : Str × Str) : Str := p.1 ++ ":" ++ p.2
def chosenOf (ps : List (Str × Str)) (z : Str) (ms : List Str) : Str := ((ps.find? fun p => decide (p.1 ∈ ms)).map (·.2)).getD z
theorem chosen_at {ps : List (Str × Str)} {z : Str} {ms : List Str} : ∀ {i : Nat} {p : Str × Str}, (∀ q ∈ ps.take i, q.1 ∉ ms) → ps[i]? = some p → p.1 ∈ ms → chosenOf ps z ms = p.2 := by
  induction ps with
  | nil => intro i p _ h; cases h
  | cons q r ih =>
    intro i p hn h hp
    unfold chosenOf
    cases i with
    | zero =>
      have e : q = p := by injection h
      rw [List.find?_cons, e, decide_eq_true hp]
      rfl
    | succ i =>
      have nq := hn q (by rw [List.take_succ_cons]; exact List.mem_cons_self)
      rw [List.find?_cons, decide_eq_false nq]
      exact ih (fun y hy => hn y (by rw [List.take_succ_cons]; exact List.mem_cons_of_mem _ hy)) (show r[i]? = some p from h) hp
theorem chosen_none {ps : List (Str × Str)} {z : Str} {ms : List Str} (h : ∀ q ∈ ps, q.1 ∉ ms) : chosenOf ps z ms = z := by
  unfold chosenOf
  rw [List.find?_eq_none.mpr fun q hq => by rw [decide_eq_true_eq]; exact h q hq]
  rfl
section
variable {P : Program} {w : World} {K : PySem.W.Frag} {mg : Str → Option Value} {base : Heap} {C : Addr}
variable {σ : L2.St} {H : Hp} {ta tb tc te : TE} {tz ts : TS} {D' : Ends} {ks : List Str} {cs : List Cell} {x y a b : Addr} {E : XK} {d : Deed} {xs : List V} {g : TG}
theorem s_forS (h : EvS K te σ H xs) (Pv : Hp → Nat → L2.St → Hp → Prop) (h0 : ∀ H1, Ex H H1 → Pv H1 0 σ H1) (hx : ∀ H1 i σ' G, Pv H1 i σ' G → Ex H1 G)
    (hs : ∀ H1 i x σ' G, Ex H H1 → xs[i]? = some x → Pv H1 i σ' G → g x σ' G fun σ2 H2 => ts { D' with nx := Pv H1 (i + 1), ct := Pv H1 (i + 1), bk := D'.nx } σ2 H2) (hd : ∀ H1 σ' G, Ex H H1 → Pv H1 xs.length σ' G → D'.nx σ' G) : tFor (iTup K te) g ts D' σ H :=
  h H (Ex.refl H) _ fun p H1 e1 hp => ⟨p, rfl, ⟨_, hp⟩, for_tup (Pv H1) (h0 H1 e1) (fun i σ' G _ q => ex_t (hx H1 i σ' G q) hp) (fun i x σ' G hi q => hs H1 i x σ' G e1 hi q) (fun σ' G q => hd H1 σ' G e1 q)⟩
theorem eu_part {x y b : Str} (ha : Ev ta σ H (.str (x ++ y ++ b))) (hb : Ev tb σ H (.str y)) (hz : (x ++ y ++ b).length ≤ sizeLine) (hy : (y.length == 0) = false) (e : Txt.partition (x ++ y ++ b) y = (x, y, b)) :
    EvU (tM1 (fun x xs H Q => ∃ a b, x = .str a ∧ xs = [.str b] ∧ (b.length == 0) = false ∧ a.length ≤ sizeLine ∧ ∀ p, H p = none → Q (.ref p) (upd H p (.tup [.str (Txt.partition a b).1, .str (Txt.partition a b).2.1, .str (Txt.partition a b).2.2]))) ta tb) σ H [.str x, .str y, .str b] := fun H1 e1 Q q =>
  ha H1 e1 _ fun H2 e2 => ⟨⟨_, rfl⟩, hb H2 (e1.trans e2) _ fun H3 e3 => ⟨_, _, rfl, rfl, hy, hz, fun p np => by
    have en := q p _ (fresh_back (e2.trans e3) np) ((e2.trans e3).trans (Ex.new np)) upd_same
    rw [e]
    exact en⟩⟩
/-! ### chosen -/
structure Parts (ps : List (Str × Str)) : Prop where
  no : ∀ p ∈ ps, 58 ∉ tl p.1
  sm : ∀ p ∈ ps, (jn p).length ≤ 100
  few : ps.length ≤ 100
def spChosen (K : PySem.W.Frag) : Sp := fun vs H Q _ => ∃ (a b : Addr) (ps : List (Str × Str)) (z : Str) (ms : List Str), vs = [.ref a, .ref b] ∧ SqT K H a (sl (ps.map jn ++ [z])) ∧ SqT K H b (sl ms) ∧ Parts ps ∧ ∀ H', Ex H H' → Q (.str (chosenOf ps z ms)) H'
theorem c_chosen (D : At K mg "chosen" s_chosen ["options", "met"]) : C8.Cal P w K mg base 1 "chosen" (spChosen K) [] := by
  refine cal_of D sc_chosen (fun vs H Q E h => ?_) (fun f cdv A outer s H vs Q E hr h => ?_)
  · obtain ⟨a, b, ps, z, ms, rfl, _⟩ := h
    rfl
  · obtain ⟨a, b, ps, z, ms, rfl, ha, hb, PP, q⟩ := h
    refine ⟨_, pss_cons (ps_for PassesOwn.never rfl (pi_tup (pe_slice sl_tup (pv 0) po_none (po_some (pe_un un_neg pe_int)))) (pg_name (i := 2) sc_chosen.nd rfl (.inl rfl)) (pss_cons (ps_asg (pe_partition (pv 2) pe_str) (pg_tup (by rfl) (pgs_cons (pg_name (i := 3) sc_chosen.nd rfl (.inl rfl)) (pgs_cons (pg_name (i := 4) sc_chosen.nd rfl (.inl rfl)) (pgs_cons (pg_name (i := 5) sc_chosen.nd rfl (.inl rfl)) pgs_nil))))) (pss_one (ps_if (pt_cmpR op_in_seq (pv 3) (pv 1) (by rfl)) (pss_one (ps_ret (pv 5))) pss_nil))))
      (pss_one (ps_ret (pe_ix ix_tup (pv 0) (pe_un un_neg pe_int) (fun _ _ => rfl)))), ?_⟩
    have hs : sl (ps.map jn ++ [z]) = sl (ps.map jn) ++ [.str z] := (sl_cat _ [z]).symm
    rw [hs] at ha
    refine s_forS (K := K) (xs := sl (ps.map jn)) (es_is (es_new (eu_slT (ev_var rfl) ha eo_none (eo_some (ev_un ev_c ru_neg)) (by rw [List.length_append]; exact cut_not _))) (cut_init _ _))
      (fun H1 i σ G => ∃ y2 y3 y4 y5, σ = [some (.ref a), some (.ref b), y2, y3, y4, y5] ∧ Ex H1 G ∧ ∀ p ∈ ps.take i, p.1 ∉ ms) (fun H1 e1 => ⟨_, _, _, _, rfl, Ex.refl H1, fun p hp => by rw [List.take_zero] at hp; cases hp⟩) (fun H1 i σ' G ⟨_, _, _, _, _, e, _⟩ => e) ?_ ?_
    · rintro H1 i v σ' G e1 hi ⟨y2, y3, y4, y5, rfl, eG, hn⟩
      obtain ⟨o, ho, rfl⟩ := mem_at hi
      rw [List.getElem?_map] at ho
      obtain ⟨p, hp, rfl⟩ : ∃ p, ps[i]? = some p ∧ o = jn p := by
        cases e : ps[i]? with
        | none => rw [e] at ho; cases ho
        | some p => rw [e] at ho; cases ho; exact ⟨p, rfl, rfl⟩
      have mp := List.mem_of_getElem? hp
      have pl := PP.sm p mp
      refine q_asgT3 (es_new (eu_part (x := p.1) (y := ":") (b := p.2) (ev_var rfl) ev_c (by rw [sizeLine_eq]; show (jn p).length ≤ _; omega) rfl (partition_app (s := 58) (S := []) rfl (PP.no p mp)))) fun H2 e2 => ?_
      have e02 := (e1.trans eG).trans e2
      refine s_when (et_test (ev_inT (x := p.1) (ev_var rfl) (ev_var rfl) (ex_t e02 hb))) (fun z H3 e3 => ?_) (fun z H3 e3 => ?_)
      · exact s_ret (ev_var rfl) fun H4 e4 => by
          have := q H4 ((e02.trans e3).trans e4)
          rw [chosen_at hn hp (of_decide_eq_true z)] at this
          exact this
      · refine ⟨_, _, _, _, rfl, (eG.trans e2).trans e3, fun p' hp' => ?_⟩
        rw [List.take_succ, hp] at hp'
        rcases List.mem_append.mp hp' with w | w
        · exact hn p' w
        · rw [List.mem_singleton.mp w]
          exact of_decide_eq_false z
    · rintro H1 σ' G e1 ⟨y2, y3, y4, y5, rfl, eG, hn⟩
      have e0 := e1.trans eG
      rw [XB.len_sl, List.length_map, List.take_length] at hn
      exact s_ret (ev_ixT (ev_var rfl) (ev_un ev_c ru_neg) (ex_t e0 ha) (L2.atI_last _ _)) fun H2 e2 => by
        have := q H2 (e0.trans e2)
        rw [chosen_none hn] at this
        exact this
end
end T
namespace T
open PySem PySem.Spec PyProof.Rows L2 Evl XB TL XS XI XC ClX
def step (r : Str) : Int := if r = "up" then 1 else if r = "down" then -1 else 0
def formedOf (d : Deed) (r : Str) : List V := if r = "stay" then [.str "stay"] else if r = "put" then (match d with
    | .sig _ n c => [.str "put", .int n, .str (let1 c)]
    | _ => []) else match d with
    | .stay => []
    | .out n => [.str "out", .int (n + step r)]
    | .sig k n c => [.str k, .int (n + step r), .str (let1 c)]
def FormOk (d : Deed) (r : Str) : Prop := d ≠ .stay ∧ (r ∈ [("keep" : Str), "up", "down", "stay"] ∨ (r = "put" ∧ ∃ k n c, d = .sig k n c))
section
variable {P : Program} {w : World} {K : PySem.W.Frag} {mg : Str → Option Value} {base : Heap} {C : Addr}
variable {σ : L2.St} {H : Hp} {ta tb tc te : TE} {tz ts : TS} {D' : Ends} {ks : List Str} {cs : List Cell} {x y a b : Addr} {E : XK} {d : Deed} {xs : List V} {g : TG}
/-- the module's steps -/
structure StepC (K : PySem.W.Frag) (w : World) (mg : Str → Option Value) : Prop where
  ex : ∃ a, mg "STEPS" = some (.ref a) ∧ KDct K w a "keep" (.int 0) ∧ KDct K w a "up" (.int 1) ∧ KDct K w a "down" (.int (-1))
/-! ### formed -/
def spFormed (K : PySem.W.Frag) : Sp := fun vs H Q _ => ∃ (a : Addr) (d : Deed) (r : Str), vs = [.ref a, .str r] ∧ SqT K H a d.vs ∧ FormOk d r ∧ ∀ l H', Ex H H' → SqT K H' l (formedOf d r) → Q (.ref l) H'
theorem cut_drop2 (xs : List V) : cutV xs (some 2) none = xs.drop 2 := by
  unfold cutV
  rw [HT.sIx_none, show (some (2 : Int)) = some ((2 : Nat) : Int) from rfl, HT.sIx_nat]
  by_cases h : 2 ≤ xs.length
  · rw [Nat.min_eq_left h, List.take_of_length_le (by rw [List.length_drop] <;> exact Nat.le_refl _)]
  · rw [Nat.min_eq_right (by omega), Nat.sub_self, List.take_zero, List.drop_eq_nil_of_le (by omega)]
theorem c_formed (D : At K mg "formed" s_formed ["edit", "result"]) (T : StepC K w mg) : C8.Cal P w K mg base 1 "formed" (spFormed K) [] := by
  obtain ⟨aS, mS, k0, k1, k2⟩ := T.ex
  refine cal_of D sc_formed (fun vs H Q E h => ?_) (fun f cdv A outer s H vs Q E hr h => ?_)
  · obtain ⟨a, d, r, rfl, _⟩ := h
    rfl
  · obtain ⟨a, d, r, rfl, ha, ok, q⟩ := h
    refine ⟨_, pss_cons (ps_if (pt_cmpR op_eq (pv 1) pe_str (nomark _)) (pss_one (ps_ret (pe_tup (pa_cons pe_str pa_nil)))) pss_nil)
      (pss_cons (ps_if (pt_cmpR op_eq (pv 1) pe_str (nomark _)) (pss_one (ps_ret (pe_tup (pa_cons pe_str (pa_cons (pe_ix ix_tup (pv 0) pe_int (fun _ _ => rfl)) (pa_cons (pe_ix ix_tup (pv 0) pe_int (fun _ _ => rfl)) pa_nil)))))) pss_nil)
      (pss_one (ps_ret (pe_op op_catT (pe_tup (pa_cons (pe_ix ix_tup (pv 0) pe_int (fun _ _ => rfl)) (pa_cons (pe_op op_add (pe_ix ix_tup (pv 0) pe_int (fun _ _ => rfl)) (pe_ix ix_kdict (pe_glob (v := .ref aS) (by rfl) mS rfl) (pv 1) (fun _ _ => rfl))) pa_nil))) (pe_slice sl_tup (pv 0) (po_some pe_int) po_none))))), ?_⟩
    obtain ⟨nst, ok⟩ := ok
    have gi : ∀ {H1 : Hp} {σ : L2.St} (j : Nat) (v : V), Ex H H1 → σ[0]? = some (some (.ref a)) → d.vs[j]? = some v → Ev (tOp (rIxT K) (tVar 0) (tC (.int (j : Nat)))) σ H1 v := fun j v e h0 hj => ev_ixT (ev_var h0) ev_c (ex_t e ha) (atI_nat hj)
    refine q_when (et_test (ev_eqS (ev_var rfl) ev_c)) (fun z H1 e1 => ?_) (fun z H1 e1 => ?_)
    · have e := of_decide_eq_true z
      subst e
      exact s_retS (es_new (K := K) (eu_tup (ea_str ea_nil) (by decide))) fun p H2 e2 h2 => q p H2 (e1.trans e2) h2
    · have nz := of_decide_eq_false z
      refine q_when (et_test (ev_eqS (ev_var rfl) ev_c)) (fun z H2 e2 => ?_) (fun z H2 e2 => ?_)
      · have e := of_decide_eq_true z
        subst e
        obtain ⟨k, n, c, rfl⟩ : ∃ k n c, d = .sig k n c := by
          rcases ok with h | ⟨_, h⟩
          · exact absurd h (by decide)
          · exact h
        have e12 := e1.trans e2
        exact s_retS (es_new (K := K) (eu_tup (vs := [.str "put", .int n, .str (let1 c)]) (ea_str (ea_cons (gi 1 _ e12 rfl rfl) (ea_cons (gi 2 _ e12 rfl rfl) ea_nil))) (by show 3 ≤ 100000; decide))) fun p H3 e3 h3 => q p H3 (e12.trans e3) h3
      · have np := of_decide_eq_false z
        have e12 := e1.trans e2
        have hk : KDct K w aS r (.int (step r)) := by
          rcases ok with h | ⟨h, _⟩
          · simp only [List.mem_cons, List.not_mem_nil, or_false] at h
            rcases h with rfl | rfl | rfl | rfl
            · exact k0
            · exact k1
            · exact k2
            · exact absurd rfl nz
          · exact absurd h np
        have st : ∀ {H1 : Hp} {σ : L2.St}, σ[1]? = some (some (.str r)) → Ev (tOp (rIxD K w) (tC (.ref aS)) (tVar 1)) σ H1 (.int (step r)) := fun h1 => ev_op ev_c (ev_var h1) fun H1 e Q q => ⟨aS, r, _, rfl, rfl, hk, q H1 (Ex.refl H1)⟩
        have f1 : ∀ n, formedOf (.out n) r = [.str "out", .int (n + step r)] := fun n => by unfold formedOf; rw [if_neg nz, if_neg np]
        have f2 : ∀ k n c, formedOf (.sig k n c) r = [.str k, .int (n + step r), .str (let1 c)] := fun k n c => by unfold formedOf; rw [if_neg nz, if_neg np]
        cases d with
        | stay => exact absurd rfl nst
        | out n =>
          rw [f1] at q
          exact s_retS (es_cat (xs := [.str "out", .int (n + step r)]) (ys := []) (es_new (eu_tup (ea_cons (gi 0 (.str "out") e12 rfl rfl) (ea_cons (ev_op (gi 1 (.int n) e12 rfl rfl) (st rfl) rv_I0) ea_nil)) (by show 2 ≤ 100000; decide))) (es_is (es_new (eu_slT (ev_var rfl) (ex_t e12 ha) (eo_some ev_c) eo_none (by show ¬ (HT.sIx 2 0 (some 2) = 0 ∧ HT.sIx 2 2 none = 2); decide))) (by rw [cut_drop2]; rfl)) (by intro z; cases z) (by show 2 + 0 ≤ 100000; decide)) fun p H3 e3 h3 => q p H3 (e12.trans e3) h3
        | sig k n c =>
          rw [f2] at q
          exact s_retS (es_cat (xs := [.str k, .int (n + step r)]) (ys := [.str (let1 c)]) (es_new (eu_tup (ea_cons (gi 0 (.str k) e12 rfl rfl) (ea_cons (ev_op (gi 1 (.int n) e12 rfl rfl) (st rfl) rv_I0) ea_nil)) (by show 2 ≤ 100000; decide))) (es_is (es_new (eu_slT (ev_var rfl) (ex_t e12 ha) (eo_some ev_c) eo_none (by show ¬ (HT.sIx 3 0 (some 2) = 0 ∧ HT.sIx 3 3 none = 3); decide))) (by rw [cut_drop2]; rfl)) (by intro z; cases z) (by show 2 + 1 ≤ 100000; decide)) fun p H3 e3 h3 => q p H3 (e12.trans e3) h3
/-! ### Table.__getitem__ -/
def optsFor (cs : List Cell) (n : Nm) : List Str := ((cs.find? fun c => decide (nmOf c = n)).map (fun c => c.2.2.2)).getD [("keep" : Str)]
theorem DictOf.val {kvs : List (Nm × V)} (h : DictOf H kvs cs) (nd : (cs.map nmOf).Nodup) (n : Nm) : (∃ t, valV kvs n = some (.ref t) ∧ H t = some (.tup (sl (optsFor cs n)))) ∨ (valV kvs n = none ∧ optsFor cs n = [("keep" : Str)]) := by
  cases e : cs.find? (fun c => decide (nmOf c = n)) with
  | none =>
    refine .inr ⟨valV_no ?_, by unfold optsFor; rw [e]; rfl⟩
    rw [h.keys]
    intro m
    obtain ⟨c, hc, rfl⟩ := List.mem_map.mp m
    have := List.find?_eq_none.mp e c hc
    exact this (decide_eq_true rfl)
  | some c =>
    have hn : nmOf c = n := of_decide_eq_true (List.find?_some (p := fun c => decide (nmOf c = n)) e)
    obtain ⟨i, hci⟩ := List.mem_iff_getElem?.mp (List.mem_of_find?_eq_some e)
    obtain ⟨t, h1, h2⟩ := h.2 i c hci
    refine .inl ⟨t, ?_, by unfold optsFor; rw [e]; exact h2⟩
    have := valV_at (by rw [h.keys]; exact nd) h1
    rw [hn] at this
    exact this
theorem ev_din {d b : Addr} {kvs : List (List Key × V)} {k : List Key} {o : Option V} (hb : Ev tb σ H (.ref b)) (ha : Ev ta σ H (.ref d)) (hd : H d = some (.dT kvs)) (ht : H b = some (.tup (k.map kV))) (hv : valV kvs k = o) : Ev (tDIn tb ta) σ H (.bl o.isSome) := fun H1 e Q q =>
  hb H1 e _ fun H2 e2 => ha H2 (e.trans e2) _ fun H3 e3 => ⟨d, o, rfl, hv ▸ DGet.t (e3 _ _ (e2 _ _ (e _ _ hd))) (e3 _ _ (e2 _ _ (e _ _ ht))), q H3 (e2.trans e3)⟩
def spGet (K : PySem.W.Frag) (C : Addr) : Sp := fun vs H Q _ => ∃ (x t : Addr) (m i s : Str) (ks : List Str) (cs : List Cell), vs = [.ref x, .ref t] ∧ H t = some (.tup ((nm3 m i s).map kV)) ∧ m ∈ ks ∧ i ∈ ks ∧ s ∈ rels ∧ (∃ dx D a r kvs, TabF K C H x dx D a r kvs ks cs) ∧ ∀ l H', Ex H H' → SqT K H' l (sl (optsFor cs (nm3 m i s))) → Q (.ref l) H'
theorem c_get {f : Addr} {fd : FuncData} (F : Fun K "__getitem__" "Table.__getitem__" s_Table___getitem__ f fd) (T : TabC K mg C) (C1 : C8.Cal P w K mg base 2 "is_cell" (spIsCell K) []) : FnOk P w K mg base CX0 3 f fd ["self", "at"] (spGet K C) := by
  refine meth_ok F sc_Table___getitem__ (fun vs H Q E h => ?_) (fun cdv A outer s H vs Q E hr h => ?_)
  · obtain ⟨x, t, m, i, s, ks, cs, rfl, _⟩ := h
    rfl
  · obtain ⟨x, t, m, i, s, ks, cs, rfl, ht, hm, hi, hs, ⟨dx, D, a, r, kvs, f⟩, q⟩ := h
    refine ⟨_, pss_cons (ps_if (pt_not (pt_val (C8.pe_c C1 hr (by decide) (by rfl) (pa_cons (pv 1) (pa_cons (pe_fld (pv 0) rfl) pa_nil))))) pss_never pss_nil)
      (pss_cons (ps_if (pt_cmp (pc_din (by have := hr.units; exact Nat.lt_of_le_of_lt (Nat.add_le_add_left (by decide) _) this) (pv 1) (pe_fld (pv 0) rfl))) (pss_one (ps_ret (pe_dget (by have := hr.units; exact Nat.lt_of_le_of_lt (Nat.add_le_add_left (by decide) _) this) (pe_fld (pv 0) rfl) (pv 1) (fun _ _ => rfl)))) pss_nil)
      (pss_one (ps_ret (pe_tup (pa_cons pe_str pa_nil))))), ?_⟩
    refine q_when (b := false) (et_is (et_not (et_B (ev_isCell (m := m) (i := i) (s := s) (es_at (ev_var rfl) (SqT.of ht)) (ev_fld (ev_var rfl) f.hx T.cl T.k rfl) f.ha))) (by rw [decide_eq_true hm, decide_eq_true hi, decide_eq_true hs]; rfl)) (fun z => by cases z) (fun _ H1 e1 => ?_)
    have hx1 := e1 _ _ f.hx
    have hD1 := e1 _ _ f.hD
    have ht1 := e1 _ _ ht
    rcases (f.d.ex e1).val f.c.nd (nm3 m i s) with ⟨u, hv, hu⟩ | ⟨hv, ho⟩
    · refine q_when (b := true) (et_B (ev_din (o := some (.ref u)) (ev_var rfl) (ev_fld (ev_var rfl) hx1 T.cl T.c rfl) hD1 ht1 hv)) (fun _ H2 e2 => ?_) (fun z => by cases z)
      exact s_ret (ev_dget (ev_fld (ev_var rfl) (e2 _ _ hx1) T.cl T.c rfl) (ev_var rfl) (.inl (e2 _ _ hD1)) (e2 _ _ ht1) hv) fun H3 e3 => q u H3 ((e1.trans e2).trans e3) (SqT.of (e3 _ _ (e2 _ _ hu)))
    · refine q_when (b := false) (et_B (ev_din (o := none) (ev_var rfl) (ev_fld (ev_var rfl) hx1 T.cl T.c rfl) hD1 ht1 hv)) (fun z => by cases z) (fun _ H2 e2 => ?_)
      rw [ho] at q
      exact s_retS (es_new (K := K) (eu_tup (ea_str ea_nil) (by decide))) fun p H3 e3 h3 => q p H3 ((e1.trans e2).trans e3) h3
end
end T
namespace T
open PySem PySem.Spec PyProof.Rows L2 Evl XB TL XS XI XC ClX
def Deed.pl : Deed → Int
  | .stay => 0
  | .out n => n
  | .sig _ n _ => n
def relOf (d e : Deed) : Str := pick3 (decide (d.pl < e.pl)) (decide (d.pl = e.pl)) ("<" : Str) "=" ">"
theorem relOf_in (d e : Deed) : relOf d e ∈ rels := by
  unfold relOf
  cases decide (d.pl < e.pl) <;> cases decide (d.pl = e.pl) <;> decide +kernel
def parseO (o : Str) : Str × Str := ((Txt.partition o ":").1, (Txt.partition o ":").2.2)
def chosenW (ws ms : List Str) : Str := chosenOf (ws.dropLast.map parseO) (ws.getLastD ("keep" : Str)) ms
theorem chosenW_eq {ps : List (Str × Str)} (h : Parts ps) (z : Str) (ms : List Str) : chosenW (ps.map jn ++ [z]) ms = chosenOf ps z ms := by
  unfold chosenW
  rw [List.dropLast_concat, List.getLastD_concat, List.map_map]
  have : ps.map (parseO ∘ jn) = ps.map id := List.map_congr_left fun p hp => by
    show ((Txt.partition (p.1 ++ ":" ++ p.2) ":").1, (Txt.partition (p.1 ++ ":" ++ p.2) ":").2.2) = p
    rw [partition_app (s := 58) (S := []) rfl (h.no p hp)]
  rw [this, List.map_id]
def turnedOf (cs : List Cell) (d e : Deed) (first : Bool) : List V := if d.hd = "stay" ∨ e.hd = "stay" then d.vs else formedOf d (chosenW (optsFor cs (nm3 d.hd e.hd (relOf d e))) (metOf d e first))
/-- options, parted -/
structure OptP (ks : List Str) (m i : Str) (ps : List (Str × Str)) (z : Str) : Prop where
  pa : Parts ps
  cd : ∀ p ∈ ps, p.1 ∈ condsOf m i
  rs : ∀ p ∈ ps, p.2 ∈ resultsOf m ks
  zz : z ∈ resultsOf m ks
theorem cond_no {m i : Str} : ∀ c ∈ condsOf m i, 58 ∉ tl c := by
  unfold condsOf
  split <;> decide +kernel
theorem opts_parts {m i : Str} {ks ws : List Str} (h : IsOpts m i ks ws) : ∃ ps z, ws = ps.map jn ++ [z] ∧ OptP ks m i ps z := by
  obtain ⟨pre, z, rfl, hl, hp, hz⟩ := h
  have go : ∀ pre : List Str, (∀ o ∈ pre, ∃ c ∈ condsOf m i, ∃ r ∈ resultsOf m ks, o = c ++ ":" ++ r) → ∃ ps : List (Str × Str), pre = ps.map jn ∧ ∀ p ∈ ps, p.1 ∈ condsOf m i ∧ p.2 ∈ resultsOf m ks := by
    intro pre
    induction pre with
    | nil => exact fun _ => ⟨[], rfl, fun _ z => by cases z⟩
    | cons o r ih =>
      intro h
      obtain ⟨ps, e, g⟩ := ih fun x hx => h x (List.mem_cons_of_mem _ hx)
      obtain ⟨c, hc, q, hq, rfl⟩ := h o List.mem_cons_self
      refine ⟨(c, q) :: ps, by rw [List.map_cons, ← e]; rfl, fun p hp => ?_⟩
      rcases List.mem_cons.mp hp with rfl | w
      · exact ⟨hc, hq⟩
      · exact g p w
  obtain ⟨ps, rfl, g⟩ := go pre hp
  rw [List.length_map] at hl
  refine ⟨ps, z, rfl, ⟨⟨fun p hp => cond_no _ (g p hp).1, fun p hp => ?_, by omega⟩, fun p hp => (g p hp).1, fun p hp => (g p hp).2, hz⟩⟩
  exact Nat.le_trans (small_opt _ (g p hp).1 _ (g p hp).2).len (by decide)
theorem nm3_inj {m i s m' i' s' : Str} (h : nm3 m i s = nm3 m' i' s') : m = m' ∧ i = i' ∧ s = s' := by
  unfold nm3 at h
  injection h with h1 h
  injection h with h2 h
  injection h with h3 _
  injection h1 with h1
  injection h2 with h2
  injection h3 with h3
  exact ⟨h1, h2, h3⟩
theorem optsFor_parts {ks : List Str} {cs : List Cell} (hC : Cells ks cs) (m i s : Str) : ∃ ps z, optsFor cs (nm3 m i s) = ps.map jn ++ [z] ∧ OptP ks m i ps z := by
  unfold optsFor
  cases e : cs.find? (fun c => decide (nmOf c = nm3 m i s)) with
  | none => exact ⟨[], "keep", rfl, ⟨⟨(fun _ z => by cases z), (fun _ z => by cases z), Nat.zero_le _⟩, (fun _ z => by cases z), (fun _ z => by cases z), (by unfold resultsOf; exact List.mem_append_left _ (by decide))⟩⟩
  | some c =>
    have hn : nmOf c = nm3 m i s := of_decide_eq_true (List.find?_some (p := fun c => decide (nmOf c = nm3 m i s)) e)
    obtain ⟨e1, e2, e3⟩ := nm3_inj hn
    have g := hC.good c (List.mem_of_find?_eq_some e)
    obtain ⟨ps, z, h1, h2⟩ := opts_parts g.2.2.2
    subst e1
    subst e2
    exact ⟨ps, z, h1, h2⟩
theorem chosen_in {ks : List Str} {m i : Str} {ps : List (Str × Str)} {z : Str} (h : OptP ks m i ps z) (ms : List Str) : chosenOf ps z ms ∈ resultsOf m ks := by
  unfold chosenOf
  cases e : ps.find? (fun p => decide (p.1 ∈ ms)) with
  | none => exact h.zz
  | some p => exact h.rs p (List.mem_of_find?_eq_some e)
theorem form_ok {ks : List Str} {d : Deed} (nst : d ≠ .stay) (ok : d.ok ks) {r : Str} (h : r ∈ resultsOf d.hd ks) : FormOk d r := by
  refine ⟨nst, ?_⟩
  unfold resultsOf at h
  rcases List.mem_append.mp h with z | z
  · exact .inl z
  · split at z
    · rename_i cc
      refine .inr ⟨List.mem_singleton.mp z, ?_⟩
      cases d with
      | stay => exact absurd rfl nst
      | out n => exact absurd (show ("out" : Str) = "set" from cc.1) (by decide)
      | sig k n c => exact ⟨k, n, c, rfl⟩
    · cases z
theorem Deed.hd_stay {ks : List Str} {d : Deed} (ok : d.ok ks) (hk : ks ∈ kinds7) (h : d.hd ≠ "stay") : d ≠ .stay ∧ d.hd ∈ ks ∧ d.vs[1]? = some (.int d.pl) := by
  cases d with
  | stay => exact absurd rfl h
  | out n => exact ⟨(fun z => by cases z), ok.1, rfl⟩
  | sig k n c => exact ⟨(fun z => by cases z), ok.2.1, rfl⟩
section
variable {P : Program} {w : World} {K : PySem.W.Frag} {mg : Str → Option Value} {base : Heap} {C : Addr}
variable {σ : L2.St} {H : Hp} {ta tb tc te : TE} {tz ts : TS} {D' : Ends} {ks : List Str} {cs : List Cell} {x y a b : Addr} {E : XK} {d e : Deed} {xs : List V} {g : TG} {first : Bool}
/-- a table that is told whole -/
def TabW (K : PySem.W.Frag) (C : Addr) (H : Hp) (x : Addr) (ks : List Str) (cs : List Cell) : Prop := ∃ dx D a r kvs, TabF K C H x dx D a r kvs ks cs
theorem TabW.ex {H' : Hp} (h : TabW K C H x ks cs) (z : Ex H H') : TabW K C H' x ks cs := by
  obtain ⟨dx, D, a, r, kvs, f⟩ := h
  exact ⟨dx, D, a, r, kvs, z _ _ f.hx, ex_t z f.ha, ex_t z f.hr, z _ _ f.hD, f.d.ex z, f.c⟩
theorem es_met (h1 : Ev ta σ H (.ref a)) (h2 : Ev tb σ H (.ref b)) (h3 : Ev tc σ H (.bl first)) (ha : SqT K H a d.vs) (hb : SqT K H b e.vs) : EvS K (tCall (spMet K) [] E (tCons ta (tCons tb (tCons tc tNil)))) σ H (sl (metOf d e first)) :=
  es_call (ea_cons h1 (ea_cons h2 (ea_cons h3 ea_nil))) fun H1 z Q q E => ⟨a, b, d, e, first, rfl, ex_t z ha, ex_t z hb, q⟩
theorem ev_chosen {ps : List (Str × Str)} {z : Str} {ms : List Str} (h1 : Ev ta σ H (.ref a)) (h2 : EvS K tb σ H (sl ms)) (ha : SqT K H a (sl (ps.map jn ++ [z]))) (PP : Parts ps) : Ev (tCall (spChosen K) [] E (tCons ta (tCons tb tNil))) σ H (.str (chosenOf ps z ms)) := fun H1 e Q q =>
  h1 H1 e _ fun H2 e2 => h2 H2 (e.trans e2) _ fun p H3 e3 hp => ⟨a, p, ps, z, ms, rfl, ex_t ((e.trans e2).trans e3) ha, hp, PP, fun H4 e4 => q H4 ((e2.trans e3).trans e4)⟩
theorem es_formed {r : Str} (h1 : Ev ta σ H (.ref a)) (h2 : Ev tb σ H (.str r)) (ha : SqT K H a d.vs) (ok : FormOk d r) : EvS K (tCall (spFormed K) [] E (tCons ta (tCons tb tNil))) σ H (formedOf d r) :=
  es_call (ea_cons h1 (ea_cons h2 ea_nil)) fun H1 z Q q E => ⟨a, d, r, rfl, ex_t z ha, ok, q⟩
theorem es_get {m i s : Str} (h1 : Ev ta σ H (.ref x)) (h2 : EvU tb σ H ((nm3 m i s).map kV)) (t : TabW K C H x ks cs) (hm : m ∈ ks) (hi : i ∈ ks) (hs : s ∈ rels) : EvS K (tOp (XGt.rGetO C (spGet K C)) ta tb) σ H (sl (optsFor cs (nm3 m i s))) := fun H1 e Q q =>
  h1 H1 e _ fun H2 e2 => h2 H2 (e.trans e2) _ fun p H3 n3 e3 hp => by
    have t3 := t.ex ((e.trans e2).trans e3)
    obtain ⟨dx, D, a, r, kvs, f⟩ := id t3
    exact ⟨x, dx, _, rfl, f.hx, x, p, m, i, s, ks, cs, rfl, hp, hm, hi, hs, t3, fun l H4 e4 h4 => q l H4 ((e2.trans e3).trans e4) h4⟩
/-! ### turned -/
def spTurned (K : PySem.W.Frag) (C : Addr) : Sp := fun vs H Q _ => ∃ (x a b : Addr) (d e : Deed) (first : Bool) (ks : List Str) (cs : List Cell), vs = [.ref x, .ref a, .ref b, .bl first] ∧ TabW K C H x ks cs ∧ ks ∈ kinds7 ∧ SqT K H a d.vs ∧ SqT K H b e.vs ∧ d.ok ks ∧ e.ok ks ∧ ∀ l H', Ex H H' → SqT K H' l (turnedOf cs d e first) → Q (.ref l) H'
theorem c_turned (D : At K mg "turned" s_turned ["table", "edit", "past", "first"]) (T : TupC K mg "RELATIONS" rels) {fg : Addr} {fdg : FuncData} (GC : XGt.GetC K C fg) (Fg : FnOk P w K mg base CX0 3 fg fdg ["self", "at"] (spGet K C)) (bg : Binds K fdg ["self", "at"] [])
    (C1 : C8.Cal P w K mg base 1 "compared" (spCmp K) []) (C2 : C8.Cal P w K mg base 2 "conditions_met" (spMet K) []) (C3 : C8.Cal P w K mg base 1 "chosen" (spChosen K) []) (C4 : C8.Cal P w K mg base 1 "formed" (spFormed K) []) : C8.Cal P w K mg base 5 "turned" (spTurned K C) [] := by
  obtain ⟨ak, mk, hK⟩ := T.ex
  refine cal_of D sc_turned (fun vs H Q E h => ?_) (fun f cdv A outer s H vs Q E hr h => ?_)
  · obtain ⟨x, a, b, d, e, first, ks, cs, rfl, _⟩ := h
    rfl
  · obtain ⟨x, a, b, d, e, first, ks, cs, rfl, t, hk, ha, hb, okd, oke, q⟩ := h
    refine ⟨_, pss_cons (ps_if (PW.pt (pw_or (pt_cmpR op_eq (pe_ix ix_tup (pv 1) pe_int (fun _ _ => rfl)) pe_str (nomark _)) (pw_or1 (pt_cmpR op_eq (pe_ix ix_tup (pv 2) pe_int (fun _ _ => rfl)) pe_str (nomark _))))) (pss_one (ps_ret (pv 1))) pss_nil)
      (pss_cons (ps_set (i := 4) sc_turned.nd rfl (.inl rfl) (XGt.pe_getO GC Fg hr bg (pv 0) (pe_tup (pa_cons (pe_ix ix_tup (pv 1) pe_int (fun _ _ => rfl)) (pa_cons (pe_ix ix_tup (pv 2) pe_int (fun _ _ => rfl)) (pa_cons (C8.pe_c C1 hr (by decide) (by rfl) (pa_cons (pe_ix ix_tup (pv 1) pe_int (fun _ _ => rfl)) (pa_cons (pe_ix ix_tup (pv 2) pe_int (fun _ _ => rfl)) (pa_cons (pe_glob (v := .ref ak) (by rfl) mk rfl) pa_nil)))) pa_nil))))))
      (pss_one (ps_ret (C8.pe_c C4 hr (by decide) (by rfl) (pa_cons (pv 1) (pa_cons (C8.pe_c C3 hr (by decide) (by rfl) (pa_cons (pv 4) (pa_cons (C8.pe_c C2 hr (by decide) (by rfl) (pa_cons (pv 1) (pa_cons (pv 2) (pa_cons (pv 3) pa_nil)))) pa_nil))) pa_nil)))))), ?_⟩
    have gi : ∀ {H1 : Hp} {σ : L2.St} (j : Nat) (v : V), Ex H H1 → σ[1]? = some (some (.ref a)) → d.vs[j]? = some v → Ev (tOp (rIxT K) (tVar 1) (tC (.int (j : Nat)))) σ H1 v := fun j v z h0 hj => ev_ixT (ev_var h0) ev_c (ex_t z ha) (atI_nat hj)
    have gj : ∀ {H1 : Hp} {σ : L2.St} (j : Nat) (v : V), Ex H H1 → σ[2]? = some (some (.ref b)) → e.vs[j]? = some v → Ev (tOp (rIxT K) (tVar 2) (tC (.int (j : Nat)))) σ H1 v := fun j v z h0 hj => ev_ixT (ev_var h0) ev_c (ex_t z hb) (atI_nat hj)
    refine q_when (et_or (et_test (ev_eqS (gi 0 _ (Ex.refl H) rfl d.hd_at) ev_c)) (fun _ => et_test (ev_eqS (gj 0 _ (Ex.refl H) rfl e.hd_at) ev_c))) (fun z H1 e1 => ?_) (fun z H1 e1 => ?_)
    · rw [Bool.or_eq_true, decide_eq_true_eq, decide_eq_true_eq] at z
      have : turnedOf cs d e first = d.vs := by unfold turnedOf; rw [if_pos z]
      rw [this] at q
      exact s_ret (ev_var rfl) fun H2 e2 => q a H2 (e1.trans e2) (ex_t (e1.trans e2) ha)
    · rw [Bool.or_eq_false_iff, decide_eq_false_iff_not, decide_eq_false_iff_not] at z
      obtain ⟨nd, md, pd⟩ := Deed.hd_stay okd hk z.1
      obtain ⟨ne, me, pe⟩ := Deed.hd_stay oke hk z.2
      have ht : turnedOf cs d e first = formedOf d (chosenW (optsFor cs (nm3 d.hd e.hd (relOf d e))) (metOf d e first)) := by unfold turnedOf; rw [if_neg (fun y => y.elim z.1 z.2)]
      rw [ht] at q
      obtain ⟨ps, zz, ho, OP⟩ := optsFor_parts t.choose_spec.choose_spec.choose_spec.choose_spec.choose_spec.c d.hd e.hd (relOf d e)
      rw [ho, chosenW_eq OP.pa] at q
      refine q_asgS (K := K) (es_get (ev_var rfl) (eu_tup (vs := (nm3 d.hd e.hd (relOf d e)).map kV) (ea_cons (gi 0 _ e1 rfl d.hd_at) (ea_cons (gj 0 _ e1 rfl e.hd_at) (ea_cons (ev_cmp (gi 1 _ e1 rfl pd) (gj 1 _ e1 rfl pe) ev_c (.int d.pl e.pl) (hK _)) ea_nil))) (by show 3 ≤ 100000; decide)) (t.ex e1) md me (relOf_in d e)) fun po H2 e2 h2 => ?_
      rw [ho] at h2
      have e12 := e1.trans e2
      exact s_retS (es_formed (ev_var rfl) (ev_chosen (ev_var rfl) (es_met (ev_var rfl) (ev_var rfl) (ev_var rfl) (ex_t e12 ha) (ex_t e12 hb)) h2 OP.pa) (ex_t e12 ha) (form_ok nd okd (chosen_in OP _))) fun p H3 e3 h3 => q p H3 (e12.trans e3) h3
end
end T
namespace T
open PySem PySem.Spec PyProof.Rows L2 Evl XB TL XS XI XC ClX
section
variable {P : Program} {w : World} {K : PySem.W.Frag} {mg : Str → Option Value} {base : Heap} {C : Addr}
variable {σ : L2.St} {H : Hp} {ta tb tc te : TE} {tz ts : TS} {D' : Ends} {ks : List Str} {cs : List Cell} {x y a b : Addr} {E : XK} {d e : Deed} {xs : List V} {g : TG} {first : Bool}
theorem ev_editOf (h1 : Ev ta σ H (.ref a)) (h2 : Ev tb σ H (.ref b)) (ha : SqT K H a d.vs) (hb : SqT K H b (sl ks)) (ok : d.ok ks) : Ev (tCall (spEditOf K) [] E (tCons ta (tCons tb tNil))) σ H (.bl true) :=
  ev_call (ea_cons h1 (ea_cons h2 ea_nil)) fun H1 z Q q E => ⟨a, b, ks, d, rfl, ex_t z ha, ex_t z hb, ok, q⟩
theorem c_passed {f : Addr} {fd : FuncData} (F : Fun K "passed" "Table.passed" s_Table_passed f fd) (T : TabC K mg C) (C1 : C8.Cal P w K mg base 4 "is_edit_of" (spEditOf K) []) (C2 : C8.Cal P w K mg base 5 "turned" (spTurned K C) []) : FnOk P w K mg base CX0 6 f fd ["self", "edit", "past", "first"] (spTurned K C) := by
  refine meth_ok F sc_Table_passed (fun vs H Q E h => ?_) (fun cdv A outer s H vs Q E hr h => ?_)
  · obtain ⟨x, a, b, d, e, first, ks, cs, rfl, _⟩ := h
    rfl
  · obtain ⟨x, a, b, d, e, first, ks, cs, rfl, t, hk, ha, hb, okd, oke, q⟩ := h
    refine ⟨_, pss_cons (ps_if (pt_not (pt_val (C8.pe_c C1 hr (by decide) (by rfl) (pa_cons (pv 1) (pa_cons (pe_fld (pv 0) rfl) pa_nil))))) pss_never pss_nil)
      (pss_cons (ps_if (pt_not (pt_val (C8.pe_c C1 hr (by decide) (by rfl) (pa_cons (pv 2) (pa_cons (pe_fld (pv 0) rfl) pa_nil))))) pss_never pss_nil)
      (pss_cons (ps_if (PW.pt (pw_and (pt_cmpR op_isnot_bl (pv 3) pe_bl (nomark _)) (pw_and1 (pt_cmpR op_isnot_bl (pv 3) pe_bl (nomark _))))) pss_never pss_nil)
      (pss_one (ps_ret (C8.pe_c C2 hr (by decide) (by rfl) (pa_cons (pv 0) (pa_cons (pv 1) (pa_cons (pv 2) (pa_cons (pv 3) pa_nil))))))))), ?_⟩
    obtain ⟨dx, D, a1, r1, kvs, f⟩ := id t
    refine q_when (b := false) (et_not (et_B (ev_editOf (ev_var rfl) (ev_fld (ev_var rfl) f.hx T.cl T.k rfl) ha f.ha okd))) (fun z => by cases z) (fun _ H1 e1 => ?_)
    refine q_when (b := false) (et_not (et_B (ev_editOf (ev_var rfl) (ev_fld (ev_var rfl) (e1 _ _ f.hx) T.cl T.k rfl) (ex_t e1 hb) (ex_t e1 f.ha) oke))) (fun z => by cases z) (fun _ H2 e2 => ?_)
    have rvB : ∀ {H : Hp} {x y : Bool}, RV (fun x y H Q => ∃ a b, x = .bl a ∧ y = .bl b ∧ Q (.bl (!decide (a = b))) H) (.bl x) (.bl y) H (.bl (!decide (x = y))) := fun H1 _ _ q => ⟨_, _, rfl, rfl, q H1 (Ex.refl H1)⟩
    refine q_when (b := false) (et_is (et_and (et_test (ev_op (ev_var rfl) ev_c rvB)) (fun _ => et_test (ev_op (ev_var rfl) ev_c rvB))) (by cases first <;> rfl)) (fun z => by cases z) (fun _ H3 e3 => ?_)
    have e13 := (e1.trans e2).trans e3
    exact s_retS (K := K) (es_call (xs := turnedOf cs d e first) (ea_cons (ev_var rfl) (ea_cons (ev_var rfl) (ea_cons (ev_var rfl) (ea_cons (ev_var rfl) ea_nil)))) fun H4 z Q q E => ⟨x, a, b, d, e, first, ks, cs, rfl, t.ex (e13.trans z), hk, ex_t (e13.trans z) ha, ex_t (e13.trans z) hb, okd, oke, q⟩) fun p H5 e5 h5 => q p H5 (e13.trans e5) h5
end
end T
namespace T
open PySem PySem.Spec PyProof.Rows L2 Evl XB TL XS XI XC ClX
def Deed.last : Deed → V
  | .stay => .str "stay"
  | .out n => .int n
  | .sig _ _ c => .str (let1 c)
theorem Deed.last_at (d : Deed) : atI d.vs (-1) = some d.last := by cases d <;> rfl
section
variable {P : Program} {w : World} {K : PySem.W.Frag} {mg : Str → Option Value} {base : Heap} {C : Addr}
variable {σ : L2.St} {H : Hp} {ta tb tc te : TE} {tz ts : TS} {D' : Ends} {ks : List Str} {cs : List Cell} {x y a b : Addr} {E : XK} {d e : Deed} {xs : List V} {g : TG} {first : Bool}
theorem s_forLs (h : EvL te σ H xs) (Pv : Hp → Nat → L2.St → Hp → Prop) (h0 : ∀ H1, Ex H H1 → Pv H1 0 σ H1) (hx : ∀ H1 i σ' G, Pv H1 i σ' G → Ex H1 G)
    (hs : ∀ H1 i x σ' G, Ex H H1 → xs[i]? = some x → Pv H1 i σ' G → g x σ' G fun σ2 H2 => ts { D' with nx := Pv H1 (i + 1), ct := Pv H1 (i + 1), bk := D'.nx } σ2 H2) (hd : ∀ H1 σ' G, Ex H H1 → Pv H1 xs.length σ' G → D'.nx σ' G) : tFor (iList K te) g ts D' σ H :=
  h H (Ex.refl H) _ fun p H1 n1 e1 hp => ⟨p, rfl, ⟨_, SqL.of hp⟩, for_list (Pv H1) (h0 H1 e1) (fun i σ' G _ q => SqL.of (hx H1 i σ' G q _ _ hp)) (fun i x σ' G hi q => hs H1 i x σ' G e1 hi q) (fun σ' G q => hd H1 σ' G e1 q)⟩
theorem q_asgL2 {i j : Nat} {x y : V} (h : EvL te σ H [x, y]) (q : ∀ H1, Ex H H1 → tz D' ((σ.set i (some x)).set j (some y)) H1) : tSeq (tAsg te (gLst K 2 (gCons (gName i) (gCons (gName j) gNil)))) tz D' σ H :=
  h H (Ex.refl H) _ fun p H1 n1 e1 hp => ⟨p, _, rfl, SqL.of hp, rfl, _, _, rfl, _, _, rfl, rfl, q H1 e1⟩
theorem rv_gtS {x y : Str} : RV (fun x y H Q => ∃ i j, x = .str i ∧ y = .str j ∧ Q (.bl (decide (j.cps.toList < i.cps.toList))) H) (.str x) (.str y) H (.bl (decide (y.cps.toList < x.cps.toList))) := fun H1 _ _ q => ⟨x, y, rfl, rfl, q H1 (Ex.refl H1)⟩
/-! ### _law_chosen -/
def spLCh (K : PySem.W.Frag) : Sp := fun vs H Q _ => ∃ (l a b : Addr) (ps : List (Str × Str)) (z : Str) (d e : Deed) (first : Bool) (ks : List Str), vs = [.ref l, .ref a, .ref b, .bl first] ∧ H l = some (.lst (sl (ps.map jn ++ [z]))) ∧ SqT K H a d.vs ∧ SqT K H b e.vs ∧ d.hd ≠ "stay" ∧ e.hd ≠ "stay" ∧ OptP ks d.hd e.hd ps z ∧ ∀ H', Ex H H' → Q (.str (chosenOf ps z (metOf d e first))) H'
theorem part_split {c r : Str} (hc : 58 ∉ tl c) (hr : 58 ∉ tl r) : Txt.split (c ++ ":" ++ r) ":" = [c, r] := by
  have : c ++ ":" ++ r = Txt.join ":" [c, r] := by rw [join_eq]; rfl
  rw [this]
  exact split_join (s := 58) (S := []) rfl (by decide +kernel) (by intro z; cases z) fun p hp => by
    rcases List.mem_cons.mp hp with rfl | hp
    · exact hc
    · rw [List.mem_singleton.mp hp]
      exact hr
theorem res_no {m : Str} {ks : List Str} : ∀ r ∈ resultsOf m ks, 58 ∉ tl r := by
  unfold resultsOf
  split <;> decide +kernel
/-- the heads, and what meets them -/
theorem head_cases {c : Str} (h : c ∈ condsOf d.hd e.hd) (hd : d.hd ≠ "stay") (he : e.hd ≠ "stay") : c = "first" ∨ ∃ k n u k' n' u', d = .sig k n u ∧ e = .sig k' n' u' ∧ (c = "less" ∨ c = "same" ∨ c = "more") := by
  unfold condsOf at h
  split at h
  · exact .inl (List.mem_singleton.mp h)
  · rename_i ho
    rcases List.mem_cons.mp h with h | h
    · exact .inl h
    · refine .inr ?_
      cases d with
      | stay => exact absurd rfl hd
      | out n => exact absurd (.inl rfl) ho
      | sig k n u => cases e with
        | stay => exact absurd rfl he
        | out n => exact absurd (.inr rfl) ho
        | sig k' n' u' =>
          simp only [List.mem_cons, List.not_mem_nil, or_false] at h
          exact ⟨k, n, u, k', n', u', rfl, rfl, h⟩
theorem met_first (d e : Deed) (first : Bool) : (("first" : Str) ∈ metOf d e first) ↔ first = true := by
  unfold metOf
  cases first with
  | true => simp
  | false =>
    cases d <;> cases e <;> simp [pick3]
    split
    · decide
    · split <;> decide
def ltB : Deed → Deed → Bool
  | .sig _ _ c, .sig _ _ c' => decide (c < c')
  | _, _ => false
def eqB : Deed → Deed → Bool
  | .sig _ _ c, .sig _ _ c' => decide (c = c')
  | _, _ => false
def gtB : Deed → Deed → Bool
  | .sig _ _ c, .sig _ _ c' => decide (c' < c)
  | _, _ => false
/-- what the law asks of a head -/
def hit (c : Str) (d e : Deed) (first : Bool) : Bool := (decide (c = "first") && first) || (decide (c = "less") && ltB d e) || ((decide (c = "same") && eqB d e) || (decide (c = "more") && gtB d e))
theorem met_iff {c : Str} (h : c ∈ condsOf d.hd e.hd) (hd : d.hd ≠ "stay") (he : e.hd ≠ "stay") : decide (c ∈ metOf d e first) = hit c d e first := by
  rcases head_cases h hd he with rfl | ⟨k, n, u, k', n', u', rfl, rfl, hc⟩
  · unfold hit
    have e0 : decide (("first" : Str) ∈ metOf d e first) = first := by
      cases hf : first with
      | true => exact decide_eq_true ((met_first d e true).mpr rfl)
      | false => exact decide_eq_false fun z => by cases (met_first d e false).mp z
    rw [e0]
    have e1 : decide (("first" : Str) = "less") = false := by decide
    have e2 : decide (("first" : Str) = "same") = false := by decide
    have e3 : decide (("first" : Str) = "more") = false := by decide
    rw [e1, e2, e3, decide_eq_true rfl]
    cases first <;> rfl
  · unfold hit metOf ltB eqB gtB
    rcases Nat.lt_trichotomy u u' with o | o | o
    · have a1 : decide (u < u') = true := decide_eq_true o
      have a2 : decide (u = u') = false := decide_eq_false (by omega)
      have a3 : decide (u' < u) = false := decide_eq_false (by omega)
      simp only [a1, a2, a3]
      rcases hc with rfl | rfl | rfl <;> cases first <;> decide +kernel
    · have a1 : decide (u < u') = false := decide_eq_false (by omega)
      have a2 : decide (u = u') = true := decide_eq_true o
      have a3 : decide (u' < u) = false := decide_eq_false (by omega)
      simp only [a1, a2, a3]
      rcases hc with rfl | rfl | rfl <;> cases first <;> decide +kernel
    · have a1 : decide (u < u') = false := decide_eq_false (by omega)
      have a2 : decide (u = u') = false := decide_eq_false (by omega)
      have a3 : decide (u' < u) = true := decide_eq_true o
      simp only [a1, a2, a3]
      rcases hc with rfl | rfl | rfl <;> cases first <;> decide +kernel
def rGtA : R2 := fun x y H Q => (∃ i j, x = .int i ∧ y = .int j ∧ Q (.bl (decide (j < i))) H) ∨ ∃ i j, x = .str i ∧ y = .str j ∧ Q (.bl (decide (j.cps.toList < i.cps.toList))) H
theorem op_gtA {X : Cx} : OpR X (compareOp .Gt) rGtA := op_gt.or op_gt_str
theorem ev_last {i : Nat} (h0 : σ[i]? = some (some (.ref a))) (ha : SqT K H a d.vs) : Ev (tOp (rIxT K) (tVar i) (tUn (rU fun i => .int (-i)) (tC (.int 1)))) σ H d.last := ev_ixT (ev_var h0) (ev_un ev_c ru_neg) ha d.last_at
theorem sig_of {c : Str} (h : c ∈ condsOf d.hd e.hd) (hd : d.hd ≠ "stay") (he : e.hd ≠ "stay") (hn : c ≠ "first") : ∃ k n u k' n' u', d = .sig k n u ∧ e = .sig k' n' u' := by
  rcases head_cases h hd he with z | ⟨k, n, u, k', n', u', z1, z2, _⟩
  · exact absurd z hn
  · exact ⟨k, n, u, k', n', u', z1, z2⟩
end
end T
namespace T
open PySem PySem.Spec PyProof.Rows L2 Evl XB TL XS XI XC ClX
section
variable {P : Program} {w : World} {K : PySem.W.Frag} {mg : Str → Option Value} {base : Heap} {C : Addr}
variable {σ : L2.St} {H : Hp} {ta tb tc te : TE} {tz ts : TS} {D' : Ends} {ks : List Str} {cs : List Cell} {x y a b : Addr} {E : XK} {d e : Deed} {xs : List V} {g : TG} {first : Bool}
/-- the law's dict of these cells -/
structure LDict (H : Hp) (kvs : List (Nm × V)) (cs : List Cell) : Prop where
  keys : kvs.map (·.1) = cs.map nmOf
  at_ : ∀ (i : Nat) (c : Cell), cs[i]? = some c → ∃ l : Addr, kvs[i]? = some (nmOf c, V.ref l) ∧ H l = some (.lst (sl c.2.2.2))
theorem LDict.ex {H' : Hp} {kvs : List (Nm × V)} (h : LDict H kvs cs) (z : Ex H H') : LDict H' kvs cs := ⟨h.keys, fun i c hc => by
  obtain ⟨t, h1, h2⟩ := h.at_ i c hc
  exact ⟨t, h1, z _ _ h2⟩⟩
theorem LDict.val {kvs : List (Nm × V)} (h : LDict H kvs cs) (nd : (cs.map nmOf).Nodup) (n : Nm) : (∃ t, valV kvs n = some (.ref t) ∧ H t = some (.lst (sl (optsFor cs n)))) ∨ (valV kvs n = none ∧ optsFor cs n = [("keep" : Str)]) := by
  cases e : cs.find? (fun c => decide (nmOf c = n)) with
  | none =>
    refine .inr ⟨valV_no ?_, by unfold optsFor; rw [e]; rfl⟩
    rw [h.keys]
    intro m
    obtain ⟨c, hc, rfl⟩ := List.mem_map.mp m
    have := List.find?_eq_none.mp e c hc
    exact this (decide_eq_true rfl)
  | some c =>
    have hn : nmOf c = n := of_decide_eq_true (List.find?_some (p := fun c => decide (nmOf c = n)) e)
    obtain ⟨i, hci⟩ := List.mem_iff_getElem?.mp (List.mem_of_find?_eq_some e)
    obtain ⟨t, h1, h2⟩ := h.at_ i c hci
    refine .inl ⟨t, ?_, by unfold optsFor; rw [e]; exact h2⟩
    have := valV_at (by rw [h.keys]; exact nd) h1
    rw [hn] at this
    exact this
/-- a list comes, new or known -/
def EvM (te : TE) (σ : L2.St) (H : Hp) (xs : List V) : Prop := ∀ H1, Ex H H1 → ∀ Q : VK, (∀ p H2, Ex H1 H2 → H2 p = some (.lst xs) → Q (.ref p) H2) → te σ H1 Q
theorem em_get {D : Addr} {kvs : List (Nm × V)} {n : Nm} (h1 : Ev ta σ H (.ref D)) (h2 : EvU tb σ H (n.map kV)) (h3 : EvL tc σ H (sl [("keep" : Str)])) (hD : H D = some (.dT kvs)) (hL : LDict H kvs cs) (nd : (cs.map nmOf).Nodup) : EvM (tDGet2 ta tb tc) σ H (sl (optsFor cs n)) := fun H1 e Q q =>
  h1 H1 e _ fun H2 e2 => ⟨D, rfl, .inr ⟨kvs, .inl (e2 _ _ (e _ _ hD))⟩, h2 H2 (e.trans e2) _ fun p H3 n3 e3 hp => h3 H3 ((e.trans e2).trans e3) _ fun l H4 n4 e4 hl => by
    have e14 := ((e.trans e2).trans e3).trans e4
    rcases (hL.ex e14).val nd n with ⟨t, hv, ht⟩ | ⟨hv, ho⟩
    · exact ⟨some (.ref t), hv ▸ DGet.t (e14 _ _ hD) (e4 _ _ hp), q t H4 ((e2.trans e3).trans e4) ht⟩
    · exact ⟨none, hv ▸ DGet.t (e14 _ _ hD) (e4 _ _ hp), q l H4 ((e2.trans e3).trans e4) (by rw [ho]; exact hl)⟩⟩
theorem ev_lch {td : TE} {ps : List (Str × Str)} {z : Str} (h0 : EvM td σ H (sl (ps.map jn ++ [z]))) (h1 : Ev ta σ H (.ref a)) (h2 : Ev tb σ H (.ref b)) (h3 : Ev tc σ H (.bl first)) (ha : SqT K H a d.vs) (hb : SqT K H b e.vs) (hd : d.hd ≠ "stay") (he : e.hd ≠ "stay") (OP : OptP ks d.hd e.hd ps z) :
    Ev (tCall (spLCh K) [] E (tCons td (tCons ta (tCons tb (tCons tc tNil))))) σ H (.str (chosenOf ps z (metOf d e first))) := fun H1 g Q q =>
  h0 H1 g _ fun l H2 g2 hl => h1 H2 (g.trans g2) _ fun H3 g3 => h2 H3 ((g.trans g2).trans g3) _ fun H4 g4 => h3 H4 (((g.trans g2).trans g3).trans g4) _ fun H5 g5 => by
    have g15 := (((g.trans g2).trans g3).trans g4).trans g5
    exact ⟨l, a, b, ps, z, d, e, first, ks, rfl, (g3.trans (g4.trans g5)) _ _ hl, ex_t g15 ha, ex_t g15 hb, hd, he, OP, fun H6 g6 => q H6 ((((g2.trans g3).trans g4).trans g5).trans g6)⟩
theorem ev_steps {i : Nat} {r : Str} (h5 : σ[i]? = some (some (.str r))) (hr : r ∈ [("keep" : Str), "up", "down", "put"]) : Ev (tDGet (tDisp [(tC (.str "keep"), tC (.int 0)), (tC (.str "up"), tC (.int 1)), (tC (.str "down"), tUn (rU fun i => .int (-i)) (tC (.int 1))), (tC (.str "put"), tC (.int 0))]) (tVar i)) σ H (.int (step r)) := fun H1 e Q q p np => by
  refine ⟨1, rfl, upd_same, [(.inr "keep", .int 0), (.inr "up", .int 1), (.inr "down", .int (-1)), (.inr "put", .int 0)], rfl, by decide, _, h5, p, _, rfl, .inl ⟨_, .inr r, .inl upd_same, rfl, ?_⟩, q _ (by
    intro b o hb
    have := ne_of_none hb np
    rw [upd_ne this, upd_ne this]
    exact hb)⟩
  simp only [List.mem_cons, List.not_mem_nil, or_false] at hr
  rcases hr with rfl | rfl | rfl | rfl <;> decide +kernel
def spLT (K : PySem.W.Frag) : Sp := fun vs H Q _ => ∃ (D a b : Addr) (d e : Deed) (first : Bool) (ks : List Str) (cs : List Cell) (kvs : List (Nm × V)), vs = [.ref D, .ref a, .ref b, .bl first] ∧ H D = some (.dT kvs) ∧ LDict H kvs cs ∧ Cells ks cs ∧ ks ∈ kinds7 ∧ SqT K H a d.vs ∧ SqT K H b e.vs ∧ d.ok ks ∧ e.ok ks ∧ ∀ l H', Ex H H' → SqT K H' l (turnedOf cs d e first) → Q (.ref l) H'
end
end T
namespace T
open PySem PySem.Spec PyProof.Rows L2 Evl XB TL XS XI XC ClX
theorem letters_ok : ∀ z ∈ [("abcdefghijklmnopqrstuvwxyz" : Str), "az", "m"], (0 < z.length ∧ z.length ≤ 1000) ∧ ∀ c ∈ z.cps.toList, 97 ≤ c ∧ c ≤ 122 := by decide +kernel
section
variable {P : Program} {w : World} {K : PySem.W.Frag} {mg : Str → Option Value} {base : Heap} {C : Addr}
/-! ### _law_sign -/
def spLSign : Sp := fun vs H Q _ => ∃ p, vs = [.ref p] ∧ Purse H p ∧ ∀ c H', 97 ≤ c → c ≤ 122 → Purse H' p → Chg p H H' → Q (.str (let1 c)) H'
theorem c_lsign (D : At K mg "_law_sign" s__law_sign ["purse"]) (Cp : C8.Cal P w K mg base 2 "_law_pick" (spPick K) []) : C8.Cal P w K mg base 3 "_law_sign" spLSign [] := by
  refine cal_of D sc__law_sign (fun vs H Q E h => ?_) (fun f cdv A outer s H vs Q E hr h => ?_)
  · obtain ⟨p, rfl, _⟩ := h
    rfl
  · obtain ⟨p, rfl, hp, q⟩ := h
    refine ⟨_, pss_cons (ps_set (i := 1) sc__law_sign.nd rfl (.inl rfl) pe_str)
      (pss_one (ps_ret (C8.pe_c Cp hr (by decide) (by rfl) (pa_cons (pv 0) (pa_cons (C8.pe_c Cp hr (by decide) (by rfl) (pa_cons (pv 0) (pa_cons (pe_lst (pa_cons (pv 1) (pa_cons (pv 1) (pa_cons pe_str (pa_cons pe_str pa_nil))))) pa_nil))) pa_nil))))), ?_⟩
    refine ⟨_, rfl, _, rfl, _, rfl, _, rfl, (by show 4 ≤ sizeLine; decide), fun l nl => ?_⟩
    have hp1 := hp.new (o := .lst [.str "abcdefghijklmnopqrstuvwxyz", .str "abcdefghijklmnopqrstuvwxyz", .str "az", .str "m"]) nl
    refine ⟨p, _, rfl, hp1, .inl ⟨l, _, rfl, (hp.ne nl).symm, SqL.of upd_same, (by intro z; cases z), (by show 4 ≤ 1000; decide), fun x hx H2 hp2 c2 => ?_⟩⟩
    obtain ⟨z, hz, rfl⟩ : ∃ z ∈ [("abcdefghijklmnopqrstuvwxyz" : Str), "az", "m"], x = V.str z := by
      simp only [List.mem_cons, List.not_mem_nil, or_false] at hx
      rcases hx with rfl | rfl | rfl | rfl
      · exact ⟨_, by simp, rfl⟩
      · exact ⟨_, by simp, rfl⟩
      · exact ⟨"az", by simp, rfl⟩
      · exact ⟨"m", by simp, rfl⟩
    obtain ⟨⟨z0, z1⟩, zc⟩ := letters_ok z hz
    exact ⟨p, _, rfl, hp2, .inr ⟨z, rfl, z0, z1, fun c hc H3 hp3 c3 => q c H3 (zc c hc).1 (zc c hc).2 hp3 ((((Chg.refl p H).new nl).trans c2).trans c3)⟩⟩
/-! ### _law_deed -/
theorem kind_cases {ks : List Str} (h : ks ∈ kinds7) : ∀ s ∈ ks, s = "out" ∨ s ∈ [("put" : Str), "set"] := by
  have all : ∀ ks ∈ kinds7, ∀ s ∈ ks, s = "out" ∨ s ∈ [("put" : Str), "set"] := by decide +kernel
  exact all ks h
def spLDeed (K : PySem.W.Frag) : Sp := fun vs H Q _ => ∃ (p a : Addr) (lo hi : Int) (ss ks : List Str), vs = [.ref p, .ref a, .int lo, .int hi] ∧ Purse H p ∧ SqL K H a (sl ss) ∧ a ≠ p ∧ ss ≠ [] ∧ ss.length ≤ 1000 ∧ (∀ s ∈ ss, s = "stay" ∨ s ∈ ks) ∧ ks ∈ kinds7 ∧ -9 ≤ lo ∧ lo ≤ hi ∧ hi ≤ 10 ^ 12 ∧
  ∀ (d : Deed) l H', d.ok ks → Purse H' p → Chg p H H' → H' l = some (.tup d.vs) → l ≠ p → Q (.ref l) H'
theorem c_ldeed (D : At K mg "_law_deed" s__law_deed ["purse", "sorts", "low", "high"]) (Cd : C8.Cal P w K mg base 1 "_law_draw" spDraw []) (Cp : C8.Cal P w K mg base 2 "_law_pick" (spPick K) []) (Cs : C8.Cal P w K mg base 3 "_law_sign" spLSign []) : C8.Cal P w K mg base 4 "_law_deed" (spLDeed K) [] := by
  refine cal_of D sc__law_deed (fun vs H Q E h => ?_) (fun f cdv A outer s H vs Q E hr h => ?_)
  · obtain ⟨p, a, lo, hi, ss, ks, rfl, _⟩ := h
    rfl
  · obtain ⟨p, a, lo, hi, ss, ks, rfl, hp, hS, ne, hne, hlen, hss, hk, h1, h2, h3, q⟩ := h
    refine ⟨_, pss_cons (ps_par (i := 4) (j := 5) (by rfl) sc__law_deed.nd rfl rfl (by decide) rfl rfl (pa_cons (C8.pe_c Cp hr (by decide) (by rfl) (pa_cons (pv 0) (pa_cons (pv 1) pa_nil))) (pa_cons (pe_op op_add (pv 2) (C8.pe_c Cd hr (by decide) (by rfl) (pa_cons (pv 0) (pa_cons (pe_op op_add (pe_op op_sub (pv 3) (pv 2)) pe_int) pa_nil)))) pa_nil)) (by rfl))
      (pss_cons (ps_if (pt_cmpR op_eq (pv 4) pe_str (nomark _)) (pss_one (ps_ret (pe_tup (pa_cons pe_str pa_nil)))) pss_nil)
      (pss_one (ps_ret (pe_ifExp (pt_cmpR op_eq (pv 4) pe_str (nomark _)) (pe_tup (pa_cons pe_str (pa_cons (pv 5) pa_nil))) (pe_tup (pa_cons (pv 4) (pa_cons (pv 5) (pa_cons (C8.pe_c Cs hr (by decide) (by rfl) (pa_cons (pv 0) pa_nil)) pa_nil)))))))), ?_⟩
    refine ⟨_, rfl, _, rfl, p, _, rfl, hp, .inl ⟨a, sl ss, rfl, ne, hS, (fun z => hne (List.map_eq_nil_iff.mp z)), (by rw [XB.len_sl]; exact hlen), fun x hx H1 hp1 c1 => ?_⟩⟩
    obtain ⟨s, hs, rfl⟩ := List.mem_map.mp hx
    refine ⟨_, rfl, _, rfl, _, rfl, _, rfl, _, _, rfl, rfl, _, _, rfl, rfl, p, hi - lo + 1, rfl, hp1, by omega, by omega, fun j H2 j0 j1 hp2 c2 => ⟨_, _, rfl, rfl, _, _, rfl, ?_⟩⟩
    have c12 := c1.trans c2
    have lo9 : -9 ≤ lo + j := by omega
    have hi12 : lo + j ≤ 10 ^ 12 := by omega
    have tup : ∀ (d : Deed) {l : Addr} {G : Hp}, d.ok ks → Purse G p → Chg p H G → G l = none → Q (.ref l) (upd G l (.tup d.vs)) := fun d {l G} ok hp cG nl => q d l _ ok (hp.new nl) (cG.new nl) upd_same (hp.ne nl).symm
    refine ⟨_, rfl, rfl, _, rfl, ite2 (fun w => ?_) (fun w => ?_)⟩
    · exact ⟨(by show 1 ≤ sizeLine; decide), fun l nl => tup .stay trivial hp2 c12 nl⟩
    · have nst : s ≠ "stay" := fun z => of_decide_eq_false (by simpa using w) (by rw [z])
      have sk : s ∈ ks := (hss s hs).resolve_left nst
      refine ⟨_, rfl, rfl, _, rfl, ite2 (fun w2 => ?_) (fun w2 => ?_)⟩
      · have so : s = "out" := by
          have := of_decide_eq_true w2
          injection this
        subst so
        exact ⟨_, rfl, (by show 2 ≤ sizeLine; decide), fun l nl => tup (.out (lo + j)) ⟨sk, lo9, hi12⟩ hp2 c12 nl⟩
      · have sn : s ≠ "out" := fun z => of_decide_eq_false (by simpa using w2) (by rw [z])
        have sp := (kind_cases hk s sk).resolve_left sn
        exact ⟨_, rfl, _, rfl, _, rfl, p, rfl, hp2, fun c H3 c0 c1' hp3 c3 => ⟨(by show 3 ≤ sizeLine; decide), fun l nl => tup (.sig s (lo + j) c) ⟨sp, sk, lo9, hi12, c0, c1'⟩ hp3 (c12.trans c3) nl⟩⟩
end
end T
namespace T
open PySem PySem.Spec PyProof.Rows L2 Evl XB TL XS XI XC ClX
theorem cell_inj {ks : List Str} {c c' : Cell} (hk : ks ∈ kinds7) (g : GoodC ks c) (g' : GoodC ks c') (h : lineOf c = lineOf c') : c = c' := by
  have z : partsOf c = partsOf c' := by rw [← parts_split hk g, h, parts_split hk g']
  obtain ⟨m, i, s, ws⟩ := c
  obtain ⟨m', i', s', ws'⟩ := c'
  unfold partsOf at z
  injection z with z1 z
  injection z with z2 z
  injection z with z3 z4
  simp only at z1 z2 z3 z4
  rw [z1, z2, z3, z4]
theorem cells_inj {ks : List Str} (hk : ks ∈ kinds7) : ∀ {cs cs' : List Cell}, (∀ c ∈ cs, GoodC ks c) → (∀ c ∈ cs', GoodC ks c) → cs.map lineOf = cs'.map lineOf → cs = cs'
  | [], [], _, _, _ => rfl
  | [], _ :: _, _, _, h => by cases h
  | _ :: _, [], _, _, h => by cases h
  | c :: r, c' :: r', g, g', h => by
    rw [List.map_cons, List.map_cons] at h
    injection h with h1 h2
    rw [cell_inj hk (g c List.mem_cons_self) (g' c' List.mem_cons_self) h1, cells_inj hk (fun x hx => g x (List.mem_cons_of_mem _ hx)) (fun x hx => g' x (List.mem_cons_of_mem _ hx)) h2]
theorem sl_inj : ∀ {xs ys : List Str}, sl xs = sl ys → xs = ys
  | [], [], _ => rfl
  | [], _ :: _, h => by cases h
  | _ :: _, [], h => by cases h
  | x :: r, y :: t, h => by
    have h : V.str x :: sl r = V.str y :: sl t := h
    injection h with h1 h2
    injection h1 with h1
    rw [h1, sl_inj h2]
section
variable {P : Program} {w : World} {K : PySem.W.Frag} {mg : Str → Option Value} {base : Heap} {C : Addr}
variable {σ : L2.St} {H H' : Hp} {ta tb tc te : TE} {tz ts : TS} {D' : Ends} {ks : List Str} {cs cs' : List Cell} {x y a b D p u : Addr} {E : XK} {d e : Deed} {xs zs : List V} {g : TG} {first : Bool} {kvs : List (Nm × V)}
theorem ldict_inj (h : LDict H kvs cs) (h' : LDict H kvs cs') : cs = cs' := by
  have len : cs.length = cs'.length := by
    have z := congrArg List.length (h.keys.symm.trans h'.keys)
    rw [List.length_map, List.length_map] at z
    exact z
  refine List.ext_getElem? fun i => ?_
  cases q : cs[i]? with
  | none => exact (List.getElem?_eq_none (by rw [← len]; exact List.getElem?_eq_none_iff.mp q)).symm
  | some c =>
    have hi : i < cs'.length := by rw [← len]; exact (List.getElem?_eq_some_iff.mp q).1
    have q' : cs'[i]? = some cs'[i] := List.getElem?_eq_getElem hi
    rw [q']
    generalize cs'[i] = c' at q'
    obtain ⟨l, h1, h2⟩ := h.at_ i c q
    obtain ⟨l', h1', h2'⟩ := h'.at_ i c' q'
    rw [h1] at h1'
    injection h1' with h1'
    injection h1' with n1 n2
    injection n2 with n2
    subst n2
    rw [h2] at h2'
    injection h2' with h2'
    injection h2' with h2'
    have hw := sl_inj h2'
    obtain ⟨m, i, s, ws⟩ := c
    obtain ⟨m', i', s', ws'⟩ := c'
    obtain ⟨e1, e2, e3⟩ := nm3_inj n1
    simp only at e1 e2 e3 hw
    rw [e1, e2, e3, hw]
theorem TabAt.whole (h : TabAt K C H x ks (cs.map lineOf)) (hk : ks ∈ kinds7) (hC : Cells ks cs) : TabW K C H x ks cs := by
  obtain ⟨dx, D, a, r, kvs, cs', e, f⟩ := h
  have := cells_inj hk hC.good f.c.good e
  subst this
  exact ⟨dx, D, a, r, kvs, f⟩
theorem TabW.at (h : TabW K C H x ks cs) : TabAt K C H x ks (cs.map lineOf) := by
  obtain ⟨dx, D, a, r, kvs, f⟩ := h
  exact ⟨dx, D, a, r, kvs, cs, rfl, f⟩
theorem opts_ne {m i : Str} {ws : List Str} (h : IsOpts m i ks ws) : ws ≠ [] := by
  obtain ⟨pre, z, rfl, _⟩ := h
  simp
/-- no list of texts, but an empty one -/
def NoTx (zs : List V) : Prop := ∀ ws : List Str, ws ≠ [] → zs ≠ sl ws
theorem CellsAt.chgU (h : CellsAt H ks kvs) (hu : H u = some (.lst zs)) (nz : NoTx zs) (c : Chg u H H') : CellsAt H' ks kvs := ⟨h.1, fun q hq => by
  obtain ⟨m, i, s, l, ws, h1, h2, h3, h4, ho, t⟩ := h.2 q hq
  exact ⟨m, i, s, l, ws, h1, h2, h3, h4, ho, c _ _ (ne_of t hu fun z => nz ws (opts_ne ho) (by injection z with z; exact z.symm)) t⟩⟩
theorem CellsAt.ex (h : CellsAt H ks kvs) (c : Ex H H') : CellsAt H' ks kvs := ⟨h.1, fun q hq => by
  obtain ⟨m, i, s, l, ws, h1, h2, h3, h4, ho, t⟩ := h.2 q hq
  exact ⟨m, i, s, l, ws, h1, h2, h3, h4, ho, c _ _ t⟩⟩
theorem LDict.chgU (h : LDict H kvs cs) (hC : Cells ks cs) (hu : H u = some (.lst zs)) (nz : NoTx zs) (c : Chg u H H') : LDict H' kvs cs := ⟨h.keys, fun i d hd => by
  obtain ⟨l, h1, h2⟩ := h.at_ i d hd
  exact ⟨l, h1, c _ _ (ne_of h2 hu fun z => nz d.2.2.2 (opts_ne (hC.good d (List.mem_of_getElem? hd)).2.2.2) (by injection z with z; exact z.symm)) h2⟩⟩
theorem TabW.chgU (h : TabW K C H x ks cs) (hk : ks ∈ kinds7) (hu : H u = some (.lst zs)) (c : Chg u H H') : TabW K C H' x ks cs := by
  have hC := h.choose_spec.choose_spec.choose_spec.choose_spec.choose_spec.c
  exact (h.at.chg hu c).whole hk hC
structure Box9 (K : PySem.W.Frag) (C : Addr) (H : Hp) (p u b D x : Addr) (ks : List Str) (kvs : List (Nm × V)) (cs : List Cell) : Prop where
  hb : H b = some (.lst [.ref D, .ref x])
  bp : b ≠ p
  bu : b ≠ u
  hD : H D = some (.dT kvs)
  ca : CellsAt H ks kvs
  ld : LDict H kvs cs
  few : kvs.length ≤ 27
  t : TabW K C H x ks cs
  c : Cells ks cs
def Box9At (K : PySem.W.Frag) (C : Addr) (H : Hp) (p u : Addr) (ks : List Str) (v : V) : Prop := ∃ b D x kvs cs, v = .ref b ∧ Box9 K C H p u b D x ks kvs cs
theorem Box9At.chgU {v : V} {o : Addr} (h : Box9At K C H p u ks v) (hk : ks ∈ kinds7) (ho : H o = some (.lst zs)) (nz : NoTx zs) (e : o = p ∨ o = u) (c : Chg o H H') : Box9At K C H' p u ks v := by
  obtain ⟨b, D, x, kvs, cs, e2, B⟩ := h
  have bo : b ≠ o := fun z => by
    rcases e with e | e
    · exact B.bp (z.trans e)
    · exact B.bu (z.trans e)
  exact ⟨b, D, x, kvs, cs, e2, ⟨c _ _ bo B.hb, B.bp, B.bu, c _ _ (ne_of B.hD ho fun z => by cases z) B.hD, B.ca.chgU ho nz c, B.ld.chgU B.c ho nz c, B.few, B.t.chgU hk ho c, B.c⟩⟩
theorem notx_int {d z w : Int} : NoTx [.int d, .int z, .int w] := fun ws _ h => by
  cases ws with
  | nil => cases h
  | cons x r =>
    have h : V.int d :: _ = V.str x :: _ := h
    injection h with h _
    cases h
theorem Box9At.chgP {v : V} (h : Box9At K C H p u ks v) (hk : ks ∈ kinds7) (hp : Purse H p) (c : Chg p H H') : Box9At K C H' p u ks v := by
  obtain ⟨d, z, w, e⟩ := hp
  exact h.chgU hk e notx_int (.inl rfl) c
theorem Box9At.ex {v : V} (h : Box9At K C H p u ks v) (z : Ex H H') : Box9At K C H' p u ks v := by
  obtain ⟨b, D, x, kvs, cs, e2, B⟩ := h
  exact ⟨b, D, x, kvs, cs, e2, ⟨z _ _ B.hb, B.bp, B.bu, z _ _ B.hD, B.ca.ex z, B.ld.ex z, B.few, B.t.ex z, B.c⟩⟩
/-! ### lines and texts -/
theorem em_lines (h : Ev ta σ H (.ref D)) (hk : ks ∈ kinds7) (hD : H D = some (.dT kvs)) (hC : CellsAt H ks kvs) (hl : kvs.length ≤ 27) (hL : LDict H kvs cs) : EvM (tCall spLines [] E (tCons ta tNil)) σ H (sl (cs.map lineOf)) := fun H1 e Q q =>
  h H1 e _ fun H2 e2 => ⟨D, ks, kvs, rfl, hk, e2 _ _ (e _ _ hD), (hC.ex e).ex e2, hl, fun l cs' H3 s3 nl hl3 hC' k' at' => by
    have := ldict_inj ⟨k', at'⟩ ((hL.ex e).ex e2)
    subst this
    exact q l H3 (e2.trans s3) hl3⟩
theorem ev_textM {s : Addr} (h1 : Ev ta σ H (.ref s)) (h2 : EvM tb σ H (sl (cs.map lineOf))) (hk : ks ∈ kinds7) (hs : H s = some (.lst (sl ks))) (hC : Cells ks cs) : Ev (tCall spText [] E (tCons ta (tCons tb tNil))) σ H (.str (textOf ks (cs.map lineOf))) := fun H1 e Q q =>
  h1 H1 e _ fun H2 e2 => h2 H2 (e.trans e2) _ fun l H3 e3 hl => ⟨s, l, ks, cs.map lineOf, rfl, hk, e3 _ _ (e2 _ _ (e _ _ hs)), hl, by rw [List.length_map]; exact hC.few, (fun x hx => by
    obtain ⟨c, hc, rfl⟩ := List.mem_map.mp hx
    exact line_len hk (hC.good c hc)), fun H4 e4 => q H4 ((e2.trans e3).trans e4)⟩
/-! ### repr of an edit -/
def dpv : V → PyData
  | .str x => .str x
  | .int n => .int n
  | _ => .none
/-- a short text, or a number that is not great -/
def Fl (v : V) : Prop := (∃ x : Str, v = .str x ∧ Lo x ∧ x.length ≤ 16) ∨ ∃ n : Int, v = .int n ∧ n.natAbs < 10 ^ 13
theorem dp_fl : ∀ {xs : List V}, (∀ v ∈ xs, Fl v) → DpAll K H xs (xs.map dpv)
  | [], _ => .nil
  | v :: r, h => by
    refine .cons ?_ (dp_fl fun y hy => h y (List.mem_cons_of_mem _ hy))
    rcases h v List.mem_cons_self with ⟨x, rfl, _⟩ | ⟨n, rfl, _⟩
    · exact .str x
    · exact .int n
theorem fl_all {xs : List V} : (∀ v ∈ xs, Fl v) → PyData.showableAll (xs.map dpv) = true ∧ PyData.hasDictAll (xs.map dpv) = false ∧ PyData.depthAll (xs.map dpv) = 0 ∧ PyData.leavesShortAll 20 (xs.map dpv) = true ∧ PyData.weightAll (xs.map dpv) ≤ xs.length * 101 := by
  induction xs with
  | nil => exact fun _ => ⟨rfl, rfl, rfl, rfl, Nat.zero_le _⟩
  | cons v r ih =>
    intro h
    obtain ⟨i1, i2, i3, i4, i5⟩ := ih fun y hy => h y (List.mem_cons_of_mem _ hy)
    rcases h v List.mem_cons_self with ⟨x, rfl, lx, xl⟩ | ⟨n, rfl, hn⟩
    · refine ⟨?_, ?_, ?_, ?_, ?_⟩
      · show (true && PyData.showableAll (r.map dpv)) = true
        rw [i1]; rfl
      · show (false || PyData.hasDictAll (r.map dpv)) = false
        rw [i2]; rfl
      · show max 0 (PyData.depthAll (r.map dpv)) = 0
        rw [i3]; rfl
      · show (PyData.leavesShort 20 (.str x) && PyData.leavesShortAll 20 (r.map dpv)) = true
        rw [i4, show PyData.leavesShort 20 (.str x) = true from lv_str lx]; rfl
      · show x.length + 1 + PyData.weightAll (r.map dpv) ≤ (r.length + 1) * 101
        rw [Nat.succ_mul]
        omega
    · have lg : n.natAbs.log2 < 64 := by
        by_cases z : n.natAbs = 0
        · rw [z]; decide
        · exact (Nat.log2_lt z).mpr (Nat.lt_trans hn (by decide))
      refine ⟨?_, ?_, ?_, ?_, ?_⟩
      · show (decide (n.natAbs.log2 < 1920) && PyData.showableAll (r.map dpv)) = true
        rw [i1, decide_eq_true (by omega)]; rfl
      · show (false || PyData.hasDictAll (r.map dpv)) = false
        rw [i2]; rfl
      · show max 0 (PyData.depthAll (r.map dpv)) = 0
        rw [i3]; rfl
      · show (decide ((PyData.shown (.int n)).length ≤ 20) && PyData.leavesShortAll 20 (r.map dpv)) = true
        rw [i4, decide_eq_true ?_]
        · rfl
        · have e := int_text_length_le10 (k := 13) (by decide) hn
          show (Str.ofString (toString n)).length ≤ 20
          rw [PySem.ofString_length]
          omega
      · show (if n == 0 then 0 else n.natAbs.log2 + 1) + 1 + PyData.weightAll (r.map dpv) ≤ (r.length + 1) * 101
        rw [Nat.succ_mul]
        split <;> omega
def shownT (xs : List V) : Str := (PyData.tuple (xs.map dpv)).shown
theorem ev_reprT (h : EvS K te σ H xs) (fl : ∀ v ∈ xs, Fl v) (hl : xs.length ≤ 3) : Ev (tCB (XG.rRepr K) (tCons te tNil)) σ H (.str (shownT xs)) := fun H1 e Q q => h H1 e _ fun l H2 e2 hp => by
  obtain ⟨i1, i2, i3, i4, i5⟩ := fl_all fl
  refine ⟨.ref l, PyData.tuple (xs.map dpv), rfl, .tup hp (dp_fl fl), i1, i2, ?_, ?_, q H2 e2⟩
  · show PyData.depthAll (xs.map dpv) + 1 ≤ 32
    rw [i3]
    decide
  · have z := PyData.shown_le 20 (by decide) (PyData.tuple (xs.map dpv)) i4
    have y : PyData.weight (PyData.tuple (xs.map dpv)) ≤ xs.length * 101 := i5
    refine Nat.le_trans z ?_
    rw [sizeLine_eq]
    omega
theorem fl_str {x : Str} (h : Small x) : Fl (.str x) := .inl ⟨x, rfl, h.lo, h.len⟩
theorem fl_let {c : Nat} (h : c ≤ 122) : Fl (.str (let1 c)) := .inl ⟨let1 c, rfl, fun n m => by
  have : n ∈ [c] := m
  rw [List.mem_singleton.mp this]
  omega, by show 1 ≤ 16; decide⟩
theorem fl_num {n : Int} (h1 : -9 ≤ n) (h2 : n ≤ 10 ^ 12) {s : Int} (h3 : -1 ≤ s) (h4 : s ≤ 1) : Fl (.int (n + s)) := .inr ⟨_, rfl, by omega⟩
theorem step_b (r : Str) : -1 ≤ step r ∧ step r ≤ 1 := by
  unfold step
  split
  · decide
  · split <;> decide
theorem fl_deed (ok : d.ok ks) (hk : ks ∈ kinds7) : (∀ v ∈ d.vs, Fl v) ∧ d.vs.length ≤ 3 := by
  cases d with
  | stay => exact ⟨fun v hv => by rw [List.mem_singleton.mp hv]; exact fl_str (by decide +kernel), by show 1 ≤ 3; decide⟩
  | out n =>
    obtain ⟨o1, o2, o3⟩ := ok
    refine ⟨fun v hv => ?_, by show 2 ≤ 3; decide⟩
    simp only [Deed.vs, List.mem_cons, List.not_mem_nil, or_false] at hv
    rcases hv with rfl | rfl
    · exact fl_str (by decide +kernel)
    · have := fl_num o2 o3 (s := 0) (by decide) (by decide)
      rwa [Int.add_zero] at this
  | sig k n c =>
    obtain ⟨o1, o2, o3, o4, o5, o6⟩ := ok
    refine ⟨fun v hv => ?_, by show 3 ≤ 3; decide⟩
    simp only [Deed.vs, List.mem_cons, List.not_mem_nil, or_false] at hv
    rcases hv with rfl | rfl | rfl
    · exact fl_str (small_ks hk k o2)
    · have := fl_num o3 o4 (s := 0) (by decide) (by decide)
      rwa [Int.add_zero] at this
    · exact fl_let o6
theorem fl_formed (ok : d.ok ks) (hk : ks ∈ kinds7) {r : Str} (fo : FormOk d r) : (∀ v ∈ formedOf d r, Fl v) ∧ (formedOf d r).length ≤ 3 := by
  obtain ⟨s1, s2⟩ := step_b r
  unfold formedOf
  split
  · exact ⟨fun v hv => by rw [List.mem_singleton.mp hv]; exact fl_str (by decide +kernel), by show 1 ≤ 3; decide⟩
  · split
    · cases d with
      | stay => exact absurd rfl fo.1
      | out n => exact ⟨(fun v hv => by cases hv), Nat.zero_le _⟩
      | sig k n c =>
        obtain ⟨o1, o2, o3, o4, o5, o6⟩ := ok
        refine ⟨fun v hv => ?_, by show 3 ≤ 3; decide⟩
        simp only [List.mem_cons, List.not_mem_nil, or_false] at hv
        rcases hv with rfl | rfl | rfl
        · exact fl_str (by decide +kernel)
        · have := fl_num o3 o4 (s := 0) (by decide) (by decide)
          rwa [Int.add_zero] at this
        · exact fl_let o6
    · cases d with
      | stay => exact absurd rfl fo.1
      | out n =>
        obtain ⟨o1, o2, o3⟩ := ok
        refine ⟨fun v hv => ?_, by show 2 ≤ 3; decide⟩
        simp only [List.mem_cons, List.not_mem_nil, or_false] at hv
        rcases hv with rfl | rfl
        · exact fl_str (by decide +kernel)
        · exact fl_num o2 o3 s1 s2
      | sig k n c =>
        obtain ⟨o1, o2, o3, o4, o5, o6⟩ := ok
        refine ⟨fun v hv => ?_, by show 3 ≤ 3; decide⟩
        simp only [List.mem_cons, List.not_mem_nil, or_false] at hv
        rcases hv with rfl | rfl | rfl
        · exact fl_str (small_ks hk k o2)
        · exact fl_num o3 o4 s1 s2
        · exact fl_let o6
theorem fl_turned (okd : d.ok ks) (oke : e.ok ks) (hk : ks ∈ kinds7) (hC : Cells ks cs) (first : Bool) : (∀ v ∈ turnedOf cs d e first, Fl v) ∧ (turnedOf cs d e first).length ≤ 3 := by
  unfold turnedOf
  split
  · exact fl_deed okd hk
  · rename_i z
    have z1 : d.hd ≠ "stay" := fun y => z (.inl y)
    obtain ⟨nd, _⟩ := Deed.hd_stay okd hk z1
    obtain ⟨ps, zz, ho, OP⟩ := optsFor_parts hC d.hd e.hd (relOf d e)
    rw [ho, chosenW_eq OP.pa]
    exact fl_formed okd hk (form_ok nd okd (chosen_in OP _))
end
end T
namespace T
open PySem PySem.Spec PyProof.Rows L2 Evl XB TL XS XI XC ClX
section
variable {P : Program} {w : World} {K : PySem.W.Frag} {mg : Str → Option Value} {base : Heap} {C : Addr}
variable {σ : L2.St} {H H' : Hp} {ta tb tc td te : TE} {tz ts : TS} {D' : Ends} {ks : List Str} {cs cs' : List Cell} {x y a b D p u s : Addr} {E : XK} {d e : Deed} {xs zs bs : List V} {g : TG} {first : Bool} {kvs : List (Nm × V)}
theorem chg_mix {H G G' : Hp} {p D : Addr} (nD : H D = none) (c : Chg p H G) (d : Chg D G G') : Chg p H G' := fun b o n e => d b o (ne_of_none e nD) (c b o n e)
theorem notx_refs (h : ∀ v ∈ bs, ∃ b, v = V.ref b) : NoTx bs := fun ws hw z => by
  subst z
  cases ws with
  | nil => exact hw rfl
  | cons x r =>
    obtain ⟨b, hb⟩ := h (.str x) List.mem_cons_self
    cases hb
theorem Box9At.isref {v : V} (h : Box9At K C H p u ks v) : ∃ b, v = V.ref b := by
  obtain ⟨b, _, _, _, _, e, _⟩ := h
  exact ⟨b, e⟩
theorem app_box9 {t1 t2 : TE} (hu : H u = some (.lst bs)) (hl : bs.length ≤ 1000) (h2 : σ[2]? = some (some (.ref u))) (hp : Purse H p) (hup : u ≠ p) (hk : ks ∈ kinds7) (hC : Cells ks cs) (hB : ∀ v ∈ bs, Box9At K C H p u ks v)
    (e1 : Ev t1 σ H (.ref D)) (hD : H D = some (.dT kvs)) (ca : CellsAt H ks kvs) (ld : LDict H kvs cs) (few : kvs.length ≤ 27) (e2 : EvTab K C t2 σ H ks (cs.map lineOf))
    (q : ∀ b H4, Chg u H H4 → Purse H4 p → H4 u = some (.lst (bs ++ [.ref b])) → (∀ v ∈ bs ++ [.ref b], Box9At K C H4 p u ks v) → D'.nx σ H4) :
    tDrop (tBM K "list" rAppend (tVar 2) (tCons (tLst (tCons t1 (tCons t2 tNil))) tNil)) D' σ H := by
  refine ⟨_, h2, .inl ⟨rfl, _, SqL.of hu⟩, ?_⟩
  refine e1 H (Ex.refl H) _ fun H1 g1 => e2 H1 g1 _ fun x H2 g2 tx => ⟨(by show 2 ≤ sizeLine; decide), fun b nb => ?_⟩
  have g12 := g1.trans g2
  have hu2 := g12 _ _ hu
  refine ⟨u, bs, .ref b, rfl, rfl, kp (u := HO.lst [.ref D, .ref x]) hu2 nb, by rw [sizeLine_eq]; omega, ?_⟩
  have nbH : H b = none := fresh_back g12 nb
  have bu : b ≠ u := (ne_of_none hu2 nb).symm
  have bp : b ≠ p := (hp.ne nbH).symm
  have hc : Chg u H (upd (upd H2 b (.lst [.ref D, .ref x])) u (.lst (bs ++ [.ref b]))) := ((Same.chg g12).new nb).at
  have hc2 : Chg u H2 (upd (upd H2 b (.lst [.ref D, .ref x])) u (.lst (bs ++ [.ref b]))) := ((Chg.refl u H2).new nb).at
  have nz : NoTx bs := notx_refs fun v hv => (hB v hv).isref
  have hp4 : Purse (upd (upd H2 b (.lst [.ref D, .ref x])) u (.lst (bs ++ [.ref b]))) p := by
    obtain ⟨d, z, w, w2⟩ := hp
    exact ⟨d, z, w, hc _ _ hup.symm w2⟩
  refine q b _ hc hp4 upd_same fun v hv => ?_
  rcases List.mem_append.mp hv with z | z
  · exact (hB v z).chgU hk hu nz (.inr rfl) hc
  · rw [List.mem_singleton.mp z]
    exact ⟨b, D, x, kvs, cs, rfl, kpm upd_same bu, bp, bu, hc _ _ (ne_of hD hu fun q => by cases q) hD, ca.chgU hu nz hc, ld.chgU hC hu nz hc, few, (tx.whole hk hC).chgU hk hu2 hc2, hC⟩
/-! ### a deed, drawn -/
theorem q_deed {i : Nat} {lo : Int} (h0 : σ[0]? = some (some (.ref p))) (h1 : σ[1]? = some (some (.ref s))) (h5 : σ[5]? = some (some (.int lo))) (hp : Purse H p) (hs : H s = some (.lst (sl ks))) (sp : s ≠ p) (hk : ks ∈ kinds7) (l1 : -9 ≤ lo) (l2 : lo ≤ 10 ^ 12 - 2)
    (q : ∀ (d : Deed) (l : Addr) (G : Hp), d.ok ks → Purse G p → Chg p H G → G l = some (.tup d.vs) → l ≠ p → tz D' (σ.set i (some (.ref l))) G) :
    tSeq (tAsg (tCall (spLDeed K) [] E (tCons (tVar 0) (tCons (tOp rCat (tOp rCat (tVar 1) (tVar 1)) (tLst (tCons (tC (.str "stay")) tNil))) (tCons (tVar 5) (tCons (tOp (rI0 fun i j => .int (i + j)) (tVar 5) (tC (.int 2))) tNil))))) (gName i)) tz D' σ H := by
  have l7 := len7 hk
  have ev : EvL (tOp rCat (tOp rCat (tVar 1) (tVar 1)) (tLst (tCons (tC (.str "stay")) tNil))) σ H (sl (ks ++ ks ++ [("stay" : Str)])) := fun H1 e Q q => by
    refine ⟨_, h1, _, h1, s, s, sl ks, sl ks, rfl, rfl, e _ _ hs, e _ _ hs, by rw [XB.len_sl, sizeLine_eq]; omega, fun a na => ⟨(by show 1 ≤ sizeLine; decide), fun c nc => ⟨a, c, _, _, rfl, rfl, kp upd_same nc, upd_same, by rw [List.length_append, XB.len_sl, sizeLine_eq]; show _ + 1 ≤ _; omega, fun r nr => ?_⟩⟩⟩
    have en : Ex H1 (upd (upd (upd H1 a (.lst (sl ks ++ sl ks))) c (.lst [.str "stay"])) r (.lst ((sl ks ++ sl ks) ++ [.str "stay"]))) := ((Ex.new na).trans (Ex.new nc)).trans (Ex.new nr)
    refine q r _ (fresh_back ((Ex.new na).trans (Ex.new nc)) nr) en ?_
    rw [upd_same, sl_cat]
    exact congrArg (fun z => some (HO.lst z)) (sl_cat (ks ++ ks) [("stay" : Str)])
  refine ⟨_, h0, ev H (Ex.refl H) _ fun r G nr er hr => ⟨_, h5, _, h5, _, _, rfl, rfl, ?_⟩⟩
  have hpG : Purse G p := by
    obtain ⟨d, z, w, w2⟩ := hp
    exact ⟨d, z, w, er _ _ w2⟩
  have rp : r ≠ p := (hp.ne nr).symm
  exact ⟨p, r, lo, lo + 2, _, ks, rfl, hpG, SqL.of hr, rp, (by simp), (by simp only [List.length_append, List.length_singleton]; omega), (fun z hz => by
    rcases List.mem_append.mp hz with hz | hz
    · exact .inr ((List.mem_append.mp hz).elim id id)
    · exact .inl (List.mem_singleton.mp hz)), hk, l1, by omega, by omega, fun d l G2 ok hp2 c2 hl ne => q d l G2 ok hp2 ((Same.chg er).trans c2) hl ne⟩
/-! ### the two turns -/
theorem es_lt (h0 : Ev td σ H (.ref D)) (h1 : Ev ta σ H (.ref a)) (h2 : Ev tb σ H (.ref b)) (h3 : Ev tc σ H (.bl first)) (hD : H D = some (.dT kvs)) (hL : LDict H kvs cs) (hC : Cells ks cs) (hk : ks ∈ kinds7) (ha : SqT K H a d.vs) (hb : SqT K H b e.vs) (okd : d.ok ks) (oke : e.ok ks) :
    EvS K (tCall (spLT K) [] E (tCons td (tCons ta (tCons tb (tCons tc tNil))))) σ H (turnedOf cs d e first) :=
  es_call (ea_cons h0 (ea_cons h1 (ea_cons h2 (ea_cons h3 ea_nil)))) fun H1 z Q q E => ⟨D, a, b, d, e, first, ks, cs, kvs, rfl, z _ _ hD, hL.ex z, hC, hk, ex_t z ha, ex_t z hb, okd, oke, q⟩
theorem es_passed (h0 : Ev td σ H (.ref x)) (h1 : Ev ta σ H (.ref a)) (h2 : Ev tb σ H (.ref b)) (h3 : Ev tc σ H (.bl first)) (t : TabW K C H x ks cs) (hk : ks ∈ kinds7) (ha : SqT K H a d.vs) (hb : SqT K H b e.vs) (okd : d.ok ks) (oke : e.ok ks) :
    EvS K (tMeth C "passed" (spTurned K C) [] E td (tCons ta (tCons tb (tCons tc tNil)))) σ H (turnedOf cs d e first) := fun H1 g Q q =>
  h0 H1 g _ fun H2 g2 => by
    obtain ⟨dx, D, a1, r1, kvs, f⟩ := id (t.ex (g.trans g2))
    refine ⟨x, dx, _, rfl, f.hx, rfl, ?_⟩
    exact (ea_cons h1 (ea_cons h2 (ea_cons h3 ea_nil))) H2 (g.trans g2) _ fun H3 g3 => ⟨x, a, b, d, e, first, ks, cs, rfl, (t.ex (g.trans g2)).ex g3, hk, ex_t ((g.trans g2).trans g3) ha, ex_t ((g.trans g2).trans g3) hb, okd, oke, fun l H4 g4 h4 => q l H4 ((g2.trans g3).trans g4) h4⟩
theorem es_passedK (h0 : Ev td σ H (.ref x)) (h1 : Ev ta σ H (.ref a)) (h2 : Ev tb σ H (.ref b)) (h3 : Ev tc σ H (.bl first)) (t : TabW K C H x ks cs) (hk : ks ∈ kinds7) (ha : SqT K H a d.vs) (hb : SqT K H b e.vs) (okd : d.ok ks) (oke : e.ok ks) :
    EvS K (XGt.tMethKw C "passed" 3 (spTurned K C) (fun vs zs => vs ++ zs.reverse) E td (tCons tc (tCons tb (tCons ta tNil)))) σ H (turnedOf cs d e first) := fun H1 g Q q =>
  h0 H1 g _ fun H2 g2 => by
    obtain ⟨dx, D, a1, r1, kvs, f⟩ := id (t.ex (g.trans g2))
    refine ⟨x, dx, _, rfl, f.hx, rfl, ?_⟩
    exact (ea_cons h3 (ea_cons h2 (ea_cons h1 ea_nil))) H2 (g.trans g2) _ fun H3 g3 => ⟨rfl, x, a, b, d, e, first, ks, cs, rfl, (t.ex (g.trans g2)).ex g3, hk, ex_t ((g.trans g2).trans g3) ha, ex_t ((g.trans g2).trans g3) hb, okd, oke, fun l H4 g4 h4 => q l H4 ((g2.trans g3).trans g4) h4⟩
/-! ### two lists of texts -/
theorem lo_text (hk : ks ∈ kinds7) (hC : Cells ks cs) : Lo (textOf ks (cs.map lineOf)) := lo_join lo_nl fun y hy => by
  rcases List.mem_cons.mp hy with rfl | hy
  · exact lo_head hk
  · exact (lo_tab hk hC).2 y hy
theorem ev_eqL {ws : List Str} (ha : EvL ta σ H (sl ws)) (hb : EvL tb σ H (sl ws)) (lo : ∀ x ∈ ws, Lo x) : Ev (tOp (rEqD K) ta tb) σ H (.bl true) := fun H1 g Q q =>
  ha H1 g _ fun p H2 n2 g2 hp => hb H2 (g.trans g2) _ fun r H3 n3 g3 hr => by
    have sh : SeqAt.shaped (.list (ws.map PyData.str)) = true := shp_strs lo
    refine ⟨_, _, .lst (SqL.of (g3 _ _ hp)) (dp_sl ws), .lst (SqL.of hr) (dp_sl ws), sh, sh, ?_⟩
    have : PyData.eqv (.list (ws.map PyData.str)) (.list (ws.map PyData.str)) = true := by
      show PyData.eqvAll _ _ = true
      rw [eqv_strs, decide_eq_true rfl]
    rw [this]
    exact q H3 (g2.trans g3)
/-- a text of each item of a known list -/
theorem el_texts {bs : List V} {ws : List Str} {j : Nat} {vs : List Nat} {q : Addr} (hlen : ws.length = bs.length) (h : Ev ta σ H (.ref q)) (hx : H q = some (.lst bs)) (hz : bs.length ≤ 1000) (hw : ∀ x, wipe ((wipe σ vs).set j (some x)) vs = wipe σ vs)
    (he : ∀ (i : Nat) (x : V) (t : Str) (H1 : Hp), Ex H H1 → bs[i]? = some x → ws[i]? = some t → Ev te ((wipe σ vs).set j (some x)) H1 (.str t)) : EvL (tLc (iList K ta) (gName j) tYes te vs) σ H (sl ws) :=
  el_is (el_lcL (fun _ => true) (fun i => .str (ws.getD i ("" : Str))) h (SqL.of hx) (by omega) hw (fun _ _ _ _ _ => fun H1 _ _ z => z H1 (Ex.refl H1)) (fun i x H1 e hi _ => by
    have hlt : i < ws.length := by rw [hlen]; exact (List.getElem?_eq_some_iff.mp hi).1
    have ht : ws[i]? = some ws[i] := List.getElem?_eq_getElem hlt
    rw [List.getD_eq_getElem?_getD, ht]
    exact he i x _ H1 e hi ht)) (by
    unfold given
    rw [List.filter_eq_self.mpr (fun _ _ => rfl), ← hlen]
    refine List.ext_getElem? fun i => ?_
    rw [List.getElem?_map, List.getElem?_map]
    by_cases hi : i < ws.length
    · rw [List.getElem?_range hi, List.getElem?_eq_getElem hi]
      show some (V.str (ws.getD i _)) = some (V.str ws[i])
      rw [List.getD_eq_getElem?_getD, List.getElem?_eq_getElem hi]
      rfl
    · rw [List.getElem?_eq_none (by rw [List.length_range]; omega), List.getElem?_eq_none (by omega)]
      rfl)
end
end T
namespace T
open PySem PySem.Spec PyProof.Rows L2 Evl XB TL XS XI XC ClX
theorem chg_mix2 {H G G' : Hp} {p D : Addr} (nD : H D = none) (c : Chg p H G) (d : Chg D G G') : Chg p H G' := fun b o n e => d b o (ne_of_none e nD) (c b o n e)
theorem fresh_chg {H G : Hp} {p F : Addr} (c : Chg p H G) (hp : Purse G p) (n : G F = none) : H F = none := by
  cases z : H F with
  | none => rfl
  | some o =>
    by_cases y : F = p
    · obtain ⟨d, a, b, w1⟩ := hp
      rw [y, w1] at n
      cases n
    · rw [c _ _ y z] at n
      cases n
end T
namespace T
open PySem PySem.Spec PyProof.Rows L2 Evl XB TL XS XI XC ClX
section
variable {P : Program} {w : World} {K : PySem.W.Frag} {mg : Str → Option Value} {base : Heap} {C : Addr}
variable {σ : L2.St} {H H' : Hp} {ta tb tc td te : TE} {tz ts : TS} {D' : Ends} {ks : List Str} {cs cs' : List Cell} {x y a b D p u s : Addr} {E : XK} {d e : Deed} {xs ys zs : List V} {g : TG} {first : Bool} {kvs : List (Nm × V)}
/-- three tuples in a list -/
def At3 (K : PySem.W.Frag) (H : Hp) (T : Addr) (xs ys zs : List V) : Prop := ∃ r1 r2 r3, H T = some (.lst [.ref r1, .ref r2, .ref r3]) ∧ SqT K H r1 xs ∧ SqT K H r2 ys ∧ SqT K H r3 zs
theorem At3.ex {T : Addr} (h : At3 K H T xs ys zs) (z : Ex H H') : At3 K H' T xs ys zs := by
  obtain ⟨r1, r2, r3, h0, h1, h2, h3⟩ := h
  exact ⟨r1, r2, r3, z _ _ h0, ex_t z h1, ex_t z h2, ex_t z h3⟩
def EvR3 (K : PySem.W.Frag) (te : TE) (σ : L2.St) (H : Hp) (xs ys zs : List V) : Prop := ∀ H1, Ex H H1 → ∀ Q : VK, (∀ T H2, Ex H1 H2 → At3 K H2 T xs ys zs → Q (.ref T) H2) → te σ H1 Q
theorem er_at {T : Addr} (h : Ev te σ H (.ref T)) (t : At3 K H T xs ys zs) : EvR3 K te σ H xs ys zs := fun H1 e Q q => h H1 e _ fun H2 e2 => q T H2 e2 ((t.ex e).ex e2)
theorem er_new (h1 : EvS K ta σ H xs) (h2 : EvS K tb σ H ys) (h3 : EvS K tc σ H zs) : EvR3 K (tLst (tCons ta (tCons tb (tCons tc tNil)))) σ H xs ys zs := fun H1 e Q q =>
  h1 H1 e _ fun r1 H2 e2 t1 => h2 H2 (e.trans e2) _ fun r2 H3 e3 t2 => h3 H3 ((e.trans e2).trans e3) _ fun r3 H4 e4 t3 => ⟨(by show 3 ≤ sizeLine; decide), fun T nT => by
    have z : Ex H4 (upd H4 T (.lst [.ref r1, .ref r2, .ref r3])) := Ex.new nT
    exact q T _ (((e2.trans e3).trans e4).trans z) ⟨r1, r2, r3, upd_same, ex_t ((e3.trans e4).trans z) t1, ex_t (e4.trans z) t2, ex_t z t3⟩⟩
def tupD (xs : List V) : PyData := .tuple (xs.map dpv)
theorem ev_reprR3 (h : EvR3 K te σ H xs ys zs) (f1 : (∀ v ∈ xs, Fl v) ∧ xs.length ≤ 3) (f2 : (∀ v ∈ ys, Fl v) ∧ ys.length ≤ 3) (f3 : (∀ v ∈ zs, Fl v) ∧ zs.length ≤ 3) : Ev (tCB (XG.rRepr K) (tCons te tNil)) σ H (.str (PyData.list [tupD xs, tupD ys, tupD zs]).shown) := fun H1 e Q q => h H1 e _ fun T H2 e2 t => by
  obtain ⟨r1, r2, r3, h0, h1, h2, h3⟩ := t
  obtain ⟨i1, i2, i3, i4, i5⟩ := fl_all f1.1
  obtain ⟨j1, j2, j3, j4, j5⟩ := fl_all f2.1
  obtain ⟨k1, k2, k3, k4, k5⟩ := fl_all f3.1
  refine ⟨.ref T, PyData.list [tupD xs, tupD ys, tupD zs], rfl, .lst (SqL.of h0) (.cons (.tup h1 (dp_fl f1.1)) (.cons (.tup h2 (dp_fl f2.1)) (.cons (.tup h3 (dp_fl f3.1)) .nil))), ?_, ?_, ?_, ?_, q H2 e2⟩
  · show (PyData.showableAll (xs.map dpv) && (PyData.showableAll (ys.map dpv) && (PyData.showableAll (zs.map dpv) && true))) = true
    rw [i1, j1, k1]; rfl
  · show (PyData.hasDictAll (xs.map dpv) || (PyData.hasDictAll (ys.map dpv) || (PyData.hasDictAll (zs.map dpv) || false))) = false
    rw [i2, j2, k2]; rfl
  · show max (PyData.depthAll (xs.map dpv) + 1) (max (PyData.depthAll (ys.map dpv) + 1) (max (PyData.depthAll (zs.map dpv) + 1) 0)) + 1 ≤ 32
    rw [i3, j3, k3]
    decide
  · have l4 : PyData.leavesShort 20 (PyData.list [tupD xs, tupD ys, tupD zs]) = true := by
      show (PyData.leavesShortAll 20 (xs.map dpv) && (PyData.leavesShortAll 20 (ys.map dpv) && (PyData.leavesShortAll 20 (zs.map dpv) && true))) = true
      rw [i4, j4, k4]; rfl
    have z := PyData.shown_le 20 (by decide) (PyData.list [tupD xs, tupD ys, tupD zs]) l4
    have y : PyData.weight (PyData.list [tupD xs, tupD ys, tupD zs]) = PyData.weightAll (xs.map dpv) + 1 + (PyData.weightAll (ys.map dpv) + 1 + (PyData.weightAll (zs.map dpv) + 1 + 0)) := rfl
    refine Nat.le_trans z ?_
    rw [sizeLine_eq]
    omega
/-- passed, of any three -/
theorem es_pas (h0 : Ev td σ H (.ref x)) (h1 : EvS K ta σ H d.vs) (h2 : EvS K tb σ H e.vs) (h3 : Ev tc σ H (.bl first)) (t : TabW K C H x ks cs) (hk : ks ∈ kinds7) (okd : d.ok ks) (oke : e.ok ks) :
    EvS K (tMeth C "passed" (spTurned K C) [] E td (tCons ta (tCons tb (tCons tc tNil)))) σ H (turnedOf cs d e first) := fun H1 g Q q =>
  h0 H1 g _ fun H2 g2 => by
    obtain ⟨dx, D, a1, r1, kvs, f⟩ := id (t.ex (g.trans g2))
    refine ⟨x, dx, _, rfl, f.hx, rfl, ?_⟩
    refine h1 H2 (g.trans g2) _ fun a H3 g3 ha => h2 H3 ((g.trans g2).trans g3) _ fun b H4 g4 hb => h3 H4 (((g.trans g2).trans g3).trans g4) _ fun H5 g5 => ?_
    exact ⟨x, a, b, d, e, first, ks, cs, rfl, (t.ex (g.trans g2)).ex ((g3.trans g4).trans g5), hk, ex_t (g4.trans g5) ha, ex_t g5 hb, okd, oke, fun l H6 g6 h6 => q l H6 ((((g2.trans g3).trans g4).trans g5).trans g6) h6⟩
theorem es_lt2 (h0 : Ev td σ H (.ref D)) (h1 : EvS K ta σ H d.vs) (h2 : EvS K tb σ H e.vs) (h3 : Ev tc σ H (.bl first)) (hD : H D = some (.dT kvs)) (hL : LDict H kvs cs) (hC : Cells ks cs) (hk : ks ∈ kinds7) (okd : d.ok ks) (oke : e.ok ks) :
    EvS K (tCall (spLT K) [] E (tCons td (tCons ta (tCons tb (tCons tc tNil))))) σ H (turnedOf cs d e first) := fun H1 g Q q =>
  h0 H1 g _ fun H2 g2 => h1 H2 (g.trans g2) _ fun a H3 g3 ha => h2 H3 ((g.trans g2).trans g3) _ fun b H4 g4 hb => h3 H4 (((g.trans g2).trans g3).trans g4) _ fun H5 g5 => by
    have z := (((g.trans g2).trans g3).trans g4).trans g5
    exact ⟨D, a, b, d, e, first, ks, cs, kvs, rfl, z _ _ hD, hL.ex z, hC, hk, ex_t (g4.trans g5) ha, ex_t g5 hb, okd, oke, fun l H6 g6 h6 => q l H6 ((((g2.trans g3).trans g4).trans g5).trans g6) h6⟩
theorem turned_stay1 {e : Deed} : turnedOf cs .stay e first = [.str "stay"] := by
  unfold turnedOf
  rw [if_pos (.inl rfl)]
  rfl
theorem turned_stay2 {d : Deed} : turnedOf cs d .stay first = d.vs := by
  unfold turnedOf
  rw [if_pos (.inr rfl)]
theorem ex_put {G : Hp} {T : Addr} {o : HO} (z : Ex H G) (n : H T = none) : Ex H (upd G T o) := fun b q h => by
  rw [upd_ne (ne_of_none h n)]
  exact z b q h
end
end T
namespace T
open PySem PySem.Spec PyProof.Rows L2 Evl XB TL XS XI XC ClX
/-! ### data of any depth, told and shown -/
section
variable {K : PySem.W.Frag} {H H' : Hp}
mutual
theorem dp_ex (e : Ex H H') : ∀ (d : PyData) (v : V), Dp K H v d → Dp K H' v d
  | .none, _, h => by cases h; exact .non
  | .bool b, _, h => by cases h; exact .bl b
  | .int i, _, h => by cases h; exact .int i
  | .str x, _, h => by cases h; exact .str x
  | .list ds, _, h => by
    cases h with
    | lst h1 h2 => exact .lst (ex_l e h1) (dp_exs e ds _ h2)
  | .tuple ds, _, h => by
    cases h with
    | tup h1 h2 => exact .tup (ex_t e h1) (dp_exs e ds _ h2)
  | .dict kvs, _, h => by cases h
theorem dp_exs (e : Ex H H') : ∀ (ds : List PyData) (vs : List V), DpAll K H vs ds → DpAll K H' vs ds
  | [], _, h => by cases h; exact .nil
  | d :: ds, _, h => by
    cases h with
    | cons h1 h2 => exact .cons (dp_ex e d _ h1) (dp_exs e ds _ h2)
end
end
/-- d comes -/
def EvD (K : PySem.W.Frag) (te : TE) (σ : L2.St) (H : Hp) (d : PyData) : Prop := ∀ H1, Ex H H1 → ∀ Q : VK, (∀ v H2, Ex H1 H2 → Dp K H2 v d → Q v H2) → te σ H1 Q
def EvDs (K : PySem.W.Frag) (ta : TA) (σ : L2.St) (H : Hp) (ds : List PyData) : Prop := ∀ H1, Ex H H1 → ∀ Q : List V → Hp → Prop, (∀ vs H2, Ex H1 H2 → DpAll K H2 vs ds → Q vs H2) → ta σ H1 Q
section
variable {K : PySem.W.Frag} {σ : L2.St} {H : Hp} {t : TT} {ta tb te : TE} {tl tr : TA} {d d' : PyData} {ds : List PyData} {ws : List Str}
theorem ed_is (h : EvD K te σ H d) (e : d = d') : EvD K te σ H d' := e ▸ h
theorem ed_at {v : V} (h : Ev te σ H v) (g : Dp K H v d) : EvD K te σ H d := fun H1 e Q q => h H1 e _ fun H2 e2 => q v H2 e2 (dp_ex (e.trans e2) d v g)
theorem ed_str {x : Str} (h : Ev te σ H (.str x)) : EvD K te σ H (.str x) := ed_at h (.str x)
theorem ed_int {x : Int} (h : Ev te σ H (.int x)) : EvD K te σ H (.int x) := ed_at h (.int x)
theorem ed_bl {x : Bool} (h : Ev te σ H (.bl x)) : EvD K te σ H (.bool x) := ed_at h (.bl x)
theorem ed_non (h : Ev te σ H .non) : EvD K te σ H .none := ed_at h .non
theorem ed_tup {xs : List V} (h : EvS K te σ H xs) (g : ∀ H1, DpAll K H1 xs ds) : EvD K te σ H (.tuple ds) := fun H1 e Q q => h H1 e _ fun p H2 e2 hp => q _ H2 e2 (.tup hp (g H2))
theorem ed_sl (h : EvS K te σ H (sl ws)) : EvD K te σ H (.tuple (ws.map PyData.str)) := ed_tup h fun _ => dp_sl ws
theorem eds_nil : EvDs K tNil σ H [] := fun H1 e Q q => q [] H1 (Ex.refl H1) .nil
theorem eds_cons (h : EvD K te σ H d) (hs : EvDs K tr σ H ds) : EvDs K (tCons te tr) σ H (d :: ds) := fun H1 e Q q => h H1 e _ fun v H2 e2 g => hs H2 (e.trans e2) _ fun vs H3 e3 gs => q (v :: vs) H3 (e2.trans e3) (.cons (dp_ex e3 d v g) gs)
theorem DpAll.len : ∀ {vs : List V} {ds : List PyData}, DpAll K H vs ds → vs.length = ds.length := fun {vs ds} h => by
  induction ds generalizing vs with
  | nil => cases h; rfl
  | cons d ds ih =>
    cases h with
    | cons h1 h2 => rw [List.length_cons, List.length_cons, ih h2]
theorem ed_lst (h : EvDs K tl σ H ds) (hz : ds.length ≤ 100000) : EvD K (tLst tl) σ H (.list ds) := fun H1 e Q q => h H1 e _ fun vs H2 e2 g => ⟨by rw [DpAll.len g]; exact sz_of hz, fun p hp => q (.ref p) _ (e2.trans (Ex.new hp)) (.lst (SqL.of upd_same) (dp_exs (Ex.new hp) ds vs g))⟩
theorem ed_tupD (h : EvDs K tl σ H ds) (hz : ds.length ≤ 100000) : EvD K (tTup tl) σ H (.tuple ds) := fun H1 e Q q => h H1 e _ fun vs H2 e2 g => ⟨by rw [DpAll.len g]; exact sz_of hz, fun p hp => q (.ref p) _ (e2.trans (Ex.new hp)) (.tup (st_of upd_same) (dp_exs (Ex.new hp) ds vs g))⟩
theorem q_asgD {tz : TS} {D : Ends} {i : Nat} (h : EvD K te σ H d) (k : ∀ v H1, Ex H H1 → Dp K H1 v d → tz D (σ.set i (some v)) H1) : tSeq (tAsg te (gName i)) tz D σ H := h H (Ex.refl H) _ k
theorem eu_tupleM {xs : List V} (ha : EvM ta σ H xs) : EvU (tCB (rTup K) (tCons ta tNil)) σ H xs := fun H1 e Q q =>
  ha H1 e _ fun p H2 e2 h2 => ⟨p, xs, rfl, .inl ⟨SqL.of h2, fun l nl => q l _ (fresh_back e2 nl) (e2.trans (Ex.new nl)) upd_same⟩⟩
/-- what repr can show of d -/
structure Sh (d : PyData) (dp wt : Nat) : Prop where
  s : d.showable = true
  h : d.hasDict = false
  l : PyData.leavesShort 20 d = true
  dd : d.depth ≤ dp
  w : d.weight ≤ wt
structure ShA (ds : List PyData) (dp wt : Nat) : Prop where
  s : PyData.showableAll ds = true
  h : PyData.hasDictAll ds = false
  l : PyData.leavesShortAll 20 ds = true
  dd : PyData.depthAll ds ≤ dp
  w : PyData.weightAll ds ≤ wt
theorem sh_str {x : Str} (h : Lo x) {n : Nat} (hn : x.length ≤ n) : Sh (.str x) 0 n := ⟨rfl, rfl, lv_str h, Nat.zero_le _, hn⟩
theorem sh_int {i : Int} (h : i.natAbs < 10 ^ 13) : Sh (.int i) 0 100 := by
  have lg : i.natAbs.log2 < 64 := by
    by_cases z : i.natAbs = 0
    · rw [z]; decide
    · exact (Nat.log2_lt z).mpr (Nat.lt_trans h (by decide))
  refine ⟨decide_eq_true (by omega), rfl, decide_eq_true ?_, Nat.zero_le _, ?_⟩
  · have e := int_text_length_le10 (k := 13) (by decide) h
    show (Str.ofString (toString i)).length ≤ 20
    rw [PySem.ofString_length]
    omega
  · show (if i == 0 then 0 else i.natAbs.log2 + 1) ≤ 100
    split <;> omega
theorem sh_bl (b : Bool) : Sh (.bool b) 0 0 := ⟨rfl, rfl, rfl, Nat.zero_le _, Nat.zero_le _⟩
theorem sh_non : Sh .none 0 0 := ⟨rfl, rfl, rfl, Nat.zero_le _, Nat.zero_le _⟩
theorem sh_tuple {a b : Nat} (h : ShA ds a b) : Sh (.tuple ds) (a + 1) b := ⟨h.s, h.h, h.l, Nat.succ_le_succ h.dd, h.w⟩
theorem sh_list {a b : Nat} (h : ShA ds a b) : Sh (.list ds) (a + 1) b := ⟨h.s, h.h, h.l, Nat.succ_le_succ h.dd, h.w⟩
theorem sha_nil : ShA [] 0 0 := ⟨rfl, rfl, rfl, Nat.zero_le _, Nat.zero_le _⟩
theorem sha_cons {a b a' b' : Nat} (h : Sh d a b) (r : ShA ds a' b') : ShA (d :: ds) (max a a') (b + 1 + b') := by
  refine ⟨?_, ?_, ?_, ?_, ?_⟩
  · show (d.showable && PyData.showableAll ds) = true
    rw [h.s, r.s]; rfl
  · show (d.hasDict || PyData.hasDictAll ds) = false
    rw [h.h, r.h]; rfl
  · show (PyData.leavesShort 20 d && PyData.leavesShortAll 20 ds) = true
    rw [h.l, r.l]; rfl
  · show max d.depth (PyData.depthAll ds) ≤ _
    have := h.dd
    have := r.dd
    omega
  · show d.weight + 1 + PyData.weightAll ds ≤ _
    have := h.w
    have := r.w
    omega
theorem sha_strs {B n : Nat} (h : ∀ x ∈ ws, Lo x) (hb : ∀ x ∈ ws, x.length ≤ B) (hn : ws.length ≤ n) : ShA (ws.map PyData.str) 0 (n * (B + 1)) := by
  refine ⟨shw_strs ws, hd_strs ws, ?_, Nat.le_of_eq (dep_strs ws), Nat.le_trans (wt_strs hb) (Nat.mul_le_mul_right _ hn)⟩
  clear hn hb
  induction ws with
  | nil => rfl
  | cons x r ih =>
    show (PyData.leavesShort 20 (.str x) && PyData.leavesShortAll 20 (r.map PyData.str)) = true
    rw [ih fun y m => h y (List.mem_cons_of_mem _ m), show PyData.leavesShort 20 (.str x) = true from lv_str (h x List.mem_cons_self)]
    rfl
theorem ev_reprD {a b : Nat} (h : EvD K te σ H d) (s : Sh d a b) (ha : a ≤ 32) (hb : b ≤ 100000) : Ev (tCB (XG.rRepr K) (tCons te tNil)) σ H (.str d.shown) := fun H1 e Q q => h H1 e _ fun v H2 e2 g => by
  refine ⟨v, d, rfl, g, s.s, s.h, Nat.le_trans s.dd ha, ?_, q H2 e2⟩
  have z := PyData.shown_le 20 (by decide) d s.l
  have y := s.w
  refine Nat.le_trans z ?_
  rw [sizeLine_eq]
  omega
end
end T
namespace T
open PySem PySem.Spec PyProof.Rows L2 Evl XB TL XS XI XC ClX
/-! ### lists of signs, and what an edit does on one -/
def Abc (z : Str) : Prop := ∀ c ∈ z.cps.toList, 97 ≤ c ∧ c ≤ 122
theorem Abc.lo {z : Str} (h : Abc z) : Lo z := fun c m => by
  have := h c m
  omega
theorem abc_cut {z : Str} (h : Abc z) (lo hi : Option Int) : Abc (cutS z lo hi) := fun c m => by
  have m2 : c ∈ (z.cps.toList.drop (HT.sIx z.length 0 lo)).take (HT.sIx z.length z.length hi - HT.sIx z.length 0 lo) := by
    have e : (cutS z lo hi).cps.toList = (z.cps.toList.drop (HT.sIx z.length 0 lo)).take (HT.sIx z.length z.length hi - HT.sIx z.length 0 lo) := by unfold cutS; simp
    rw [e] at m
    exact m
  exact h c (List.mem_of_mem_drop (List.mem_of_mem_take m2))
theorem abc_app {x y : Str} (h : Abc x) (g : Abc y) : Abc (x ++ y) := fun c m => by
  have e : (x ++ y).cps.toList = x.cps.toList ++ y.cps.toList := by
    show (x.cps ++ y.cps).toList = _
    simp
  rw [e] at m
  exact (List.mem_append.mp m).elim (h c) (g c)
theorem abc_let {c : Nat} (h1 : 97 ≤ c) (h2 : c ≤ 122) : Abc (let1 c) := fun n m => by
  have : n ∈ [c] := m
  rw [List.mem_singleton.mp this]
  exact ⟨h1, h2⟩
theorem cut_len (z : Str) (lo hi : Option Int) : (cutS z lo hi).length ≤ z.length := cutS_length z lo hi
def lastOf (z : Str) (k : Str) : Int := if k = "put" then (z.length : Int) else (z.length : Int) - 1
def playS (z : Str) : Deed → Option Str
  | .stay => some z
  | .out n => if n < 0 ∨ (z.length : Int) - 1 < n then none else some (cutS z none (some n) ++ cutS z (some (n + 1)) none)
  | .sig k n c => if n < 0 ∨ lastOf z k < n then none else some (if k = "put" then cutS z none (some n) ++ let1 c ++ cutS z (some n) none else cutS z none (some n) ++ let1 c ++ cutS z (some (n + 1)) none)
theorem playS_out (z : Str) (n : Int) : playS z (.out n) = if n < 0 ∨ (z.length : Int) - 1 < n then none else some (cutS z none (some n) ++ cutS z (some (n + 1)) none) := rfl
theorem playS_sig (z k : Str) (n : Int) (c : Nat) : playS z (.sig k n c) = if n < 0 ∨ lastOf z k < n then none else some (if k = "put" then cutS z none (some n) ++ let1 c ++ cutS z (some n) none else cutS z none (some n) ++ let1 c ++ cutS z (some (n + 1)) none) := rfl
def oV : Option Str → V
  | none => .non
  | some r => .str r
theorem play_abc {z r : Str} {d : Deed} {ks : List Str} (h : Abc z) (ok : ∀ k n c, d = .sig k n c → 97 ≤ c ∧ c ≤ 122) (e : playS z d = some r) : Abc r := by
  cases d with
  | stay => cases e; exact h
  | out n =>
    rw [playS_out] at e
    split at e
    · cases e
    · cases e; exact abc_app (abc_cut h _ _) (abc_cut h _ _)
  | sig k n c =>
    obtain ⟨o1, o2⟩ := ok k n c rfl
    rw [playS_sig] at e
    split at e
    · cases e
    · cases e
      split
      · exact abc_app (abc_app (abc_cut h _ _) (abc_let o1 o2)) (abc_cut h _ _)
      · exact abc_app (abc_app (abc_cut h _ _) (abc_let o1 o2)) (abc_cut h _ _)
theorem play_len {z r : Str} {d : Deed} (e : playS z d = some r) : r.length ≤ 2 * z.length + 1 := by
  have l1 : ∀ c : Nat, (let1 c).length = 1 := fun _ => rfl
  cases d with
  | stay => cases e; omega
  | out n =>
    rw [playS_out] at e
    split at e
    · cases e
    · cases e
      rw [Str.length_append]
      have := cut_len z none (some n)
      have := cut_len z (some (n + 1)) none
      omega
  | sig k n c =>
    rw [playS_sig] at e
    split at e
    · cases e
    · cases e
      split
      · rw [Str.length_append, Str.length_append, l1]
        have := cut_len z none (some n)
        have := cut_len z (some n) none
        omega
      · rw [Str.length_append, Str.length_append, l1]
        have := cut_len z none (some n)
        have := cut_len z (some (n + 1)) none
        omega
section
variable {P : Program} {w : World} {K : PySem.W.Frag} {mg : Str → Option Value} {base : Heap} {C : Addr}
variable {σ : L2.St} {H : Hp} {ta tb tc te : TE} {tz ts : TS} {D' : Ends} {ks : List Str} {cs : List Cell} {x y a b : Addr} {E : XK} {d : Deed} {xs ys : List V}
theorem ev_slS {z : Str} {tl th : TO} {lo hi : Option Int} (h : Ev te σ H (.str z)) (h1 : EvO tl σ H lo) (h2 : EvO th σ H hi) (hz : z.length ≤ 100000) : Ev (tSl rSlS te tl th) σ H (.str (cutS z lo hi)) := fun H1 e Q q =>
  h H1 e _ fun H2 e2 => h1 H2 (e.trans e2) _ fun H3 e3 => h2 H3 ((e.trans e2).trans e3) _ fun H4 e4 => ⟨z, rfl, sz_of hz, q H4 ((e2.trans e3).trans e4)⟩
theorem es_slA {tl th : TO} {lo hi : Option Int} (h : Ev te σ H (.ref a)) (hx : SqT K H a xs) (h1 : EvO tl σ H lo) (h2 : EvO th σ H hi) : EvS K (tSl (rSlA K) te tl th) σ H (cutV xs lo hi) := fun H1 e Q q =>
  h H1 e _ fun H2 e2 => h1 H2 (e.trans e2) _ fun H3 e3 => h2 H3 ((e.trans e2).trans e3) _ fun H4 e4 =>
    ⟨a, xs, rfl, ex_t (((e.trans e2).trans e3).trans e4) hx, (fun hw => by
      have : cutV xs lo hi = xs := by
        unfold cutV
        rw [hw.1, hw.2, List.drop_zero, Nat.sub_zero, List.take_length]
      rw [this] at q
      exact q a H4 ((e2.trans e3).trans e4) (ex_t (((e.trans e2).trans e3).trans e4) hx)), fun _ l nl => q l _ (((e2.trans e3).trans e4).trans (Ex.new nl)) (st_of upd_same)⟩
theorem q_asgT2 {i j : Nat} {x y : V} (h : EvS K te σ H [x, y]) (q : ∀ H1, Ex H H1 → tz D' ((σ.set i (some x)).set j (some y)) H1) : tSeq (tAsg te (gTup K 2 (gCons (gName i) (gCons (gName j) gNil)))) tz D' σ H :=
  h H (Ex.refl H) _ fun p H1 e1 hp => ⟨p, _, rfl, hp, rfl, _, _, rfl, _, _, rfl, rfl, q H1 e1⟩
theorem cut_to2 (xs : List V) : cutV xs none (some 2) = xs.take 2 := by
  unfold cutV
  rw [HT.sIx_none, show (some (2 : Int)) = some ((2 : Nat) : Int) from rfl, HT.sIx_nat, List.drop_zero, Nat.sub_zero]
  by_cases h : 2 ≤ xs.length
  · rw [Nat.min_eq_left h]
  · rw [Nat.min_eq_right (by omega), List.take_length, List.take_of_length_le (by omega)]
/-! ### is_list -/
def spIsList : Sp := fun vs H Q _ => ∃ z : Str, vs = [.str z] ∧ Abc z ∧ z.length ≤ 1000 ∧ ∀ H', Ex H H' → Q (.bl true) H'
theorem c_isList (D : At K mg "is_list" s_is_list ["value"]) (B : Bl mg) {t : Tok} (ms : mg "MOST_SIGNS" = some (.int 1000 t)) (Cs : C8.Cal P w K mg base 1 "is_sign" spSign []) : C8.Cal P w K mg base 2 "is_list" spIsList [] := by
  refine cal_of D sc_is_list (fun vs H Q E h => ?_) (fun f cdv A outer s H vs Q E hr h => ?_)
  · obtain ⟨z, rfl, _⟩ := h
    rfl
  · obtain ⟨z, rfl, hz, hl, q⟩ := h
    refine ⟨_, pss_one (ps_ret (pe_and (pe_callB call_isi (by rfl) B.isin (by decide +kernel) (pa_cons (pv 0) (pa_cons (pe_bltn (v := .ty "str") (by rfl) B.str (by decide +kernel) rfl) pa_nil))) (pe_and (pe_cmpR op_le (pe_callB call_len_str (by rfl) B.len (by decide +kernel) (pa_cons (pv 0) pa_nil)) (pe_glob (v := .int 1000) (by rfl) ms ⟨_, rfl⟩) (nomark _)) (pe_one (pe_callB (cr_all rfl) (by rfl) B.all_ (by decide +kernel) (pa_cons (pe_lc (own := [("sign", 1)]) (g := gName 1) (tt := tYes) (te := tCall spSign [] C8.E0 (tCons (tVar 1) tNil)) rfl sc_is_list.nd (pi_str (pv 0)) (blkOk_by (own := [("sign", 1)]) (N := N_is_list) (sc := defScope s_is_list) (by decide +kernel)) (fun _ _ _ _ _ => pg_name (i := 1) sc_is_list.nd rfl (Or.inl rfl)) (fun _ _ _ _ _ => pts_nil) (fun _ _ _ _ _ => C8.pe_c Cs hr (by decide) (by rfl) (pa_cons (pv 1) pa_nil))) pa_nil)))))), ?_⟩
    have hs : z.cps.size = z.length := rfl
    refine s_ret (ev_is (ev_andV (ev_isStr (ev_var rfl)) (fun _ => ev_andV (a := true) (b := true) (ev_is (ev_op (ev_lenStr (ev_var rfl) (by rw [sizeLine_eq]; omega)) ev_c rv_I0) (by rw [decide_eq_true (by omega)])) (fun _ => ev_is (ev_all (bs := z.cps.toList.map fun _ => true) (el_is (el_lcT (fun _ => .bl true) (ev_var rfl) (by omega) (fun _ => rfl) (fun c G e m => ev_sign (c := c) (ev_var rfl) (hz c m).1 (hz c m).2)) (by rw [List.map_map]; rfl))) (by rw [List.all_map]; exact congrArg V.bl (List.all_eq_true.mpr (fun _ _ => rfl)))))) (w := .bl true) (by decide)) fun H1 e1 => q H1 e1
theorem ev_isList {z : Str} (h : Ev ta σ H (.str z)) (hz : Abc z) (hl : z.length ≤ 1000) : Ev (tCall spIsList [] E (tCons ta tNil)) σ H (.bl true) := ev_call (ea_cons h ea_nil) fun H1 e Q q E => ⟨z, rfl, hz, hl, q⟩
/-! ### list_behind, and the law's own play -/
def spPlay (K : PySem.W.Frag) : Sp := fun vs H Q _ => ∃ (z : Str) (a : Addr) (d : Deed) (ks : List Str), vs = [.str z, .ref a] ∧ SqT K H a d.vs ∧ d.ok ks ∧ ks ∈ kinds7 ∧ z.length ≤ 45000 ∧ ∀ H', Ex H H' → Q (oV (playS z d)) H'
theorem len1 (c : Nat) : (let1 c).length = 1 := rfl
theorem c_behind (D : At K mg "list_behind" s_list_behind ["text", "edit"]) (B : Bl mg) : C8.Cal P w K mg base 1 "list_behind" (spPlay K) [] := by
  refine cal_of D sc_list_behind (fun vs H Q E h => ?_) (fun f cdv A outer s H vs Q E hr h => ?_)
  · obtain ⟨z, a, d, ks, rfl, _⟩ := h
    rfl
  · obtain ⟨z, a, d, ks, rfl, ha, ok, hk, hz, q⟩ := h
    refine ⟨_, pss_cons (ps_if (pt_cmpR op_eq (pe_ix ix_tup (pv 1) pe_int (fun _ _ => rfl)) pe_str (nomark _)) (pss_one (ps_ret (pv 0))) pss_nil)
      (pss_cons (ps_asg (pe_slice sl_tupA (pv 1) po_none (po_some pe_int)) (pg_tup (by rfl) (pgs_cons (pg_name (i := 2) sc_list_behind.nd rfl (.inl rfl)) (pgs_cons (pg_name (i := 3) sc_list_behind.nd rfl (.inl rfl)) pgs_nil))))
      (pss_cons (ps_set (i := 4) sc_list_behind.nd rfl (.inl rfl) (pe_ifExp (pt_cmpR op_eq (pv 2) pe_str (nomark _)) (pe_callB call_len_str (by rfl) B.len (by decide +kernel) (pa_cons (pv 0) pa_nil)) (pe_op op_sub (pe_callB call_len_str (by rfl) B.len (by decide +kernel) (pa_cons (pv 0) pa_nil)) pe_int)))
      (pss_cons (ps_if (PW.pt (pw_or (pt_cmpR op_lt (pv 3) pe_int (nomark _)) (pw_or1 (pt_cmpR op_gt (pv 3) (pv 4) (nomark _))))) (pss_one (ps_ret pe_non)) pss_nil)
      (pss_cons (ps_if (pt_cmpR op_eq (pv 2) pe_str (nomark _)) (pss_one (ps_ret (pe_op op_add_str (pe_op op_add_str (pe_slice sl_str (pv 0) po_none (po_some (pv 3))) (pe_ix ix_tup (pv 1) pe_int (fun _ _ => rfl))) (pe_slice sl_str (pv 0) (po_some (pv 3)) po_none)))) pss_nil)
      (pss_cons (ps_if (pt_cmpR op_eq (pv 2) pe_str (nomark _)) (pss_one (ps_ret (pe_op op_add_str (pe_slice sl_str (pv 0) po_none (po_some (pv 3))) (pe_slice sl_str (pv 0) (po_some (pe_op op_add (pv 3) pe_int)) po_none)))) pss_nil)
      (pss_one (ps_ret (pe_op op_add_str (pe_op op_add_str (pe_slice sl_str (pv 0) po_none (po_some (pv 3))) (pe_ix ix_tup (pv 1) pe_int (fun _ _ => rfl))) (pe_slice sl_str (pv 0) (po_some (pe_op op_add (pv 3) pe_int)) po_none))))))))), ?_⟩
    have gi : ∀ {H1 : Hp} {σ : L2.St} (j : Nat) (v : V), Ex H H1 → σ[1]? = some (some (.ref a)) → d.vs[j]? = some v → Ev (tOp (rIxT K) (tVar 1) (tC (.int (j : Nat)))) σ H1 v := fun j v e h0 hj => ev_ixT (ev_var h0) ev_c (ex_t e ha) (atI_nat hj)
    have zl : ∀ {σ : L2.St} {H1 : Hp}, σ[0]? = some (some (.str z)) → Ev (tCB (fun xs H Q => ∃ z, xs = [.str z] ∧ z.length ≤ sizeLine ∧ Q (.int z.length) H) (tCons (tVar 0) tNil)) σ H1 (.int (z.length : Nat)) := fun h0 => ev_lenStr (ev_var h0) (by rw [sizeLine_eq]; omega)
    have hz2 : z.length ≤ 100000 := by omega
    refine q_when (et_test (ev_eqS (gi 0 _ (Ex.refl H) rfl d.hd_at) ev_c)) (fun st H1 e1 => ?_) (fun st H1 e1 => ?_)
    · have st := of_decide_eq_true st
      have : d = .stay := by
        by_cases y : d.hd = "stay"
        · cases d with
          | stay => rfl
          | out n => exact absurd (show ("out" : Str) = "stay" from y) (by decide)
          | sig k n c =>
            have y : k = "stay" := y
            have o := ok.1
            rw [y] at o
            exact absurd o (by decide)
        · exact absurd st y
      subst this
      exact s_ret (ev_var rfl) fun H2 e2 => q H2 (e1.trans e2)
    · have st := of_decide_eq_false st
      obtain ⟨nd, md, pd⟩ := Deed.hd_stay ok hk st
      have two : EvS K (tSl (rSlA K) (tVar 1) tNoPart (tPart (tC (.int 2)))) [some (.str z), some (.ref a), none, none, none] H1 [.str d.hd, .int d.pl] :=
        es_is (es_slA (ev_var rfl) (ex_t e1 ha) eo_none (eo_some ev_c)) (by rw [cut_to2]; cases d with
          | stay => exact absurd rfl nd
          | out n => rfl
          | sig k n c => rfl)
      refine q_asgT2 two fun H2 e2 => ?_
      have e12 := e1.trans e2
      refine q_asg (v := .int (lastOf z d.hd)) (ev_if (et_test (ev_eqS (ev_var rfl) ev_c)) (fun y => ev_is (zl rfl) (by unfold lastOf; rw [if_pos (of_decide_eq_true y)])) (fun y => ev_is (ev_op (zl rfl) ev_c rv_I0) (by unfold lastOf; rw [if_neg (of_decide_eq_false y)]))) fun H3 e3 => ?_
      have e13 := e12.trans e3
      refine q_when (et_or (et_test (ev_op (ev_var rfl) ev_c rv_I0)) (fun _ => et_test (ev_op (ev_var rfl) (ev_var rfl) rv_I0))) (fun y H4 e4 => ?_) (fun y H4 e4 => ?_)
      · have : playS z d = none := by
          rw [Bool.or_eq_true, decide_eq_true_eq, decide_eq_true_eq] at y
          cases d with
          | stay => exact absurd rfl nd
          | out n =>
            have y : n < 0 ∨ lastOf z "out" < n := y
            rw [playS_out]
            rw [if_pos (by unfold lastOf at y; rw [if_neg (show ¬ ("out" : Str) = "put" by decide)] at y; exact y)]
          | sig k n c =>
            have y : n < 0 ∨ lastOf z k < n := y
            rw [playS_sig]
            rw [if_pos y]
        rw [this] at q
        exact s_ret ev_c fun H5 e5 => q H5 ((e13.trans e4).trans e5)
      · rw [Bool.or_eq_false_iff, decide_eq_false_iff_not, decide_eq_false_iff_not] at y
        have e14 := e13.trans e4
        have ny : ¬ (d.pl < 0 ∨ lastOf z d.hd < d.pl) := fun h => h.elim y.1 y.2
        refine q_when (et_test (ev_eqS (ev_var rfl) ev_c)) (fun p H5 e5 => ?_) (fun p H5 e5 => ?_)
        · have p := of_decide_eq_true p
          cases d with
          | stay => exact absurd rfl nd
          | out n => exact absurd (show ("out" : Str) = "put" from p) (by decide)
          | sig k n c =>
            have p : k = "put" := p
            have : playS z (.sig k n c) = some (cutS z none (some n) ++ let1 c ++ cutS z (some n) none) := by
              rw [playS_sig]
              rw [if_neg (show ¬ (n < 0 ∨ lastOf z k < n) from ny), if_pos p]
            rw [this] at q
            refine s_ret (ev_addS (ev_addS (ev_slS (ev_var rfl) eo_none (eo_some (ev_var rfl)) hz2) (gi 2 (.str (let1 c)) (e14.trans e5) rfl rfl) ?_) (ev_slS (ev_var rfl) (eo_some (ev_var rfl)) eo_none hz2) ?_) fun H6 e6 => q H6 ((e14.trans e5).trans e6)
            · have := cut_len z none (some (Deed.pl (.sig k n c)))
              rw [len1]
              omega
            · have := cut_len z none (some (Deed.pl (.sig k n c)))
              have := cut_len z (some (Deed.pl (.sig k n c))) none
              rw [Str.length_append, len1]
              omega
        · have p := of_decide_eq_false p
          refine q_when (et_test (ev_eqS (ev_var rfl) ev_c)) (fun p2 H6 e6 => ?_) (fun p2 H6 e6 => ?_)
          · have p2 := of_decide_eq_true p2
            cases d with
            | stay => exact absurd rfl nd
            | sig k n c =>
              have p2 : k = "out" := p2
              have o := ok.1
              rw [p2] at o
              exact absurd o (by decide)
            | out n =>
              have : playS z (.out n) = some (cutS z none (some n) ++ cutS z (some (n + 1)) none) := by
                rw [playS_out]
                rw [if_neg (fun h => ny (h.elim .inl fun h => .inr (by show lastOf z "out" < n; unfold lastOf; rw [if_neg (show ¬ ("out" : Str) = "put" by decide)]; exact h)))]
              rw [this] at q
              refine s_ret (ev_addS (ev_slS (ev_var rfl) eo_none (eo_some (ev_var rfl)) hz2) (ev_slS (ev_var rfl) (eo_some (ev_op (ev_var rfl) ev_c rv_I0)) eo_none hz2) ?_) fun H7 e7 => q H7 (((e14.trans e5).trans e6).trans e7)
              have := cut_len z none (some (Deed.pl (.out n)))
              have := cut_len z (some (Deed.pl (.out n) + 1)) none
              omega
          · have p2 := of_decide_eq_false p2
            cases d with
            | stay => exact absurd rfl nd
            | out n => exact absurd rfl p2
            | sig k n c =>
              have p : ¬ k = "put" := p
              have : playS z (.sig k n c) = some (cutS z none (some n) ++ let1 c ++ cutS z (some (n + 1)) none) := by
                rw [playS_sig]
                rw [if_neg (show ¬ (n < 0 ∨ lastOf z k < n) from ny), if_neg p]
              rw [this] at q
              refine s_ret (ev_addS (ev_addS (ev_slS (ev_var rfl) eo_none (eo_some (ev_var rfl)) hz2) (gi 2 (.str (let1 c)) ((e14.trans e5).trans e6) rfl rfl) ?_) (ev_slS (ev_var rfl) (eo_some (ev_op (ev_var rfl) ev_c rv_I0)) eo_none hz2) ?_) fun H7 e7 => q H7 (((e14.trans e5).trans e6).trans e7)
              · have := cut_len z none (some (Deed.pl (.sig k n c)))
                rw [len1]
                omega
              · have := cut_len z none (some (Deed.pl (.sig k n c)))
                have := cut_len z (some (Deed.pl (.sig k n c) + 1)) none
                rw [Str.length_append, len1]
                omega
end
end T
namespace T
open PySem PySem.Spec PyProof.Rows L2 Evl XB TL XS XI XC ClX
/-! ### what an edit becomes, as an edit -/
def formD (d : Deed) (r : Str) : Deed := if r = "stay" then .stay else if r = "put" then (match d with
    | .sig _ n c => .sig "put" n c
    | d => d) else match d with
    | .stay => .stay
    | .out n => .out (n + step r)
    | .sig k n c => .sig k (n + step r) c
theorem formD_vs {d : Deed} {r : Str} (ok : FormOk d r) : (formD d r).vs = formedOf d r := by
  unfold formD formedOf
  split
  · rfl
  · split
    · rename_i h
      rcases ok.2 with z | ⟨_, k, n, c, rfl⟩
      · rw [h] at z
        exact absurd z (by decide)
      · rfl
    · cases d with
      | stay => exact absurd rfl ok.1
      | out n => rfl
      | sig k n c => rfl
def turnD (cs : List Cell) (d e : Deed) (first : Bool) : Deed := if d.hd = "stay" ∨ e.hd = "stay" then d else formD d (chosenW (optsFor cs (nm3 d.hd e.hd (relOf d e))) (metOf d e first))
def Deed.okb (ks : List Str) (lo hi : Int) : Deed → Prop
  | .stay => True
  | .out n => ("out" : Str) ∈ ks ∧ lo ≤ n ∧ n ≤ hi
  | .sig k n c => k ∈ [("put" : Str), "set"] ∧ k ∈ ks ∧ lo ≤ n ∧ n ≤ hi ∧ 97 ≤ c ∧ c ≤ 122
theorem okb_ok {ks : List Str} {lo hi : Int} {d : Deed} (h : d.okb ks lo hi) (l : -9 ≤ lo) (u : hi ≤ 10 ^ 12) : d.ok ks := by
  cases d with
  | stay => trivial
  | out n => exact ⟨h.1, by have := h.2.1; omega, by have := h.2.2; omega⟩
  | sig k n c =>
    obtain ⟨h1, h2, h3, h4, h5, h6⟩ := h
    exact ⟨h1, h2, by omega, by omega, h5, h6⟩
theorem okb_mono {ks : List Str} {lo hi lo' hi' : Int} {d : Deed} (h : d.okb ks lo hi) (l : lo' ≤ lo) (u : hi ≤ hi') : d.okb ks lo' hi' := by
  cases d with
  | stay => trivial
  | out n => exact ⟨h.1, by have := h.2.1; omega, by have := h.2.2; omega⟩
  | sig k n c =>
    obtain ⟨h1, h2, h3, h4, h5, h6⟩ := h
    exact ⟨h1, h2, by omega, by omega, h5, h6⟩
theorem formD_okb {ks : List Str} {lo hi : Int} {d : Deed} {r : Str} (h : d.okb ks lo hi) (hr : r ∈ resultsOf d.hd ks) : (formD d r).okb ks (lo - 1) (hi + 1) := by
  obtain ⟨s1, s2⟩ := step_b r
  unfold formD
  split
  · trivial
  · split
    · rename_i hp
      cases d with
      | stay => trivial
      | out n => exact okb_mono h (by omega) (by omega)
      | sig k n c =>
        obtain ⟨h1, h2, h3, h4, h5, h6⟩ := h
        have pk : ("put" : Str) ∈ ks := by
          unfold resultsOf at hr
          rw [hp] at hr
          rcases List.mem_append.mp hr with z | z
          · exact absurd z (by decide)
          · split at z
            · rename_i cc
              exact cc.2
            · cases z
        exact ⟨by decide, pk, by omega, by omega, h5, h6⟩
    · cases d with
      | stay => trivial
      | out n => exact ⟨h.1, by have := h.2.1; omega, by have := h.2.2; omega⟩
      | sig k n c =>
        obtain ⟨h1, h2, h3, h4, h5, h6⟩ := h
        exact ⟨h1, h2, by omega, by omega, h5, h6⟩
theorem turnD_vs {ks : List Str} {cs : List Cell} {d e : Deed} (okd : d.ok ks) (hk : ks ∈ kinds7) (hC : Cells ks cs) (first : Bool) : (turnD cs d e first).vs = turnedOf cs d e first := by
  unfold turnD turnedOf
  split
  · rfl
  · rename_i z
    obtain ⟨nd, _⟩ := Deed.hd_stay okd hk (fun y => z (.inl y))
    obtain ⟨ps, zz, ho, OP⟩ := optsFor_parts hC d.hd e.hd (relOf d e)
    rw [ho, chosenW_eq OP.pa]
    exact formD_vs (form_ok nd okd (chosen_in OP _))
theorem turnD_okb {ks : List Str} {cs : List Cell} {lo hi : Int} {d e : Deed} (h : d.okb ks lo hi) (hC : Cells ks cs) (first : Bool) : (turnD cs d e first).okb ks (lo - 1) (hi + 1) := by
  unfold turnD
  split
  · exact okb_mono h (by omega) (by omega)
  · obtain ⟨ps, zz, ho, OP⟩ := optsFor_parts hC d.hd e.hd (relOf d e)
    rw [ho, chosenW_eq OP.pa]
    exact formD_okb h (chosen_in OP _)
/-! ### the end of an arrival -/
def turn1 (cs : List Cell) (s : Nat) (fs : List Deed) (o : Nat) : List Deed := match fs[o]?, fs[s]? with
  | some d, some e => fs.set o (turnD cs d e (decide (o < s)))
  | _, _ => fs
def turnAll (cs : List Cell) (s : Nat) (fs : List Deed) (rest : List Nat) : List Deed := rest.foldl (turn1 cs s) fs
def endS (cs : List Cell) : Str → List Deed → List Nat → Option Str
  | z, _, [] => some z
  | z, fs, s :: r => match fs[s]? with
    | none => none
    | some d => match playS z d with
      | none => none
      | some z' => endS cs z' (turnAll cs s fs r) r
theorem turn1_len (cs : List Cell) (s : Nat) (fs : List Deed) (o : Nat) : (turn1 cs s fs o).length = fs.length := by
  unfold turn1
  split
  · rw [List.length_set]
  · rfl
theorem turn1_at {cs : List Cell} {s o : Nat} {fs : List Deed} {d e : Deed} (hd : fs[o]? = some d) (he : fs[s]? = some e) : turn1 cs s fs o = fs.set o (turnD cs d e (decide (o < s))) := by
  unfold turn1
  rw [hd, he]
theorem turnAll_snoc (cs : List Cell) (s : Nat) (fs : List Deed) (l : List Nat) (o : Nat) : turnAll cs s fs (l ++ [o]) = turn1 cs s (turnAll cs s fs l) o := by
  unfold turnAll
  rw [List.foldl_append]
  rfl
theorem turnAll_len (cs : List Cell) (s : Nat) : ∀ (l : List Nat) (fs : List Deed), (turnAll cs s fs l).length = fs.length
  | [], _ => rfl
  | o :: r, fs => by
    show (turnAll cs s (turn1 cs s fs o) r).length = _
    rw [turnAll_len cs s r, turn1_len]
/-- edits as values -/
structure EditsV (K : PySem.W.Frag) (H : Hp) (vs : List V) (fs : List Deed) : Prop where
  len : vs.length = fs.length
  at_ : ∀ (i : Nat) (d : Deed), fs[i]? = some d → ∃ a : Addr, vs[i]? = some (.ref a) ∧ SqT K H a d.vs
theorem EditsV.ex {K : PySem.W.Frag} {H H' : Hp} {vs : List V} {fs : List Deed} (h : EditsV K H vs fs) (e : Ex H H') : EditsV K H' vs fs := ⟨h.len, fun i d hd => by
  obtain ⟨a, h1, h2⟩ := h.at_ i d hd
  exact ⟨a, h1, ex_t e h2⟩⟩
theorem EditsV.put {K : PySem.W.Frag} {H : Hp} {vs zs : List V} {fs : List Deed} {F : Addr} {o : HO} (h : EditsV K H vs fs) (hF : H F = some (.lst zs)) : EditsV K (upd H F o) vs fs := ⟨h.len, fun i d hd => by
  obtain ⟨a, h1, h2⟩ := h.at_ i d hd
  exact ⟨a, h1, sqt_put h2 hF⟩⟩
theorem EditsV.set {K : PySem.W.Frag} {H : Hp} {vs : List V} {fs : List Deed} {j : Nat} {a : Addr} {d : Deed} (h : EditsV K H vs fs) (ha : SqT K H a d.vs) : EditsV K H (vs.set j (.ref a)) (fs.set j d) := ⟨by rw [List.length_set, List.length_set, h.len], fun i e he => by
  by_cases q : j = i
  · subst q
    have hlt : j < fs.length := by
      have := (List.getElem?_eq_some_iff.mp he).1
      rwa [List.length_set] at this
    rw [List.getElem?_set_self hlt] at he
    injection he with he
    subst he
    exact ⟨a, List.getElem?_set_self (by rw [h.len]; exact hlt), ha⟩
  · rw [List.getElem?_set_ne q] at he
    obtain ⟨b, h1, h2⟩ := h.at_ i e he
    exact ⟨b, by rw [List.getElem?_set_ne q]; exact h1, h2⟩⟩
end T
namespace T
open PySem PySem.Spec PyProof.Rows L2 Evl XB TL XS XI XC ClX XQ
/-! ### the two ends -/
/-- arrivals as values -/
def lnV (l : List Nat) : List V := l.map fun (n : Nat) => V.int (n : Int)
theorem lnV_at {l : List Nat} {i : Nat} {x : V} (h : (lnV l)[i]? = some x) : ∃ n : Nat, l[i]? = some n ∧ x = .int (n : Int) := by
  unfold lnV at h
  rw [List.getElem?_map] at h
  cases e : l[i]? with
  | none => rw [e] at h; cases h
  | some n => rw [e] at h; cases h; exact ⟨n, rfl, rfl⟩
theorem cut_from (xs : List V) (n : Nat) : cutV xs (some ((n : Nat) : Int)) none = xs.drop n := by
  unfold cutV
  rw [HT.sIx_none, HT.sIx_nat]
  by_cases h : n ≤ xs.length
  · rw [Nat.min_eq_left h, List.take_of_length_le (by rw [List.length_drop] <;> exact Nat.le_refl _)]
  · rw [Nat.min_eq_right (by omega), Nat.sub_self, List.take_zero, List.drop_eq_nil_of_le (by omega)]
theorem ixN_nat {n i : Nat} (h : i < n) : ixN n (i : Int) = some i := by
  unfold ixN
  rw [if_pos (by omega), if_pos (by omega)]
  rfl
/-- what stands during the turns of one step: the edits of fs, those of the first part of rest turned -/
structure Mid (ks : List Str) (cs : List Cell) (s : Nat) (fs : List Deed) (rest : List Nat) (lo hi : Int) (i : Nat) (gs : List Deed) : Prop where
  e : gs = turnAll cs s fs (rest.take i)
  old : ∀ t, t ∉ rest.take i → gs[t]? = fs[t]?
  b : ∀ d ∈ gs, d.okb ks (lo - 1) (hi + 1)
theorem mid_step {ks : List Str} {cs : List Cell} {s o : Nat} {fs gs : List Deed} {rest : List Nat} {lo hi : Int} {i : Nat} {d e : Deed} (hC : Cells ks cs) (m : Mid ks cs s fs rest lo hi i gs) (nd : rest.Nodup) (ho : rest[i]? = some o) (hb : ∀ d ∈ fs, d.okb ks lo hi) (hd : gs[o]? = some d) (he : gs[s]? = some e) :
    Mid ks cs s fs rest lo hi (i + 1) (gs.set o (turnD cs d e (decide (o < s)))) := by
  have tk : rest.take (i + 1) = rest.take i ++ [o] := by rw [List.take_succ, ho]; rfl
  have nin : o ∉ rest.take i := nd_not nd ho
  refine ⟨?_, fun t ht => ?_, fun x hx => ?_⟩
  · rw [tk, turnAll_snoc, ← m.e, turn1_at hd he]
  · rw [tk] at ht
    have h1 : t ∉ rest.take i := fun z => ht (List.mem_append_left _ z)
    have h2 : o ≠ t := fun z => ht (List.mem_append_right _ (List.mem_singleton.mpr z.symm))
    rw [List.getElem?_set_ne h2]
    exact m.old t h1
  · rcases List.mem_or_eq_of_mem_set hx with z | z
    · exact m.b x z
    · subst z
      rw [m.old o nin] at hd
      exact turnD_okb (hb d (List.mem_of_getElem? hd)) hC _
section
variable {P : Program} {w : World} {K : PySem.W.Frag} {mg : Str → Option Value} {base : Heap} {C : Addr}
variable {σ : L2.St} {H : Hp} {ta tb tc td te : TE} {tz ts : TS} {D' : Ends} {ks : List Str} {cs : List Cell} {x y a b F s : Addr} {E : XK} {d e : Deed} {xs ys vs : List V} {fs : List Deed}
theorem ev_behind {z : Str} (h1 : Ev ta σ H (.str z)) (h2 : Ev tb σ H (.ref a)) (ha : SqT K H a d.vs) (ok : d.ok ks) (hk : ks ∈ kinds7) (hz : z.length ≤ 45000) : Ev (tCall (spPlay K) [] E (tCons ta (tCons tb tNil))) σ H (oV (playS z d)) :=
  ev_call (ea_cons h1 (ea_cons h2 ea_nil)) fun H1 e Q q E => ⟨z, a, d, ks, rfl, ex_t e ha, ok, hk, hz, q⟩
theorem es_turned {first : Bool} (h0 : Ev td σ H (.ref x)) (h1 : Ev ta σ H (.ref a)) (h2 : Ev tb σ H (.ref b)) (h3 : Ev tc σ H (.bl first)) (t : TabW K C H x ks cs) (hk : ks ∈ kinds7) (ha : SqT K H a d.vs) (hb : SqT K H b e.vs) (okd : d.ok ks) (oke : e.ok ks) :
    EvS K (tCall (spTurned K C) [] E (tCons td (tCons ta (tCons tb (tCons tc tNil))))) σ H (turnedOf cs d e first) :=
  es_call (ea_cons h0 (ea_cons h1 (ea_cons h2 (ea_cons h3 ea_nil)))) fun H1 z Q q E => ⟨x, a, b, d, e, first, ks, cs, rfl, t.ex z, hk, ex_t z ha, ex_t z hb, okd, oke, q⟩
theorem es_lawT {first : Bool} {D : Addr} {kvs : List (Nm × V)} (h0 : Ev td σ H (.ref D)) (h1 : Ev ta σ H (.ref a)) (h2 : Ev tb σ H (.ref b)) (h3 : Ev tc σ H (.bl first)) (hD : H D = some (.dT kvs)) (hL : LDict H kvs cs) (hC : Cells ks cs) (hk : ks ∈ kinds7) (ha : SqT K H a d.vs) (hb : SqT K H b e.vs) (okd : d.ok ks) (oke : e.ok ks) :
    EvS K (tCall (spLT K) [] E (tCons td (tCons ta (tCons tb (tCons tc tNil))))) σ H (turnedOf cs d e first) :=
  es_lt2 h0 (es_at h1 ha) (es_at h2 hb) h3 hD hL hC hk okd oke
/-- what is the same of both: the forms in the list F, the arrival in the tuple l -/
def spEnd (K : PySem.W.Frag) (R : V → List Str → List Cell → Hp → Prop) : Sp := fun vs0 H Q _ => ∃ (x : V) (z : Str) (a l : Addr) (ks : List Str) (cs : List Cell) (vs : List V) (fs : List Deed) (line : List Nat) (hi : Int), vs0 = [x, .str z, .ref a, .ref l] ∧ R x ks cs H ∧ ks ∈ kinds7 ∧ Cells ks cs ∧
  SqT K H a vs ∧ EditsV K H vs fs ∧ (∀ d ∈ fs, d.okb ks 0 hi) ∧ hi ≤ 2000 ∧ fs.length ≤ 6 ∧ SqT K H l (lnV line) ∧ line.Nodup ∧ line.length ≤ 6 ∧ (∀ t ∈ line, t < fs.length) ∧ z.length ≤ 1000 ∧ ∀ H', Ex H H' → Q (oV (endS cs z fs line)) H'
theorem pow6 : ∀ j, j ≤ 6 → 1001 * 2 ^ j ≤ 64064 := by decide
theorem c_endOf (D : At K mg "end_of" s_end_of ["table", "text", "edits", "arrival"]) (B : Bl mg) (Cb : C8.Cal P w K mg base 1 "list_behind" (spPlay K) []) (Ct : C8.Cal P w K mg base 5 "turned" (spTurned K C) []) :
    C8.Cal P w K mg base 6 "end_of" (spEnd K fun x ks cs H => ∃ t, x = .ref t ∧ TabW K C H t ks cs) [] := by
  refine cal_of D sc_end_of (fun vs H Q E h => ?_) (fun f cdv A outer s H vs Q E hr h => ?_)
  · obtain ⟨x, z, a, l, ks, cs, vs, fs, line, hi, rfl, _⟩ := h
    rfl
  · obtain ⟨x, z, a, l, ks, cs, vs, fs, line, hi, rfl, ⟨t, rfl, tw⟩, hk, hC, ha, hE, hb, hhi, hfl, hl, nd, hll, hlt, hz, q⟩ := h
    refine ⟨_, pss_cons (ps_set (i := 4) sc_end_of.nd rfl (.inl rfl) (pe_callTy call_list_of (by rfl) B.list (by decide +kernel) (pa_cons (pv 2) pa_nil)))
      (pss_cons (ps_for PassesOwn.never rfl (XQ.pi_enumT1 (by rfl) B.enum (pa_cons (pv 3) (pa_cons pe_int pa_nil))) (pg_tup (by rfl) (pgs_cons (pg_name (i := 5) sc_end_of.nd rfl (.inl rfl)) (pgs_cons (pg_name (i := 6) sc_end_of.nd rfl (.inl rfl)) pgs_nil)))
 (pss_cons (ps_set (i := 1) sc_end_of.nd rfl (.inl rfl) (C8.pe_c Cb hr (by decide) (by rfl) (pa_cons (pv 1) (pa_cons (pe_ix ix_list (pv 4) (pv 6) (fun _ _ => rfl)) pa_nil))))
      (pss_cons (ps_if (pt_cmpR op_isN (pv 1) pe_non (nomark _)) (pss_one (ps_ret pe_non)) pss_nil)
      (pss_one (ps_for PassesOwn.never rfl (pi_tup (pe_slice sl_tupA (pv 3) (po_some (pv 5)) po_none)) (pg_name (i := 7) sc_end_of.nd rfl (.inl rfl))
      (pss_one (ps_asg (C8.pe_c Ct hr (by decide) (by rfl) (pa_cons (pv 0) (pa_cons (pe_ix ix_list (pv 4) (pv 7) (fun _ _ => rfl)) (pa_cons (pe_ix ix_list (pv 4) (pv 6) (fun _ _ => rfl)) (pa_cons (pe_cmpR op_lt (pv 7) (pv 6) (nomark _)) pa_nil))))) (pg_sub (pv 4) (pv 7) set_list))))))))
      (pss_one (ps_ret (pv 1)))), ?_⟩
    refine q_asgL (el_listS (ev_var rfl) (.inr ha)) fun F H1 nF e1 hF => ?_
    have hl1 := ex_t e1 hl
    refine ⟨_, rfl, l, lnV line, rfl, hl1, for_it walk_enumT1
      (fun i σ G => ∃ y5 y6 y7 z' gs us, σ = [some (.ref t), some (.str z'), some (.ref a), some (.ref l), some (.ref F), y5, y6, y7] ∧ Ex H G ∧ G F = some (.lst us) ∧ EditsV K G us gs ∧ gs.length = fs.length ∧ (∀ d ∈ gs, d.okb ks (0 - (i : Int)) (hi + (i : Int))) ∧ z'.length + 1 ≤ 1001 * 2 ^ i ∧ endS cs z' gs (line.drop i) = endS cs z fs line)
      ⟨_, _, _, z, fs, vs, rfl, e1, hF, hE.ex e1, rfl, (fun d hd => by have := hb d hd; exact okb_mono this (by omega) (by omega)), by omega, rfl⟩ (fun i σ G _ ⟨_, _, _, _, _, _, _, e, _⟩ => ex_t e hl) ?_ ?_⟩
    · rintro i x σ G G' hi' ⟨y5, y6, y7, z', gs, us, rfl, eG, hFG, hEG, gl, gb, zl, hend⟩ ⟨T, a1, a2, rfl, nT, rfl, f1, f2⟩
      injection f1 with f1
      subst f1
      obtain ⟨site, hs, rfl⟩ := lnV_at f2
      have hi6 : i < 6 := by
        have := (List.getElem?_eq_some_iff.mp hs).1
        omega
      have p6 := pow6 i (by omega)
      have p5 : 1001 * 2 ^ i ≤ 45000 := by
        rcases (show i = 0 ∨ i = 1 ∨ i = 2 ∨ i = 3 ∨ i = 4 ∨ i = 5 by omega) with h | h | h | h | h | h <;> subst h <;> decide
      have eT : Ex G (upd G T (.tup [.int ((i + 1 : Nat) : Int), .int (site : Int)])) := Ex.new nT
      refine ⟨T, _, rfl, SqT.of upd_same, rfl, _, _, rfl, _, _, rfl, rfl, ?_⟩
      have hFT := eT _ _ hFG
      have hET := hEG.ex eT
      have slt : site < gs.length := by rw [gl]; exact hlt site (List.mem_of_getElem? hs)
      have hd : gs[site]? = some gs[site] := List.getElem?_eq_getElem slt
      generalize gs[site] = d at hd
      obtain ⟨ad, hu, had⟩ := hET.at_ site d hd
      have okd : d.ok ks := okb_ok (gb d (List.mem_of_getElem? hd)) (by omega) (by omega)
      refine q_asg (v := oV (playS z' d)) (ev_behind (ev_var rfl) (ev_ixL (ev_var rfl) (ev_var rfl) (SqL.of hFT) (atI_nat hu)) had okd hk (by omega)) fun G1 g1 => ?_
      have dr : line.drop i = site :: line.drop (i + 1) := by
        rw [← List.getElem?_eq_some_iff.mp hs |>.2]
        exact (List.drop_eq_getElem_cons _)
      rw [dr] at hend
      cases hp : playS z' d with
      | none =>
        have he : endS cs z fs line = none := by
          rw [← hend]
          unfold endS
          rw [hd]
          simp only [hp]
        refine q_when (b := true) (et_test (ev_op (x := .non) (ev_var rfl) ev_c fun H1 e Q q => ⟨rfl, q H1 (Ex.refl H1)⟩)) (fun _ G2 g2 => ?_) (fun z => by cases z)
        rw [he] at q
        exact s_ret ev_c fun G3 g3 => q G3 (((eG.trans eT).trans g1).trans (g2.trans g3))
      | some z2 =>
        have he : endS cs z fs line = endS cs z2 (turnAll cs site gs (line.drop (i + 1))) (line.drop (i + 1)) := by
          rw [← hend]
          show endS cs z' gs (site :: line.drop (i + 1)) = _
          rw [endS, hd]
          simp only [hp]
        have hz2 := play_len hp
        refine q_when (b := false) (et_test (ev_op (x := .str z2) (ev_var rfl) ev_c fun H1 e Q q => ⟨rfl, q H1 (Ex.refl H1)⟩)) (fun z => by cases z) (fun _ G2 g2 => ?_)
        have g12 := g1.trans g2
        have eG2 : Ex H G2 := (eG.trans eT).trans g12
        refine es_is (K := K) (zs := lnV (line.drop (i + 1))) (es_slA (ev_var rfl) (ex_t eG2 hl) (eo_some (ev_var rfl)) eo_none) (by rw [cut_from]; exact List.map_drop.symm) G2 (Ex.refl _) _ fun r G3 g3 hr3 => ⟨r, rfl, ⟨_, hr3⟩, ?_⟩
        have ndr : (line.drop (i + 1)).Nodup := nd.sublist (List.drop_sublist _ _)
        have hsn : site ∉ line.drop (i + 1) := by
          have := nd.sublist (List.drop_sublist i line)
          rw [dr] at this
          exact (List.nodup_cons.mp this).1
        generalize hrest : line.drop (i + 1) = rest at *
        have hF3 := g3 _ _ (g12 _ _ hFT)
        have hE3 := (hET.ex g12).ex g3
        refine for_tup (K := K) (a := r) (xs := lnV rest)
          (fun j σ G => ∃ y7 us hs, σ = [some (.ref t), some (.str z2), some (.ref a), some (.ref l), some (.ref F), some (.int ((i + 1 : Nat) : Int)), some (.int (site : Int)), y7] ∧ Ex H G ∧ SqT K G r (lnV rest) ∧ G F = some (.lst us) ∧ EditsV K G us hs ∧ hs.length = fs.length ∧ Mid ks cs site gs rest (0 - (i : Int)) (hi + (i : Int)) j hs)
          ⟨_, us, gs, rfl, eG2.trans g3, hr3, hF3, hE3, gl, ⟨rfl, fun _ _ => rfl, fun d hd => okb_mono (gb d hd) (by omega) (by omega)⟩⟩ (fun j σ G _ ⟨_, _, _, _, _, e, _⟩ => e) ?_ ?_
        · rintro j x σ G4 hj ⟨y7, us, hs, rfl, e4, hr4, hF4, hE4, hl4, mid⟩
          obtain ⟨o, ho, rfl⟩ := lnV_at hj
          have om : o ∈ line := by
            have : o ∈ line.drop (i + 1) := by rw [hrest]; exact List.mem_of_getElem? ho
            exact List.mem_of_mem_drop this
          have olt : o < hs.length := by rw [hl4]; exact hlt o om
          have slt4 : site < hs.length := by rw [hl4]; rw [gl] at slt; exact slt
          have hdo : hs[o]? = some hs[o] := List.getElem?_eq_getElem olt
          have hds : hs[site]? = some hs[site] := List.getElem?_eq_getElem slt4
          generalize hs[o] = dO at hdo
          generalize hs[site] = dS at hds
          obtain ⟨ao, uo, hao⟩ := hE4.at_ o dO hdo
          obtain ⟨as', us', has'⟩ := hE4.at_ site dS hds
          have okO : dO.ok ks := okb_ok (mid.b dO (List.mem_of_getElem? hdo)) (by omega) (by omega)
          have okS : dS.ok ks := okb_ok (mid.b dS (List.mem_of_getElem? hds)) (by omega) (by omega)
          refine es_turned (K := K) (C := C) (d := dO) (e := dS) (first := decide (o < site)) (ev_var rfl) (ev_ixL (ev_var rfl) (ev_var rfl) (SqL.of hF4) (atI_nat uo)) (ev_ixL (ev_var rfl) (ev_var rfl) (SqL.of hF4) (atI_nat us')) (ev_is (ev_op (ev_var rfl) (ev_var rfl) rv_I0) (by rw [show decide ((o : Int) < (site : Int)) = decide (o < site) from decide_eq_decide.mpr (by omega)])) (tw.ex e4) hk hao has' okO okS G4 (Ex.refl _) _ fun n G5 g5 hn => ?_
          have hF5 := g5 _ _ hF4
          refine ⟨_, rfl, _, rfl, F, us, (o : Int), o, rfl, rfl, hF5, ixN_nat (by rw [hE4.len]; exact olt), ?_⟩
          rw [← turnD_vs okO hk hC] at hn
          exact ⟨_, _, _, rfl, Ex.mut (e4.trans g5) nF, sqt_put (ex_t g5 hr4) hF5, upd_same, ((hE4.ex g5).put hF5).set (sqt_put hn hF5), by rw [List.length_set]; exact hl4, mid_step hC mid ndr ho gb hdo hds⟩
        · rintro σ G4 ⟨y7, us, hs, rfl, e4, hr4, hF4, hE4, hl4, mid⟩
          have mlen : (lnV rest).length = rest.length := List.length_map _
          rw [mlen] at mid
          have me := mid.e
          rw [List.take_length] at me
          refine ⟨_, _, _, z2, hs, us, rfl, e4, hF4, hE4, hl4, (fun d hd => okb_mono (mid.b d hd) (by omega) (by omega)), ?_, ?_⟩
          · rw [Nat.pow_succ]
            omega
          · rw [he, me]
    · rintro σ G ⟨y5, y6, y7, z', gs, us, rfl, eG, hFG, hEG, gl, gb, zl, hend⟩
      have : (lnV line).length = line.length := List.length_map _
      rw [this, List.drop_length] at hend
      have hend : some z' = endS cs z fs line := hend
      rw [← hend] at q
      exact s_ret (ev_var rfl) fun G1 g1 => q G1 (eG.trans g1)
end
end T
namespace T
open PySem PySem.Spec PyProof.Rows L2 Evl XB TL XS XI XC ClX XQ
theorem sorted_eq : ∀ {a b : List Int}, a.Perm b → a.Pairwise (· ≤ ·) → b.Pairwise (· ≤ ·) → a = b
  | [], b, p, _, _ => p.nil_eq
  | x :: r, [], p, _, _ => absurd p.length_eq (by simp)
  | x :: r, y :: t, p, h1, h2 => by
    have hx : x ∈ y :: t := p.mem_iff.mp List.mem_cons_self
    have hy : y ∈ x :: r := p.mem_iff.mpr List.mem_cons_self
    have h1' := List.pairwise_cons.mp h1
    have h2' := List.pairwise_cons.mp h2
    have e : x = y := by
      rcases List.mem_cons.mp hx with q | q
      · exact q
      · rcases List.mem_cons.mp hy with q2 | q2
        · exact q2.symm
        · have := h2'.1 x q
          have := h1'.1 y q2
          omega
    subst e
    rw [sorted_eq (List.Perm.cons_inv p) h1'.2 h2'.2]
section
variable {P : Program} {w : World} {K : PySem.W.Frag} {mg : Str → Option Value} {base : Heap} {C : Addr}
variable {σ : L2.St} {H : Hp} {t : TT} {ta tb tc td te : TE} {tz ts : TS} {D' : Ends} {ks : List Str} {cs : List Cell} {x y a b F s : Addr} {E : XK} {d e : Deed} {xs ys vs : List V} {fs : List Deed}
/-- a comprehension over a tuple -/
theorem el_lcV {xs : List V} {tl : TE} {j : Nat} {vs : List Nat} (v : V → V) (h : EvS K tl σ H xs) (hz : xs.length ≤ 40000) (hw : ∀ x, wipe ((wipe σ vs).set j (some x)) vs = wipe σ vs)
    (he : ∀ x H1, Ex H H1 → x ∈ xs → Ev te ((wipe σ vs).set j (some x)) H1 (v x)) : EvL (tLc (iTup K tl) (gName j) tYes te vs) σ H (xs.map v) := fun H0 e Q q => h H0 e _ fun a H1 e1 hx => ⟨a, rfl, ⟨_, hx⟩, fun D hD =>
  lc_tup (xs := xs) (fun i G => Ex H1 G ∧ G D = some (.lst ((xs.take i).map v))) ⟨Ex.new hD, upd_same⟩ (fun i G _ p => ex_t p.1 hx) (fun i x G hi p => ⟨hw x, by
    have m := List.mem_of_getElem? hi
    have e2 := (e.trans e1).trans p.1
    have tk : xs.take (i + 1) = xs.take i ++ [x] := by rw [List.take_succ, hi]; rfl
    refine tYes_go (he x G e2 m G (Ex.refl G) _ fun G3 g3 => ⟨_, g3 _ _ p.2, ?_, Ex.mut (p.1.trans g3) hD, ?_⟩)
    · refine sz_lt ?_
      rw [List.length_map, List.length_take]
      omega
    · rw [upd_same, tk, List.map_append]
      rfl⟩)
    (fun G p => q D G (fresh_back e1 hD) (e1.trans p.1) (by rw [p.2, List.take_length]))⟩
theorem ev_eqDD {d d' : PyData} (ha : EvD K ta σ H d) (hb : EvD K tb σ H d') (sx : SeqAt.shaped d = true) (sy : SeqAt.shaped d' = true) : Ev (tOp (rEqD K) ta tb) σ H (.bl (PyData.eqv d d')) := fun H1 e Q q =>
  ha H1 e _ fun v H2 e2 h2 => hb H2 (e.trans e2) _ fun u H3 e3 h3 => ⟨d, d', dp_ex e3 d v h2, h3, sx, sy, q H3 (e2.trans e3)⟩
def pdI (l : List Int) : PyData := .list (l.map PyData.int)
theorem shp_ints : ∀ l : List Int, SeqAt.shaped (pdI l) = true := fun l => by
  have e : ∀ l : List Int, PyData.canLayAll0 (l.map PyData.int) = true := fun l => by
    induction l with
    | nil => rfl
    | cons x r ih => exact ih
  have dp : ∀ l : List Int, PyData.depthAll (l.map PyData.int) = 0 := fun l => by
    induction l with
    | nil => rfl
    | cons x r ih =>
      show max 0 (PyData.depthAll (r.map PyData.int)) = 0
      rw [ih]; rfl
  show (PyData.canLayAll0 (l.map PyData.int) && decide (PyData.depthAll (l.map PyData.int) + 1 ≤ 64)) = true
  rw [e, dp]
  rfl
theorem eqv_ints : ∀ l : List Int, PyData.eqv (pdI l) (pdI l) = true := fun l => by
  show PyData.eqvAll (l.map PyData.int) (l.map PyData.int) = true
  induction l with
  | nil => rfl
  | cons x r ih =>
    show ((x == x) && PyData.eqvAll (r.map PyData.int) (r.map PyData.int)) = true
    rw [ih]
    simp
theorem dp_ints : ∀ l : List Int, DpAll K H (l.map V.int) (l.map PyData.int)
  | [] => .nil
  | x :: r => .cons (.int x) (dp_ints r)
/-! ### ask_for_table, first_wrong_edit, is_arrival -/
def spAsk (K : PySem.W.Frag) (C : Addr) : Sp := fun vs H Q _ => ∃ (x : Addr) (ks : List Str) (cs : List Cell), vs = [.ref x] ∧ TabW K C H x ks cs ∧ ∀ H', Ex H H' → Q .non H'
theorem c_ask (D : At K mg "ask_for_table" s_ask_for_table ["value"]) (B : Bl mg) (M : TabM P w K mg base C) : C8.Cal P w K mg base 1 "ask_for_table" (spAsk K C) [] := by
  refine cal_of D sc_ask_for_table (fun vs H Q E h => ?_) (fun f cdv A outer s H vs Q E hr h => ?_)
  · obtain ⟨x, ks, cs, rfl, _⟩ := h
    rfl
  · obtain ⟨x, ks, cs, rfl, t, q⟩ := h
    refine ⟨_, pss_one (ps_if (pt_not (pt_val (pe_callB (C8.call_isC M.I) (by rfl) B.isin (by decide +kernel) (pa_cons (pv 0) (pa_cons (pe_glob (v := .ref C) (by rfl) M.T.mgT rfl) pa_nil))))) pss_never pss_nil), ?_⟩
    exact s_when (b := false) (et_not (et_B (ev_isT (ev_var rfl) t.at))) (fun z => by cases z) (fun _ H1 e1 => q H1 e1)
def spFWE (K : PySem.W.Frag) : Sp := fun vs0 H Q _ => ∃ (a b : Addr) (z : Str) (ks : List Str) (vs : List V) (fs : List Deed), vs0 = [.ref a, .ref b, .str z] ∧ ks ∈ kinds7 ∧ SqT K H a vs ∧ EditsV K H vs fs ∧ SqT K H b (sl ks) ∧ (∀ d ∈ fs, d.ok ks) ∧ (∀ d ∈ fs, playS z d ≠ none) ∧ fs.length ≤ 6 ∧ z.length ≤ 1000 ∧ ∀ H', Ex H H' → Q .non H'
theorem c_fwe (D : At K mg "first_wrong_edit" s_first_wrong_edit ["edits", "kinds", "text"]) (B : Bl mg) {tk : Tok} (me : mg "MOST_EDITS" = some (.int 6 tk)) (Ce : C8.Cal P w K mg base 4 "is_edit_of" (spEditOf K) []) (Cb : C8.Cal P w K mg base 1 "list_behind" (spPlay K) []) : C8.Cal P w K mg base 5 "first_wrong_edit" (spFWE K) [] := by
  refine cal_of D sc_first_wrong_edit (fun vs H Q E h => ?_) (fun f cdv A outer s H vs Q E hr h => ?_)
  · obtain ⟨a, b, z, ks, vs, fs, rfl, _⟩ := h
    rfl
  · obtain ⟨a, b, z, ks, vs, fs, rfl, hk, ha, hE, hb, hok, hpl, hl, hz, q⟩ := h
    refine ⟨_, pss_cons (ps_for PassesOwn.never rfl (pi_enumT (by rfl) B.enum (pa_cons (pv 0) pa_nil)) (pg_tup (by rfl) (pgs_cons (pg_name (i := 3) sc_first_wrong_edit.nd rfl (.inl rfl)) (pgs_cons (pg_name (i := 4) sc_first_wrong_edit.nd rfl (.inl rfl)) pgs_nil)))
 (pss_one (ps_if (PW.pt (pw_or (pt_cmpR op_ge (pv 3) (pe_glob (v := .int 6) (by rfl) me ⟨_, rfl⟩) (nomark _)) (pw_or (pt_not (pt_val (C8.pe_c Ce hr (by decide) (by rfl) (pa_cons (pv 4) (pa_cons (pv 1) pa_nil))))) (pw_or1 (pt_cmpR op_isN (C8.pe_c Cb hr (by decide) (by rfl) (pa_cons (pv 2) (pa_cons (pv 4) pa_nil))) pe_non (nomark _)))))) (pss_one (ps_ret (pv 3))) pss_nil)))
      (pss_one (ps_ret pe_non)), ?_⟩
    refine ⟨_, rfl, a, vs, rfl, ha, for_it walk_enumT
      (fun i σ G => ∃ y3 y4, σ = [some (.ref a), some (.ref b), some (.str z), y3, y4] ∧ Ex H G) ⟨_, _, rfl, Ex.refl H⟩ (fun i σ G _ ⟨_, _, _, e⟩ => ex_t e ha) ?_ ?_⟩
    · rintro i x σ G G' hi ⟨y3, y4, rfl, eG⟩ ⟨T, a1, a2, rfl, nT, rfl, f1, f2⟩
      injection f1 with f1
      subst f1
      rw [hE.len] at hi
      have hd : fs[i]? = some fs[i] := List.getElem?_eq_getElem hi
      generalize fs[i] = d at hd
      obtain ⟨ad, h1, h2⟩ := hE.at_ i d hd
      have f2 : vs[i]? = some a2 := f2
      rw [h1] at f2
      injection f2 with f2
      subst f2
      have dm := List.mem_of_getElem? hd
      have eT : Ex G (upd G T (.tup [.int (i : Nat), .ref ad])) := Ex.new nT
      refine ⟨T, _, rfl, SqT.of upd_same, rfl, _, _, rfl, _, _, rfl, rfl, ?_⟩
      have e1 := eG.trans eT
      cases hp : playS z d with
      | none => exact absurd hp (hpl d dm)
      | some r =>
        refine s_when (b := false) (et_is (et_or (et_test (ev_op (ev_var rfl) ev_c rv_I0)) (fun _ => et_or (et_not (et_B (ev_editOf (ev_var rfl) (ev_var rfl) (ex_t e1 h2) (ex_t e1 hb) (hok d dm)))) (fun _ => et_test (ev_op (x := .str r) (ev_is (ev_behind (ev_var rfl) (ev_var rfl) (ex_t e1 h2) (hok d dm) hk (by omega)) (by rw [hp]; rfl)) ev_c fun H1 e Q q => ⟨rfl, q H1 (Ex.refl H1)⟩)))) ?_) (fun z => by cases z) (fun _ G1 g1 => ⟨_, _, rfl, e1.trans g1⟩)
        rw [decide_eq_false (by omega)]
        rfl
    · rintro σ G ⟨y3, y4, rfl, eG⟩
      exact q G eG
def spArr (K : PySem.W.Frag) : Sp := fun vs0 H Q _ => ∃ (l : Addr) (line : List Nat) (n : Nat), vs0 = [.ref l, .int (n : Int)] ∧ SqT K H l (lnV line) ∧ line.Perm (List.range n) ∧ n ≤ 6 ∧ ∀ H', Ex H H' → Q (.bl true) H'
theorem c_arr (D : At K mg "is_arrival" s_is_arrival ["value", "many"]) (B : Bl mg) (so : mg "sorted" = none) (Ci : C8.Cal P w K mg base 1 "is_integer" spInt []) : C8.Cal P w K mg base 2 "is_arrival" (spArr K) [] := by
  refine cal_of D sc_is_arrival (fun vs H Q E h => ?_) (fun f cdv A outer s H vs Q E hr h => ?_)
  · obtain ⟨l, line, n, rfl, _⟩ := h
    rfl
  · obtain ⟨l, line, n, rfl, hl, pm, hn, q⟩ := h
    refine ⟨_, pss_cons (ps_if (PW.pt (pw_or (pt_not (pt_val (pe_callB call_isi (by rfl) B.isin (by decide +kernel) (pa_cons (pv 0) (pa_cons (pe_bltn (v := .ty "tuple") (by rfl) B.tuple (by decide +kernel) rfl) pa_nil))))) (pw_or1 (pt_not (pt_val (pe_callB (cr_all rfl) (by rfl) B.all_ (by decide +kernel) (pa_cons (pe_lc (own := [("index", 2)]) (g := gName 2) (tt := tYes) (te := tCall spInt [] C8.E0 (tCons (tVar 2) tNil)) rfl sc_is_arrival.nd (pi_tup (pv 0)) (blkOk_by (own := [("index", 2)]) (N := N_is_arrival) (sc := defScope s_is_arrival) (by decide +kernel)) (fun _ _ _ _ _ => pg_name (i := 2) sc_is_arrival.nd rfl (Or.inl rfl)) (fun _ _ _ _ _ => pts_nil) (fun _ _ _ _ _ => C8.pe_c Ci hr (by decide) (by rfl) (pa_cons (pv 2) pa_nil))) pa_nil))))))) (pss_one (ps_ret pe_bl)) pss_nil)
      (pss_one (ps_ret (pe_cmpR (op_eqD hr.units) (pe_callB XQ.cr_sortedT (by rfl) so (by decide +kernel) (pa_cons (pv 0) pa_nil)) (pe_listRg rfl (by rfl) B.list (prg_1 (by rfl) B.range (pv 1))) (nomark _)))), ?_⟩
    have ll : line.length = n := by rw [pm.length_eq, List.length_range]
    refine q_when (b := false) (et_is (et_or (et_not (et_B (ev_isTup (ev_var rfl) hl))) (fun _ => et_not (et_B (ev_all (bs := line.map fun _ => true) (el_is (el_lcV (fun _ => .bl true) (es_at (ev_var rfl) hl) (by unfold lnV; rw [List.length_map]; omega) (fun _ => rfl) (fun x G e m => ?_)) ?_))))) ?_) (fun z => by cases z) (fun _ H1 e1 => ?_)
    · obtain ⟨k, _, rfl⟩ := List.mem_map.mp m
      exact ev_int (ev_var rfl)
    · unfold lnV
      rw [List.map_map, List.map_map]
      rfl
    · rw [List.all_map]
      show (false || !(line.all fun _ => true)) = false
      rw [List.all_eq_true.mpr (fun _ _ => rfl)]
      rfl
    · have lI : lnV line = (line.map fun (k : Nat) => (k : Int)).map V.int := by
        unfold lnV
        rw [List.map_map]
        rfl
      have hl1 := ex_t e1 hl
      rw [lI] at hl1
      have rg : rgV 0 (n : Int) = ((List.range n).map fun (k : Nat) => (k : Int)).map V.int := by
        unfold rgV
        rw [show ((n : Int) - 0).toNat = n by omega, List.map_map]
        exact List.map_congr_left fun k _ => by show V.int (0 + (k : Int)) = V.int (k : Int); rw [Int.zero_add]
      have pw : ((List.range n).map fun (k : Nat) => (k : Int)).Pairwise (· ≤ ·) := by
        refine List.pairwise_map.mpr ?_
        exact (List.pairwise_lt_range).imp fun {a b} h => by omega
      have d1 : EvD K (tCB (rSortedT K) (tCons (tVar 0) tNil)) [some (.ref l), some (.int (n : Int)), none] H1 (pdI ((List.range n).map fun (k : Nat) => (k : Int))) := fun H2 e2 Q q =>
        ⟨_, rfl, l, _, rfl, ex_t e2 hl1, fun ns' p pm' pw' np => by
          have : ns' = (List.range n).map fun (k : Nat) => (k : Int) := sorted_eq (pm'.trans (pm.map _)) pw' pw
          subst this
          exact q _ _ (Ex.new np) (.lst (SqL.of upd_same) (dp_ints _))⟩
      have d2 : EvD K (tLstRg (tRg1 (tVar 1))) [some (.ref l), some (.int (n : Int)), none] H1 (pdI ((List.range n).map fun (k : Nat) => (k : Int))) := fun H2 e2 Q q =>
        ⟨_, rfl, (n : Int), rfl, RgOk.of_le (by omega) (by omega) (by omega) (by omega), fun p np => by
          rw [rg]
          exact q _ _ (Ex.new np) (.lst (SqL.of upd_same) (dp_ints _))⟩
      exact s_ret (ev_is (ev_eqDD d1 d2 (shp_ints _) (shp_ints _)) (by rw [eqv_ints])) fun H2 e2 => q H2 (e1.trans e2)
theorem ev_arr {line : List Nat} {n : Nat} (h1 : Ev ta σ H (.ref a)) (h2 : Ev tb σ H (.int (n : Int))) (hl : SqT K H a (lnV line)) (pm : line.Perm (List.range n)) (hn : n ≤ 6) : Ev (tCall (spArr K) [] E (tCons ta (tCons tb tNil))) σ H (.bl true) :=
  ev_call (ea_cons h1 (ea_cons h2 ea_nil)) fun G g Q q E => ⟨a, line, n, rfl, ex_t g hl, pm, hn, q⟩
/-! ### ended -/
def spEnded (K : PySem.W.Frag) (C : Addr) : Sp := fun vs0 H Q _ => ∃ (x : Addr) (z : Str) (a l : Addr) (ks : List Str) (cs : List Cell) (vs : List V) (fs : List Deed) (line : List Nat) (hi : Int), vs0 = [.ref x, .str z, .ref a, .ref l] ∧ TabW K C H x ks cs ∧ ks ∈ kinds7 ∧ Cells ks cs ∧
  SqT K H a vs ∧ EditsV K H vs fs ∧ (∀ d ∈ fs, d.okb ks 0 hi) ∧ hi ≤ 2000 ∧ 0 < fs.length ∧ fs.length ≤ 6 ∧ (∀ d ∈ fs, playS z d ≠ none) ∧ SqT K H l (lnV line) ∧ line.Perm (List.range fs.length) ∧ Abc z ∧ z.length ≤ 1000 ∧ ∀ H', Ex H H' → Q (oV (endS cs z fs line)) H'
theorem c_ended {f : Addr} {fd : FuncData} (F : Fun K "ended" "ended" s_ended f fd) (B : Bl mg) (M : TabM P w K mg base C) (Pk : ProM P w K mg base 1 C "kinds" (spKindsP K C)) (Ca : C8.Cal P w K mg base 1 "ask_for_table" (spAsk K C) []) (Cl : C8.Cal P w K mg base 2 "is_list" spIsList []) (Cw : C8.Cal P w K mg base 5 "first_wrong_edit" (spFWE K) [])
    (Cr : C8.Cal P w K mg base 2 "is_arrival" (spArr K) []) (Ce : C8.Cal P w K mg base 6 "end_of" (spEnd K fun x ks cs H => ∃ t, x = .ref t ∧ TabW K C H t ks cs) []) : FnOk P w K mg base CX0 7 f fd ["table", "text", "edits", "arrival"] (spEnded K C) := by
  obtain ⟨fk, fdk, pk, Fk, hpk, bk⟩ := Pk.ex
  refine F.ok sc_ended (fun vs H Q E h => ?_) (fun cdv A outer s H vs Q E hr h => ?_)
  · obtain ⟨x, z, a, l, ks, cs, vs, fs, line, hi, rfl, _⟩ := h
    rfl
  · obtain ⟨x, z, a, l, ks, cs, vs, fs, line, hi, rfl, tw, hk, hC, ha, hE, hb, hhi, h0, h6, hpl, hl, pm, hz, hzl, q⟩ := h
    refine ⟨_, pss_cons (ps_expr (C8.pe_c Ca hr (by decide) (by rfl) (pa_cons (pv 0) pa_nil)))
      (pss_cons (ps_if (pt_not (pt_val (C8.pe_c Cl hr (by decide) (by rfl) (pa_cons (pv 1) pa_nil)))) pss_never pss_nil)
      (pss_cons (ps_if (PW.pt (pw_or (pt_not (pt_val (pe_callB call_isi (by rfl) B.isin (by decide +kernel) (pa_cons (pv 2) (pa_cons (pe_bltn (v := .ty "tuple") (by rfl) B.tuple (by decide +kernel) rfl) pa_nil))))) (pw_or1 (pt_cmpR op_eq (pe_callB call_len_seq (by rfl) B.len (by decide +kernel) (pa_cons (pv 2) pa_nil)) pe_int (nomark _))))) pss_never pss_nil)
      (pss_cons (ps_set (i := 4) sc_ended.nd rfl (.inl rfl) (C8.pe_c Cw hr (by decide) (by rfl) (pa_cons (pv 2) (pa_cons (pe_prop (pv 0) M.T.cl hpk Fk (hr.mono (by decide)) bk .nil pass0 rfl) (pa_cons (pv 1) pa_nil)))))
      (pss_cons (ps_if (pt_cmpR op_notN (pv 4) pe_non (nomark _)) pss_never pss_nil)
      (pss_cons (ps_if (pt_not (pt_val (C8.pe_c Cr hr (by decide) (by rfl) (pa_cons (pv 3) (pa_cons (pe_callB call_len_seq (by rfl) B.len (by decide +kernel) (pa_cons (pv 2) pa_nil)) pa_nil))))) pss_never pss_nil)
      (pss_one (ps_ret (C8.pe_c Ce hr (by decide) (by rfl) (pa_cons (pv 0) (pa_cons (pv 1) (pa_cons (pv 2) (pa_cons (pv 3) pa_nil)))))))))))), ?_⟩
    have hok : ∀ d ∈ fs, d.ok ks := fun d hd => okb_ok (hb d hd) (by omega) (by omega)
    refine q_drop (v := .non) (ev_call (ea_cons (ev_var rfl) ea_nil) fun H1 e Q q E => ⟨x, ks, cs, rfl, tw.ex e, q⟩) fun H1 e1 => ?_
    refine q_when (b := false) (et_not (et_B (ev_isList (ev_var rfl) hz hzl))) (fun z => by cases z) (fun _ H2 e2 => ?_)
    have e12 := e1.trans e2
    refine q_when (b := false) (et_is (et_or (et_not (et_B (ev_isTup (ev_var rfl) (ex_t e12 ha)))) (fun _ => et_test (ev_op (ev_lenS (ev_var rfl) (.inr (ex_t e12 ha))) ev_c (rv_eq rfl)))) ?_) (fun z => by cases z) (fun _ H3 e3 => ?_)
    · rw [hE.len]
      show (false || decide (V.int (fs.length : Int) = V.int 0)) = false
      rw [decide_eq_false (fun y => by injection y with y; omega)]
      rfl
    have e13 := e12.trans e3
    have kS : EvS K (tProp C (spKindsP K C) [] E0 (tVar 0)) [some (.ref x), some (.str z), some (.ref a), some (.ref l), none] H3 (sl ks) := es_propK (ev_var rfl) (tw.ex e13).at
    refine q_asg (v := .non) (fun G g Q q => ⟨_, rfl, kS G g _ fun b G2 g2 hb2 => ⟨_, rfl, a, b, z, ks, vs, fs, rfl, hk, ex_t ((e13.trans g).trans g2) ha, hE.ex ((e13.trans g).trans g2), hb2, hok, hpl, h6, hzl, fun G3 g3 => q G3 (g2.trans g3)⟩⟩) fun H4 e4 => ?_
    refine q_when (b := false) (et_test (ev_op (ev_var rfl) ev_c fun H1 e Q q => ⟨rfl, q H1 (Ex.refl H1)⟩)) (fun z => by cases z) (fun _ H5 e5 => ?_)
    have e15 := (e13.trans e4).trans e5
    refine q_when (b := false) (et_not (et_B (ev_arr (ev_var rfl) (ev_is (ev_lenS (ev_var rfl) (.inr (ex_t e15 ha))) (by rw [hE.len])) (ex_t e15 hl) pm h6))) (fun z => by cases z) (fun _ H6 e6 => ?_)
    have e16 := e15.trans e6
    have lm : ∀ t ∈ line, t < fs.length := fun t ht => List.mem_range.mp (pm.mem_iff.mp ht)
    exact s_ret (ev_call (ea_cons (ev_var rfl) (ea_cons (ev_var rfl) (ea_cons (ev_var rfl) (ea_cons (ev_var rfl) ea_nil)))) fun G g Q q E => ⟨.ref x, z, a, l, ks, cs, vs, fs, line, hi, rfl, ⟨x, rfl, tw.ex (e16.trans g)⟩, hk, hC, ex_t (e16.trans g) ha, hE.ex (e16.trans g), hb, hhi, h6, ex_t (e16.trans g) hl, pm.nodup_iff.mpr List.nodup_range, by rw [pm.length_eq, List.length_range]; exact h6, lm, hzl, q⟩) fun H7 e7 => q H7 (e16.trans e7)
end
end T
namespace T
open PySem PySem.Spec PyProof.Rows L2 Evl XB TL XS XI XC ClX XQ
theorem joinL_nil : ∀ ps : List (List Nat), joinL [] ps = ps.flatten
  | [] => rfl
  | [p] => by show p = p ++ []; rw [List.append_nil]
  | p :: q :: r => by
    show p ++ ([] ++ joinL [] (q :: r)) = p ++ (q :: r).flatten
    rw [joinL_nil (q :: r)]
    rfl
theorem join_lets {ws : List Str} (h : ∀ x ∈ ws, ∃ c : Nat, 97 ≤ c ∧ c ≤ 122 ∧ x = let1 c) : Abc (Txt.join "" ws) ∧ (Txt.join "" ws).length = ws.length := by
  have e : (Txt.join "" ws).cps.toList = (ws.map fun x => x.cps.toList).flatten := by
    show tl (Txt.join "" ws) = _
    rw [join_eq, tl_join]
    exact joinL_nil _
  constructor
  · intro c m
    rw [e] at m
    obtain ⟨l, hl, hc⟩ := List.mem_flatten.mp m
    obtain ⟨x, hx, rfl⟩ := List.mem_map.mp hl
    obtain ⟨d, d1, d2, rfl⟩ := h x hx
    rw [List.mem_singleton.mp (show c ∈ [d] from hc)]
    exact ⟨d1, d2⟩
  · have l : (Txt.join "" ws).length = (Txt.join "" ws).cps.toList.length := Array.length_toList.symm
    rw [l, e]
    clear l e
    induction ws with
    | nil => rfl
    | cons x r ih =>
      obtain ⟨d, d1, d2, rfl⟩ := h x List.mem_cons_self
      show ([d] ++ (r.map fun x => x.cps.toList).flatten).length = r.length + 1
      rw [List.length_append, ih fun y hy => h y (List.mem_cons_of_mem _ hy)]
      exact Nat.add_comm _ _
theorem sum_ones {ws : List Str} (h : ∀ x ∈ ws, ∃ c : Nat, 97 ≤ c ∧ c ≤ 122 ∧ x = let1 c) : (ws.map (·.length)).sum = ws.length := by
  induction ws with
  | nil => rfl
  | cons x r ih =>
    obtain ⟨d, d1, d2, rfl⟩ := h x List.mem_cons_self
    show 1 + (r.map (·.length)).sum = r.length + 1
    rw [ih fun y hy => h y (List.mem_cons_of_mem _ hy)]
    exact Nat.add_comm _ _
theorem play_some {ks : List Str} {d : Deed} {n : Nat} {z : Str} (hz : z.length = n) (h : d.okb ks 0 (if d.hd = "put" then (n : Int) else (n : Int) - 1)) : playS z d ≠ none := by
  cases d with
  | stay => intro q; cases q
  | out m =>
    rw [if_neg (show ¬ (Deed.out m).hd = "put" by show ¬ ("out" : Str) = "put"; decide)] at h
    rw [playS_out, if_neg (by have := h.2.1; have := h.2.2; omega)]
    intro q; cases q
  | sig k m c =>
    obtain ⟨h1, h2, h3, h4, h5, h6⟩ := h
    have h4 : m ≤ if k = "put" then (n : Int) else (n : Int) - 1 := h4
    rw [playS_sig, if_neg (by unfold lastOf; rw [hz]; omega)]
    intro q; cases q
theorem sqt_chgP {K : PySem.W.Frag} {H H' : Hp} {p a : Addr} {xs : List V} (h : SqT K H a xs) (hp : Purse H p) (c : Chg p H H') : SqT K H' a xs := by
  obtain ⟨d, z, w, e⟩ := hp
  rcases h with (h | ⟨u, h⟩) | h
  · exact .inl (.inl (c _ _ (ne_of h e fun q => by cases q) h))
  · exact .inl (.inr ⟨u, c _ _ (ne_of h e fun q => by cases q) h⟩)
  · exact .inr h
theorem EditsV.chgP {K : PySem.W.Frag} {H H' : Hp} {p : Addr} {vs : List V} {fs : List Deed} (h : EditsV K H vs fs) (hp : Purse H p) (c : Chg p H H') : EditsV K H' vs fs := ⟨h.len, fun i d hd => by
  obtain ⟨a, h1, h2⟩ := h.at_ i d hd
  exact ⟨a, h1, sqt_chgP h2 hp c⟩⟩
theorem EditsV.snoc {K : PySem.W.Frag} {H : Hp} {vs : List V} {fs : List Deed} {a : Addr} {d : Deed} (h : EditsV K H vs fs) (ha : SqT K H a d.vs) : EditsV K H (vs ++ [.ref a]) (fs ++ [d]) := ⟨by rw [List.length_append, List.length_append, h.len]; rfl, fun i e he => by
  rcases Nat.lt_trichotomy i fs.length with q | q | q
  · rw [List.getElem?_append_left q] at he
    obtain ⟨b, h1, h2⟩ := h.at_ i e he
    exact ⟨b, by rw [List.getElem?_append_left (by rw [h.len]; exact q)]; exact h1, h2⟩
  · subst q
    rw [List.getElem?_append_right (Nat.le_refl _), Nat.sub_self] at he
    injection he with he
    subst he
    refine ⟨a, ?_, ha⟩
    rw [← h.len, List.getElem?_append_right (Nat.le_refl _), Nat.sub_self]
    rfl
  · rw [List.getElem?_eq_none (by rw [List.length_append]; show fs.length + 1 ≤ i; omega)] at he
    cases he⟩
section
variable {P : Program} {w : World} {K : PySem.W.Frag} {mg : Str → Option Value} {base : Heap} {C : Addr}
/-! ### _law_row -/
def spRow : Sp := fun vs H Q _ => ∃ (p : Addr) (n : Nat), vs = [.ref p, .int (n : Int)] ∧ Purse H p ∧ n ≤ 1000 ∧ ∀ z H', Abc z → z.length = n → Purse H' p → Chg p H H' → Q (.str z) H'
theorem c_row (D : At K mg "_law_row" s__law_row ["purse", "size"]) (B : Bl mg) (Cs : C8.Cal P w K mg base 3 "_law_sign" spLSign []) : C8.Cal P w K mg base 4 "_law_row" spRow [] := by
  refine cal_of D sc__law_row (fun vs H Q E h => ?_) (fun f cdv A outer s H vs Q E hr h => ?_)
  · obtain ⟨p, n, rfl, _⟩ := h
    rfl
  · obtain ⟨p, n, rfl, hp, hn, q⟩ := h
    refine ⟨_, pss_one (ps_ret (pe_join pe_str (pe_lc (own := [("k", 2)]) (g := gName 2) (tt := tYes) (te := tCall spLSign [] C8.E0 (tCons (tVar 0) tNil)) rfl sc__law_row.nd (pi_range1 (by rfl) B.range (pa_cons (pv 1) pa_nil)) (blkOk_by (own := [("k", 2)]) (N := N__law_row) (sc := defScope s__law_row) (by decide +kernel)) (fun _ _ _ _ _ => pg_name (i := 2) sc__law_row.nd rfl (Or.inl rfl)) (fun _ _ _ _ _ => pts_nil) (fun _ _ _ _ _ => C8.pe_c Cs hr (by decide) (by rfl) (pa_cons (pv 0) pa_nil))))), ?_⟩
    refine ⟨⟨_, rfl⟩, _, rfl, (n : Int), rfl, by omega, by omega, fun D nD => ?_⟩
    refine lc_range (lo := 0) (n := ((n : Nat) : Int).toNat)
      (fun i G => ∃ ws, Chg p H G ∧ Purse G p ∧ G D = some (.lst (sl ws)) ∧ ws.length = i ∧ ∀ x ∈ ws, ∃ c : Nat, 97 ≤ c ∧ c ≤ 122 ∧ x = let1 c)
      ⟨[], (Chg.refl p H).new nD, hp.new nD, upd_same, rfl, fun _ z => by cases z⟩ ?_ ?_
    · rintro i G hi ⟨ws, cG, pG, hD, hl, hx⟩
      have nDp : D ≠ p := (hp.ne nD).symm
      refine ⟨rfl, _, rfl, p, rfl, pG, fun c G2 c1 c2 p2 ch => ⟨sl ws, ch _ _ nDp hD, by rw [XB.len_sl, sizeLine_eq]; omega, ws ++ [let1 c], (cG.trans ch).own nD, ?_, at_sl (ys := [let1 c]) upd_same rfl, ?_, ?_⟩⟩
      · obtain ⟨d, z, w, e⟩ := p2
        exact ⟨d, z, w, by rw [upd_ne nDp.symm]; exact e⟩
      · rw [List.length_append, hl]
        rfl
      · intro x m
        rcases List.mem_append.mp m with m | m
        · exact hx x m
        · rw [List.mem_singleton.mp m]
          exact ⟨c, c1, c2, rfl⟩
    · rintro G ⟨ws, cG, pG, hD, hl, hx⟩
      obtain ⟨a1, a2⟩ := join_lets hx
      refine ⟨_, D, ws, rfl, rfl, .inl (SqL.of hD), ?_, q _ G a1 (by rw [a2, hl]; omega) pG cG⟩
      rw [sum_ones hx]
      show ws.length + ws.length * 0 ≤ 16777216
      omega
/-! ### _law_deed, with its bounds -/
def spLDeed2 (K : PySem.W.Frag) : Sp := fun vs H Q _ => ∃ (p a : Addr) (lo hi : Int) (ss ks : List Str), vs = [.ref p, .ref a, .int lo, .int hi] ∧ Purse H p ∧ SqL K H a (sl ss) ∧ a ≠ p ∧ ss ≠ [] ∧ ss.length ≤ 1000 ∧ (∀ s ∈ ss, s = "stay" ∨ s ∈ ks) ∧ ks ∈ kinds7 ∧ -9 ≤ lo ∧ lo ≤ hi ∧ hi ≤ 10 ^ 12 ∧
  ∀ (d : Deed) l H', d.okb ks lo hi → d.hd ∈ ss → Purse H' p → Chg p H H' → H' l = some (.tup d.vs) → l ≠ p → Q (.ref l) H'
theorem c_ldeed2 (D : At K mg "_law_deed" s__law_deed ["purse", "sorts", "low", "high"]) (Cd : C8.Cal P w K mg base 1 "_law_draw" spDraw []) (Cp : C8.Cal P w K mg base 2 "_law_pick" (spPick K) []) (Cs : C8.Cal P w K mg base 3 "_law_sign" spLSign []) : C8.Cal P w K mg base 4 "_law_deed" (spLDeed2 K) [] := by
  refine cal_of D sc__law_deed (fun vs H Q E h => ?_) (fun f cdv A outer s H vs Q E hr h => ?_)
  · obtain ⟨p, a, lo, hi, ss, ks, rfl, _⟩ := h
    rfl
  · obtain ⟨p, a, lo, hi, ss, ks, rfl, hp, hS, ne, hne, hlen, hss, hk, h1, h2, h3, q⟩ := h
    refine ⟨_, pss_cons (ps_par (i := 4) (j := 5) (by rfl) sc__law_deed.nd rfl rfl (by decide) rfl rfl (pa_cons (C8.pe_c Cp hr (by decide) (by rfl) (pa_cons (pv 0) (pa_cons (pv 1) pa_nil))) (pa_cons (pe_op op_add (pv 2) (C8.pe_c Cd hr (by decide) (by rfl) (pa_cons (pv 0) (pa_cons (pe_op op_add (pe_op op_sub (pv 3) (pv 2)) pe_int) pa_nil)))) pa_nil)) (by rfl))
      (pss_cons (ps_if (pt_cmpR op_eq (pv 4) pe_str (nomark _)) (pss_one (ps_ret (pe_tup (pa_cons pe_str pa_nil)))) pss_nil)
      (pss_one (ps_ret (pe_ifExp (pt_cmpR op_eq (pv 4) pe_str (nomark _)) (pe_tup (pa_cons pe_str (pa_cons (pv 5) pa_nil))) (pe_tup (pa_cons (pv 4) (pa_cons (pv 5) (pa_cons (C8.pe_c Cs hr (by decide) (by rfl) (pa_cons (pv 0) pa_nil)) pa_nil)))))))), ?_⟩
    refine ⟨_, rfl, _, rfl, p, _, rfl, hp, .inl ⟨a, sl ss, rfl, ne, hS, (fun z => hne (List.map_eq_nil_iff.mp z)), (by rw [XB.len_sl]; exact hlen), fun x hx H1 hp1 c1 => ?_⟩⟩
    obtain ⟨s, hs, rfl⟩ := List.mem_map.mp hx
    refine ⟨_, rfl, _, rfl, _, rfl, _, rfl, _, _, rfl, rfl, _, _, rfl, rfl, p, hi - lo + 1, rfl, hp1, by omega, by omega, fun j H2 j0 j1 hp2 c2 => ⟨_, _, rfl, rfl, _, _, rfl, ?_⟩⟩
    have c12 := c1.trans c2
    have lo9 : lo ≤ lo + j := by omega
    have hi12 : lo + j ≤ hi := by omega
    have tup : ∀ (d : Deed) {l : Addr} {G : Hp}, d.okb ks lo hi → d.hd ∈ ss → Purse G p → Chg p H G → G l = none → Q (.ref l) (upd G l (.tup d.vs)) := fun d {l G} ok hm hp cG nl => q d l _ ok hm (hp.new nl) (cG.new nl) upd_same (hp.ne nl).symm
    refine ⟨_, rfl, rfl, _, rfl, ite2 (fun w => ?_) (fun w => ?_)⟩
    · have so : s = "stay" := by
        have := of_decide_eq_true w
        injection this
      exact ⟨(by show 1 ≤ sizeLine; decide), fun l nl => tup .stay trivial (by rw [so] at hs; exact hs) hp2 c12 nl⟩
    · have nst : s ≠ "stay" := fun z => of_decide_eq_false (by simpa using w) (by rw [z])
      have sk : s ∈ ks := (hss s hs).resolve_left nst
      refine ⟨_, rfl, rfl, _, rfl, ite2 (fun w2 => ?_) (fun w2 => ?_)⟩
      · have so : s = "out" := by
          have := of_decide_eq_true w2
          injection this
        subst so
        exact ⟨_, rfl, (by show 2 ≤ sizeLine; decide), fun l nl => tup (.out (lo + j)) ⟨sk, lo9, hi12⟩ hs hp2 c12 nl⟩
      · have sn : s ≠ "out" := fun z => of_decide_eq_false (by simpa using w2) (by rw [z])
        have sp := (kind_cases hk s sk).resolve_left sn
        exact ⟨_, rfl, _, rfl, _, rfl, p, rfl, hp2, fun c H3 c0 c1' hp3 c3 => ⟨(by show 3 ≤ sizeLine; decide), fun l nl => tup (.sig s (lo + j) c) ⟨sp, sk, lo9, hi12, c0, c1'⟩ hs hp3 (c12.trans c3) nl⟩⟩
/-! ### _law_made, _law_together -/
def spMade (K : PySem.W.Frag) : Sp := fun vs0 H Q _ => ∃ (p s : Addr) (n m : Nat) (ks : List Str), vs0 = [.ref p, .ref s, .int (n : Int), .int (m : Int)] ∧ Purse H p ∧ H s = some (.lst (sl ks)) ∧ s ≠ p ∧ ks ∈ kinds7 ∧ n ≤ 1000 ∧ m ≤ 1000 ∧
  ∀ a vs fs H', Purse H' p → Chg p H H' → SqT K H' a vs → EditsV K H' vs fs → fs.length = m → (∀ d ∈ fs, d.okb ks 0 (if d.hd = "put" then (n : Int) else (n : Int) - 1)) → Q (.ref a) H'
theorem c_made (D : At K mg "_law_made" s__law_made ["purse", "sorts", "size", "count"]) (B : Bl mg) (Cp : C8.Cal P w K mg base 2 "_law_pick" (spPick K) []) (Cd : C8.Cal P w K mg base 4 "_law_deed" (spLDeed2 K) []) : C8.Cal P w K mg base 5 "_law_made" (spMade K) [] := by
  refine cal_of D sc__law_made (fun vs H Q E h => ?_) (fun f cdv A outer s H vs Q E hr h => ?_)
  · obtain ⟨p, s, n, m, ks, rfl, _⟩ := h
    rfl
  · obtain ⟨p, s, n, m, ks, rfl, hp, hs, sp, hk, hn, hm, q⟩ := h
    refine ⟨_, pss_cons (ps_set (i := 4) sc__law_made.nd rfl (.inl rfl) (pe_lst pa_nil))
      (pss_cons (ps_for PassesOwn.never rfl (pi_range1 (by rfl) B.range (pa_cons (pv 3) pa_nil)) (pg_name (i := 5) sc__law_made.nd rfl (.inl rfl))
      (pss_cons (ps_set (i := 6) sc__law_made.nd rfl (.inl rfl) (C8.pe_c Cp hr (by decide) (by rfl) (pa_cons (pv 0) (pa_cons (pe_op op_cat (pe_op op_cat (pv 1) (pv 1)) (pe_lst (pa_cons pe_str pa_nil))) pa_nil))))
      (pss_cons (ps_set (i := 7) sc__law_made.nd rfl (.inl rfl) (pe_ifExp (pt_cmpR op_eq (pv 6) pe_str (nomark _)) (pv 2) (pe_op op_sub (pv 2) pe_int)))
      (pss_one (ps_expr (pe_bm PySem.F.plainAttrs_list PySem.F.slot_list_append PySem.F.type_list_append mt_append (pv 4) (pa_cons (pe_ifExp (pt_cmpR op_lt (pv 7) pe_int (nomark _)) (pe_tup (pa_cons pe_str pa_nil)) (C8.pe_c Cd hr (by decide) (by rfl) (pa_cons (pv 0) (pa_cons (pe_lst (pa_cons (pv 6) pa_nil)) (pa_cons pe_int (pa_cons (pv 7) pa_nil)))))) pa_nil)))))))
      (pss_one (ps_ret (pe_callTy call_tuple_of (by rfl) B.tuple (by decide +kernel) (pa_cons (pv 4) pa_nil))))), ?_⟩
    have kl : ks.length ≤ 3 := (show ∀ ks ∈ kinds7, ks.length ≤ 3 by decide) ks hk
    refine ⟨Nat.zero_le _, fun F nF => ?_⟩
    have Fp : F ≠ p := (hp.ne nF).symm
    have sF : s ≠ F := ne_of_none hs nF
    refine ⟨_, rfl, (m : Int), rfl, by omega, by omega, for_range (lo := 0) (n := ((m : Nat) : Int).toNat)
      (fun i σ G => ∃ y5 y6 y7 vs fs, σ = [some (.ref p), some (.ref s), some (.int (n : Int)), some (.int (m : Int)), some (.ref F), y5, y6, y7] ∧ Chg p H G ∧ Purse G p ∧ G F = some (.lst vs) ∧ EditsV K G vs fs ∧ fs.length = i ∧ (∀ d ∈ fs, d.okb ks 0 (if d.hd = "put" then (n : Int) else (n : Int) - 1)))
      ⟨none, none, none, [], [], rfl, (Chg.refl p H).new nF, hp.new nF, upd_same, ⟨rfl, fun i d h => by cases h⟩, rfl, fun _ z => by cases z⟩ ?_ ?_⟩
    · rintro i σ G hi ⟨y5, y6, y7, vs, fs, rfl, cG, pG, hF, hE, hl, hb⟩
      have sne : s ≠ p := sp
      have hsG := cG _ _ sp hs
      have m1000 : i < 1000 := by omega
      -- what follows a deed
      have fin : ∀ (d : Deed) (l : Addr) (y5 y6 y7 : Option V) (G2 : Hp), Chg p G G2 → Purse G2 p → G2 l = some (.tup d.vs) → d.okb ks 0 (if d.hd = "put" then (n : Int) else (n : Int) - 1) →
          ∃ u5 u6 u7 us gs, [some (.ref p), some (.ref s), some (.int (n : Int)), some (.int (m : Int)), some (.ref F), y5, y6, y7] = [some (.ref p), some (.ref s), some (.int (n : Int)), some (.int (m : Int)), some (.ref F), u5, u6, u7] ∧ Chg p H (upd G2 F (.lst (vs ++ [.ref l]))) ∧ Purse (upd G2 F (.lst (vs ++ [.ref l]))) p ∧ (upd G2 F (.lst (vs ++ [.ref l]))) F = some (.lst us) ∧ EditsV K (upd G2 F (.lst (vs ++ [.ref l]))) us gs ∧ gs.length = i + 1 ∧ (∀ d ∈ gs, d.okb ks 0 (if d.hd = "put" then (n : Int) else (n : Int) - 1)) := by
        intro d l y5 y6 y7 G2 c2 p2 h2 hd
        have hF2 := c2 _ _ Fp hF
        refine ⟨y5, y6, y7, vs ++ [.ref l], fs ++ [d], rfl, (cG.trans c2).own nF, ?_, upd_same, ((hE.chgP pG c2).put hF2).snoc (sqt_put (SqT.of h2) hF2), by rw [List.length_append, hl]; rfl, fun e he => ?_⟩
        · obtain ⟨d, z, w, e⟩ := p2
          exact ⟨d, z, w, by rw [upd_ne Fp.symm]; exact e⟩
        · rcases List.mem_append.mp he with q | q
          · exact hb e q
          · rw [List.mem_singleton.mp q]
            exact hd
      have vl : vs.length ≤ 1000 := by rw [hE.len]; omega
      refine ⟨_, rfl, _, rfl, _, rfl, s, s, sl ks, sl ks, rfl, rfl, hsG, hsG, (by rw [XB.len_sl, sizeLine_eq]; omega), fun x nx => ⟨(by show 1 ≤ sizeLine; decide), fun y ny => ⟨x, y, _, _, rfl, rfl, kp upd_same ny, upd_same, (by rw [List.length_append, XB.len_sl, sizeLine_eq]; show _ + 1 ≤ _; omega), fun z nz => ?_⟩⟩⟩
      have p3 := ((pG.new (o := .lst (sl ks ++ sl ks)) nx).new (o := .lst [.str "stay"]) ny).new (o := .lst (sl ks ++ sl ks ++ [.str "stay"])) nz
      have c3 : Chg p G _ := (((Chg.refl p G).new (o := .lst (sl ks ++ sl ks)) nx).new (o := .lst [.str "stay"]) ny).new (o := .lst (sl ks ++ sl ks ++ [.str "stay"])) nz
      refine ⟨p, _, rfl, p3, .inl ⟨z, _, rfl, (((pG.new nx).new ny).ne nz).symm, SqL.of upd_same, by simp, (by rw [List.length_append, List.length_append, XB.len_sl]; show _ + 1 ≤ _; omega), fun v hv G4 p4 c4 => ?_⟩⟩
      obtain ⟨t, rfl, ht⟩ : ∃ t, v = V.str t ∧ (t = "stay" ∨ t ∈ ks) := by
        rcases List.mem_append.mp hv with hv | hv
        · have hv2 : v ∈ sl ks := (List.mem_append.mp hv).elim id id
          obtain ⟨t, ht, e⟩ := List.mem_map.mp hv2
          exact ⟨t, e.symm, .inr ht⟩
        · exact ⟨"stay", List.mem_singleton.mp hv, .inl rfl⟩
      have c14 := c3.trans c4
      have mh := (if t = "put" then (n : Int) else (n : Int) - 1)
      refine q_asg (v := .int (if t = "put" then (n : Int) else (n : Int) - 1)) (ev_if (et_test (ev_eqS (ev_var rfl) ev_c)) (fun y => ev_is (ev_var rfl) (by rw [if_pos (of_decide_eq_true y)])) (fun y => ev_is (ev_op (ev_var rfl) ev_c rv_I0) (by rw [if_neg (of_decide_eq_false y)]))) fun G5 e5 => ?_
      have p5 : Purse G5 p := by
        obtain ⟨d, z, w, e⟩ := p4
        exact ⟨d, z, w, e5 _ _ e⟩
      have c15 : Chg p G G5 := c14.trans fun b o _ h => e5 b o h
      refine ⟨_, rfl, .inl ⟨rfl, _, SqL.of (c15 _ _ Fp hF)⟩, _, rfl, _, _, rfl, rfl, _, rfl, ite2 (fun w => ?_) (fun w => ?_)⟩
      · refine ⟨(by show 1 ≤ sizeLine; decide), fun l nl => ?_⟩
        exact ⟨F, _, _, rfl, rfl, kp (c15 _ _ Fp hF) nl, (by rw [sizeLine_eq]; omega), fin .stay l _ _ _ _ (c15.new nl) (p5.new nl) upd_same trivial⟩
      · have lo : (0 : Int) ≤ (if t = "put" then (n : Int) else (n : Int) - 1) := by
          simpa using w
        have hi : (if t = "put" then (n : Int) else (n : Int) - 1) ≤ (n : Int) := by split <;> omega
        refine ⟨_, rfl, _, rfl, (by show 1 ≤ sizeLine; decide), fun l nl => ⟨_, rfl, p, l, 0, _, [t], ks, rfl, p5.new nl, SqL.of upd_same, (p5.ne nl).symm, by simp, (by show 1 ≤ 1000; decide), (fun u hu => by rw [List.mem_singleton.mp hu]; exact ht), hk, by decide, lo, (by refine Int.le_trans hi ?_; omega), fun d a G6 ok hm p6 c6 ha nap => ?_⟩⟩
        have ed : d.hd = t := List.mem_singleton.mp hm
        have c16 := (c15.new (o := .lst [.str t]) nl).trans c6
        exact ⟨F, _, _, rfl, rfl, c16 _ _ Fp hF, (by rw [sizeLine_eq]; omega), fin d a _ _ _ _ c16 p6 ha (by rw [ed]; exact ok)⟩
    · rintro σ G ⟨y5, y6, y7, vs, fs, rfl, cG, pG, hF, hE, hl, hb⟩
      exact ⟨_, rfl, F, vs, rfl, .inl ⟨SqL.of hF, fun a na => q a vs fs _ (pG.new na) (cG.new na) (SqT.of upd_same) (hE.ex (Ex.new na)) (by omega) hb⟩⟩
end
end T
namespace T
open PySem PySem.Spec PyProof.Rows L2 Evl XB TL XS XI XC ClX XQ
theorem list_choose {α β : Type} {R : α → β → Prop} : ∀ {bs : List α}, (∀ v ∈ bs, ∃ t, R v t) → ∃ ws : List β, ws.length = bs.length ∧ (∀ (i : Nat) (x : α) (t : β), bs[i]? = some x → ws[i]? = some t → R x t) ∧ ∀ t ∈ ws, ∃ v ∈ bs, R v t
  | [], _ => ⟨[], rfl, (fun _ _ _ z => by cases z), (fun _ z => by cases z)⟩
  | v :: r, h => by
    obtain ⟨t, ht⟩ := h v List.mem_cons_self
    obtain ⟨ws, e, f, g⟩ := list_choose (bs := r) fun x hx => h x (List.mem_cons_of_mem _ hx)
    refine ⟨t :: ws, congrArg (· + 1) e, fun i x y hi hy => ?_, fun y hy => ?_⟩
    · cases i with
      | zero =>
        cases hi
        cases hy
        exact ht
      | succ j => exact f j x y hi hy
    · rcases List.mem_cons.mp hy with rfl | hy
      · exact ⟨v, List.mem_cons_self, ht⟩
      · obtain ⟨x, hx, hr⟩ := g y hy
        exact ⟨x, List.mem_cons_of_mem _ hx, hr⟩
/-! ### the end of an arrival is of letters, and not long -/
def LetOk (d : Deed) : Prop := ∀ k n c, d = .sig k n c → 97 ≤ c ∧ c ≤ 122
theorem letok {ks : List Str} {lo hi : Int} {d : Deed} (h : d.okb ks lo hi) : LetOk d := fun k n c e => by
  subst e
  exact h.2.2.2.2
theorem formD_let {d : Deed} (h : LetOk d) (r : Str) : LetOk (formD d r) := by
  unfold formD
  split
  · intro k n c e
    cases e
  · split
    · cases d with
      | stay => exact h
      | out n => exact h
      | sig k n c =>
        intro k' n' c' e
        cases e
        exact h _ _ _ rfl
    · cases d with
      | stay => intro k n c e; cases e
      | out n => intro k n c e; cases e
      | sig k n c =>
        intro k' n' c' e
        cases e
        exact h _ _ _ rfl
theorem turnD_let {d : Deed} (h : LetOk d) (cs : List Cell) (e : Deed) (first : Bool) : LetOk (turnD cs d e first) := by
  unfold turnD
  split
  · exact h
  · exact formD_let h _
theorem turn1_let {cs : List Cell} {s o : Nat} {fs : List Deed} (h : ∀ d ∈ fs, LetOk d) : ∀ d ∈ turn1 cs s fs o, LetOk d := by
  unfold turn1
  split
  · rename_i d e hd he
    intro x hx
    rcases List.mem_or_eq_of_mem_set hx with q | q
    · exact h x q
    · rw [q]
      exact turnD_let (h d (List.mem_of_getElem? hd)) _ _ _
  · exact h
theorem turnAll_let {cs : List Cell} {s : Nat} : ∀ (l : List Nat) {fs : List Deed}, (∀ d ∈ fs, LetOk d) → ∀ d ∈ turnAll cs s fs l, LetOk d
  | [], _, h => h
  | o :: r, fs, h => by
    show ∀ d ∈ turnAll cs s (turn1 cs s fs o) r, LetOk d
    exact turnAll_let r (turn1_let h)
theorem endS_abc {cs : List Cell} : ∀ (l : List Nat) {z r : Str} {fs : List Deed}, Abc z → (∀ d ∈ fs, LetOk d) → endS cs z fs l = some r → Abc r ∧ r.length + 1 ≤ (z.length + 1) * 2 ^ l.length
  | [], z, r, fs, hz, _, e => by
    cases e
    exact ⟨hz, by show z.length + 1 ≤ (z.length + 1) * 1; omega⟩
  | s :: l, z, r, fs, hz, hf, e => by
    unfold endS at e
    split at e
    · cases e
    · rename_i d hd
      split at e
      · cases e
      · rename_i z' hp
        have a' := play_abc (ks := []) hz (hf d (List.mem_of_getElem? hd)) hp
        have l' := play_len hp
        obtain ⟨r1, r2⟩ := endS_abc l a' (turnAll_let l hf) e
        refine ⟨r1, Nat.le_trans r2 ?_⟩
        show (z'.length + 1) * 2 ^ l.length ≤ (z.length + 1) * 2 ^ (l.length + 1)
        rw [Nat.pow_succ, Nat.mul_comm (2 ^ l.length) 2, ← Nat.mul_assoc]
        exact Nat.mul_le_mul_right _ (by omega)
theorem perm_lnV {ys : List V} {l : List Nat} (h : ys.Perm (lnV l)) : ∃ line : List Nat, ys = lnV line ∧ line.Perm l := by
  have g := h.map (fun v => match v with | V.int n => n.toNat | _ => 0)
  refine ⟨ys.map (fun v => match v with | V.int n => n.toNat | _ => 0), ?_, ?_⟩
  · unfold lnV
    rw [List.map_map]
    have : ys.map id = ys.map ((fun n : Nat => V.int (n : Int)) ∘ fun v => match v with | V.int n => n.toNat | _ => 0) := List.map_congr_left fun v hv => by
      obtain ⟨n, _, rfl⟩ := List.mem_map.mp (h.mem_iff.mp hv)
      rfl
    rw [← this, List.map_id]
  · unfold lnV at g
    rw [List.map_map] at g
    have : l.map ((fun v => match v with | V.int n => n.toNat | _ => 0) ∘ fun n : Nat => V.int (n : Int)) = l.map id := List.map_congr_left fun n _ => rfl
    rw [this, List.map_id] at g
    exact g
def dO : Option Str → PyData
  | none => .none
  | some r => .str r
section
variable {P : Program} {w : World} {K : PySem.W.Frag} {mg : Str → Option Value} {base : Heap} {C : Addr}
variable {σ : L2.St} {H H' : Hp} {ta tb tc td te : TE} {tz ts : TS} {D' : Ends} {ks : List Str} {cs : List Cell} {x a b D l : Addr} {E : XK} {vs : List V} {fs : List Deed} {line : List Nat} {kvs : List (Nm × V)} {z : Str} {hi : Int} {o : Option Str}
theorem q_par {i j : Nat} {x y : V} (h1 : Ev ta σ H x) (h2 : Ev tb σ H y) (k : ∀ H1, Ex H H1 → tz D' ((σ.set i (some x)).set j (some y)) H1) : tSeq (tPar i j (tCons ta (tCons tb tNil))) tz D' σ H :=
  h1 H (Ex.refl H) _ fun H1 e1 => h2 H1 e1 _ fun H2 e2 => ⟨x, y, rfl, k H2 (e1.trans e2)⟩
theorem ev_reprO (h : Ev te σ H (oV o)) (ho : ∀ r, o = some r → Abc r ∧ r.length ≤ 100000) : Ev (tCB (XG.rRepr K) (tCons te tNil)) σ H (.str (dO o).shown) := by
  cases o with
  | none => exact ev_reprD (ed_non h) sh_non (by decide) (by decide)
  | some r => exact ev_reprD (ed_str h) (sh_str (ho r rfl).1.lo (ho r rfl).2) (by decide) (Nat.le_refl _)
theorem ev_lend (h1 : Ev ta σ H (.ref D)) (h2 : Ev tb σ H (.str z)) (h3 : Ev tc σ H (.ref a)) (h4 : Ev td σ H (.ref l)) (hD : H D = some (.dT kvs)) (hL : LDict H kvs cs) (hk : ks ∈ kinds7) (hC : Cells ks cs) (ha : SqT K H a vs) (hE : EditsV K H vs fs)
    (hb : ∀ d ∈ fs, d.okb ks 0 hi) (hhi : hi ≤ 2000) (h6 : fs.length ≤ 6) (hl : SqT K H l (lnV line)) (pm : line.Perm (List.range fs.length)) (hz : z.length ≤ 1000) :
    Ev (tCall (spEnd K fun x ks cs H => ∃ D kvs, x = .ref D ∧ H D = some (.dT kvs) ∧ LDict H kvs cs) [] E (tCons ta (tCons tb (tCons tc (tCons td tNil))))) σ H (oV (endS cs z fs line)) :=
  ev_call (ea_cons h1 (ea_cons h2 (ea_cons h3 (ea_cons h4 ea_nil)))) fun G g Q q E => ⟨.ref D, z, a, l, ks, cs, vs, fs, line, hi, rfl, ⟨D, kvs, rfl, g _ _ hD, hL.ex g⟩, hk, hC, ex_t g ha, hE.ex g, hb, hhi, h6, ex_t g hl, pm.nodup_iff.mpr List.nodup_range, by rw [pm.length_eq, List.length_range]; exact h6, fun t ht => List.mem_range.mp (pm.mem_iff.mp ht), hz, q⟩
theorem ended_sp (tw : TabW K C H x ks cs) (hk : ks ∈ kinds7) (hC : Cells ks cs) (ha : SqT K H a vs) (hE : EditsV K H vs fs) (hb : ∀ d ∈ fs, d.okb ks 0 hi) (hhi : hi ≤ 2000) (h0 : 0 < fs.length) (h6 : fs.length ≤ 6) (hpl : ∀ d ∈ fs, playS z d ≠ none) (hl : SqT K H l (lnV line)) (pm : line.Perm (List.range fs.length)) (hza : Abc z) (hz : z.length ≤ 1000)
    {G : Hp} (g : Ex H G) {Q : VK} (q : ∀ H', Ex G H' → Q (oV (endS cs z fs line)) H') : spEnded K C [.ref x, .str z, .ref a, .ref l] G Q E :=
  ⟨x, z, a, l, ks, cs, vs, fs, line, hi, rfl, tw.ex g, hk, hC, ex_t g ha, hE.ex g, hb, hhi, h0, h6, hpl, ex_t g hl, pm, hza, hz, q⟩
theorem ev_ended (h1 : Ev ta σ H (.ref x)) (h2 : Ev tb σ H (.str z)) (h3 : Ev tc σ H (.ref a)) (h4 : Ev td σ H (.ref l)) (tw : TabW K C H x ks cs) (hk : ks ∈ kinds7) (hC : Cells ks cs) (ha : SqT K H a vs) (hE : EditsV K H vs fs) (hb : ∀ d ∈ fs, d.okb ks 0 hi) (hhi : hi ≤ 2000) (h0 : 0 < fs.length) (h6 : fs.length ≤ 6) (hpl : ∀ d ∈ fs, playS z d ≠ none) (hl : SqT K H l (lnV line)) (pm : line.Perm (List.range fs.length)) (hza : Abc z) (hz : z.length ≤ 1000) :
    Ev (tCall (spEnded K C) [] E (tCons ta (tCons tb (tCons tc (tCons td tNil))))) σ H (oV (endS cs z fs line)) :=
  ev_call (ea_cons h1 (ea_cons h2 (ea_cons h3 (ea_cons h4 ea_nil)))) fun G g Q q E => ended_sp tw hk hC ha hE hb hhi h0 h6 hpl hl pm hza hz g q
theorem ev_endedK (h1 : Ev ta σ H (.ref x)) (h2 : Ev tb σ H (.str z)) (h3 : Ev tc σ H (.ref a)) (h4 : Ev td σ H (.ref l)) (tw : TabW K C H x ks cs) (hk : ks ∈ kinds7) (hC : Cells ks cs) (ha : SqT K H a vs) (hE : EditsV K H vs fs) (hb : ∀ d ∈ fs, d.okb ks 0 hi) (hhi : hi ≤ 2000) (h0 : 0 < fs.length) (h6 : fs.length ≤ 6) (hpl : ∀ d ∈ fs, playS z d ≠ none) (hl : SqT K H l (lnV line)) (pm : line.Perm (List.range fs.length)) (hza : Abc z) (hz : z.length ≤ 1000) :
    Ev (tCallK0 4 (spEnded K C) (fun vs zs => vs ++ zs.reverse) E (tCons td (tCons tc (tCons tb (tCons ta tNil))))) σ H (oV (endS cs z fs line)) := fun H1 g Q q =>
  (ea_cons h4 (ea_cons h3 (ea_cons h2 (ea_cons h1 ea_nil)))) H1 g _ fun H2 g2 => ⟨rfl, ended_sp tw hk hC ha hE hb hhi h0 h6 hpl hl pm hza hz (g.trans g2) fun H3 g3 => q H3 (g2.trans g3)⟩
end
end T
namespace T
open PySem PySem.Spec PyProof.Rows L2 Evl XB TL XS XI XC ClX XQ
theorem _root_.XB.Purse.ex {H H' : Hp} {p : Addr} (h : Purse H p) (e : Ex H H') : Purse H' p := by
  obtain ⟨d, z, w, y⟩ := h
  exact ⟨d, z, w, e _ _ y⟩
/-! ### all names, in their order -/
structure NamesAt (H : Hp) (xs : List V) (ns : List Nm) : Prop where
  len : xs.length = ns.length
  at_ : ∀ (i : Nat) (n : Nm), ns[i]? = some n → ∃ a : Addr, xs[i]? = some (.ref a) ∧ H a = some (.tup (n.map kV))
theorem NamesAt.ex {H H' : Hp} {xs : List V} {ns : List Nm} (h : NamesAt H xs ns) (e : Ex H H') : NamesAt H' xs ns := ⟨h.len, fun i n hn => by
  obtain ⟨a, h1, h2⟩ := h.at_ i n hn
  exact ⟨a, h1, e _ _ h2⟩⟩
theorem NamesAt.put {H : Hp} {xs zs : List V} {ns : List Nm} {D : Addr} {o : HO} (h : NamesAt H xs ns) (hD : H D = some (.lst zs)) : NamesAt (upd H D o) xs ns := ⟨h.len, fun i n hn => by
  obtain ⟨a, h1, h2⟩ := h.at_ i n hn
  exact ⟨a, h1, kpm h2 (ne_of h2 hD fun q => by cases q)⟩⟩
theorem NamesAt.app {H : Hp} {xs ys : List V} {ns ms : List Nm} (h : NamesAt H xs ns) (g : NamesAt H ys ms) : NamesAt H (xs ++ ys) (ns ++ ms) := ⟨by rw [List.length_append, List.length_append, h.len, g.len], fun i n hn => by
  by_cases q : i < ns.length
  · rw [List.getElem?_append_left q] at hn
    obtain ⟨a, h1, h2⟩ := h.at_ i n hn
    exact ⟨a, by rw [List.getElem?_append_left (by rw [h.len]; exact q)]; exact h1, h2⟩
  · rw [List.getElem?_append_right (by omega)] at hn
    obtain ⟨a, h1, h2⟩ := g.at_ _ n hn
    exact ⟨a, by rw [List.getElem?_append_right (by rw [h.len]; omega), h.len]; exact h1, h2⟩⟩
theorem NamesAt.one {H : Hp} {a : Addr} {n : Nm} (h : H a = some (.tup (n.map kV))) : NamesAt H [.ref a] [n] := ⟨rfl, fun i m hm => by
  cases i with
  | zero => cases hm; exact ⟨a, rfl, h⟩
  | succ j => cases hm⟩
theorem NamesAt.nil {H : Hp} : NamesAt H [] [] := ⟨rfl, fun i n h => by cases h⟩
def keysN (ks : List Str) : List Nm := ks.flatMap fun m => ks.flatMap fun t => rels.map (nm3 m t)
theorem keysN_mem {ks : List Str} {m i s : Str} (hm : m ∈ ks) (hi : i ∈ ks) (hs : s ∈ rels) : nm3 m i s ∈ keysN ks := List.mem_flatMap.mpr ⟨m, hm, List.mem_flatMap.mpr ⟨i, hi, List.mem_map.mpr ⟨s, hs, rfl⟩⟩⟩
theorem keysN_of {ks : List Str} {n : Nm} (h : n ∈ keysN ks) : ∃ m i s, m ∈ ks ∧ i ∈ ks ∧ s ∈ rels ∧ n = nm3 m i s := by
  obtain ⟨m, hm, h⟩ := List.mem_flatMap.mp h
  obtain ⟨i, hi, h⟩ := List.mem_flatMap.mp h
  obtain ⟨s, hs, h⟩ := List.mem_map.mp h
  exact ⟨m, i, s, hm, hi, hs, h.symm⟩
theorem keysN_len {ks : List Str} (h : ks.length ≤ 3) : (keysN ks).length ≤ 27 := by
  have e : (keysN ks).length = 3 * ks.length * ks.length := by
    unfold keysN
    rw [List.length_flatMap]
    have : (ks.map fun m => (ks.flatMap fun t => rels.map (nm3 m t)).length) = ks.map fun _ => 3 * ks.length := List.map_congr_left fun m _ => by
      rw [List.length_flatMap]
      have : (ks.map fun t => (rels.map (nm3 m t)).length) = ks.map fun _ => 3 := List.map_congr_left fun t _ => by rw [List.length_map]; rfl
      rw [this, List.map_const', List.sum_replicate_nat, Nat.mul_comm]
    rw [this, List.map_const', List.sum_replicate_nat, Nat.mul_comm]
  rw [e]
  have : 3 * ks.length * ks.length ≤ 9 * 3 := Nat.mul_le_mul (by omega) h
  omega
section
variable {P : Program} {w : World} {K : PySem.W.Frag} {mg : Str → Option Value} {base : Heap}
def spKeysN (K : PySem.W.Frag) : Sp := fun vs H Q _ => ∃ (a : Addr) (ks : List Str), vs = [.ref a] ∧ SqL K H a (sl ks) ∧ ks.length ≤ 3 ∧ ∀ l xs H', Ex H H' → H l = none → H' l = some (.lst xs) → NamesAt H' xs (keysN ks) → Q (.ref l) H'
theorem c_keysN (D : At K mg "_law_keys" s__law_keys ["sorts"]) : C8.Cal P w K mg base 1 "_law_keys" (spKeysN K) [] := by
  refine cal_of D sc__law_keys (fun vs H Q E h => ?_) (fun f cdv A outer s H vs Q E hr h => ?_)
  · obtain ⟨a, ks, rfl, _⟩ := h
    rfl
  · obtain ⟨a, ks, rfl, hS, hk, q⟩ := h
    refine ⟨_, pss_cons (ps_set (i := 1) sc__law_keys.nd rfl (.inl rfl) (pe_lst pa_nil))
      (pss_cons (ps_for PassesOwn.never rfl (pi_list (pv 0)) (pg_name (i := 2) sc__law_keys.nd rfl (.inr rfl))
        (pss_one (ps_for PassesOwn.never rfl (pi_list (pv 0)) (pg_name (i := 3) sc__law_keys.nd rfl (.inr rfl))
          (pss_one (ps_set (i := 1) sc__law_keys.nd rfl (.inl rfl) (pe_op op_cat (pv 1) (pe_lc (own := [("sign", 4)]) (g := gName 4) (tt := tYes) rfl sc__law_keys.nd (pi_list (pe_lst (pa_cons pe_str (pa_cons pe_str (pa_cons pe_str pa_nil)))))
            (blkOk_by (own := [("sign", 4)]) (N := N__law_keys) (sc := defScope s__law_keys) (by decide +kernel)) (fun _ _ _ _ _ => pg_name (i := 4) sc__law_keys.nd rfl (Or.inl rfl)) (fun _ _ _ _ _ => pts_nil)
            (fun _ _ _ _ _ => pe_tup (pa_cons (pv 2) (pa_cons (pv 3) (pa_cons (pv 4) pa_nil))))))))))) 
      (pss_one (ps_ret (pv 1)))), ?_⟩
    have tkf : ∀ {α β : Type} (l : List α) (f : α → List β) (i : Nat) (x : α), l[i]? = some x → (l.take (i + 1)).flatMap f = (l.take i).flatMap f ++ f x := fun l f i x h => by
      rw [List.take_succ, h, List.flatMap_append]
      show _ ++ ([x].flatMap f) = _
      rw [List.flatMap_singleton]
    refine ⟨Nat.zero_le _, fun l0 n0 => ?_⟩
    have sm0 : Ex H (upd H l0 (.lst [])) := Ex.new n0
    refine ⟨_, rfl, a, rfl, ⟨_, ex_l sm0 hS⟩, for_list (K := K) (a := a) (xs := sl ks)
      (fun i σ G => ∃ l xs y2 y3, σ = [some (.ref a), some (.ref l), y2, y3, none] ∧ Ex H G ∧ H l = none ∧ G l = some (.lst xs) ∧ xs.length ≤ 9 * i ∧ NamesAt G xs ((ks.take i).flatMap fun m => ks.flatMap fun t => rels.map (nm3 m t)))
      ⟨l0, [], none, none, rfl, sm0, n0, upd_same, Nat.zero_le _, NamesAt.nil⟩ (fun i σ G _ ⟨_, _, _, _, _, e, _⟩ => ex_l e hS) ?_ ?_⟩
    · rintro i y σ G hi ⟨l, xs, y2, y3, rfl, eG, nl, hl, hlen, hN⟩
      obtain ⟨m, hm, rfl⟩ := mem_at hi
      refine ⟨_, rfl, a, rfl, ⟨_, ex_l eG hS⟩, for_list (K := K) (a := a) (xs := sl ks)
        (fun j σ G => ∃ l xs y3, σ = [some (.ref a), some (.ref l), some (.str m), y3, none] ∧ Ex H G ∧ H l = none ∧ G l = some (.lst xs) ∧ xs.length ≤ 9 * i + 3 * j ∧ NamesAt G xs (((ks.take i).flatMap fun m => ks.flatMap fun t => rels.map (nm3 m t)) ++ (ks.take j).flatMap fun t => rels.map (nm3 m t)))
        ⟨l, xs, y3, rfl, eG, nl, hl, hlen, by rw [List.take_zero, List.flatMap_nil, List.append_nil]; exact hN⟩ (fun i σ G _ ⟨_, _, _, _, e, _⟩ => ex_l e hS) ?_ ?_⟩
      · rintro j y σ G1 hj ⟨l, xs, y3, rfl, eG, nl, hl, hlen, hN⟩
        obtain ⟨t, ht, rfl⟩ := mem_at hj
        have hi3 : i < ks.length := (List.getElem?_eq_some_iff.mp hm).1
        have hj3 : j < ks.length := (List.getElem?_eq_some_iff.mp ht).1
        refine ⟨_, rfl, (by show 3 ≤ sizeLine; decide), fun c nc => ⟨c, rfl, ⟨_, .inl (.inl upd_same)⟩, fun D nD => lc_list (K := K) (a := c) (xs := sl rels)
          (fun n G => Ex G1 G ∧ G c = some (.lst (sl rels)) ∧ ∃ acc, G D = some (.lst acc) ∧ NamesAt G acc ((rels.take n).map (nm3 m t))) ?_ (fun n G _ ⟨_, e, _⟩ => .inl (.inl e)) ?_ ?_⟩⟩
        · exact ⟨(Ex.new nc).trans (Ex.new nD), kp upd_same nD, [], upd_same, NamesAt.nil⟩
        · rintro n x G hn ⟨sG, eG2, acc, hD, hA⟩
          obtain ⟨r, hr', rfl⟩ := mem_at hn
          have rr := List.mem_of_getElem? hr'
          have acl : acc.length ≤ 3 := by
            rw [hA.len, List.length_map, List.length_take]
            exact Nat.min_le_right _ _
          refine ⟨rfl, _, rfl, _, rfl, _, rfl, (by show 3 ≤ sizeLine; decide), fun u nu => ⟨acc, kp hD nu, by rw [sizeLine_eq]; omega, ?_⟩⟩
          have dD : D ≠ c := fun z => by rw [z, upd_same] at nD; cases nD
          have nDc : G1 D = none := by rw [upd_ne dD] at nD; exact nD
          have e3 : Ex G (upd G u (.tup [.str m, .str t, .str r])) := Ex.new nu
          have hD3 := e3 _ _ hD
          refine ⟨Ex.mut (sG.trans e3) nDc, ?_, _, upd_same, ?_⟩
          · rw [upd_ne dD.symm]
            exact kp eG2 nu
          · rw [List.take_succ, hr', List.map_append]
            refine ((hA.ex e3).put hD3).app (NamesAt.one (n := nm3 m t r) ?_)
            rw [upd_ne (ne_of_none hD nu).symm]
            exact upd_same
        · rintro G ⟨sG, eG2, acc, hD, hA⟩
          have hA : NamesAt G acc (rels.map (nm3 m t)) := by
            have : (sl rels).length = 3 := rfl
            rw [this] at hA
            exact hA
          have acl : acc.length = 3 := by rw [hA.len, List.length_map]; rfl
          refine ⟨l, D, xs, acc, rfl, rfl, sG _ _ hl, hD, (by rw [sizeLine_eq]; omega), fun r nr => ?_⟩
          have sR : Ex G (upd G r (.lst (xs ++ acc))) := Ex.new nr
          have e3 := (eG.trans sG)
          refine ⟨r, xs ++ acc, _, rfl, e3.trans sR, fresh_back e3 nr, upd_same, ?_, ?_⟩
          · rw [List.length_append]
            omega
          · rw [tkf ks _ j t ht, ← List.append_assoc]
            exact (((hN.ex sG).app hA)).ex sR
      · rintro σ G1 ⟨l, xs, y3, rfl, eG, nl, hl, hlen, hN⟩
        have hi3 : i < ks.length := (List.getElem?_eq_some_iff.mp hm).1
        rw [XB.len_sl] at hlen
        rw [XB.len_sl, List.take_length] at hN
        refine ⟨l, xs, _, _, rfl, eG, nl, hl, by omega, ?_⟩
        rw [tkf ks _ i m hm]
        exact hN
    · rintro σ G1 ⟨l, xs, y2, y3, rfl, eG, nl, hl, hlen, hN⟩
      rw [XB.len_sl, List.take_length] at hN
      exact ⟨_, rfl, q l xs G1 eG nl hl hN⟩
end
end T
namespace T
open PySem PySem.Spec PyProof.Rows L2 Evl XB TL XS XI XC ClX XQ
/-! ### options, written otherwise -/
theorem chosen_ins {ps1 ps2 : List (Str × Str)} {z : Str} {ms : List Str} (q : Str × Str) (h : q.1 ∈ ms → (∃ r ∈ ps1, r.1 ∈ ms) ∨ (ps2 = [] ∧ q.2 = z)) : chosenOf (ps1 ++ [q] ++ ps2) z ms = chosenOf (ps1 ++ ps2) z ms := by
  unfold chosenOf
  rw [List.find?_append, List.find?_append, List.find?_append]
  cases e : ps1.find? (fun p => decide (p.1 ∈ ms)) with
  | some r => rfl
  | none =>
    by_cases hq : q.1 ∈ ms
    · rcases h hq with ⟨r, hr, hm⟩ | ⟨h1, h2⟩
      · exact absurd (decide_eq_true hm) (List.find?_eq_none.mp e r hr)
      · subst h1
        show ((([q].find? fun p => decide (p.1 ∈ ms)).or none).map (·.2)).getD z = z
        have : ([q].find? fun p => decide (p.1 ∈ ms)) = some q := by simp [hq]
        rw [this]
        exact h2
    · have : ([q].find? fun p => decide (p.1 ∈ ms)) = none := by
        show (match decide (q.1 ∈ ms) with | true => some q | false => none) = none
        rw [decide_eq_false hq]
      rw [this]
      rfl
def WOk (m i : Str) (ks ws ws' : List Str) : Prop := IsOpts m i ks ws' ∧ ∀ ms, chosenW ws' ms = chosenW ws ms
theorem w_ins {m i : Str} {ks : List Str} {ps : List (Str × Str)} {z : Str} (OP : OptP ks m i ps z) (hl : ps.length ≤ 3) {sp : Nat} {q : Str × Str} (hsp : sp ≤ ps.length) (h1 : q.1 ∈ condsOf m i) (h2 : q.2 ∈ resultsOf m ks)
    (h : (∃ r ∈ ps.take sp, r.1 = q.1) ∨ (sp = ps.length ∧ q.2 = z)) : WOk m i ks (ps.map jn ++ [z]) ((ps.take sp).map jn ++ [jn q] ++ ((ps.drop sp).map jn ++ [z])) := by
  have e : (ps.take sp).map jn ++ [jn q] ++ ((ps.drop sp).map jn ++ [z]) = (ps.take sp ++ [q] ++ ps.drop sp).map jn ++ [z] := by
    rw [List.map_append, List.map_append, List.append_assoc, List.append_assoc, List.append_assoc]
    rfl
  have mem : ∀ r ∈ ps.take sp ++ [q] ++ ps.drop sp, r = q ∨ r ∈ ps := fun r hr => by
    rcases List.mem_append.mp hr with hr | hr
    · rcases List.mem_append.mp hr with hr | hr
      · exact .inr (List.mem_of_mem_take hr)
      · exact .inl (List.mem_singleton.mp hr)
    · exact .inr (List.mem_of_mem_drop hr)
  have ln : (ps.take sp ++ [q] ++ ps.drop sp).length = ps.length + 1 := by
    rw [List.length_append, List.length_append, List.length_take, List.length_drop]
    show min sp ps.length + 1 + _ = _
    omega
  have OP' : OptP ks m i (ps.take sp ++ [q] ++ ps.drop sp) z := ⟨⟨fun r hr => (mem r hr).elim (fun e => e ▸ cond_no _ h1) (fun hm => OP.pa.no r hm), fun r hr => (mem r hr).elim (fun e => by rw [e]; exact Nat.le_trans (small_opt _ h1 _ h2).len (by decide)) (fun hm => OP.pa.sm r hm), by omega⟩,
    fun r hr => (mem r hr).elim (fun e => e ▸ h1) (fun hm => OP.cd r hm), fun r hr => (mem r hr).elim (fun e => e ▸ h2) (fun hm => OP.rs r hm), OP.zz⟩
  rw [e]
  refine ⟨⟨_, z, rfl, by rw [List.length_map, ln]; omega, fun o ho => ?_, OP.zz⟩, fun ms => ?_⟩
  · obtain ⟨r, hr, rfl⟩ := List.mem_map.mp ho
    exact ⟨r.1, OP'.cd r hr, r.2, OP'.rs r hr, rfl⟩
  · rw [chosenW_eq OP'.pa, chosenW_eq OP.pa, chosen_ins q ?_, List.take_append_drop]
    intro hq
    rcases h with ⟨r, hr, he⟩ | ⟨h3, h4⟩
    · exact .inl ⟨r, hr, by rw [he]; exact hq⟩
    · exact .inr ⟨by rw [h3, List.drop_length], h4⟩
section
variable {P : Program} {w : World} {K : PySem.W.Frag} {mg : Str → Option Value} {base : Heap}
variable {σ : L2.St} {H : Hp} {ta tb : TE}
theorem ev_inS {x : Str} {ws : List Str} (hx : Ev ta σ H (.str x)) (hb : EvS K tb σ H (sl ws)) : Ev (tOp (rIn K false) ta tb) σ H (.bl (decide (x ∈ ws))) := fun H1 e Q q =>
  hx H1 e _ fun H2 e2 => hb H2 (e.trans e2) _ fun a H3 e3 ha => ⟨a, sl ws, rfl, .inr ha, rfl, flat_sl ws, by rw [show (if false then !inV (V.str x) (sl ws) else inV (V.str x) (sl ws)) = inV (V.str x) (sl ws) from rfl, inV_sl]; exact q H3 (e2.trans e3)⟩
def spWordy (K : PySem.W.Frag) : Sp := fun vs H Q _ => ∃ (p lo lk : Addr) (m i s : Str) (ks ws : List Str), vs = [.ref p, .ref lo, .ref lk] ∧ Purse H p ∧ H lo = some (.lst (sl ws)) ∧ lo ≠ p ∧ H lk = some (.tup ((nm3 m i s).map kV)) ∧ IsOpts m i ks ws ∧
  ∀ l ws' H', Chg p H H' → Purse H' p → l ≠ p → H' l = some (.lst (sl ws')) → WOk m i ks ws ws' → Q (.ref l) H'
theorem c_wordy (D : At K mg "_law_wordy" s__law_wordy ["purse", "some", "key"]) (B : Bl mg) (Cd : C8.Cal P w K mg base 1 "_law_draw" spDraw []) (Cp : C8.Cal P w K mg base 2 "_law_pick" (spPick K) []) : C8.Cal P w K mg base 3 "_law_wordy" (spWordy K) [] := by
  refine cal_of D sc__law_wordy (fun vs H Q E h => ?_) (fun f cdv A outer s H vs Q E hr h => ?_)
  · obtain ⟨p, lo, lk, m, i, s, ks, ws, rfl, _⟩ := h
    rfl
  · obtain ⟨p, lo, lk, m, i, s, ks, ws, rfl, hp, hlo, lop, hlk, ho, q⟩ := h
    refine ⟨_, pss_cons (ps_set (i := 3) sc__law_wordy.nd rfl (.inl rfl) (pe_ifExp (pt_cmpR op_in_seq pe_str (pe_slice sl_tupA (pv 2) po_none (po_some pe_int)) (by rfl)) (pe_lst (pa_cons pe_str pa_nil)) (pe_lst (pa_cons pe_str (pa_cons pe_str (pa_cons pe_str (pa_cons pe_str pa_nil)))))))
      (pss_cons (ps_if (PW.pt (pw_or (pt_cmpR op_gt (pe_callB call_len_seq (by rfl) B.len (by decide +kernel) (pa_cons (pv 1) pa_nil)) pe_int (nomark _)) (pw_or1 (pt_cmpR op_eq (C8.pe_c Cd hr (by decide) (by rfl) (pa_cons (pv 0) (pa_cons pe_int pa_nil))) pe_int (nomark _))))) (pss_one (ps_ret (pv 1))) pss_nil)
      (pss_cons (ps_if (PW.pt (pw_or (pt_cmpR op_eq (C8.pe_c Cd hr (by decide) (by rfl) (pa_cons (pv 0) (pa_cons pe_int pa_nil))) pe_int (nomark _)) (pw_or1 (pt_cmpR op_eq (pe_callB call_len_seq (by rfl) B.len (by decide +kernel) (pa_cons (pv 1) pa_nil)) pe_int (nomark _))))) (pss_one (ps_ret (pe_op op_cat (pe_slice sl_list (pv 1) po_none (po_some (pe_un un_neg pe_int))) (pe_lst (pa_cons (pe_op op_add_str (pe_op op_add_str (C8.pe_c Cp hr (by decide) (by rfl) (pa_cons (pv 0) (pa_cons (pv 3) pa_nil))) pe_str) (pe_ix ix_list (pv 1) (pe_un un_neg pe_int) (fun _ _ => rfl))) (pa_cons (pe_ix ix_list (pv 1) (pe_un un_neg pe_int) (fun _ _ => rfl)) pa_nil)))))) pss_nil)
      (pss_cons (ps_set (i := 4) sc__law_wordy.nd rfl (.inl rfl) (C8.pe_c Cd hr (by decide) (by rfl) (pa_cons (pv 0) (pa_cons (pe_op op_sub (pe_callB call_len_seq (by rfl) B.len (by decide +kernel) (pa_cons (pv 1) pa_nil)) pe_int) pa_nil))))
      (pss_cons (ps_set (i := 5) sc__law_wordy.nd rfl (.inl rfl) (pe_ix ix_list (pe_split (pe_ix ix_list (pv 1) (pv 4) (fun _ _ => rfl)) pe_str) pe_int (fun _ _ => rfl)))
      (pss_cons (ps_set (i := 6) sc__law_wordy.nd rfl (.inl rfl) (pe_op op_add (pe_op op_add (pv 4) pe_int) (C8.pe_c Cd hr (by decide) (by rfl) (pa_cons (pv 0) (pa_cons (pe_op op_sub (pe_op op_sub (pe_callB call_len_seq (by rfl) B.len (by decide +kernel) (pa_cons (pv 1) pa_nil)) pe_int) (pv 4)) pa_nil)))))
      (pss_one (ps_ret (pe_op op_cat (pe_op op_cat (pe_slice sl_list (pv 1) po_none (po_some (pv 6))) (pe_lst (pa_cons (pe_op op_add_str (pe_op op_add_str (pv 5) pe_str) (C8.pe_c Cp hr (by decide) (by rfl) (pa_cons (pv 0) (pa_cons (pe_lst (pa_cons pe_str (pa_cons pe_str (pa_cons pe_str (pa_cons pe_str pa_nil))))) pa_nil)))) pa_nil))) (pe_slice sl_list (pv 1) (po_some (pv 6)) po_none))))))))), ?_⟩
    obtain ⟨sm1, sm2⟩ := small_ws ho
    obtain ⟨ps, z, rfl, OP⟩ := opts_parts ho
    have wl : (ps.map jn ++ [z]).length = ps.length + 1 := by rw [List.length_append, List.length_map]; rfl
    have zs : z.length ≤ 16 := (sm1 z (List.mem_append_right _ (List.mem_singleton.mpr rfl))).len
    have ps5 : ps.length ≤ 4 := by omega
    have cds : ∀ c ∈ condsOf m i, c.length ≤ 16 := fun c hc => by
      have := (small_opt c hc z OP.zz).len
      rw [Str.length_append, Str.length_append] at this
      omega
    have cne : condsOf m i ≠ [] := by unfold condsOf; split <;> (intro y; cases y)
    have clen : (condsOf m i).length ≤ 4 := by unfold condsOf; split <;> decide
    refine q_asgL (xs := sl (condsOf m i)) (el_if (b := decide (("out" : Str) ∈ [m, i])) (et_test (ev_inS (ws := [m, i]) ev_c (es_is (es_slA (ev_var rfl) (SqT.of hlk) eo_none (eo_some ev_c)) rfl))) (fun b => el_is (xs := sl ["first"]) (el_lst (ea_str ea_nil) (by show 1 ≤ 100000; decide)) (by
      have b := of_decide_eq_true b
      unfold condsOf
      rw [if_pos (by simp only [List.mem_cons, List.not_mem_nil, or_false] at b; exact b.imp Eq.symm Eq.symm)]))
      (fun b => el_is (xs := sl ["first", "less", "same", "more"]) (el_lst (ea_str (ea_str (ea_str (ea_str ea_nil)))) (by show 4 ≤ 100000; decide)) (by
      have b := of_decide_eq_false b
      unfold condsOf
      rw [if_neg (fun y => b (by simp only [List.mem_cons, List.not_mem_nil, or_false]; exact y.imp Eq.symm Eq.symm))]))) fun hd G0 nhd e0 hhd => ?_
    have hp0 := hp.ex e0
    have hlo0 := e0 _ _ hlo
    have hdp : hd ≠ p := fun y => by
      obtain ⟨d, z, w, e⟩ := hp
      rw [y, e] at nhd
      cases nhd
    refine ⟨_, rfl, lo, _, rfl, .inl (SqL.of hlo0), _, _, rfl, rfl, _, rfl, ite2 (fun w => ?_) (fun w => ?_)⟩
    · exact ⟨_, rfl, q lo _ G0 (Same.chg e0) hp0 lop hlo0 ⟨ho, fun ms => rfl⟩⟩
    have l4 : ps.length ≤ 3 := by
      have : ¬ (4 : Int) < ((sl (ps.map jn ++ [z])).length : Nat) := of_decide_eq_false (by simpa using w)
      rw [XB.len_sl, wl] at this
      omega
    refine ⟨_, rfl, p, 4, rfl, hp0, by decide, by decide, fun j G1 j0 j1 hp1 c1 => ⟨rfl, _, rfl, ite2 (fun w2 => ?_) (fun w2 => ?_)⟩⟩
    · exact ⟨_, rfl, q lo _ G1 ((Same.chg e0).trans c1) hp1 lop (c1 _ _ lop hlo0) ⟨ho, fun ms => rfl⟩⟩
    have c01 : Chg p H G1 := (Same.chg e0).trans c1
    have hlo1 := c01 _ _ lop hlo
    have hhd1 := c1 _ _ hdp hhd
    have slw : sl (ps.map jn ++ [z]) = sl (ps.map jn) ++ [.str z] := (sl_cat _ [z]).symm
    have lastA : atI (sl (ps.map jn ++ [z])) (-1) = some (.str z) := by rw [slw]; exact atI_last _ _
    refine ⟨_, rfl, p, 2, rfl, hp1, by decide, by decide, fun j G2 j0 j1 hp2 c2 => ⟨rfl, _, rfl, ite2 (fun _ => ?_) (fun _ => ⟨_, rfl, lo, _, rfl, .inl (SqL.of (c2 _ _ lop hlo1)), rfl, _, rfl, ite2 (fun _ => ?_) (fun w3 => ?_)⟩)⟩⟩
    rotate_left 2
    · have ps1 : 1 ≤ ps.length := by
        have : ¬ V.int ((sl (ps.map jn ++ [z])).length : Nat) = V.int 1 := of_decide_eq_false (by simpa using w3)
        have h : (sl (ps.map jn ++ [z])).length ≠ 1 := fun y => this (by rw [y]; rfl)
        rw [XB.len_sl, wl] at h
        omega
      have hlo2 := c2 _ _ lop hlo1
      have wl2 : (((sl (ps.map jn ++ [z])).length : Nat) : Int) = (ps.length : Int) + 1 := by rw [XB.len_sl, wl]; rfl
      refine ⟨_, rfl, _, rfl, lo, _, rfl, .inl (SqL.of hlo2), _, _, rfl, rfl, p, _, rfl, hp2, (by omega), (by omega), fun at1 G3 a0 a1 hp3 c3 => ?_⟩
      obtain ⟨a, rfl⟩ := Int.eq_ofNat_of_zero_le a0
      have hlo3 := c3 _ _ lop hlo2
      have al : a < ps.length := by omega
      have ha : ps[a]? = some ps[a] := List.getElem?_eq_getElem al
      generalize ps[a] = r at ha
      have rm := List.mem_of_getElem? ha
      have hc := OP.cd r rm
      have hr' := OP.rs r rm
      have hat : atI (sl (ps.map jn ++ [z])) ((a : Nat) : Int) = some (.str (jn r)) := atI_nat (by
        unfold sl
        rw [List.getElem?_map, List.getElem?_append_left (by rw [List.length_map]; exact al), List.getElem?_map, ha]
        rfl)
      have spl : Txt.split (jn r) ":" = [r.1, r.2] := part_split (cond_no _ hc) (res_no _ hr')
      have rl := (small_opt _ hc _ hr').len
      refine (el_is (el_split (ev_ixL (ev_var rfl) (ev_var rfl) (SqL.of hlo3) hat) ev_c rfl (by have := OP.pa.sm r rm; rw [sizeLine_eq]; omega)) (by rw [spl])) G3 (Ex.refl _) _ fun pS G4 nS e4 hS => ⟨pS, _, 0, _, rfl, rfl, SqL.of hS, atI_nat (j := 0) rfl, ?_⟩
      have hp4 := hp3.ex e4
      have hlo4 := e4 _ _ hlo3
      refine ⟨_, rfl, _, _, rfl, rfl, _, rfl, _, rfl, lo, _, rfl, .inl (SqL.of hlo4), _, _, rfl, rfl, _, rfl, _, _, rfl, rfl, p, _, rfl, hp4, (by omega), (by omega), fun b1 G5 b0 bb hp5 c5 => ⟨_, _, rfl, rfl, ?_⟩⟩
      obtain ⟨b, rfl⟩ := Int.eq_ofNat_of_zero_le b0
      have hlo5 := c5 _ _ lop hlo4
      have sple : a + 1 + b ≤ ps.length := by omega
      have spI : ((a : Int) + 1 + (b : Int)) = ((a + 1 + b : Nat) : Int) := rfl
      have cL : cutV (sl (ps.map jn ++ [z])) none (some ((a : Int) + 1 + (b : Int))) = sl ((ps.take (a + 1 + b)).map jn) := by
        rw [spI]
        unfold cutV
        have e1 : HT.sIx (sl (ps.map jn ++ [z])).length 0 none = 0 := rfl
        rw [HT.sIx_nat, Nat.min_eq_left (by rw [XB.len_sl, wl]; omega), e1, List.drop_zero, Nat.sub_zero]
        unfold sl
        rw [← List.map_take, List.take_append_of_le_length (by rw [List.length_map]; exact sple), ← List.map_take]
      have cR : cutV (sl (ps.map jn ++ [z])) (some ((a : Int) + 1 + (b : Int))) none = sl ((ps.drop (a + 1 + b)).map jn ++ [z]) := by
        rw [spI, cut_from]
        unfold sl
        rw [← List.map_drop, List.drop_append_of_le_length (by rw [List.length_map]; exact sple), ← List.map_drop]
      have lL : (sl ((ps.take (a + 1 + b)).map jn)).length ≤ 4 := by
        rw [XB.len_sl, List.length_map, List.length_take]
        omega
      have lR : (sl ((ps.drop (a + 1 + b)).map jn ++ [z])).length ≤ 5 := by
        rw [XB.len_sl, List.length_append, List.length_map, List.length_drop]
        show _ + 1 ≤ _
        omega
      refine (el_is (el_sl (ev_var rfl) eo_none (eo_some (ev_var rfl)) (SqL.of hlo5)) cL) G5 (Ex.refl _) _ fun pA G6 nA e6 hA => ?_
      have hp6 := hp5.ex e6
      refine ⟨_, rfl, _, _, rfl, rfl, (by have := cds _ hc; rw [sizeLine_eq]; show _ + 1 ≤ _; omega), _, rfl, (by show 4 ≤ sizeLine; decide), fun mm nmm => ⟨p, .ref mm, rfl, hp6.new nmm, .inl ⟨mm, _, rfl, (hp6.ne nmm).symm, SqL.of upd_same, (by intro y; cases y), (by show 4 ≤ 1000; decide), fun x hx G7 hp7 c7 => ?_⟩⟩⟩
      obtain ⟨t, ht, rfl⟩ : ∃ t, t ∈ [("keep" : Str), "up", "down", "stay"] ∧ x = V.str t := by
        simp only [List.mem_cons, List.not_mem_nil, or_false] at hx
        rcases hx with rfl | rfl | rfl | rfl
        · exact ⟨_, by decide, rfl⟩
        · exact ⟨_, by decide, rfl⟩
        · exact ⟨_, by decide, rfl⟩
        · exact ⟨_, by decide, rfl⟩
      have tr : t ∈ resultsOf m ks := List.mem_append_left _ ht
      have sl2 := (small_opt _ hc _ tr).len
      have c67 : Chg p G6 G7 := ((Chg.refl p G6).new nmm).trans c7
      have pAp : pA ≠ p := fun y => by
        obtain ⟨d, z, w, e⟩ := hp5
        rw [y, e] at nA
        cases nA
      have hA7 := c67 _ _ pAp hA
      have hlo7 := c67 _ _ lop (e6 _ _ hlo5)
      refine ⟨_, _, rfl, rfl, (by rw [Str.length_append, Str.length_append] at sl2; rw [sizeLine_eq, Str.length_append]; omega), (by show 1 ≤ sizeLine; decide), fun pB nB => ⟨pA, pB, _, _, rfl, rfl, kp hA7 nB, upd_same, (by rw [sizeLine_eq]; show _ + 1 ≤ _; omega), fun pC nC => ?_⟩⟩
      have e78 := (Ex.new (o := .lst [.str (r.1 ++ ":" ++ t)]) nB).trans (Ex.new (o := .lst (sl ((ps.take (a + 1 + b)).map jn) ++ [.str (r.1 ++ ":" ++ t)])) nC)
      refine (el_is (el_sl (ev_var rfl) (eo_some (ev_var rfl)) eo_none (SqL.of (e78 _ _ hlo7))) cR) _ (Ex.refl _) _ fun pD G9 nD e9 hD => ⟨pC, pD, _, _, rfl, rfl, e9 _ _ upd_same, hD, (by rw [List.length_append, sizeLine_eq]; show _ + 1 + _ ≤ _; omega), fun pE nE => ?_⟩
      have hp10 : Purse _ p := (hp7.ex (e78.trans e9)).new (o := .lst (sl ((ps.take (a + 1 + b)).map jn) ++ [.str (r.1 ++ ":" ++ t)] ++ sl ((ps.drop (a + 1 + b)).map jn ++ [z]))) nE
      refine q pE _ _ ?_ hp10 (((hp7.ex (e78.trans e9)).ne nE).symm) ?_ (w_ins OP l4 (sp := a + 1 + b) (q := (r.1, t)) sple hc tr (.inl ⟨r, ?_, rfl⟩))
      · exact ((((c01.trans c2).trans c3).trans ((Same.chg e4).trans c5)).trans (((Same.chg e6).trans c67).trans (Same.chg (e78.trans e9)))).new nE
      · have eS : sl ((ps.take (a + 1 + b)).map jn ++ [jn (r.1, t)] ++ ((ps.drop (a + 1 + b)).map jn ++ [z])) = sl ((ps.take (a + 1 + b)).map jn) ++ [.str (r.1 ++ ":" ++ t)] ++ sl ((ps.drop (a + 1 + b)).map jn ++ [z]) := by
          rw [← sl_cat (_ ++ [jn (r.1, t)]), ← sl_cat _ [jn (r.1, t)]]
          rfl
        rw [eS]
        exact upd_same
      · exact List.mem_of_getElem? (i := a) (by rw [List.getElem?_take_of_lt (by omega)]; exact ha)
    all_goals
      have hlo2 := c2 _ _ lop hlo1
      have hhd2 := c2 _ _ hdp hhd1
      refine (el_is (el_sl (ev_var rfl) eo_none (eo_some (ev_un ev_c ru_neg)) (SqL.of hlo2)) (by rw [slw, cut_init])) G2 (Ex.refl _) _ fun pA G3 nA e3 hA => ?_
      have hp3 := hp2.ex e3
      refine ⟨_, rfl, _, rfl, p, .ref hd, rfl, hp3, .inl ⟨hd, _, rfl, hdp, SqL.of (e3 _ _ hhd2), (fun y => cne (List.map_eq_nil_iff.mp y)), (by rw [XB.len_sl]; omega), fun x hx G4 hp4 c4 => ?_⟩⟩
      obtain ⟨h, hh, rfl⟩ := List.mem_map.mp hx
      have hc := cds h hh
      have pAp : pA ≠ p := fun y => by
        obtain ⟨d, z, w, e⟩ := hp2
        rw [y, e] at nA
        cases nA
      have hlo4 := c4 _ _ lop (e3 _ _ hlo2)
      have hA4 := c4 _ _ pAp hA
      refine ⟨_, _, rfl, rfl, (by rw [sizeLine_eq]; show _ + 1 ≤ _; omega), ?_⟩
      refine (ev_ixL (ev_var rfl) (ev_un ev_c ru_neg) (SqL.of hlo4) lastA) G4 (Ex.refl _) _ fun G5 e5 => ⟨_, _, rfl, rfl, (by rw [Str.length_append, sizeLine_eq]; show _ + 1 + _ ≤ _; omega), ?_⟩
      refine (ev_ixL (ev_var rfl) (ev_un ev_c ru_neg) (SqL.of (e5 _ _ hlo4)) lastA) G5 (Ex.refl _) _ fun G6 e6 => ⟨(by show 2 ≤ sizeLine; decide), fun pB nB => ⟨pA, pB, _, _, rfl, rfl, kp (e6 _ _ (e5 _ _ hA4)) nB, upd_same, (by rw [XB.len_sl, List.length_map, sizeLine_eq]; show _ + 2 ≤ _; omega), fun pC nC => ?_⟩⟩
      have hp6 := hp4.ex (e5.trans e6)
      refine q pC _ _ ?_ ((hp6.new nB).new nC) (((hp6.new nB).ne nC).symm) ?_ (w_ins OP l4 (sp := ps.length) (q := (h, z)) (Nat.le_refl _) hh OP.zz (.inr ⟨rfl, rfl⟩))
      · exact (((((c01.trans c2).trans (Same.chg e3)).trans c4).trans (Same.chg (e5.trans e6))).new nB).new nC
      · rw [List.take_length, List.drop_length, List.append_assoc, ← sl_cat]
        exact upd_same
end
end T
namespace T
open PySem PySem.Spec PyProof.Rows L2 Evl XB TL XS XI XC ClX XQ
theorem kV_inj {a b : Key} (h : kV a = kV b) : a = b := by
  cases a <;> cases b <;> cases h <;> rfl
theorem kVs_inj : ∀ {n n' : Nm}, n.map kV = n'.map kV → n = n'
  | [], [], _ => rfl
  | [], _ :: _, h => by cases h
  | _ :: _, [], h => by cases h
  | a :: r, b :: t, h => by
    rw [List.map_cons, List.map_cons] at h
    injection h with h1 h2
    rw [kV_inj h1, kVs_inj h2]
theorem optsFor_is {ks : List Str} {cs : List Cell} (hC : Cells ks cs) (m i s : Str) : IsOpts m i ks (optsFor cs (nm3 m i s)) := by
  unfold optsFor
  cases e : cs.find? (fun c => decide (nmOf c = nm3 m i s)) with
  | none => exact ⟨[], "keep", rfl, Nat.zero_le _, (fun _ z => by cases z), List.mem_append_left _ (by decide)⟩
  | some c =>
    have hn : nmOf c = nm3 m i s := of_decide_eq_true (List.find?_some (p := fun c => decide (nmOf c = nm3 m i s)) e)
    obtain ⟨e1, e2, e3⟩ := nm3_inj hn
    have g := hC.good c (List.mem_of_find?_eq_some e)
    have := g.2.2.2
    rw [← e1, ← e2]
    exact this
theorem lst_chgP {H H' : Hp} {p l : Addr} {ws : List Str} (h : H l = some (.lst (sl ws))) (hp : Purse H p) (c : Chg p H H') : H' l = some (.lst (sl ws)) := by
  obtain ⟨d, z, w, e⟩ := hp
  refine c _ _ (ne_of h e fun q => ?_) h
  injection q with q
  cases ws with
  | nil => cases q
  | cons x r =>
    injection q with q _
    cases q
theorem lst_own {H : Hp} {D l : Addr} {ws : List Str} {kvs kvs' : List (Nm × V)} (h : H l = some (.lst (sl ws))) (hD : H D = some (.dT kvs)) : upd H D (.dT kvs') l = some (.lst (sl ws)) := kpm h (ne_of h hD fun q => by cases q)
/-- the second dict, written otherwise: what is not written in the first -/
def Rw1 (H : Hp) (kvs kvs2 : List (Nm × V)) : Prop := ∀ n, valV kvs n = none → valV kvs2 n = none ∨ ∃ l' : Addr, valV kvs2 n = some (.ref l') ∧ H l' = some (.lst (sl [("keep" : Str)]))
/-- .. and what is -/
def Rw2 (H : Hp) (cs : List Cell) (kvs2 : List (Nm × V)) (n : Nm) : Prop := ∃ (l' : Addr) (ws' : List Str), valV kvs2 n = some (.ref l') ∧ H l' = some (.lst (sl ws')) ∧ ∀ ms, chosenW ws' ms = chosenW (optsFor cs n) ms
theorem Rw1.chgP {H H' : Hp} {p : Addr} {kvs kvs2 : List (Nm × V)} (h : Rw1 H kvs kvs2) (hp : Purse H p) (c : Chg p H H') : Rw1 H' kvs kvs2 := fun n hn => (h n hn).imp id fun ⟨l, h1, h2⟩ => ⟨l, h1, lst_chgP h2 hp c⟩
theorem Rw2.chgP {H H' : Hp} {p : Addr} {cs : List Cell} {kvs2 : List (Nm × V)} {n : Nm} (h : Rw2 H cs kvs2 n) (hp : Purse H p) (c : Chg p H H') : Rw2 H' cs kvs2 n := by
  obtain ⟨l, ws, h1, h2, h3⟩ := h
  exact ⟨l, ws, h1, lst_chgP h2 hp c, h3⟩
theorem Rw1.put {H : Hp} {kvs kvs2 : List (Nm × V)} {D l : Addr} {k : Nm} (h : Rw1 H kvs kvs2) (hD : H D = some (.dT kvs2)) (hk : valV kvs k = none → H l = some (.lst (sl [("keep" : Str)]))) : Rw1 (upd H D (.dT (putK kvs2 k (.ref l)))) kvs (putK kvs2 k (.ref l)) := fun n hn => by
  rw [valV_put]
  by_cases e : n = k
  · subst e
    rw [if_pos rfl]
    exact .inr ⟨l, rfl, lst_own (hk hn) hD⟩
  · rw [if_neg e]
    exact (h n hn).imp id fun ⟨l, h1, h2⟩ => ⟨l, h1, lst_own h2 hD⟩
theorem Rw2.put {H : Hp} {cs : List Cell} {kvs2 : List (Nm × V)} {D l : Addr} {k n : Nm} {ws : List Str} (h : Rw2 H cs kvs2 n) (hD : H D = some (.dT kvs2)) (hl : H l = some (.lst (sl ws))) (hk : ∀ ms, chosenW ws ms = chosenW (optsFor cs k) ms) : Rw2 (upd H D (.dT (putK kvs2 k (.ref l)))) cs (putK kvs2 k (.ref l)) n := by
  obtain ⟨l0, ws0, h1, h2, h3⟩ := h
  unfold Rw2
  rw [valV_put]
  by_cases e : n = k
  · subst e
    rw [if_pos rfl]
    exact ⟨l, ws, rfl, lst_own hl hD, hk⟩
  · rw [if_neg e]
    exact ⟨l0, ws0, h1, lst_own h2 hD, h3⟩
theorem Rw2.own {H : Hp} {cs : List Cell} {kvs2 : List (Nm × V)} {D l : Addr} {k : Nm} {ws : List Str} (hD : H D = some (.dT kvs2)) (hl : H l = some (.lst (sl ws))) (hk : ∀ ms, chosenW ws ms = chosenW (optsFor cs k) ms) : Rw2 (upd H D (.dT (putK kvs2 k (.ref l)))) cs (putK kvs2 k (.ref l)) k := by
  unfold Rw2
  rw [valV_put, if_pos rfl]
  exact ⟨l, ws, rfl, lst_own hl hD, hk⟩
section
variable {P : Program} {w : World} {K : PySem.W.Frag} {mg : Str → Option Value} {base : Heap}
theorem CellsAt.putN {H : Hp} {ks : List Str} {kvs : List (Nm × V)} {m i r : Str} {l : Addr} {ws : List Str} (h : CellsAt H ks kvs) (hm : m ∈ ks) (hi : i ∈ ks) (hr : r ∈ rels) (ho : IsOpts m i ks ws) (hl : H l = some (.lst (sl ws))) : CellsAt H ks (putK kvs (nm3 m i r) (.ref l)) := ⟨putK_nd h.1, fun q hq => by
  rcases putK_mem hq with rfl | z
  · exact ⟨m, i, r, l, ws, hm, hi, hr, rfl, ho, hl⟩
  · exact h.2 q z⟩
theorem CellsAt.ownN {H : Hp} {ks : List Str} {kvs kvs0 kvs1 : List (Nm × V)} {D : Addr} (h : CellsAt H ks kvs) (hD : H D = some (.dT kvs0)) : CellsAt (upd H D (.dT kvs1)) ks kvs := ⟨h.1, fun q hq => (h.2 q hq).put hD⟩
theorem CellsAt.chgN {H H' : Hp} {ks : List Str} {kvs : List (Nm × V)} {p : Addr} (h : CellsAt H ks kvs) (hp : Purse H p) (c : Chg p H H') : CellsAt H' ks kvs := ⟨h.1, fun q hq => (h.2 q hq).chg hp c⟩
def spRew (K : PySem.W.Frag) : Sp := fun vs H Q _ => ∃ (p s D : Addr) (ks : List Str) (cs : List Cell) (kvs : List (Nm × V)), vs = [.ref p, .ref s, .ref D] ∧ Purse H p ∧ H s = some (.lst (sl ks)) ∧ s ≠ p ∧ ks.length ≤ 3 ∧ H D = some (.dT kvs) ∧ D ≠ p ∧ CellsAt H ks kvs ∧ LDict H kvs cs ∧ Cells ks cs ∧
  ∀ D2 kvs2 H', Chg p H H' → Purse H' p → D2 ≠ p → H' D2 = some (.dT kvs2) → CellsAt H' ks kvs2 → kvs2.length ≤ 27 → Rw1 H' kvs kvs2 → (∀ n ∈ keysN ks, (valV kvs n).isSome = true → Rw2 H' cs kvs2 n) → Q (.ref D2) H'
theorem c_rew (D_ : At K mg "_law_rewritten" s__law_rewritten ["purse", "sorts", "cells"]) (Ck : C8.Cal P w K mg base 1 "_law_keys" (spKeysN K) []) (Cs : C8.Cal P w K mg base 2 "_law_shuffled" (spShuf K) []) (Cd : C8.Cal P w K mg base 1 "_law_draw" spDraw []) (Cwo : C8.Cal P w K mg base 3 "_law_wordy" (spWordy K) []) : C8.Cal P w K mg base 4 "_law_rewritten" (spRew K) [] := by
  refine cal_of D_ sc__law_rewritten (fun vs H Q E h => ?_) (fun f cdv A outer s_ H vs Q E hr h => ?_)
  · obtain ⟨p, s, D, ks, cs, kvs, rfl, _⟩ := h
    rfl
  · obtain ⟨p, s, D, ks, cs, kvs, rfl, hp, hs, sp, hk3, hD, Dp, hca, hL, hC, q⟩ := h
    have hu : (cxOf CX0 P w K mg base N__law_rewritten "_law_rewritten" (defScope s__law_rewritten) f cdv A outer s_ H E).nox.A.units + 1 < cLine := by have := hr.units; exact Nat.lt_of_le_of_lt (Nat.add_le_add_left (by decide) _) this
    refine ⟨_, pss_cons (ps_set (i := 3) sc__law_rewritten.nd rfl (.inl rfl) pe_dnewT)
      (pss_cons (ps_for PassesOwn.never rfl (pi_list (C8.pe_c Cs hr (by decide) (by rfl) (pa_cons (pv 0) (pa_cons (C8.pe_c Ck hr (by decide) (by rfl) (pa_cons (pv 1) pa_nil)) pa_nil)))) (pg_name (i := 4) sc__law_rewritten.nd rfl (.inl rfl))
      (pss_one (ps_if (pt_cmp (pc_din hu (pv 4) (pv 2))) (pss_one (ps_dput hu (pv 3) (pv 4) (C8.pe_c Cwo hr (by decide) (by rfl) (pa_cons (pv 0) (pa_cons (pe_dget hu (pv 2) (pv 4) (fun _ _ => rfl)) (pa_cons (pv 4) pa_nil)))) (by rfl))) (pss_one (ps_if (pt_cmpR op_eq (C8.pe_c Cd hr (by decide) (by rfl) (pa_cons (pv 0) (pa_cons pe_int pa_nil))) pe_int (nomark _)) (pss_one (ps_dput hu (pv 3) (pv 4) (pe_lst (pa_cons pe_str pa_nil)) (by rfl))) pss_nil)))))
      (pss_one (ps_ret (pv 3)))), ?_⟩
    refine fun F nF => ?_
    have eF : Ex H (upd H F (.dT [])) := Ex.new nF
    have Fp : F ≠ p := (hp.ne nF).symm
    have FD : D ≠ F := ne_of_none hD nF
    refine ⟨_, rfl, _, rfl, s, ks, rfl, SqL.of (eF _ _ hs), hk3, fun l xs H1 e1 nl hl hN => ?_⟩
    have hp1 := (hp.ex eF).ex e1
    have lp : l ≠ p := ((hp.ex eF).ne nl).symm
    have xl : xs.length ≤ 27 := by rw [hN.len]; exact keysN_len hk3
    refine ⟨p, l, xs, rfl, hp1, SqL.of hl, lp, by omega, fun l2 ys H2 c2 hp2 n2 n2p h2 pm => ?_⟩
    have eH1 := eF.trans e1
    have hF2 := c2 _ _ Fp (e1 _ _ upd_same)
    have hD2 := c2 _ _ Dp (eH1 _ _ hD)
    have yl : ys.length ≤ 27 := by rw [pm.length_eq]; exact xl
    have tup2 : ∀ {a : Addr} {n : Nm}, H1 a = some (.tup (n.map kV)) → H2 a = some (.tup (n.map kV)) := fun {a n} h => by
      obtain ⟨d, z, w, e⟩ := hp1
      exact c2 _ _ (ne_of h e fun q => by cases q) h
    have nm : ∀ y ∈ ys, ∃ a n, y = V.ref a ∧ n ∈ keysN ks ∧ H2 a = some (.tup (n.map kV)) := fun y hy => by
      obtain ⟨i, hi⟩ := List.mem_iff_getElem?.mp (pm.mem_iff.mp hy)
      have il : i < (keysN ks).length := by rw [← hN.len]; exact (List.getElem?_eq_some_iff.mp hi).1
      obtain ⟨a, h1, h2⟩ := hN.at_ i _ (List.getElem?_eq_getElem il)
      rw [hi] at h1
      injection h1 with h1
      exact ⟨a, _, h1, List.getElem_mem il, tup2 h2⟩
    refine ⟨l2, rfl, ⟨_, SqL.of h2⟩, for_list (K := K) (a := l2) (xs := ys)
      (fun i σ G => ∃ y4 kvs2, σ = [some (.ref p), some (.ref s), some (.ref D), some (.ref F), y4] ∧ Chg p H G ∧ Purse G p ∧ G l2 = some (.lst ys) ∧ (∀ (a : Addr) (n : Nm), H2 a = some (.tup (n.map kV)) → G a = some (.tup (n.map kV))) ∧ G D = some (.dT kvs) ∧ LDict G kvs cs ∧ G F = some (.dT kvs2) ∧ CellsAt G ks kvs2 ∧ kvs2.length ≤ i ∧ Rw1 G kvs kvs2 ∧
        ∀ (j : Nat) (a : Addr) (n : Nm), j < i → ys[j]? = some (.ref a) → H2 a = some (.tup (n.map kV)) → (valV kvs n).isSome = true → Rw2 G cs kvs2 n)
      ⟨_, [], rfl, (Same.chg eH1).trans c2, hp2, h2, (fun _ _ h => h), hD2, (hL.ex eH1).chgU hC hp1.choose_spec.choose_spec.choose_spec notx_int c2, hF2, ⟨List.nodup_nil, fun _ z => by cases z⟩, Nat.zero_le _, (fun n _ => .inl rfl), fun j a n h => absurd h (Nat.not_lt_zero _)⟩
      (fun i σ G _ ⟨_, _, _, _, _, e, _⟩ => SqL.of e) ?_ ?_⟩
    · rintro i y σ G hi ⟨y4, kvs2, rfl, cG, hpG, h2G, tupG, hDG, hLG, hFG, hcG, hlen, r1, r2⟩
      obtain ⟨b, n, rfl, hn, hb2⟩ := nm y (List.mem_of_getElem? hi)
      obtain ⟨m, t, r, hm, ht, hrr, rfl⟩ := keysN_of hn
      have hb := tupG _ _ hb2
      have i27 : i < 27 := by have := (List.getElem?_eq_some_iff.mp hi).1; omega
      -- what follows, whatever was done
      have step : ∀ (G' : Hp), Chg p G G' → Purse G' p → G' l2 = some (.lst ys) ∧ (∀ (a : Addr) (n : Nm), H2 a = some (.tup (n.map kV)) → G' a = some (.tup (n.map kV))) ∧ G' D = some (.dT kvs) ∧ LDict G' kvs cs ∧ G' F = some (.dT kvs2) ∧ CellsAt G' ks kvs2 ∧ Rw1 G' kvs kvs2 ∧ (∀ (j : Nat) (a : Addr) (n : Nm), j < i → ys[j]? = some (.ref a) → H2 a = some (.tup (n.map kV)) → (valV kvs n).isSome = true → Rw2 G' cs kvs2 n) := fun G' c hp' =>
        ⟨c _ _ n2p h2G, fun a n h => by
          obtain ⟨d, z, w, e⟩ := hpG
          exact c _ _ (ne_of (tupG a n h) e fun q => by cases q) (tupG a n h), c _ _ Dp hDG, hLG.chgU hC hpG.choose_spec.choose_spec.choose_spec notx_int c, c _ _ Fp hFG, hcG.chgN hpG c, r1.chgP hpG c, fun j a n h1 h2 h3 h4 => (r2 j a n h1 h2 h3 h4).chgP hpG c⟩
      -- .. and was put
      have putS : ∀ (G' : Hp) (l' : Addr) (ws' : List Str), Chg p G G' → Purse G' p → G' l' = some (.lst (sl ws')) → IsOpts m t ks ws' → (valV kvs (nm3 m t r) = none → ws' = [("keep" : Str)]) → ((valV kvs (nm3 m t r)).isSome = true → ∀ ms, chosenW ws' ms = chosenW (optsFor cs (nm3 m t r)) ms) →
          ∃ u4 kvs3, [some (V.ref p), some (.ref s), some (.ref D), some (.ref F), some (.ref b)] = [some (V.ref p), some (.ref s), some (.ref D), some (.ref F), u4] ∧ Chg p H (upd G' F (.dT (putK kvs2 (nm3 m t r) (.ref l')))) ∧ Purse (upd G' F (.dT (putK kvs2 (nm3 m t r) (.ref l')))) p ∧ (upd G' F (.dT (putK kvs2 (nm3 m t r) (.ref l')))) l2 = some (.lst ys) ∧ (∀ (a : Addr) (n : Nm), H2 a = some (.tup (n.map kV)) → (upd G' F (.dT (putK kvs2 (nm3 m t r) (.ref l')))) a = some (.tup (n.map kV))) ∧ (upd G' F (.dT (putK kvs2 (nm3 m t r) (.ref l')))) D = some (.dT kvs) ∧ LDict (upd G' F (.dT (putK kvs2 (nm3 m t r) (.ref l')))) kvs cs ∧ (upd G' F (.dT (putK kvs2 (nm3 m t r) (.ref l')))) F = some (.dT kvs3) ∧ CellsAt (upd G' F (.dT (putK kvs2 (nm3 m t r) (.ref l')))) ks kvs3 ∧ kvs3.length ≤ i + 1 ∧ Rw1 (upd G' F (.dT (putK kvs2 (nm3 m t r) (.ref l')))) kvs kvs3 ∧
            ∀ (j : Nat) (a : Addr) (n : Nm), j < i + 1 → ys[j]? = some (.ref a) → H2 a = some (.tup (n.map kV)) → (valV kvs n).isSome = true → Rw2 (upd G' F (.dT (putK kvs2 (nm3 m t r) (.ref l')))) cs kvs3 n := by
        intro G' l' ws' c hp' hl' ho hno hyes
        obtain ⟨s1, s2, s3, s4, s5, s6, s7, s8⟩ := step G' c hp'
        refine ⟨_, _, rfl, (cG.trans c).own nF, ?_, kpm s1 (ne_of s1 s5 fun q => by cases q), fun a n h => kpm (s2 a n h) (ne_of (s2 a n h) s5 fun q => by cases q), kpm s3 FD, ⟨s4.keys, fun i c hc => ?_⟩, upd_same, (s6.putN hm ht hrr ho hl').ownN s5, Nat.le_trans (DSub.putK_len _ _ _) (Nat.succ_le_succ hlen), s7.put s5 (fun h => by rw [← hno h]; exact hl'), fun j a n h1 h2 h3 h4 => ?_⟩
        · obtain ⟨d, z, w, e⟩ := hp'
          exact ⟨d, z, w, kpm e Fp.symm⟩
        · obtain ⟨l0, q1, q2⟩ := s4.at_ i c hc
          exact ⟨l0, q1, lst_own q2 s5⟩
        · by_cases e : j = i
          · subst e
            rw [hi] at h2
            injection h2 with h2
            injection h2 with h2
            subst h2
            rw [hb2] at h3
            injection h3 with h3
            injection h3 with h3
            have := kVs_inj h3
            subst this
            exact Rw2.own s5 hl' (hyes h4)
          · by_cases e2 : n = nm3 m t r
            · subst e2
              exact Rw2.own s5 hl' (hyes h4)
            · obtain ⟨l0, ws0, q1, q2, q3⟩ := s8 j a n (by omega) h2 h3 h4
              unfold Rw2
              rw [valV_put, if_neg e2]
              exact ⟨l0, ws0, q1, lst_own q2 s5, q3⟩
      rcases hLG.val hC.nd (nm3 m t r) with ⟨u, hv, hu'⟩ | ⟨hv, hov⟩
      · refine s_if (b := true) (et_B (ev_din (o := some (.ref u)) (ev_var rfl) (ev_var rfl) hDG hb hv)) (fun _ G1 g1 => ?_) (fun z => by cases z)
        have hu1 := g1 _ _ hu'
        have up : u ≠ p := by
          obtain ⟨d, z, w, e⟩ := hpG
          refine ne_of hu' e fun q => ?_
          injection q with q
          obtain ⟨pre, zz, ew, _⟩ := optsFor_is hC m t r
          rw [ew] at q
          cases pre with
          | nil => injection q with q _; cases q
          | cons x r => injection q with q _; cases q
        refine ⟨_, rfl, ?_⟩
        refine (ev_dget (ev_var rfl) (ev_var rfl) (.inl (g1 _ _ hDG)) (g1 _ _ hb) hv) G1 (Ex.refl _) _ fun G2 g2 => ⟨_, rfl, p, u, b, m, t, r, ks, _, rfl, (hpG.ex g1).ex g2, g2 _ _ hu1, up, g2 _ _ (g1 _ _ hb), optsFor_is hC m t r, fun l' ws' G3 c3 hp3 l'p hl' hw => ?_⟩
        have cc : Chg p G G3 := (Same.chg (g1.trans g2)).trans c3
        obtain ⟨s1, s2, s3, s4, s5, s6, s7, s8⟩ := step G3 cc hp3
        exact ⟨_, rfl, _, rfl, F, _, rfl, DPut.t (k := nm3 m t r) s5 (s2 _ _ hb2) (by rw [sizeLine_eq]; omega), putS G3 l' ws' cc hp3 hl' hw.1 (fun h => by rw [h] at hv; cases hv) fun _ => hw.2⟩
      · refine s_if (b := false) (et_B (ev_din (o := none) (ev_var rfl) (ev_var rfl) hDG hb hv)) (fun z => by cases z) (fun _ G1 g1 => ?_)
        have hp1' := hpG.ex g1
        refine ⟨_, rfl, p, 2, rfl, hp1', by decide, by decide, fun j G2 j0 j1 hp2' c2' => ⟨rfl, _, rfl, ite2 (fun _ => ?_) (fun _ => ?_)⟩⟩
        · refine ⟨(by show 1 ≤ sizeLine; decide), fun l' nl' => ?_⟩
          have cc : Chg p G (upd G2 l' (.lst (sl [("keep" : Str)]))) := ((Same.chg g1).trans c2').new nl'
          have hp3 : Purse (upd G2 l' (.lst (sl [("keep" : Str)]))) p := hp2'.new nl'
          obtain ⟨s1, s2, s3, s4, s5, s6, s7, s8⟩ := step _ cc hp3
          exact ⟨_, rfl, _, rfl, F, _, rfl, DPut.t (k := nm3 m t r) s5 (s2 _ _ hb2) (by rw [sizeLine_eq]; omega), putS _ l' ["keep"] cc hp3 upd_same ⟨[], "keep", rfl, Nat.zero_le _, (fun _ z => by cases z), List.mem_append_left _ (by decide)⟩ (fun _ => rfl) (fun h => by rw [hv] at h; cases h)⟩
        · have cc : Chg p G G2 := (Same.chg g1).trans c2'
          obtain ⟨s1, s2, s3, s4, s5, s6, s7, s8⟩ := step G2 cc hp2'
          refine ⟨_, kvs2, rfl, cG.trans cc, hp2', s1, s2, s3, s4, s5, s6, Nat.le_succ_of_le hlen, s7, fun j a n h1 h2 h3 h4 => ?_⟩
          by_cases e : j = i
          · subst e
            rw [hi] at h2
            injection h2 with h2
            injection h2 with h2
            subst h2
            rw [hb2] at h3
            injection h3 with h3
            injection h3 with h3
            have := kVs_inj h3
            subst this
            rw [hv] at h4
            cases h4
          · exact s8 j a n (by omega) h2 h3 h4
    · rintro σ G ⟨y4, kvs2, rfl, cG, hpG, h2G, tupG, hDG, hLG, hFG, hcG, hlen, r1, r2⟩
      refine ⟨_, rfl, q F kvs2 G cG hpG Fp hFG hcG (Nat.le_trans hlen yl) r1 fun n hn hv => ?_⟩
      obtain ⟨i, hi⟩ := List.mem_iff_getElem?.mp hn
      obtain ⟨a, h1, h2'⟩ := hN.at_ i n hi
      obtain ⟨j, hj⟩ := List.mem_iff_getElem?.mp (pm.mem_iff.mpr (List.mem_of_getElem? h1))
      exact r2 j a n (List.getElem?_eq_some_iff.mp hj).1 hj (tup2 h2') hv
end
end T
namespace T
open PySem PySem.Spec PyProof.Rows L2 Evl XB TL XS XI XC ClX XQ
/-! ### two tables that tell the same -/
def SameT (ks : List Str) (cs cs2 : List Cell) : Prop := ∀ m i s, m ∈ ks → i ∈ ks → ∀ ms, chosenW (optsFor cs2 (nm3 m i s)) ms = chosenW (optsFor cs (nm3 m i s)) ms
theorem same_of {H : Hp} {ks : List Str} {cs cs2 : List Cell} {kvs kvs2 : List (Nm × V)} (hC : Cells ks cs) (hC2 : Cells ks cs2) (h1 : LDict H kvs2 cs2) (hv0 : ∀ n, (valV kvs n).isSome = true → n ∈ keysN ks) (hn0 : ∀ n, valV kvs n = none → optsFor cs n = [("keep" : Str)]) (r1 : Rw1 H kvs kvs2) (r2 : ∀ n ∈ keysN ks, (valV kvs n).isSome = true → Rw2 H cs kvs2 n) : SameT ks cs cs2 := fun m i s hm hi ms => by
  cases hv : valV kvs (nm3 m i s) with
  | none =>
    rw [hn0 _ hv]
    rcases r1 _ hv with h | ⟨l', h, hl⟩
    · rcases h1.val hC2.nd (nm3 m i s) with ⟨t, e, _⟩ | ⟨_, e⟩
      · rw [h] at e; cases e
      · rw [e]
    · rcases h1.val hC2.nd (nm3 m i s) with ⟨t, e, ht⟩ | ⟨e, _⟩
      · rw [h] at e
        injection e with e
        injection e with e
        subst e
        rw [hl] at ht
        injection ht with ht
        injection ht with ht
        rw [← sl_inj ht]
      · rw [h] at e; cases e
  | some v =>
    have hs : (valV kvs (nm3 m i s)).isSome = true := by rw [hv]; rfl
    obtain ⟨l', ws', e, hl, hw⟩ := r2 _ (hv0 _ hs) hs
    rcases h1.val hC2.nd (nm3 m i s) with ⟨t, e2, ht⟩ | ⟨e2, _⟩
    · rw [e] at e2
      injection e2 with e2
      injection e2 with e2
      subst e2
      rw [hl] at ht
      injection ht with ht
      injection ht with ht
      rw [← sl_inj ht]
      exact hw ms
    · rw [e] at e2; cases e2
theorem same_turned {ks : List Str} {cs cs2 : List Cell} {d e : Deed} {b : Bool} (h : SameT ks cs cs2) (hk : ks ∈ kinds7) (okd : d.ok ks) (oke : e.ok ks) : turnedOf cs2 d e b = turnedOf cs d e b := by
  unfold turnedOf
  by_cases z : d.hd = "stay" ∨ e.hd = "stay"
  · rw [if_pos z, if_pos z]
  · rw [if_neg z, if_neg z, h _ _ _ (Deed.hd_stay okd hk fun y => z (.inl y)).2.1 (Deed.hd_stay oke hk fun y => z (.inr y)).2.1]
theorem same_turn {ks : List Str} {cs cs2 : List Cell} {d e : Deed} {b : Bool} (h : SameT ks cs cs2) (hk : ks ∈ kinds7) (okd : d.ok ks) (oke : e.ok ks) : turnD cs2 d e b = turnD cs d e b := by
  unfold turnD
  by_cases z : d.hd = "stay" ∨ e.hd = "stay"
  · rw [if_pos z, if_pos z]
  · rw [if_neg z, if_neg z, h _ _ _ (Deed.hd_stay okd hk fun y => z (.inl y)).2.1 (Deed.hd_stay oke hk fun y => z (.inr y)).2.1]
/-! ### the pairs -/
def PairAt (K : PySem.W.Frag) (H : Hp) (ks : List Str) (D : Addr) (v : V) : Prop := ∃ (r a b : Addr) (d e : Deed), v = .ref r ∧ H r = some (.lst [.ref a, .ref b]) ∧ r ≠ D ∧ SqT K H a d.vs ∧ SqT K H b e.vs ∧ d.ok ks ∧ e.ok ks
theorem PairAt.ex {K : PySem.W.Frag} {H H' : Hp} {ks : List Str} {D : Addr} {v : V} (h : PairAt K H ks D v) (z : Ex H H') : PairAt K H' ks D v := by
  obtain ⟨r, a, b, d, e, h1, h2, h3, h4, h5, h6⟩ := h
  exact ⟨r, a, b, d, e, h1, z _ _ h2, h3, ex_t z h4, ex_t z h5, h6⟩
theorem PairAt.put {K : PySem.W.Frag} {H : Hp} {ks : List Str} {D : Addr} {v : V} {zs ys : List V} (h : PairAt K H ks D v) (hD : H D = some (.lst zs)) : PairAt K (upd H D (.lst ys)) ks D v := by
  obtain ⟨r, a, b, d, e, h1, h2, h3, h4, h5, h6⟩ := h
  exact ⟨r, a, b, d, e, h1, kpm h2 h3, h3, sqt_put h4 hD, sqt_put h5 hD, h6⟩
def plc (r : Str) : Int := if r = "<" then 6 else if r = "=" then 7 else 8
section
variable {P : Program} {w : World} {K : PySem.W.Frag} {mg : Str → Option Value} {base : Heap}
theorem ev_places {i b : Nat} {u : TE} {σ : L2.St} {H : Hp} {r : Str} (h5 : Ev u σ H (.str r)) (hr : r ∈ rels) : Ev (tDGet (tDisp [(tC (.str "<"), tC (.int 6)), (tC (.str "="), tC (.int 7)), (tC (.str ">"), tC (.int 8))]) u) σ H (.int (plc r)) := fun H1 e Q q p np => by
  refine ⟨upd_same, [(.inr "<", .int 6), (.inr "=", .int 7), (.inr ">", .int 8)], rfl, by decide, ?_⟩
  have e2 : Ex H1 (upd (upd H1 p (.dK [])) p (.dK (mergeK [] [(.inr "<", .int 6), (.inr "=", .int 7), (.inr ">", .int 8)]))) := by
    intro b o hb
    have := ne_of_none hb np
    rw [upd_ne this, upd_ne this]
    exact hb
  refine h5 _ (e.trans e2) _ fun H3 e3 => ⟨p, _, rfl, .inl ⟨_, .inr r, .inl (e3 _ _ upd_same), rfl, ?_⟩, q _ (e2.trans e3)⟩
  rcases List.mem_cons.mp hr with rfl | hr
  · decide +kernel
  rcases List.mem_cons.mp hr with rfl | hr
  · decide +kernel
  rw [List.mem_singleton.mp hr]
  decide +kernel
def spPairs (K : PySem.W.Frag) : Sp := fun vs H Q _ => ∃ (a : Addr) (ks : List Str), vs = [.ref a] ∧ SqL K H a (sl ks) ∧ ks ∈ kinds7 ∧ ∀ l xs H', Ex H H' → H' l = some (.lst xs) → (∀ y ∈ xs, PairAt K H' ks l y) → Q (.ref l) H'
/-- the edit -/
def mkD (m : Str) (n : Int) (c : Nat) : Deed := if m = "out" then .out n else .sig m n c
theorem mkD_ok {ks : List Str} {m : Str} {n : Int} {c : Nat} (hk : ks ∈ kinds7) (hm : m ∈ ks) (h1 : 6 ≤ n) (h2 : n ≤ 8) (h3 : 97 ≤ c) (h4 : c ≤ 122) : (mkD m n c).ok ks := by
  have all : ∀ ks ∈ kinds7, ∀ m ∈ ks, m = ("out" : Str) ∨ m ∈ [("put" : Str), "set"] := by decide
  unfold mkD
  split
  · rename_i e
    subst e
    exact ⟨hm, by omega, by omega⟩
  · rename_i e
    exact ⟨(all ks hk m hm).resolve_left e, hm, by omega, by omega, h3, h4⟩
theorem es_mkD {ta tb tc : TE} {σ : L2.St} {H : Hp} {m : Str} {n : Int} {c : Nat} (h1 : Ev ta σ H (.str m)) (h2 : Ev tb σ H (.int n)) (h3 : Ev tc σ H (.str (let1 c))) :
    EvS K (tIf (tTest (tOp rEq ta (tC (.str "out")))) (tTup (tCons (tC (.str "out")) (tCons tb tNil))) (tTup (tCons ta (tCons tb (tCons tc tNil))))) σ H (mkD m n c).vs :=
  es_if (et_test (ev_eqS h1 ev_c)) (fun y => by
    unfold mkD
    rw [if_pos (of_decide_eq_true y)]
    exact es_new (eu_tup (ea_cons ev_c (ea_cons h2 ea_nil)) (by show 2 ≤ 100000; decide))) (fun y => by
    unfold mkD
    rw [if_neg (of_decide_eq_false y)]
    exact es_new (eu_tup (ea_cons h1 (ea_cons h2 (ea_cons h3 ea_nil))) (by show 3 ≤ 100000; decide)))
theorem c_pairs (D : At K mg "_law_pairs" s__law_pairs ["sorts"]) (Ck : C8.Cal P w K mg base 1 "_law_keys" (spKeysN K) []) : C8.Cal P w K mg base 2 "_law_pairs" (spPairs K) [] := by
  refine cal_of D sc__law_pairs (fun vs H Q E h => ?_) (fun f cdv A outer s_ H vs Q E hr h => ?_)
  · obtain ⟨a, ks, rfl, _⟩ := h
    rfl
  · obtain ⟨a, ks, rfl, hS, hk, q⟩ := h
    have hu : (cxOf CX0 P w K mg base N__law_pairs "_law_pairs" (defScope s__law_pairs) f cdv A outer s_ H E).nox.A.units + 1 < cLine := by have := hr.units; exact Nat.lt_of_le_of_lt (Nat.add_le_add_left (by decide) _) this
    refine ⟨_, pss_cons (ps_set (i := 1) sc__law_pairs.nd rfl (.inl rfl) (pe_lst pa_nil))
      (pss_cons (ps_for PassesOwn.never rfl (pi_list (C8.pe_c Ck hr (by decide) (by rfl) (pa_cons (pv 0) pa_nil))) (pg_name (i := 2) sc__law_pairs.nd rfl (.inl rfl))
      (pss_cons (ps_set (i := 3) sc__law_pairs.nd rfl (.inl rfl) (pe_dget hu (pe_disp (pps_cons pe_str pe_int (pps_cons pe_str pe_int (pps_cons pe_str pe_int pps_nil))) rfl rfl (by simp) (by decide)) (pe_ix ix_tup (pv 2) pe_int (fun _ _ => rfl)) (fun _ _ => rfl)))
      (pss_one (ps_for PassesOwn.never rfl (pi_str pe_str) (pg_name (i := 4) sc__law_pairs.nd rfl (.inl rfl))
      (pss_cons (ps_set (i := 5) sc__law_pairs.nd rfl (.inl rfl) (pe_ifExp (pt_cmpR op_eq (pe_ix ix_tup (pv 2) pe_int (fun _ _ => rfl)) pe_str (nomark _)) (pe_tup (pa_cons pe_str (pa_cons (pv 3) pa_nil))) (pe_tup (pa_cons (pe_ix ix_tup (pv 2) pe_int (fun _ _ => rfl)) (pa_cons (pv 3) (pa_cons (pv 4) pa_nil))))))
      (pss_one (ps_expr (pe_bm PySem.F.plainAttrs_list PySem.F.slot_list_append PySem.F.type_list_append mt_append (pv 1) (pa_cons (pe_lst (pa_cons (pv 5) (pa_cons (pe_ifExp (pt_cmpR op_eq (pe_ix ix_tup (pv 2) pe_int (fun _ _ => rfl)) pe_str (nomark _)) (pe_tup (pa_cons pe_str (pa_cons pe_int pa_nil))) (pe_tup (pa_cons (pe_ix ix_tup (pv 2) pe_int (fun _ _ => rfl)) (pa_cons pe_int (pa_cons pe_str pa_nil))))) pa_nil))) pa_nil)))))))))
      (pss_one (ps_ret (pv 1)))), ?_⟩
    refine ⟨Nat.zero_le _, fun F nF => ?_⟩
    have eF : Ex H (upd H F (.lst [])) := Ex.new nF
    have kl : ks.length ≤ 3 := (show ∀ ks ∈ kinds7, ks.length ≤ 3 by decide) ks hk
    refine ⟨_, rfl, a, ks, rfl, ex_l eF hS, kl, fun l ns H1 e1 nl hl hN => ?_⟩
    have lF : l ≠ F := fun z => by rw [z, upd_same] at nl; cases nl
    have nl2 : ns.length ≤ 27 := by rw [hN.len]; exact keysN_len kl
    refine ⟨l, rfl, ⟨_, SqL.of hl⟩, for_list (K := K) (a := l) (xs := ns)
      (fun i σ G => ∃ y2 y3 y4 y5 xs, σ = [some (.ref a), some (.ref F), y2, y3, y4, y5] ∧ Ex H G ∧ G l = some (.lst ns) ∧ NamesAt G ns (keysN ks) ∧ G F = some (.lst xs) ∧ xs.length = 3 * i ∧ ∀ y ∈ xs, PairAt K G ks F y)
      ⟨_, _, _, _, [], rfl, eF.trans e1, hl, hN, e1 _ _ upd_same, rfl, fun _ z => by cases z⟩ (fun i σ G _ ⟨_, _, _, _, _, _, _, e, _⟩ => SqL.of e) ?_ ?_⟩
    · rintro i y σ G hi ⟨y2, y3, y4, y5, xs, rfl, eG, lG, hNG, hF, hlen, hP⟩
      have i27 : i < (keysN ks).length := by rw [← hNG.len]; exact (List.getElem?_eq_some_iff.mp hi).1
      obtain ⟨b, h1, hb⟩ := hNG.at_ i _ (List.getElem?_eq_getElem i27)
      rw [hi] at h1
      injection h1 with h1
      subst h1
      obtain ⟨m, t, r, hm, ht, hrr, en⟩ := keysN_of (List.getElem_mem i27)
      rw [en] at hb
      have hbT : SqT K G b ((nm3 m t r).map kV) := SqT.of hb
      have pl1 : 6 ≤ plc r := by unfold plc; split; omega; split <;> omega
      have pl2 : plc r ≤ 8 := by unfold plc; split; omega; split <;> omega
      refine q_asg (v := .int (plc r)) (ev_places (i := 0) (b := 0) (ev_ixT (ev_var rfl) ev_c hbT (atI_nat (j := 2) rfl)) hrr) fun G1 g1 => ?_
      refine ⟨_, rfl, for_it walk_str
        (fun j σ G' => ∃ y4 y5 xs, σ = [some (.ref a), some (.ref F), some (.ref b), some (.int (plc r)), y4, y5] ∧ Ex H G' ∧ G' l = some (.lst ns) ∧ NamesAt G' ns (keysN ks) ∧ SqT K G' b ((nm3 m t r).map kV) ∧ G' F = some (.lst xs) ∧ xs.length = 3 * i + j ∧ ∀ y ∈ xs, PairAt K G' ks F y)
        ⟨_, _, xs, rfl, eG.trans g1, g1 _ _ lG, hNG.ex g1, ex_t g1 hbT, g1 _ _ hF, hlen, fun y hy => (hP y hy).ex g1⟩ (fun _ _ _ _ _ => trivial) ?_ ?_⟩
      · rintro j v σ G2 G2' hj ⟨y4, y5, xs, rfl, e2, l2, hN2, hb2, hF2, hlen2, hP2⟩ ⟨rfl, c, hc, rfl⟩
        have hcr : 97 ≤ c ∧ c ≤ 122 := by
          have : ∀ x ∈ ("ghi" : Str).cps.toList, 97 ≤ x ∧ x ≤ 122 := by decide
          exact this c (List.mem_of_getElem? (by rw [Array.getElem?_toList]; exact hc))
        have nF2 : H F = none := nF
        refine q_asgS (K := K) (xs := (mkD m (plc r) c).vs) (es_mkD (ev_ixT (ev_var rfl) ev_c hb2 (atI_nat (j := 0) rfl)) (ev_var rfl) (ev_var rfl)) fun pa G3 g3 hpa => ?_
        refine ⟨_, rfl, .inl ⟨rfl, _, SqL.of (g3 _ _ hF2)⟩, _, rfl, ?_⟩
        refine es_mkD (K := K) (n := 7) (c := 104) (ev_ixT (ev_var rfl) ev_c (ex_t g3 hb2) (atI_nat (j := 1) rfl)) ev_c ev_c G3 (Ex.refl _) _ fun pb G4 g4 hpb => ?_
        have g24 := g3.trans g4
        have hF4 := g24 _ _ hF2
        have i81 : xs.length + 3 ≤ 100000 := by
          have h3 : j < 3 := hj
          have := keysN_len (ks := ks) kl
          omega
        refine ⟨(by show 2 ≤ sizeLine; decide), fun u nu => ⟨F, _, _, rfl, rfl, kp hF4 nu, (by rw [sizeLine_eq]; omega), ?_⟩⟩
        have g5 : Ex G4 (upd G4 u (.lst [.ref pa, .ref pb])) := Ex.new nu
        have g25 := g24.trans g5
        have uF : u ≠ F := (ne_of_none hF4 nu).symm
        have hF5 := g25 _ _ hF2
        refine ⟨_, _, xs ++ [.ref u], rfl, Ex.mut (e2.trans g25) nF2, kpm (g25 _ _ l2) lF, (hN2.ex g25).put hF5, sqt_put (ex_t g25 hb2) hF5, upd_same, by rw [List.length_append, hlen2]; rfl, fun y hy => ?_⟩
        rcases List.mem_append.mp hy with hy | hy
        · exact ((hP2 y hy).ex g25).put hF5
        · rw [List.mem_singleton.mp hy]
          exact ⟨u, pa, pb, _, _, rfl, kpm upd_same uF, uF, sqt_put (ex_t (g4.trans g5) hpa) hF5, sqt_put (ex_t g5 hpb) hF5, mkD_ok hk hm pl1 pl2 hcr.1 hcr.2, mkD_ok hk ht (by decide) (by decide) (by decide) (by decide)⟩
      · rintro σ G2 ⟨y4, y5, xs, rfl, e2, l2, hN2, hb2, hF2, hlen2, hP2⟩
        exact ⟨_, _, _, _, xs, rfl, e2, l2, hN2, hF2, by rw [hlen2]; rfl, hP2⟩
    · rintro σ G ⟨y2, y3, y4, y5, xs, rfl, eG, lG, hNG, hF, hlen, hP⟩
      exact ⟨_, rfl, q F xs G eG hF hP⟩
end
end T
namespace T
open PySem PySem.Spec PyProof.Rows L2 Evl XB TL XS XI XC ClX XQ
/-! ### two tables that tell the same: the ends -/
def OkX (ks : List Str) (d : Deed) : Prop := ∃ lo hi, d.okb ks lo hi
theorem okx_hd {ks : List Str} {d : Deed} (h : OkX ks d) (n : d.hd ≠ "stay") : d.hd ∈ ks := by
  obtain ⟨lo, hi, h⟩ := h
  cases d with
  | stay => exact absurd rfl n
  | out k => exact h.1
  | sig k m c => exact h.2.1
theorem same_turnX {ks : List Str} {cs cs2 : List Cell} {d e : Deed} {b : Bool} (h : SameT ks cs cs2) (okd : OkX ks d) (oke : OkX ks e) : turnD cs2 d e b = turnD cs d e b := by
  unfold turnD
  by_cases z : d.hd = "stay" ∨ e.hd = "stay"
  · rw [if_pos z, if_pos z]
  · rw [if_neg z, if_neg z, h _ _ _ (okx_hd okd fun y => z (.inl y)) (okx_hd oke fun y => z (.inr y))]
theorem same_turn1 {ks : List Str} {cs cs2 : List Cell} {s o : Nat} {fs : List Deed} (h : SameT ks cs cs2) (hf : ∀ d ∈ fs, OkX ks d) : turn1 cs2 s fs o = turn1 cs s fs o := by
  unfold turn1
  cases h1 : fs[o]? with
  | none => rfl
  | some d => cases h2 : fs[s]? with
    | none => rfl
    | some e =>
      show fs.set o _ = fs.set o _
      rw [same_turnX h (hf d (List.mem_of_getElem? h1)) (hf e (List.mem_of_getElem? h2))]
theorem turn1_okx {ks : List Str} {cs : List Cell} {s o : Nat} {fs : List Deed} (hC : Cells ks cs) (hf : ∀ d ∈ fs, OkX ks d) : ∀ d ∈ turn1 cs s fs o, OkX ks d := by
  unfold turn1
  cases h1 : fs[o]? with
  | none => exact hf
  | some d => cases h2 : fs[s]? with
    | none => exact hf
    | some e =>
      intro g hg
      rcases List.mem_or_eq_of_mem_set hg with hg | rfl
      · exact hf g hg
      · obtain ⟨lo, hi, q⟩ := hf d (List.mem_of_getElem? h1)
        exact ⟨_, _, turnD_okb q hC _⟩
theorem same_all {ks : List Str} {cs cs2 : List Cell} {s : Nat} (h : SameT ks cs cs2) (hC : Cells ks cs) : ∀ (r : List Nat) (fs : List Deed), (∀ d ∈ fs, OkX ks d) → turnAll cs2 s fs r = turnAll cs s fs r ∧ ∀ d ∈ turnAll cs s fs r, OkX ks d
  | [], fs, hf => ⟨rfl, hf⟩
  | o :: r, fs, hf => by
    have := same_all h hC (s := s) r (turn1 cs s fs o) (turn1_okx hC hf)
    show turnAll cs2 s (turn1 cs2 s fs o) r = turnAll cs s (turn1 cs s fs o) r ∧ _
    rw [same_turn1 h hf]
    exact this
theorem same_ends {ks : List Str} {cs cs2 : List Cell} (h : SameT ks cs cs2) (hC : Cells ks cs) : ∀ (line : List Nat) (z : Str) (fs : List Deed), (∀ d ∈ fs, OkX ks d) → endS cs2 z fs line = endS cs z fs line
  | [], z, fs, _ => rfl
  | s :: r, z, fs, hf => by
    unfold endS
    cases h1 : fs[s]? with
    | none => rfl
    | some d =>
      show (match playS z d with | none => none | some z' => endS cs2 z' (turnAll cs2 s fs r) r) = (match playS z d with | none => none | some z' => endS cs z' (turnAll cs s fs r) r)
      cases playS z d with
      | none => rfl
      | some z' =>
        show endS cs2 z' (turnAll cs2 s fs r) r = endS cs z' (turnAll cs s fs r) r
        obtain ⟨e, g⟩ := same_all (s := s) h hC r fs hf
        rw [e]
        exact same_ends h hC r z' _ g
theorem text_inj {ks : List Str} {cs cs2 : List Cell} (hk : ks ∈ kinds7) (hC : Cells ks cs) (hC2 : Cells ks cs2) : (textOf ks (cs.map lineOf) = textOf ks (cs2.map lineOf)) ↔ cs.map lineOf = cs2.map lineOf := by
  constructor
  · intro e
    have h1 := text_split hk hC
    have h2 := text_split hk hC2
    rw [e, h2] at h1
    injection h1 with _ h1
    exact h1.symm
  · intro e
    rw [e]
section
variable {P : Program} {w : World} {K : PySem.W.Frag} {mg : Str → Option Value} {base : Heap} {C CD : Addr}
variable {σ : L2.St} {H H' : Hp} {ta tb tc td te : TE} {tz : TS} {D' : Ends} {ks lns lns' : List Str} {cs : List Cell} {x y a b D l : Addr} {E : XK} {d : Deed}
theorem q_parT {i j : Nat} (h1 : EvTab K C ta σ H ks lns) (h2 : ∀ H1, Ex H H1 → EvTab K C tb σ H1 ks lns') (k : ∀ x y H1, Ex H H1 → TabAt K C H1 x ks lns → TabAt K C H1 y ks lns' → tz D' ((σ.set i (some (.ref x))).set j (some (.ref y))) H1) : tSeq (tPar i j (tCons ta (tCons tb tNil))) tz D' σ H :=
  h1 H (Ex.refl H) _ fun x H1 e1 t1 => h2 H1 e1 H1 (Ex.refl _) _ fun y H2 e2 t2 => ⟨_, _, rfl, k x y H2 (e1.trans e2) (t1.ex e2) t2⟩
theorem ev_neS {x y : Str} (hx : Ev ta σ H (.str x)) (hy : Ev tb σ H (.str y)) : Ev (tOp rNe ta tb) σ H (.bl (!decide (x = y))) :=
  ev_is (ev_op hx hy (rv_ne rfl)) (by
    by_cases h : x = y
    · rw [decide_eq_true h, decide_eq_true (by rw [h])]
    · rw [decide_eq_false h, decide_eq_false (fun q => h (by injection q))])
theorem ev_reprB2 {te : TE} {bs : List Bool} (h : EvL te σ H (bs.map V.bl)) (o1 : (PyData.list (bs.map PyData.bool)).showable = true) (o2 : (PyData.list (bs.map PyData.bool)).hasDict = false) (o3 : (PyData.list (bs.map PyData.bool)).depth ≤ 32) (o4 : (PyData.list (bs.map PyData.bool)).shown.length ≤ sizeLine) :
    Ev (tCB (XG.rRepr K) (tCons te tNil)) σ H (.str (PyData.list (bs.map PyData.bool)).shown) := fun H1 e Q q => h H1 e _ fun l H2 n2 e2 hl => by
  have dp : ∀ bs : List Bool, DpAll K H2 (bs.map V.bl) (bs.map PyData.bool) := fun bs => by
    induction bs with
    | nil => exact .nil
    | cons b r ih => exact .cons (.bl b) ih
  exact ⟨.ref l, _, rfl, .lst (SqL.of hl) (dp bs), o1, o2, o3, o4, q H2 e2⟩
def spRight : Sp := fun vs H Q _ => ∃ p, vs = [.ref p] ∧ Purse H p ∧ ∀ H', Chg p H H' → Q (.bl true) H'
structure RdM19 (P : Program) (w : World) (K : PySem.W.Frag) (mg : Str → Option Value) (base : Heap) (C : Addr) : Prop where
  rd : ∃ (g pm : Addr) (mc : Value) (fd : FuncData), CRead K C mc ∧ CMet K C mc "read" pm g ∧ FnOk P w K mg base CX0 7 g fd ["cls", "text"] (spRead K C) ∧ Binds K fd ["cls", "text"] []
  eq : ∃ (f : Addr) (fd : FuncData), EqC K C f ∧ FnOk P w K mg base CX0 1 f fd ["self", "other"] (spEqT K C) ∧ Binds K fd ["self", "other"] []
theorem c_right (D : At K mg "_law_right" s__law_right ["purse"]) (B : Bl mg) (T : TabC K mg C) (R : RdM19 P w K mg base C) {fp : Addr} {fdp : FuncData} (MP : Meth K C "passed" fp) (Fp : FnOk P w K mg base CX0 6 fp fdp ["self", "edit", "past", "first"] (spTurned K C)) (bp : Binds K fdp ["self", "edit", "past", "first"] [])
    (Ced : C8.Cal P w K mg base 7 "ended" (spEnded K C) []) (Cso : C8.Cal P w K mg base 3 "_law_sorts" spSorts []) (Cce : C8.Cal P w K mg base 4 "_law_cells" (spCells K) []) (Crw : C8.Cal P w K mg base 4 "_law_rewritten" (spRew K) []) (Cpa : C8.Cal P w K mg base 2 "_law_pairs" (spPairs K) []) (Cli : C8.Cal P w K mg base 1 "_law_lines" spLines []) (Ctx : C8.Cal P w K mg base 1 "_law_text" spText [])
    (Cdr : C8.Cal P w K mg base 1 "_law_draw" spDraw []) (Csh : C8.Cal P w K mg base 2 "_law_shuffled" (spShuf K) []) (Crow : C8.Cal P w K mg base 4 "_law_row" spRow []) (Cma : C8.Cal P w K mg base 5 "_law_made" (spMade K) []) :
    CalG P w K mg base 8 "_law_right" spRight := by
  obtain ⟨gr, pm, mc, fdg, CR, CM, Fr0, brd⟩ := R.rd
  obtain ⟨fe, fde, EC, Fe, be⟩ := R.eq
  have Fr := (FnOk.raw Fr0 brd .nil).imp (sp' := spRead K C) fun vs H Q E h => by rw [List.append_nil]; exact h
  refine calG_of D sc__law_right (fun vs H Q E h => ?_) (fun f cdv A outer s_ H vs Q E hc hr h => ?_)
  · obtain ⟨p, rfl, _⟩ := h
    rfl
  · obtain ⟨p, rfl, hp, q⟩ := h
    refine ⟨_, pss_cons (ps_set (i := 1) sc__law_right.nd rfl (.inl rfl) (C8.pe_c Cso hr (by decide) (by rfl) (pa_cons (pv 0) pa_nil)))
      (pss_cons (ps_set (i := 2) sc__law_right.nd rfl (.inl rfl) (C8.pe_c Cce hr (by decide) (by rfl) (pa_cons (pv 0) (pa_cons (pv 1) pa_nil))))
      (pss_cons (ps_set (i := 3) sc__law_right.nd rfl (.inl rfl) (C8.pe_c Crw hr (by decide) (by rfl) (pa_cons (pv 0) (pa_cons (pv 1) (pa_cons (pv 2) pa_nil)))))
      (pss_cons (ps_par (i := 4) (j := 5) (by rfl) sc__law_right.nd rfl rfl (by decide) rfl rfl (pa_cons (C8.pe_c Ctx hr (by decide) (by rfl) (pa_cons (pv 1) (pa_cons (C8.pe_c Cli hr (by decide) (by rfl) (pa_cons (pv 2) pa_nil)) pa_nil))) (pa_cons (C8.pe_c Ctx hr (by decide) (by rfl) (pa_cons (pv 1) (pa_cons (C8.pe_c Cli hr (by decide) (by rfl) (pa_cons (pv 3) pa_nil)) pa_nil))) pa_nil)) (by rfl))
      (pss_cons (ps_par (i := 6) (j := 7) (by rfl) sc__law_right.nd rfl rfl (by decide) rfl rfl (pa_cons (pe_cmeth (pe_glob (v := .ref C) (by rfl) T.mgT rfl) CR CM Fr hr pass0 (pa_cons (pv 4) pa_nil)) (pa_cons (pe_cmeth (pe_glob (v := .ref C) (by rfl) T.mgT rfl) CR CM Fr hr pass0 (pa_cons (pv 5) pa_nil)) pa_nil)) (by rfl))
      (pss_cons (ps_for PassesOwn.never rfl (pi_list (C8.pe_c Cpa hr (by decide) (by rfl) (pa_cons (pv 1) pa_nil))) (pg_name (i := 8) sc__law_right.nd rfl (.inl rfl))
      (pss_one (ps_for PassesOwn.never rfl (pi_list (pe_lst (pa_cons pe_bl (pa_cons pe_bl pa_nil)))) (pg_name (i := 9) sc__law_right.nd rfl (.inl rfl))
      (pss_one (ps_if (pt_cmpR op_ne (pe_callB (XG.call_repr hc hr.units) (by rfl) B.repr (by decide +kernel) (pa_cons (pe_meth (pv 6) T.cl MP Fp (hr.mono (by decide)) bp .nil pass0 (pa_cons (pe_ix ix_list (pv 8) pe_int (fun _ _ => rfl)) (pa_cons (pe_ix ix_list (pv 8) pe_int (fun _ _ => rfl)) (pa_cons (pv 9) pa_nil)))) pa_nil)) (pe_callB (XG.call_repr hc hr.units) (by rfl) B.repr (by decide +kernel) (pa_cons (pe_meth (pv 7) T.cl MP Fp (hr.mono (by decide)) bp .nil pass0 (pa_cons (pe_ix ix_list (pv 8) pe_int (fun _ _ => rfl)) (pa_cons (pe_ix ix_list (pv 8) pe_int (fun _ _ => rfl)) (pa_cons (pv 9) pa_nil)))) pa_nil)) (nomark _)) (pss_one (ps_ret pe_bl)) pss_nil)))))
      (pss_cons (ps_for PassesOwn.never rfl (pi_range1 (by rfl) B.range (pa_cons pe_int pa_nil)) (pg_name (i := 10) sc__law_right.nd rfl (.inl rfl))
      (pss_cons (ps_par (i := 11) (j := 12) (by rfl) sc__law_right.nd rfl rfl (by decide) rfl rfl (pa_cons (C8.pe_c Crow hr (by decide) (by rfl) (pa_cons (pv 0) (pa_cons (C8.pe_c Cdr hr (by decide) (by rfl) (pa_cons (pv 0) (pa_cons pe_int pa_nil))) pa_nil))) (pa_cons (pe_op op_add pe_int (C8.pe_c Cdr hr (by decide) (by rfl) (pa_cons (pv 0) (pa_cons pe_int pa_nil)))) pa_nil)) (by rfl))
      (pss_cons (ps_set (i := 13) sc__law_right.nd rfl (.inl rfl) (C8.pe_c Cma hr (by decide) (by rfl) (pa_cons (pv 0) (pa_cons (pv 1) (pa_cons (pe_callB call_len_str (by rfl) B.len (by decide +kernel) (pa_cons (pv 11) pa_nil)) (pa_cons (pv 12) pa_nil))))))
      (pss_cons (ps_set (i := 14) sc__law_right.nd rfl (.inl rfl) (pe_callTy call_tuple_of (by rfl) B.tuple (by decide +kernel) (pa_cons (C8.pe_c Csh hr (by decide) (by rfl) (pa_cons (pv 0) (pa_cons (pe_listRg rfl (by rfl) B.list (prg_1 (by rfl) B.range (pv 12))) pa_nil))) pa_nil)))
      (pss_one (ps_if (pt_cmpR op_ne (pe_callB (XG.call_repr hc hr.units) (by rfl) B.repr (by decide +kernel) (pa_cons (C8.pe_c Ced hr (by decide) (by rfl) (pa_cons (pv 6) (pa_cons (pv 11) (pa_cons (pv 13) (pa_cons (pv 14) pa_nil))))) pa_nil)) (pe_callB (XG.call_repr hc hr.units) (by rfl) B.repr (by decide +kernel) (pa_cons (C8.pe_c Ced hr (by decide) (by rfl) (pa_cons (pv 7) (pa_cons (pv 11) (pa_cons (pv 13) (pa_cons (pv 14) pa_nil))))) pa_nil)) (nomark _)) (pss_one (ps_ret pe_bl)) pss_nil))))))
      (pss_one (ps_ret (pe_cmpR op_eq (pe_callB (XG.call_repr hc hr.units) (by rfl) B.repr (by decide +kernel) (pa_cons (pe_lst (pa_cons (pe_cmpR (op_eqO EC Fe (hr.mono (by decide)) be) (pv 6) (pv 7) (nomark _)) (pa_cons (pe_cmpR (op_neO EC Fe (hr.mono (by decide)) be) (pv 7) (pv 6) (nomark _)) pa_nil))) pa_nil)) (pe_callB (XG.call_repr hc hr.units) (by rfl) B.repr (by decide +kernel) (pa_cons (pe_lst (pa_cons (pe_cmpR op_eq (pv 4) (pv 5) (nomark _)) (pa_cons (pe_cmpR op_ne (pv 4) (pv 5) (nomark _)) pa_nil))) pa_nil)) (nomark _)))))))))), ?_⟩
    refine ⟨_, rfl, p, rfl, hp, fun s ks H1 hk hs sp hp1 c1 => ?_⟩
    have kl : ks.length ≤ 3 := len7 hk
    refine ⟨_, rfl, _, rfl, p, s, ks, rfl, hp1, SqL.of hs, sp, len7 hk, fun D kvs G2 c2 hp2 nd dp hd hcs hl => ?_⟩
    obtain ⟨cs, e1, eg, el, eat⟩ := cells_of hcs.2
    have hC : Cells ks cs := ⟨by rw [← e1]; exact hcs.1, eg, by rw [el]; exact hl⟩
    have hL : LDict G2 kvs cs := ⟨e1, eat⟩
    have hs2 := c2 _ _ sp hs
    refine ⟨_, rfl, _, rfl, _, rfl, p, s, D, ks, cs, kvs, rfl, hp2, hs2, sp, kl, hd, dp, hcs, hL, hC, fun D2 kvs2 G3 c3 hp3 d2p hd2 hcs2 hl2 r1 r2 => ?_⟩
    obtain ⟨cs2, e21, eg2, el2, eat2⟩ := cells_of hcs2.2
    have hC2 : Cells ks cs2 := ⟨by rw [← e21]; exact hcs2.1, eg2, by rw [el2]; exact hl2⟩
    have hL2 : LDict G3 kvs2 cs2 := ⟨e21, eat2⟩
    have hv0 : ∀ n, (valV kvs n).isSome = true → n ∈ keysN ks := fun n hn => by
      by_cases m : n ∈ kvs.map (·.1)
      · obtain ⟨q, hq, rfl⟩ := List.mem_map.mp m
        obtain ⟨m, i, r, l, ws, hm, hi, hr, eq, _⟩ := hcs.2 q hq
        rw [eq]
        exact keysN_mem hm hi hr
      · rw [valV_no m] at hn
        cases hn
    have hn0 : ∀ n, valV kvs n = none → optsFor cs n = [("keep" : Str)] := fun n hn => by
      rcases hL.val hC.nd n with ⟨t, e, _⟩ | ⟨_, e⟩
      · rw [hn] at e; cases e
      · exact e
    have hSa : SameT ks cs cs2 := same_of hC hC2 hL2 hv0 hn0 r1 r2
    have hs3 := c3 _ _ sp hs2
    have hd3 := c3 _ _ dp hd
    have hcs3 : CellsAt G3 ks kvs := hcs.chgN hp2 c3
    have hL3 : LDict G3 kvs cs := hL.chgU hC hp2.choose_spec.choose_spec.choose_spec notx_int c3
    refine q_par (x := .str (textOf ks (cs.map lineOf))) (y := .str (textOf ks (cs2.map lineOf))) (ev_textM (ev_var rfl) (em_lines (ev_var rfl) hk hd3 hcs3 hl hL3) hk hs3 hC) (ev_textM (ev_var rfl) (em_lines (ev_var rfl) hk hd2 hcs2 hl2 hL2) hk hs3 hC2) fun G4 g4 => ?_
    refine q_parT (et_read ev_c (ev_var rfl) hk hC) (fun H5 _ => et_read ev_c (ev_var rfl) hk hC2) fun x y G5 g5 tx ty => ?_
    have T5 := tx.whole hk hC
    have U5 := ty.whole hk hC2
    have e35 := g4.trans g5
    have hp5 : Purse G5 p := hp3.ex e35
    have c05 : Chg p H G5 := ((c1.trans c2).trans c3).trans (Same.chg e35)
    have hs5 := e35 _ _ hs3
    have sb : ∀ {d e : Deed} {b : Bool}, d.ok ks → e.ok ks → turnedOf cs2 d e b = turnedOf cs d e b := fun okd oke => same_turned hSa hk okd oke
    refine ⟨_, rfl, s, ks, rfl, SqL.of hs5, hk, fun lp xs G6 e6 hlp hP => ⟨lp, rfl, ⟨_, SqL.of hlp⟩, for_list (K := K) (a := lp) (xs := xs)
      (fun i σ G => ∃ y8 y9, σ = [some (.ref p), some (.ref s), some (.ref D), some (.ref D2), some (.str (textOf ks (cs.map lineOf))), some (.str (textOf ks (cs2.map lineOf))), some (.ref x), some (.ref y), y8, y9, none, none, none, none, none] ∧ Ex G6 G)
      ⟨_, _, rfl, Ex.refl _⟩ (fun i σ G _ ⟨_, _, _, e⟩ => SqL.of (e _ _ hlp)) ?_ ?_⟩⟩
    · rintro i v σ G hi ⟨y8, y9, rfl, e0⟩
      obtain ⟨r, a, b, d, e, rfl, hr2, _, ha, hb, okd, oke⟩ := (hP v (List.mem_of_getElem? hi)).ex e0
      have e5G := e6.trans e0
      refine ⟨(by show 2 ≤ sizeLine; decide), fun c nc => ⟨c, rfl, ⟨_, SqL.of upd_same⟩, for_list (K := K) (a := c) (xs := [.bl true, .bl false])
        (fun j σ G' => ∃ y9, σ = [some (.ref p), some (.ref s), some (.ref D), some (.ref D2), some (.str (textOf ks (cs.map lineOf))), some (.str (textOf ks (cs2.map lineOf))), some (.ref x), some (.ref y), some (.ref r), y9, none, none, none, none, none] ∧ Ex G G' ∧ G' c = some (.lst [.bl true, .bl false]))
        ⟨_, rfl, Ex.new nc, upd_same⟩ (fun i σ G _ ⟨_, _, _, e⟩ => SqL.of e) ?_ ?_⟩⟩
      · rintro j v σ G1 hj ⟨y9, rfl, g1, hc1⟩
        obtain ⟨t, rfl⟩ : ∃ t : Bool, v = .bl t := by
          have := List.mem_of_getElem? hj
          rcases List.mem_cons.mp this with e | e
          · exact ⟨_, e⟩
          · exact ⟨_, List.mem_singleton.mp e⟩
        have T1 := T5.ex (e5G.trans g1)
        have U1 := U5.ex (e5G.trans g1)
        have few := fl_turned okd oke hk hC t
        have few2 := fl_turned okd oke hk hC2 t
        have hr1 := SqL.of (K := K) (g1 _ _ hr2)
        refine s_when (b := false) (et_is (et_test (ev_op (ev_reprT (es_passed (d := d) (e := e) (ev_var rfl) (ev_ixL (ev_var rfl) ev_c hr1 (atI_nat (j := 0) rfl)) (ev_ixL (ev_var rfl) ev_c hr1 (atI_nat (j := 1) rfl)) (ev_var rfl) T1 hk (ex_t g1 ha) (ex_t g1 hb) okd oke) few.1 few.2)
          (ev_is (ev_reprT (es_passed (d := d) (e := e) (first := t) (ev_var rfl) (ev_ixL (ev_var rfl) ev_c hr1 (atI_nat (j := 0) rfl)) (ev_ixL (ev_var rfl) ev_c hr1 (atI_nat (j := 1) rfl)) (ev_var rfl) U1 hk (ex_t g1 ha) (ex_t g1 hb) okd oke) few2.1 few2.2) (show V.str (shownT (turnedOf cs2 d e t)) = V.str (shownT (turnedOf cs d e t)) from by rw [sb okd oke])) (rv_ne rfl))) (by rw [decide_eq_true rfl]; rfl)) (fun z => by cases z) (fun _ G9 g9 => ?_)
        exact ⟨_, rfl, g1.trans g9, g9 _ _ hc1⟩
      · rintro σ G1 ⟨y9, rfl, g1, _⟩
        exact ⟨_, _, rfl, e0.trans g1⟩
    · rintro σ G ⟨y8, y9, rfl, e0⟩
      have e5G := e6.trans e0
      refine ⟨(6 : Int), rfl, by decide, by decide, for_range (lo := 0) (n := (6 : Int).toNat)
        (fun i σ G => ∃ y10 y11 y12 y13 y14, σ = [some (.ref p), some (.ref s), some (.ref D), some (.ref D2), some (.str (textOf ks (cs.map lineOf))), some (.str (textOf ks (cs2.map lineOf))), some (.ref x), some (.ref y), y8, y9, y10, y11, y12, y13, y14] ∧ Chg p H G ∧ Purse G p ∧ G s = some (.lst (sl ks)) ∧ TabW K C G x ks cs ∧ TabW K C G y ks cs2)
        ⟨_, _, _, _, _, rfl, c05.trans (Same.chg e5G), hp5.ex e5G, e5G _ _ hs5, T5.ex e5G, U5.ex e5G⟩ ?_ ?_⟩
      · rintro i σ G hi ⟨y10, y11, y12, y13, y14, rfl, cG, hpG, hsG, TG, UG⟩
        have chT : ∀ {G' : Hp} {x : Addr} {cs : List Cell}, TabW K C G x ks cs → Chg p G G' → TabW K C G' x ks cs := fun {G'} {x} {cs} T c => by
          obtain ⟨d, z, w, w2⟩ := hpG
          exact T.chgU hk w2 c
        refine ⟨_, rfl, _, rfl, p, 9, rfl, hpG, by decide, by decide, fun n8 G1 n0 n1 hp1 c1 => ?_⟩
        obtain ⟨n, rfl⟩ := Int.eq_ofNat_of_zero_le n0
        refine ⟨p, n, rfl, hp1, by omega, fun z G2 hza hzl hp2 c2 => ⟨_, rfl, p, 6, rfl, hp2, by decide, by decide, fun m6 G3 m0 m1 hp3 c3 => ⟨_, _, rfl, rfl, _, _, rfl, ?_⟩⟩⟩
        obtain ⟨m, hm⟩ : ∃ m : Nat, 1 + m6 = (m : Int) := ⟨(1 + m6).toNat, by omega⟩
        have hm0 : 0 < m := by omega
        have hm6 : m ≤ 6 := by omega
        have hz8 : z.length ≤ 8 := by omega
        have c03 := (c1.trans c2).trans c3
        refine ⟨_, rfl, _, rfl, _, rfl, z, rfl, (by rw [sizeLine_eq]; omega), _, rfl, p, s, z.length, m, ks, (congrArg (fun q => [V.ref p, V.ref s, V.int z.length, V.int q]) hm), hp3, c03 _ _ sp hsG, sp, hk, by omega, by omega, fun a vs fs G4 hp4 c4 ha hE hfl hbd => ?_⟩
        have c04 := c03.trans c4
        have hb : ∀ d ∈ fs, d.okb ks 0 (z.length : Int) := fun d hd => okb_mono (hbd d hd) (Int.le_refl _) (by split <;> omega)
        have hpl : ∀ d ∈ fs, playS z d ≠ none := fun d hd => play_some rfl (hbd d hd)
        have rg : rgV 0 (1 + m6) = lnV (List.range m) := by
          rw [hm]
          unfold rgV lnV
          rw [show ((m : Int) - 0).toNat = m by omega]
          exact List.map_congr_left fun k _ => by show V.int (0 + (k : Int)) = V.int (k : Int); rw [Int.zero_add]
        refine ⟨_, rfl, _, rfl, (1 + m6), rfl, RgOk.of_le (by omega) (by omega) (by omega) (by omega), fun lr nlr => ?_⟩
        rw [rg]
        refine ⟨p, lr, _, rfl, hp4.new nlr, SqL.of upd_same, (hp4.ne nlr).symm, (by unfold lnV; rw [List.length_map, List.length_range]; omega), fun l ys G5 c5 hp5 nl lp hl pmy => ⟨l, ys, rfl, .inl ⟨SqL.of hl, fun lt nlt => ?_⟩⟩⟩
        obtain ⟨line, rfl, pm⟩ := perm_lnV pmy
        rw [← hfl] at pm
        have c45 : Chg p G4 (upd G5 lt (.tup (lnV line))) := (((Chg.refl p G4).new nlr).trans c5).new nlt
        have hlt : SqT K (upd G5 lt (.tup (lnV line))) lt (lnV line) := SqT.of upd_same
        have hp6 : Purse (upd G5 lt (.tup (lnV line))) p := hp5.new nlt
        generalize upd G5 lt (.tup (lnV line)) = G6 at c45 hlt hp6 ⊢
        have c06 := c04.trans c45
        have ha6 := sqt_chgP ha hp4 c45
        have hE6 := hE.chgP hp4 c45
        have T6 := chT TG c06
        have U6 := chT UG c06
        have bnd : ∀ r, endS cs z fs line = some r → Abc r ∧ r.length ≤ 100000 := fun r hr => by
          obtain ⟨r1, r2⟩ := endS_abc line hza (fun d hd => letok (hb d hd)) hr
          refine ⟨r1, ?_⟩
          have ll : line.length = m := by rw [pm.length_eq, List.length_range, hfl]
          have p6 : 2 ^ line.length ≤ 64 := by
            rw [ll]
            exact (show ∀ m, m ≤ 6 → 2 ^ m ≤ 64 by decide) m hm6
          have := Nat.mul_le_mul (show z.length + 1 ≤ 9 by omega) p6
          omega
        have se : endS cs2 z fs line = endS cs z fs line := same_ends hSa hC line z fs fun d hd => ⟨_, _, hb d hd⟩
        refine s_when (b := false) (et_is (et_test (ev_op (ev_reprO (ev_ended (ev_var rfl) (ev_var rfl) (ev_var rfl) (ev_var rfl) T6 hk hC ha6 hE6 hb (by omega) (by omega) (by omega) hpl hlt pm hza (by omega)) bnd)
          (ev_is (ev_reprO (o := endS cs2 z fs line) (ev_ended (ev_var rfl) (ev_var rfl) (ev_var rfl) (ev_var rfl) U6 hk hC2 ha6 hE6 hb (by omega) (by omega) (by omega) hpl hlt pm hza (by omega)) (by rw [se]; exact bnd)) (show V.str (dO (endS cs2 z fs line)).shown = V.str (dO (endS cs z fs line)).shown from by rw [se])) (rv_ne rfl))) (by rw [decide_eq_true rfl]; rfl)) (fun z => by cases z) (fun _ G9 g9 => ?_)
        have c09 := c06.trans (Same.chg g9)
        exact ⟨_, _, _, _, _, rfl, cG.trans c09, hp6.ex g9, c09 _ _ sp hsG, T6.ex g9, U6.ex g9⟩
      · rintro σ G ⟨y10, y11, y12, y13, y14, rfl, cG, hpG, hsG, TG, UG⟩
        have lo1 := lo_tab hk hC
        have lo2 := lo_tab hk hC2
        have sy : decide (cs2.map lineOf = cs.map lineOf) = decide (cs.map lineOf = cs2.map lineOf) := decide_eq_decide.mpr ⟨Eq.symm, Eq.symm⟩
        have tq : decide (textOf ks (cs.map lineOf) = textOf ks (cs2.map lineOf)) = decide (cs.map lineOf = cs2.map lineOf) := decide_eq_decide.mpr (text_inj hk hC hC2)
        have all : ∀ a b : Bool, (PyData.list ([a, b].map PyData.bool)).showable = true ∧ (PyData.list ([a, b].map PyData.bool)).hasDict = false ∧ (PyData.list ([a, b].map PyData.bool)).depth ≤ 32 ∧ (PyData.list ([a, b].map PyData.bool)).shown.length ≤ sizeLine := by
          intro a b
          cases a <;> cases b <;> exact ⟨by decide +kernel, by decide +kernel, by decide +kernel, by decide +kernel⟩
        obtain ⟨o1, o2, o3, o4⟩ := all (decide (cs.map lineOf = cs2.map lineOf)) (!decide (cs.map lineOf = cs2.map lineOf))
        refine s_ret (ev_is (ev_eqS (ev_reprB2 (bs := [decide (cs.map lineOf = cs2.map lineOf), !decide (cs.map lineOf = cs2.map lineOf)]) (el_lst (ea_cons
            (ev_is (ev_eqO (neg := false) (ev_var rfl) (ev_var rfl) TG.at UG.at lo1 lo2) (by rw [decide_eq_true (rfl : ks = ks)]; rfl))
            (ea_cons (ev_is (ev_eqO (neg := true) (ev_var rfl) (ev_var rfl) UG.at TG.at lo2 lo1) (by rw [decide_eq_true (rfl : ks = ks), sy]; rfl)) ea_nil)) (by show 2 ≤ 100000; decide)) o1 o2 o3 o4)
          (ev_reprB2 (bs := [decide (cs.map lineOf = cs2.map lineOf), !decide (cs.map lineOf = cs2.map lineOf)]) (el_lst (ea_cons
            (ev_is (ev_eqS (ev_var rfl) (ev_var rfl)) (by rw [tq]))
            (ea_cons (ev_is (ev_neS (ev_var rfl) (ev_var rfl)) (by rw [tq])) ea_nil)) (by show 2 ≤ 100000; decide)) o1 o2 o3 o4)) (by rw [decide_eq_true rfl])) fun G9 g9 => q G9 (cG.trans (Same.chg g9))
end
end T
namespace T
open PySem PySem.Spec PyProof.Rows L2 Evl XB TL XS XI XC ClX
section
variable {P : Program} {w : World} {K : PySem.W.Frag} {mg : Str → Option Value} {base : Heap} {C : Addr}
def spLaw (K : PySem.W.Frag) : Sp := fun vs H Q _ => ∃ (a : Addr) (ns : List Int), vs = [.ref a] ∧ SqL K H a (ns.map V.int) ∧ ns.length ≤ 1000 ∧ ∀ H', Q (.bl true) H'
theorem c_law {f : Addr} {fd : FuncData} (F : Fun K "law" "law" s_law f fd) (B : Bl mg) (Cp : C8.Cal P w K mg base 1 "_law_purse" (spPurse K) []) (Cr : CalG P w K mg base 8 "_law_right" spRight) :
    XG.FnG P w K mg base CX0 9 f fd ["script"] (spLaw K) := by
  refine XG.okG F sc_law (fun vs H Q E h => ?_) (fun cdv A outer s H vs Q E hc hr h => ?_)
  · obtain ⟨a, ns, rfl, _⟩ := h
    rfl
  · obtain ⟨a, ns, rfl, hS, hl, q⟩ := h
    refine ⟨_, pss_cons (ps_for PassesOwn.never rfl (pi_range1 (by rfl) B.range (pa_cons (pe_callB (call_max2 (by rfl)) (by rfl) B.max_ (by decide +kernel) (pa_cons pe_int (pa_cons (pe_callB (call_min2 (by rfl)) (by rfl) B.min_ (by decide +kernel) (pa_cons (pe_callB call_len_seq (by rfl) B.len (by decide +kernel) (pa_cons (pv 0) pa_nil)) (pa_cons pe_int pa_nil))) pa_nil))) pa_nil)) (pg_name (i := 1) sc_law.nd rfl (.inl rfl))
        (pss_one (ps_if (pt_not (pt_val (pe_cG Cr hc hr (by decide) (by rfl) (pa_cons (C8.pe_c Cp hr (by decide) (by rfl) (pa_cons (pv 0) (pa_cons (pv 1) pa_nil))) pa_nil)))) (pss_one (ps_ret pe_bl)) pss_nil)))
      (pss_one (ps_ret pe_bl)), ?_⟩
    refine ⟨_, rfl, a, _, rfl, .inl hS, _, _, rfl, _, _, rfl, ?_⟩
    have hm : ∀ n : Int, 0 ≤ n → 0 ≤ (if (if (4 : Int) < n then 4 else n) > 2 then (if (4 : Int) < n then 4 else n) else 2) ∧ (if (if (4 : Int) < n then 4 else n) > 2 then (if (4 : Int) < n then 4 else n) else 2) ≤ 4 := fun n h => by
      split <;> split <;> omega
    obtain ⟨m0, m5⟩ := hm (((ns.map V.int).length : Nat) : Int) (by omega)
    generalize (if (if (4 : Int) < (((ns.map V.int).length : Nat) : Int) then 4 else (((ns.map V.int).length : Nat) : Int)) > 2 then (if (4 : Int) < (((ns.map V.int).length : Nat) : Int) then 4 else (((ns.map V.int).length : Nat) : Int)) else 2) = n at m0 m5 ⊢
    refine ⟨n, rfl, by omega, by omega, for_range (lo := 0) (n := n.toNat) (fun i σ G => ∃ y1, σ = [some (.ref a), y1] ∧ Same H G) ⟨none, rfl, Same.refl H⟩ ?_ ?_⟩
    · rintro i σ G hi ⟨y1, rfl, sG⟩
      have hi5 : i < 4 := by omega
      refine ⟨_, rfl, _, rfl, a, ns, 0 + (i : Int), rfl, sG.seq hS, by omega, by omega, hl, fun p G1 s1 n1 hp1 => ⟨p, rfl, hp1, fun G2 c2 => ⟨true, rfl, ?_⟩⟩⟩
      refine iteF ⟨_, rfl, fun b o hb => ?_⟩
      have hb1 := s1 _ _ (sG _ _ hb)
      exact c2 b o (ne_of_none (sG _ _ hb) n1) hb1
    · rintro σ G ⟨y1, rfl, sG⟩
      exact q G
end
end T
namespace T
open PySem PySem.Spec PyProof.Rows L2 Evl XB TL XS XI XC ClX
section
variable {P : Program} {w : World} {K : PySem.W.Frag} {mg : Str → Option Value} {base : Heap} {C : Addr}
theorem vals_swp {vs : List V} {us : List Value} (r : Vals vs us) : Vals (swp vs) (swp us) := by
  cases r with
  | nil => exact .nil
  | cons a r => cases r with
    | nil => exact .nil
    | cons b r => cases r with
      | nil => exact .cons b (.cons a .nil)
      | cons c r => exact .nil
/-- how __init__ is bound -/
theorem init_binds {f : Addr} {fd : FuncData} {ae : Addr} (F : FunD K "__init__" "Table.__init__" (defArgs s_Table___init__) (defBody s_Table___init__) (defScope s_Table___init__) [.ref ae] [] f fd) :
    Binds K fd psI [] ∧ (∃ ds : List Value, Vals [.ref ae] ds ∧ Binds K fd psI ds) ∧
    (∃ its : List Value, KBn K fd psI 1 ["rows", "kinds"] (fun us ws => us ++ swp ws) (fun vs zs => vs ++ swp zs)) ∧ KBn K fd psI 1 ["kinds", "rows"] (fun us ws => us ++ ws) (fun vs zs => vs ++ zs) := by
  refine ⟨?_, ?_, ?_, ?_⟩
  · obtain ⟨ds, h1, h2⟩ := F.binds1 (ps := psI) 3 1 (by simp) rfl fun T kV doc pm an cdv ct us its e1 e2 => match us, its, e1, e2 with
      | [_, _, _], [_], _, _ => ⟨_, rfl, rfl⟩
    cases h1
    exact h2
  · exact F.binds1 (ps := psI) 2 0 (by simp) rfl fun T kV doc pm an cdv ct us its e1 e2 => match us, its, e1, e2 with
      | [_, _], [_], _, _ => ⟨_, rfl, rfl⟩
  · obtain ⟨its, h⟩ := F.kbinds1 (ps := psI) 1 ["rows", "kinds"] (fun us _ ws => us ++ swp ws) (fun vs _ zs => vs ++ swp zs) (by simp) (fun r1 _ r3 => r1.append (vals_swp r3)) fun T kV doc pm an cdv ct us its ws e1 e2 e3 => match us, its, ws, e1, e2, e3 with
      | [_], [_], [_, _], _, _, _ => ⟨_, rfl, rfl⟩
    exact ⟨its, h⟩
  · obtain ⟨its, h⟩ := F.kbinds1 (ps := psI) 1 ["kinds", "rows"] (fun us _ ws => us ++ ws) (fun vs _ zs => vs ++ zs) (by simp) (fun r1 _ r3 => r1.append r3) fun T kV doc pm an cdv ct us its ws e1 e2 e3 => match us, its, ws, e1, e2, e3 with
      | [_], [_], [_, _], _, _, _ => ⟨_, rfl, rfl⟩
    exact h
/-- what the program's top has left -/
structure Top (K : PySem.W.Frag) (w : World) (mg : Str → Option Value) (C : Addr) : Prop where
  B : Bl mg
  purse : At K mg "_law_purse" s__law_purse ["script", "k"]
  draw : At K mg "_law_draw" s__law_draw ["purse", "size"]
  pick : At K mg "_law_pick" s__law_pick ["purse", "menu"]
  sorts : At K mg "_law_sorts" s__law_sorts ["purse"]
  keys : At K mg "_law_keys" s__law_keys ["sorts"]
  shuf : At K mg "_law_shuffled" s__law_shuffled ["purse", "some"]
  opts : At K mg "_law_options" s__law_options ["purse", "mine", "its", "sorts"]
  cells : At K mg "_law_cells" s__law_cells ["purse", "sorts"]
  lines : At K mg "_law_lines" s__law_lines ["cells"]
  text : At K mg "_law_text" s__law_text ["sorts", "lines"]
  right : At K mg "_law_right" s__law_right ["purse"]
  word : At K mg "is_word" s_is_word ["value", "words"]
  kinds : At K mg "are_kinds" s_are_kinds ["value"]
  cell : At K mg "is_cell" s_is_cell ["value", "kinds"]
  cellOf : At K mg "cell_of" s_cell_of ["row"]
  optsOf : At K mg "options_of" s_options_of ["row"]
  conds : At K mg "conditions_for" s_conditions_for ["mine", "its"]
  res : At K mg "results_for" s_results_for ["mine", "kinds"]
  row : At K mg "is_row" s_is_row ["value", "kinds"]
  first : At K mg "first_wrong_row" s_first_wrong_row ["rows", "kinds"]
  kr : At K mg "kinds_and_rows" s_kinds_and_rows ["text"]
  isText : At K mg "is_table_text" s_is_table_text ["value"]
  isInt : At K mg "is_integer" s_is_integer ["value"]
  isPlace : At K mg "is_place" s_is_place ["value"]
  isSign : At K mg "is_sign" s_is_sign ["value"]
  isEdit : At K mg "is_edit" s_is_edit ["value"]
  isEditOf : At K mg "is_edit_of" s_is_edit_of ["value", "kinds"]
  cmp : At K mg "compared" s_compared ["mine", "its", "words"]
  met : At K mg "conditions_met" s_conditions_met ["edit", "past", "first"]
  chosen : At K mg "chosen" s_chosen ["options", "met"]
  formed : At K mg "formed" s_formed ["edit", "result"]
  turned : At K mg "turned" s_turned ["table", "edit", "past", "first"]
  lsign : At K mg "_law_sign" s__law_sign ["purse"]
  deed : At K mg "_law_deed" s__law_deed ["purse", "sorts", "low", "high"]
  isList : At K mg "is_list" s_is_list ["value"]
  behind : At K mg "list_behind" s_list_behind ["text", "edit"]
  askT : At K mg "ask_for_table" s_ask_for_table ["value"]
  fwe : At K mg "first_wrong_edit" s_first_wrong_edit ["edits", "kinds", "text"]
  arr : At K mg "is_arrival" s_is_arrival ["value", "many"]
  endOf : At K mg "end_of" s_end_of ["table", "text", "edits", "arrival"]
  made_ : At K mg "_law_made" s__law_made ["purse", "sorts", "size", "count"]
  lrow : At K mg "_law_row" s__law_row ["purse", "size"]
  ended : At K mg "ended" s_ended ["table", "text", "edits", "arrival"]
  wordy : At K mg "_law_wordy" s__law_wordy ["purse", "some", "key"]
  rew : At K mg "_law_rewritten" s__law_rewritten ["purse", "sorts", "cells"]
  pairs : At K mg "_law_pairs" s__law_pairs ["sorts"]
  tK : TupC K mg "KINDS" KINDSc
  tR : TupC K mg "RELATIONS" rels
  tS : TupC K mg "KINDS_WITH_SIGN" ["put", "set"]
  tC : TupC K mg "SIGN_CONDITIONS" ["less", "same", "more"]
  tE : TupC K mg "RESULTS" ["keep", "up", "down", "stay"]
  most : ∃ t, mg "MOST_OPTIONS" = some (.int 5 t)
  least : ∃ t, mg "LEAST_PLACE" = some (.int (-9) t)
  mostP : ∃ t, mg "MOST_PLACE" = some (.int (10 ^ 12) t)
  mostS : ∃ t, mg "MOST_SIGNS" = some (.int 1000 t)
  mostE : ∃ t, mg "MOST_EDITS" = some (.int 6 t)
  step : StepC K w mg
  T : TabC K mg C
  I : C8.InsC K C
  init : ∃ (f : Addr) (fd : FuncData) (ae : Addr), Mk K C f ∧ FunD K "__init__" "Table.__init__" (defArgs s_Table___init__) (defBody s_Table___init__) (defScope s_Table___init__) [.ref ae] [] f fd ∧ ∀ H, SqT K H ae []
  pkinds : ProD K C "kinds" "Table.kinds" s_Table_kinds
  get : ∃ (f : Addr) (fd : FuncData), XGt.GetC K C f ∧ Fun K "__getitem__" "Table.__getitem__" s_Table___getitem__ f fd ∧ Binds K fd ["self", "at"] []
  pas : ∃ (f : Addr) (fd : FuncData), Meth K C "passed" f ∧ Fun K "passed" "Table.passed" s_Table_passed f fd ∧ Binds K fd ["self", "edit", "past", "first"] []
  read : ∃ (g pm : Addr) (mc : Value) (fd : FuncData), CRead K C mc ∧ CMet K C mc "read" pm g ∧ Fun K "read" "Table.read" s_Table_read g fd ∧ Binds K fd ["cls", "text"] [] ∧ KBn K fd ["cls", "text"] 1 ["text"] (fun us ws => us ++ ws) (fun vs zs => vs ++ zs)
  eq : ∃ (f : Addr) (fd : FuncData), EqC K C f ∧ Fun K "__eq__" "Table.__eq__" s_Table___eq__ f fd ∧ Binds K fd ["self", "other"] []
  so : mg "sorted" = none
  endF : ∃ (f : Addr) (fd : FuncData), mg "ended" = some (.ref f) ∧ PySem.W.keepIn K (.ref f) = true ∧ Fun K "ended" "ended" s_ended f fd ∧ Binds K fd ["table", "text", "edits", "arrival"] []
theorem law_all {f : Addr} {fd : FuncData} (F : Fun K "law" "law" s_law f fd) (t : Top K w mg C) : XG.FnG P w K mg base CX0 9 f fd ["script"] (spLaw K) := by
  obtain ⟨tk, mo⟩ := t.most
  obtain ⟨t1, lo⟩ := t.least
  obtain ⟨t2, hi⟩ := t.mostP
  have Cdraw := c_draw (P := P) (w := w) (base := base) t.draw t.B
  have Cpick := c_pick t.pick t.B Cdraw
  have Csorts := c_sorts t.sorts t.B Cpick
  have Ckeys := c_keys (P := P) (w := w) (base := base) t.keys
  have Cshuf := c_shuf t.shuf t.B Cdraw
  have Copts := c_opts t.opts t.B Cpick
  have Ccells := c_cells t.cells Ckeys Cshuf Cdraw Copts
  have Clines := c_lines (P := P) (w := w) (base := base) t.lines t.B
  have Ctext := c_text (P := P) (w := w) (base := base) t.text
  have Cword := c_word (P := P) (w := w) (base := base) t.word t.B
  have Ckinds := c_kinds t.kinds t.B t.tK Cword
  have Ccell := c_isCell t.cell t.B t.tR Cword
  have CcellOf := c_cellOf (P := P) (w := w) (base := base) t.cellOf t.B
  have CoptsOf := c_optsOf (P := P) (w := w) (base := base) t.optsOf t.B
  have Cconds := c_conds (P := P) (w := w) (base := base) t.conds t.tS t.tC
  have Cres := c_res (P := P) (w := w) (base := base) t.res t.tE
  have Crow := c_isRow t.row t.B mo Ccell CcellOf CoptsOf Cconds Cres
  have Cfirst := c_first t.first t.B Crow CcellOf
  obtain ⟨fi, fdi, ae, Mi, Fi, he⟩ := t.init
  have Ci := c_init Fi t.B t.T Ckinds Cfirst CcellOf CoptsOf
  obtain ⟨b1, ⟨ds, v2, b2⟩, b3, b4⟩ := init_binds Fi
  have M : TabM P w K mg base C := ⟨t.T, t.I, fi, fdi, Mi, Ci, b1, ⟨ae, ds, v2, b2, he⟩, b3, b4⟩
  have Ckr := c_kr (P := P) (w := w) (base := base) t.kr t.B
  have CisText := c_isText t.isText t.B Ckr Ckinds Cfirst
  have C1 := c_isInt (P := P) (w := w) (base := base) t.isInt t.B t.B.int_
  have C2 := c_isPlace t.isPlace lo hi C1
  have C3 := c_isSign (P := P) (w := w) (base := base) t.isSign t.B
  have C4 := c_isEdit t.isEdit t.B t.tS Cword C2 C3
  have C5 := c_isEditOf t.isEditOf C4
  have C6 := c_cmp (P := P) (w := w) (base := base) t.cmp
  have C7 := c_met t.met t.B t.tC C6
  have C8' := c_chosen (P := P) (w := w) (base := base) t.chosen
  have C9 := c_formed (P := P) (base := base) t.formed t.step
  have Clsign := c_lsign t.lsign Cpick
  have Cdeed := c_ldeed2 t.deed Cdraw Cpick Clsign
  obtain ⟨fg, fdg2, GC, Fgt, bgt⟩ := t.get
  have Cg := c_get (P := P) (w := w) (base := base) Fgt t.T Ccell
  have C10 := c_turned t.turned t.tR GC Cg bgt C6 C7 C8' C9
  obtain ⟨fp, fdp, MP, Fp, bp⟩ := t.pas
  have C11 := c_passed Fp t.T C5 C10
  obtain ⟨g, pm, mc, fdg, cr, cm, Fg, bg, kg⟩ := t.read
  obtain ⟨fq, fdq, EC, Feq, beq⟩ := t.eq
  obtain ⟨t3, ms⟩ := t.mostS
  obtain ⟨t4, me⟩ := t.mostE
  obtain ⟨fe, fde, hme, kpe, Fee, bee⟩ := t.endF
  have Pk := p_kinds (P := P) (w := w) (base := base) t.pkinds t.T
  have CisList := c_isList t.isList t.B ms C3
  have Cbehind := c_behind (P := P) (w := w) (base := base) t.behind t.B
  have CaskT := c_ask t.askT t.B M
  have Cfwe := c_fwe t.fwe t.B me C5 Cbehind
  have Carr := c_arr t.arr t.B t.so C1
  have CendOf := c_endOf t.endOf t.B Cbehind C10
  have Cmade := c_made t.made_ t.B Cpick Cdeed
  have Crow_ := c_row t.lrow t.B Clsign
  have Fe := c_ended Fee t.B M Pk CaskT CisList Cfwe Carr CendOf
  have Ced : C8.Cal P w K mg base 7 "ended" (spEnded K C) [] := ⟨fe, fde, _, [], Fe, hme, kpe, bee, .nil⟩
  have CkeysN := c_keysN (P := P) (w := w) (base := base) t.keys
  have Cwordy := c_wordy t.wordy t.B Cdraw Cpick
  have Crew := c_rew t.rew CkeysN Cshuf Cdraw Cwordy
  have Cpairs := c_pairs t.pairs CkeysN
  have R : RdM19 P w K mg base C := ⟨⟨g, pm, mc, fdg, cr, cm, c_read Fg M Ckr CisText, bg⟩, ⟨fq, fdq, EC, c_eq Feq t.B t.T t.I, beq⟩⟩
  have Cright := c_right t.right t.B t.T R MP C11 bp Ced Csorts Ccells Crew Cpairs Clines Ctext Cdraw Cshuf Crow_ Cmade
  exact c_law F t.B (c_purse (P := P) (w := w) (base := base) t.purse t.B) Cright
end
end T
namespace T
open PySem PySem.Spec PyProof.Rows L2 Evl XB TL XS XI XC ClX
theorem tupC_mk {K : PySem.W.Frag} {h : Heap} {mg : Str → Option Value} {x : Str} {ws : List Str} {a n : Nat} {od : Option Addr} {its : Array Value} {sl' : Array (Option Value)} (X : K.In h) (G : h.Ns mainGlobals mg) (ha : PySem.W.nsIn K mainGlobals x = some (some (.ref a)))
    (l : K.lookup a = some ⟨.type "tuple", od, .seq its n, sl'⟩) (hv : Vals (sl ws) its.toList) (hz : its.size ≤ sizeLine) : TupC K mg x ws := ⟨a, PySem.W.mg_of X G ha, fun H => .inr ⟨_, its, n, l, rfl, rfl, hz, hv⟩⟩
theorem me_self {K : PySem.W.Frag} {C : Addr} : PySem.W.kitOne K (.ref C) (.ref C) = some true := by
  unfold PySem.W.kitOne
  rw [if_pos (beq_self_eq_true _)]
theorem top_mk {P : Program} {w : World} {K : PySem.W.Frag} {h : Heap} {mg : Str → Option Value} {fa : Addr} (X : K.In h) (G : h.Ns mainGlobals mg) (hfa : mg "law" = some (.ref fa))
    {f_law : Addr} {od_law an_law : Option Addr} {sl_law : Array (Option Value)} {oc_law kV_law dc_law pm_law cd_law ct_law : Value}
    {f_purse : Addr} {od_purse an_purse : Option Addr} {sl_purse : Array (Option Value)} {oc_purse kV_purse dc_purse pm_purse cd_purse ct_purse : Value}
    {f_draw : Addr} {od_draw an_draw : Option Addr} {sl_draw : Array (Option Value)} {oc_draw kV_draw dc_draw pm_draw cd_draw ct_draw : Value}
    {f_pick : Addr} {od_pick an_pick : Option Addr} {sl_pick : Array (Option Value)} {oc_pick kV_pick dc_pick pm_pick cd_pick ct_pick : Value}
    {f_sorts : Addr} {od_sorts an_sorts : Option Addr} {sl_sorts : Array (Option Value)} {oc_sorts kV_sorts dc_sorts pm_sorts cd_sorts ct_sorts : Value}
    {f_keys : Addr} {od_keys an_keys : Option Addr} {sl_keys : Array (Option Value)} {oc_keys kV_keys dc_keys pm_keys cd_keys ct_keys : Value}
    {f_shuf : Addr} {od_shuf an_shuf : Option Addr} {sl_shuf : Array (Option Value)} {oc_shuf kV_shuf dc_shuf pm_shuf cd_shuf ct_shuf : Value}
    {f_opts : Addr} {od_opts an_opts : Option Addr} {sl_opts : Array (Option Value)} {oc_opts kV_opts dc_opts pm_opts cd_opts ct_opts : Value}
    {f_cells : Addr} {od_cells an_cells : Option Addr} {sl_cells : Array (Option Value)} {oc_cells kV_cells dc_cells pm_cells cd_cells ct_cells : Value}
    {f_lines : Addr} {od_lines an_lines : Option Addr} {sl_lines : Array (Option Value)} {oc_lines kV_lines dc_lines pm_lines cd_lines ct_lines : Value}
    {f_text : Addr} {od_text an_text : Option Addr} {sl_text : Array (Option Value)} {oc_text kV_text dc_text pm_text cd_text ct_text : Value}
    {f_right : Addr} {od_right an_right : Option Addr} {sl_right : Array (Option Value)} {oc_right kV_right dc_right pm_right cd_right ct_right : Value}
    {f_word : Addr} {od_word an_word : Option Addr} {sl_word : Array (Option Value)} {oc_word kV_word dc_word pm_word cd_word ct_word : Value}
    {f_kinds : Addr} {od_kinds an_kinds : Option Addr} {sl_kinds : Array (Option Value)} {oc_kinds kV_kinds dc_kinds pm_kinds cd_kinds ct_kinds : Value}
    {f_cell : Addr} {od_cell an_cell : Option Addr} {sl_cell : Array (Option Value)} {oc_cell kV_cell dc_cell pm_cell cd_cell ct_cell : Value}
    {f_cellOf : Addr} {od_cellOf an_cellOf : Option Addr} {sl_cellOf : Array (Option Value)} {oc_cellOf kV_cellOf dc_cellOf pm_cellOf cd_cellOf ct_cellOf : Value}
    {f_optsOf : Addr} {od_optsOf an_optsOf : Option Addr} {sl_optsOf : Array (Option Value)} {oc_optsOf kV_optsOf dc_optsOf pm_optsOf cd_optsOf ct_optsOf : Value}
    {f_conds : Addr} {od_conds an_conds : Option Addr} {sl_conds : Array (Option Value)} {oc_conds kV_conds dc_conds pm_conds cd_conds ct_conds : Value}
    {f_res : Addr} {od_res an_res : Option Addr} {sl_res : Array (Option Value)} {oc_res kV_res dc_res pm_res cd_res ct_res : Value}
    {f_row : Addr} {od_row an_row : Option Addr} {sl_row : Array (Option Value)} {oc_row kV_row dc_row pm_row cd_row ct_row : Value}
    {f_first : Addr} {od_first an_first : Option Addr} {sl_first : Array (Option Value)} {oc_first kV_first dc_first pm_first cd_first ct_first : Value}
    {f_kr : Addr} {od_kr an_kr : Option Addr} {sl_kr : Array (Option Value)} {oc_kr kV_kr dc_kr pm_kr cd_kr ct_kr : Value}
    {f_isText : Addr} {od_isText an_isText : Option Addr} {sl_isText : Array (Option Value)} {oc_isText kV_isText dc_isText pm_isText cd_isText ct_isText : Value}
    {f_isInt : Addr} {od_isInt an_isInt : Option Addr} {sl_isInt : Array (Option Value)} {oc_isInt kV_isInt dc_isInt pm_isInt cd_isInt ct_isInt : Value}
    {f_isPlace : Addr} {od_isPlace an_isPlace : Option Addr} {sl_isPlace : Array (Option Value)} {oc_isPlace kV_isPlace dc_isPlace pm_isPlace cd_isPlace ct_isPlace : Value}
    {f_isSign : Addr} {od_isSign an_isSign : Option Addr} {sl_isSign : Array (Option Value)} {oc_isSign kV_isSign dc_isSign pm_isSign cd_isSign ct_isSign : Value}
    {f_isEdit : Addr} {od_isEdit an_isEdit : Option Addr} {sl_isEdit : Array (Option Value)} {oc_isEdit kV_isEdit dc_isEdit pm_isEdit cd_isEdit ct_isEdit : Value}
    {f_isEditOf : Addr} {od_isEditOf an_isEditOf : Option Addr} {sl_isEditOf : Array (Option Value)} {oc_isEditOf kV_isEditOf dc_isEditOf pm_isEditOf cd_isEditOf ct_isEditOf : Value}
    {f_cmp : Addr} {od_cmp an_cmp : Option Addr} {sl_cmp : Array (Option Value)} {oc_cmp kV_cmp dc_cmp pm_cmp cd_cmp ct_cmp : Value}
    {f_met : Addr} {od_met an_met : Option Addr} {sl_met : Array (Option Value)} {oc_met kV_met dc_met pm_met cd_met ct_met : Value}
    {f_chosen : Addr} {od_chosen an_chosen : Option Addr} {sl_chosen : Array (Option Value)} {oc_chosen kV_chosen dc_chosen pm_chosen cd_chosen ct_chosen : Value}
    {f_formed : Addr} {od_formed an_formed : Option Addr} {sl_formed : Array (Option Value)} {oc_formed kV_formed dc_formed pm_formed cd_formed ct_formed : Value}
    {f_turned : Addr} {od_turned an_turned : Option Addr} {sl_turned : Array (Option Value)} {oc_turned kV_turned dc_turned pm_turned cd_turned ct_turned : Value}
    {f_lsign : Addr} {od_lsign an_lsign : Option Addr} {sl_lsign : Array (Option Value)} {oc_lsign kV_lsign dc_lsign pm_lsign cd_lsign ct_lsign : Value}
    {f_deed : Addr} {od_deed an_deed : Option Addr} {sl_deed : Array (Option Value)} {oc_deed kV_deed dc_deed pm_deed cd_deed ct_deed : Value}
    {f_isList : Addr} {od_isList an_isList : Option Addr} {sl_isList : Array (Option Value)} {oc_isList kV_isList dc_isList pm_isList cd_isList ct_isList : Value}
    {f_behind : Addr} {od_behind an_behind : Option Addr} {sl_behind : Array (Option Value)} {oc_behind kV_behind dc_behind pm_behind cd_behind ct_behind : Value}
    {f_askT : Addr} {od_askT an_askT : Option Addr} {sl_askT : Array (Option Value)} {oc_askT kV_askT dc_askT pm_askT cd_askT ct_askT : Value}
    {f_fwe : Addr} {od_fwe an_fwe : Option Addr} {sl_fwe : Array (Option Value)} {oc_fwe kV_fwe dc_fwe pm_fwe cd_fwe ct_fwe : Value}
    {f_arr : Addr} {od_arr an_arr : Option Addr} {sl_arr : Array (Option Value)} {oc_arr kV_arr dc_arr pm_arr cd_arr ct_arr : Value}
    {f_endOf : Addr} {od_endOf an_endOf : Option Addr} {sl_endOf : Array (Option Value)} {oc_endOf kV_endOf dc_endOf pm_endOf cd_endOf ct_endOf : Value}
    {f_made_ : Addr} {od_made_ an_made_ : Option Addr} {sl_made_ : Array (Option Value)} {oc_made_ kV_made_ dc_made_ pm_made_ cd_made_ ct_made_ : Value}
    {f_lrow : Addr} {od_lrow an_lrow : Option Addr} {sl_lrow : Array (Option Value)} {oc_lrow kV_lrow dc_lrow pm_lrow cd_lrow ct_lrow : Value}
    {f_ended : Addr} {od_ended an_ended : Option Addr} {sl_ended : Array (Option Value)} {oc_ended kV_ended dc_ended pm_ended cd_ended ct_ended : Value}
    {f_wordy : Addr} {od_wordy an_wordy : Option Addr} {sl_wordy : Array (Option Value)} {oc_wordy kV_wordy dc_wordy pm_wordy cd_wordy ct_wordy : Value}
    {f_rew : Addr} {od_rew an_rew : Option Addr} {sl_rew : Array (Option Value)} {oc_rew kV_rew dc_rew pm_rew cd_rew ct_rew : Value}
    {f_pairs : Addr} {od_pairs an_pairs : Option Addr} {sl_pairs : Array (Option Value)} {oc_pairs kV_pairs dc_pairs pm_pairs cd_pairs ct_pairs : Value}
    {a_tK n_tK : Nat} {od_tK : Option Addr} {sl_tK : Array (Option Value)} {t_tK0 t_tK1 t_tK2 : Tok}
    {a_tR n_tR : Nat} {od_tR : Option Addr} {sl_tR : Array (Option Value)} {t_tR0 t_tR1 t_tR2 : Tok}
    {a_tS n_tS : Nat} {od_tS : Option Addr} {sl_tS : Array (Option Value)} {t_tS0 t_tS1 : Tok}
    {a_tC n_tC : Nat} {od_tC : Option Addr} {sl_tC : Array (Option Value)} {t_tC0 t_tC1 t_tC2 : Tok}
    {a_tE n_tE : Nat} {od_tE : Option Addr} {sl_tE : Array (Option Value)} {t_tE0 t_tE1 t_tE2 t_tE3 : Tok}
    {t_most : Tok}
    {t_least : Tok}
    {t_mostP : Tok}
    {t_mostS : Tok}
    {t_mostE : Tok}
    {a_st n_st : Nat} {es_st : Array DictEntry} {t_st0 t_st1 t_st2 : Tok}
    {C : Addr}
    {f_init : Addr} {od_init an_init : Option Addr} {sl_init : Array (Option Value)} {oc_init kV_init dc_init pm_init cd_init ct_init : Value}
    {T0 ae n_T n_e : Nat} {od_T od_e : Option Addr} {sl_T sl_e : Array (Option Value)} {oc_T : Value}
    {f_pkinds : Addr} {od_pkinds an_pkinds : Option Addr} {sl_pkinds : Array (Option Value)} {oc_pkinds kV_pkinds dc_pkinds pm_pkinds cd_pkinds ct_pkinds : Value}
    {p_pkinds : Addr} {rest_pkinds : List Value}
    {f_gt : Addr} {od_gt an_gt : Option Addr} {sl_gt : Array (Option Value)} {oc_gt kV_gt dc_gt pm_gt cd_gt ct_gt : Value}
    {f_pas : Addr} {od_pas an_pas : Option Addr} {sl_pas : Array (Option Value)} {oc_pas kV_pas dc_pas pm_pas cd_pas ct_pas : Value}
    {f_rd : Addr} {od_rd an_rd : Option Addr} {sl_rd : Array (Option Value)} {oc_rd kV_rd dc_rd pm_rd cd_rd ct_rd : Value}
    {pm_rd_ : Addr} {rest_rd : List Value}
    {f_eq : Addr} {od_eq an_eq : Option Addr} {sl_eq : Array (Option Value)} {oc_eq kV_eq dc_eq pm_eq cd_eq ct_eq : Value}
    (a_law : PySem.W.nsIn K mainGlobals "law" = some (some (.ref f_law)))
    (l_law : K.lookup f_law = some ⟨oc_law, od_law, .func (PySem.W.fnOf "law" "law" (defArgs s_law) (defBody s_law) (defScope s_law) .none kV_law dc_law pm_law an_law cd_law ct_law), sl_law⟩)
    (c_law : PySem.W.codeIn K cd_law "law" = true)
    (k_law : PySem.W.keepIn K (.ref f_law) = true)
    (a_purse : PySem.W.nsIn K mainGlobals "_law_purse" = some (some (.ref f_purse)))
    (l_purse : K.lookup f_purse = some ⟨oc_purse, od_purse, .func (PySem.W.fnOf "_law_purse" "_law_purse" (defArgs s__law_purse) (defBody s__law_purse) (defScope s__law_purse) .none kV_purse dc_purse pm_purse an_purse cd_purse ct_purse), sl_purse⟩)
    (c_purse : PySem.W.codeIn K cd_purse "_law_purse" = true)
    (k_purse : PySem.W.keepIn K (.ref f_purse) = true)
    (a_draw : PySem.W.nsIn K mainGlobals "_law_draw" = some (some (.ref f_draw)))
    (l_draw : K.lookup f_draw = some ⟨oc_draw, od_draw, .func (PySem.W.fnOf "_law_draw" "_law_draw" (defArgs s__law_draw) (defBody s__law_draw) (defScope s__law_draw) .none kV_draw dc_draw pm_draw an_draw cd_draw ct_draw), sl_draw⟩)
    (c_draw : PySem.W.codeIn K cd_draw "_law_draw" = true)
    (k_draw : PySem.W.keepIn K (.ref f_draw) = true)
    (a_pick : PySem.W.nsIn K mainGlobals "_law_pick" = some (some (.ref f_pick)))
    (l_pick : K.lookup f_pick = some ⟨oc_pick, od_pick, .func (PySem.W.fnOf "_law_pick" "_law_pick" (defArgs s__law_pick) (defBody s__law_pick) (defScope s__law_pick) .none kV_pick dc_pick pm_pick an_pick cd_pick ct_pick), sl_pick⟩)
    (c_pick : PySem.W.codeIn K cd_pick "_law_pick" = true)
    (k_pick : PySem.W.keepIn K (.ref f_pick) = true)
    (a_sorts : PySem.W.nsIn K mainGlobals "_law_sorts" = some (some (.ref f_sorts)))
    (l_sorts : K.lookup f_sorts = some ⟨oc_sorts, od_sorts, .func (PySem.W.fnOf "_law_sorts" "_law_sorts" (defArgs s__law_sorts) (defBody s__law_sorts) (defScope s__law_sorts) .none kV_sorts dc_sorts pm_sorts an_sorts cd_sorts ct_sorts), sl_sorts⟩)
    (c_sorts : PySem.W.codeIn K cd_sorts "_law_sorts" = true)
    (k_sorts : PySem.W.keepIn K (.ref f_sorts) = true)
    (a_keys : PySem.W.nsIn K mainGlobals "_law_keys" = some (some (.ref f_keys)))
    (l_keys : K.lookup f_keys = some ⟨oc_keys, od_keys, .func (PySem.W.fnOf "_law_keys" "_law_keys" (defArgs s__law_keys) (defBody s__law_keys) (defScope s__law_keys) .none kV_keys dc_keys pm_keys an_keys cd_keys ct_keys), sl_keys⟩)
    (c_keys : PySem.W.codeIn K cd_keys "_law_keys" = true)
    (k_keys : PySem.W.keepIn K (.ref f_keys) = true)
    (a_shuf : PySem.W.nsIn K mainGlobals "_law_shuffled" = some (some (.ref f_shuf)))
    (l_shuf : K.lookup f_shuf = some ⟨oc_shuf, od_shuf, .func (PySem.W.fnOf "_law_shuffled" "_law_shuffled" (defArgs s__law_shuffled) (defBody s__law_shuffled) (defScope s__law_shuffled) .none kV_shuf dc_shuf pm_shuf an_shuf cd_shuf ct_shuf), sl_shuf⟩)
    (c_shuf : PySem.W.codeIn K cd_shuf "_law_shuffled" = true)
    (k_shuf : PySem.W.keepIn K (.ref f_shuf) = true)
    (a_opts : PySem.W.nsIn K mainGlobals "_law_options" = some (some (.ref f_opts)))
    (l_opts : K.lookup f_opts = some ⟨oc_opts, od_opts, .func (PySem.W.fnOf "_law_options" "_law_options" (defArgs s__law_options) (defBody s__law_options) (defScope s__law_options) .none kV_opts dc_opts pm_opts an_opts cd_opts ct_opts), sl_opts⟩)
    (c_opts : PySem.W.codeIn K cd_opts "_law_options" = true)
    (k_opts : PySem.W.keepIn K (.ref f_opts) = true)
    (a_cells : PySem.W.nsIn K mainGlobals "_law_cells" = some (some (.ref f_cells)))
    (l_cells : K.lookup f_cells = some ⟨oc_cells, od_cells, .func (PySem.W.fnOf "_law_cells" "_law_cells" (defArgs s__law_cells) (defBody s__law_cells) (defScope s__law_cells) .none kV_cells dc_cells pm_cells an_cells cd_cells ct_cells), sl_cells⟩)
    (c_cells : PySem.W.codeIn K cd_cells "_law_cells" = true)
    (k_cells : PySem.W.keepIn K (.ref f_cells) = true)
    (a_lines : PySem.W.nsIn K mainGlobals "_law_lines" = some (some (.ref f_lines)))
    (l_lines : K.lookup f_lines = some ⟨oc_lines, od_lines, .func (PySem.W.fnOf "_law_lines" "_law_lines" (defArgs s__law_lines) (defBody s__law_lines) (defScope s__law_lines) .none kV_lines dc_lines pm_lines an_lines cd_lines ct_lines), sl_lines⟩)
    (c_lines : PySem.W.codeIn K cd_lines "_law_lines" = true)
    (k_lines : PySem.W.keepIn K (.ref f_lines) = true)
    (a_text : PySem.W.nsIn K mainGlobals "_law_text" = some (some (.ref f_text)))
    (l_text : K.lookup f_text = some ⟨oc_text, od_text, .func (PySem.W.fnOf "_law_text" "_law_text" (defArgs s__law_text) (defBody s__law_text) (defScope s__law_text) .none kV_text dc_text pm_text an_text cd_text ct_text), sl_text⟩)
    (c_text : PySem.W.codeIn K cd_text "_law_text" = true)
    (k_text : PySem.W.keepIn K (.ref f_text) = true)
    (a_right : PySem.W.nsIn K mainGlobals "_law_right" = some (some (.ref f_right)))
    (l_right : K.lookup f_right = some ⟨oc_right, od_right, .func (PySem.W.fnOf "_law_right" "_law_right" (defArgs s__law_right) (defBody s__law_right) (defScope s__law_right) .none kV_right dc_right pm_right an_right cd_right ct_right), sl_right⟩)
    (c_right : PySem.W.codeIn K cd_right "_law_right" = true)
    (k_right : PySem.W.keepIn K (.ref f_right) = true)
    (a_word : PySem.W.nsIn K mainGlobals "is_word" = some (some (.ref f_word)))
    (l_word : K.lookup f_word = some ⟨oc_word, od_word, .func (PySem.W.fnOf "is_word" "is_word" (defArgs s_is_word) (defBody s_is_word) (defScope s_is_word) .none kV_word dc_word pm_word an_word cd_word ct_word), sl_word⟩)
    (c_word : PySem.W.codeIn K cd_word "is_word" = true)
    (k_word : PySem.W.keepIn K (.ref f_word) = true)
    (a_kinds : PySem.W.nsIn K mainGlobals "are_kinds" = some (some (.ref f_kinds)))
    (l_kinds : K.lookup f_kinds = some ⟨oc_kinds, od_kinds, .func (PySem.W.fnOf "are_kinds" "are_kinds" (defArgs s_are_kinds) (defBody s_are_kinds) (defScope s_are_kinds) .none kV_kinds dc_kinds pm_kinds an_kinds cd_kinds ct_kinds), sl_kinds⟩)
    (c_kinds : PySem.W.codeIn K cd_kinds "are_kinds" = true)
    (k_kinds : PySem.W.keepIn K (.ref f_kinds) = true)
    (a_cell : PySem.W.nsIn K mainGlobals "is_cell" = some (some (.ref f_cell)))
    (l_cell : K.lookup f_cell = some ⟨oc_cell, od_cell, .func (PySem.W.fnOf "is_cell" "is_cell" (defArgs s_is_cell) (defBody s_is_cell) (defScope s_is_cell) .none kV_cell dc_cell pm_cell an_cell cd_cell ct_cell), sl_cell⟩)
    (c_cell : PySem.W.codeIn K cd_cell "is_cell" = true)
    (k_cell : PySem.W.keepIn K (.ref f_cell) = true)
    (a_cellOf : PySem.W.nsIn K mainGlobals "cell_of" = some (some (.ref f_cellOf)))
    (l_cellOf : K.lookup f_cellOf = some ⟨oc_cellOf, od_cellOf, .func (PySem.W.fnOf "cell_of" "cell_of" (defArgs s_cell_of) (defBody s_cell_of) (defScope s_cell_of) .none kV_cellOf dc_cellOf pm_cellOf an_cellOf cd_cellOf ct_cellOf), sl_cellOf⟩)
    (c_cellOf : PySem.W.codeIn K cd_cellOf "cell_of" = true)
    (k_cellOf : PySem.W.keepIn K (.ref f_cellOf) = true)
    (a_optsOf : PySem.W.nsIn K mainGlobals "options_of" = some (some (.ref f_optsOf)))
    (l_optsOf : K.lookup f_optsOf = some ⟨oc_optsOf, od_optsOf, .func (PySem.W.fnOf "options_of" "options_of" (defArgs s_options_of) (defBody s_options_of) (defScope s_options_of) .none kV_optsOf dc_optsOf pm_optsOf an_optsOf cd_optsOf ct_optsOf), sl_optsOf⟩)
    (c_optsOf : PySem.W.codeIn K cd_optsOf "options_of" = true)
    (k_optsOf : PySem.W.keepIn K (.ref f_optsOf) = true)
    (a_conds : PySem.W.nsIn K mainGlobals "conditions_for" = some (some (.ref f_conds)))
    (l_conds : K.lookup f_conds = some ⟨oc_conds, od_conds, .func (PySem.W.fnOf "conditions_for" "conditions_for" (defArgs s_conditions_for) (defBody s_conditions_for) (defScope s_conditions_for) .none kV_conds dc_conds pm_conds an_conds cd_conds ct_conds), sl_conds⟩)
    (c_conds : PySem.W.codeIn K cd_conds "conditions_for" = true)
    (k_conds : PySem.W.keepIn K (.ref f_conds) = true)
    (a_res : PySem.W.nsIn K mainGlobals "results_for" = some (some (.ref f_res)))
    (l_res : K.lookup f_res = some ⟨oc_res, od_res, .func (PySem.W.fnOf "results_for" "results_for" (defArgs s_results_for) (defBody s_results_for) (defScope s_results_for) .none kV_res dc_res pm_res an_res cd_res ct_res), sl_res⟩)
    (c_res : PySem.W.codeIn K cd_res "results_for" = true)
    (k_res : PySem.W.keepIn K (.ref f_res) = true)
    (a_row : PySem.W.nsIn K mainGlobals "is_row" = some (some (.ref f_row)))
    (l_row : K.lookup f_row = some ⟨oc_row, od_row, .func (PySem.W.fnOf "is_row" "is_row" (defArgs s_is_row) (defBody s_is_row) (defScope s_is_row) .none kV_row dc_row pm_row an_row cd_row ct_row), sl_row⟩)
    (c_row : PySem.W.codeIn K cd_row "is_row" = true)
    (k_row : PySem.W.keepIn K (.ref f_row) = true)
    (a_first : PySem.W.nsIn K mainGlobals "first_wrong_row" = some (some (.ref f_first)))
    (l_first : K.lookup f_first = some ⟨oc_first, od_first, .func (PySem.W.fnOf "first_wrong_row" "first_wrong_row" (defArgs s_first_wrong_row) (defBody s_first_wrong_row) (defScope s_first_wrong_row) .none kV_first dc_first pm_first an_first cd_first ct_first), sl_first⟩)
    (c_first : PySem.W.codeIn K cd_first "first_wrong_row" = true)
    (k_first : PySem.W.keepIn K (.ref f_first) = true)
    (a_kr : PySem.W.nsIn K mainGlobals "kinds_and_rows" = some (some (.ref f_kr)))
    (l_kr : K.lookup f_kr = some ⟨oc_kr, od_kr, .func (PySem.W.fnOf "kinds_and_rows" "kinds_and_rows" (defArgs s_kinds_and_rows) (defBody s_kinds_and_rows) (defScope s_kinds_and_rows) .none kV_kr dc_kr pm_kr an_kr cd_kr ct_kr), sl_kr⟩)
    (c_kr : PySem.W.codeIn K cd_kr "kinds_and_rows" = true)
    (k_kr : PySem.W.keepIn K (.ref f_kr) = true)
    (a_isText : PySem.W.nsIn K mainGlobals "is_table_text" = some (some (.ref f_isText)))
    (l_isText : K.lookup f_isText = some ⟨oc_isText, od_isText, .func (PySem.W.fnOf "is_table_text" "is_table_text" (defArgs s_is_table_text) (defBody s_is_table_text) (defScope s_is_table_text) .none kV_isText dc_isText pm_isText an_isText cd_isText ct_isText), sl_isText⟩)
    (c_isText : PySem.W.codeIn K cd_isText "is_table_text" = true)
    (k_isText : PySem.W.keepIn K (.ref f_isText) = true)
    (a_isInt : PySem.W.nsIn K mainGlobals "is_integer" = some (some (.ref f_isInt)))
    (l_isInt : K.lookup f_isInt = some ⟨oc_isInt, od_isInt, .func (PySem.W.fnOf "is_integer" "is_integer" (defArgs s_is_integer) (defBody s_is_integer) (defScope s_is_integer) .none kV_isInt dc_isInt pm_isInt an_isInt cd_isInt ct_isInt), sl_isInt⟩)
    (c_isInt : PySem.W.codeIn K cd_isInt "is_integer" = true)
    (k_isInt : PySem.W.keepIn K (.ref f_isInt) = true)
    (a_isPlace : PySem.W.nsIn K mainGlobals "is_place" = some (some (.ref f_isPlace)))
    (l_isPlace : K.lookup f_isPlace = some ⟨oc_isPlace, od_isPlace, .func (PySem.W.fnOf "is_place" "is_place" (defArgs s_is_place) (defBody s_is_place) (defScope s_is_place) .none kV_isPlace dc_isPlace pm_isPlace an_isPlace cd_isPlace ct_isPlace), sl_isPlace⟩)
    (c_isPlace : PySem.W.codeIn K cd_isPlace "is_place" = true)
    (k_isPlace : PySem.W.keepIn K (.ref f_isPlace) = true)
    (a_isSign : PySem.W.nsIn K mainGlobals "is_sign" = some (some (.ref f_isSign)))
    (l_isSign : K.lookup f_isSign = some ⟨oc_isSign, od_isSign, .func (PySem.W.fnOf "is_sign" "is_sign" (defArgs s_is_sign) (defBody s_is_sign) (defScope s_is_sign) .none kV_isSign dc_isSign pm_isSign an_isSign cd_isSign ct_isSign), sl_isSign⟩)
    (c_isSign : PySem.W.codeIn K cd_isSign "is_sign" = true)
    (k_isSign : PySem.W.keepIn K (.ref f_isSign) = true)
    (a_isEdit : PySem.W.nsIn K mainGlobals "is_edit" = some (some (.ref f_isEdit)))
    (l_isEdit : K.lookup f_isEdit = some ⟨oc_isEdit, od_isEdit, .func (PySem.W.fnOf "is_edit" "is_edit" (defArgs s_is_edit) (defBody s_is_edit) (defScope s_is_edit) .none kV_isEdit dc_isEdit pm_isEdit an_isEdit cd_isEdit ct_isEdit), sl_isEdit⟩)
    (c_isEdit : PySem.W.codeIn K cd_isEdit "is_edit" = true)
    (k_isEdit : PySem.W.keepIn K (.ref f_isEdit) = true)
    (a_isEditOf : PySem.W.nsIn K mainGlobals "is_edit_of" = some (some (.ref f_isEditOf)))
    (l_isEditOf : K.lookup f_isEditOf = some ⟨oc_isEditOf, od_isEditOf, .func (PySem.W.fnOf "is_edit_of" "is_edit_of" (defArgs s_is_edit_of) (defBody s_is_edit_of) (defScope s_is_edit_of) .none kV_isEditOf dc_isEditOf pm_isEditOf an_isEditOf cd_isEditOf ct_isEditOf), sl_isEditOf⟩)
    (c_isEditOf : PySem.W.codeIn K cd_isEditOf "is_edit_of" = true)
    (k_isEditOf : PySem.W.keepIn K (.ref f_isEditOf) = true)
    (a_cmp : PySem.W.nsIn K mainGlobals "compared" = some (some (.ref f_cmp)))
    (l_cmp : K.lookup f_cmp = some ⟨oc_cmp, od_cmp, .func (PySem.W.fnOf "compared" "compared" (defArgs s_compared) (defBody s_compared) (defScope s_compared) .none kV_cmp dc_cmp pm_cmp an_cmp cd_cmp ct_cmp), sl_cmp⟩)
    (c_cmp : PySem.W.codeIn K cd_cmp "compared" = true)
    (k_cmp : PySem.W.keepIn K (.ref f_cmp) = true)
    (a_met : PySem.W.nsIn K mainGlobals "conditions_met" = some (some (.ref f_met)))
    (l_met : K.lookup f_met = some ⟨oc_met, od_met, .func (PySem.W.fnOf "conditions_met" "conditions_met" (defArgs s_conditions_met) (defBody s_conditions_met) (defScope s_conditions_met) .none kV_met dc_met pm_met an_met cd_met ct_met), sl_met⟩)
    (c_met : PySem.W.codeIn K cd_met "conditions_met" = true)
    (k_met : PySem.W.keepIn K (.ref f_met) = true)
    (a_chosen : PySem.W.nsIn K mainGlobals "chosen" = some (some (.ref f_chosen)))
    (l_chosen : K.lookup f_chosen = some ⟨oc_chosen, od_chosen, .func (PySem.W.fnOf "chosen" "chosen" (defArgs s_chosen) (defBody s_chosen) (defScope s_chosen) .none kV_chosen dc_chosen pm_chosen an_chosen cd_chosen ct_chosen), sl_chosen⟩)
    (c_chosen : PySem.W.codeIn K cd_chosen "chosen" = true)
    (k_chosen : PySem.W.keepIn K (.ref f_chosen) = true)
    (a_formed : PySem.W.nsIn K mainGlobals "formed" = some (some (.ref f_formed)))
    (l_formed : K.lookup f_formed = some ⟨oc_formed, od_formed, .func (PySem.W.fnOf "formed" "formed" (defArgs s_formed) (defBody s_formed) (defScope s_formed) .none kV_formed dc_formed pm_formed an_formed cd_formed ct_formed), sl_formed⟩)
    (c_formed : PySem.W.codeIn K cd_formed "formed" = true)
    (k_formed : PySem.W.keepIn K (.ref f_formed) = true)
    (a_turned : PySem.W.nsIn K mainGlobals "turned" = some (some (.ref f_turned)))
    (l_turned : K.lookup f_turned = some ⟨oc_turned, od_turned, .func (PySem.W.fnOf "turned" "turned" (defArgs s_turned) (defBody s_turned) (defScope s_turned) .none kV_turned dc_turned pm_turned an_turned cd_turned ct_turned), sl_turned⟩)
    (c_turned : PySem.W.codeIn K cd_turned "turned" = true)
    (k_turned : PySem.W.keepIn K (.ref f_turned) = true)
    (a_lsign : PySem.W.nsIn K mainGlobals "_law_sign" = some (some (.ref f_lsign)))
    (l_lsign : K.lookup f_lsign = some ⟨oc_lsign, od_lsign, .func (PySem.W.fnOf "_law_sign" "_law_sign" (defArgs s__law_sign) (defBody s__law_sign) (defScope s__law_sign) .none kV_lsign dc_lsign pm_lsign an_lsign cd_lsign ct_lsign), sl_lsign⟩)
    (c_lsign : PySem.W.codeIn K cd_lsign "_law_sign" = true)
    (k_lsign : PySem.W.keepIn K (.ref f_lsign) = true)
    (a_deed : PySem.W.nsIn K mainGlobals "_law_deed" = some (some (.ref f_deed)))
    (l_deed : K.lookup f_deed = some ⟨oc_deed, od_deed, .func (PySem.W.fnOf "_law_deed" "_law_deed" (defArgs s__law_deed) (defBody s__law_deed) (defScope s__law_deed) .none kV_deed dc_deed pm_deed an_deed cd_deed ct_deed), sl_deed⟩)
    (c_deed : PySem.W.codeIn K cd_deed "_law_deed" = true)
    (k_deed : PySem.W.keepIn K (.ref f_deed) = true)
    (a_isList : PySem.W.nsIn K mainGlobals "is_list" = some (some (.ref f_isList)))
    (l_isList : K.lookup f_isList = some ⟨oc_isList, od_isList, .func (PySem.W.fnOf "is_list" "is_list" (defArgs s_is_list) (defBody s_is_list) (defScope s_is_list) .none kV_isList dc_isList pm_isList an_isList cd_isList ct_isList), sl_isList⟩)
    (c_isList : PySem.W.codeIn K cd_isList "is_list" = true)
    (k_isList : PySem.W.keepIn K (.ref f_isList) = true)
    (a_behind : PySem.W.nsIn K mainGlobals "list_behind" = some (some (.ref f_behind)))
    (l_behind : K.lookup f_behind = some ⟨oc_behind, od_behind, .func (PySem.W.fnOf "list_behind" "list_behind" (defArgs s_list_behind) (defBody s_list_behind) (defScope s_list_behind) .none kV_behind dc_behind pm_behind an_behind cd_behind ct_behind), sl_behind⟩)
    (c_behind : PySem.W.codeIn K cd_behind "list_behind" = true)
    (k_behind : PySem.W.keepIn K (.ref f_behind) = true)
    (a_askT : PySem.W.nsIn K mainGlobals "ask_for_table" = some (some (.ref f_askT)))
    (l_askT : K.lookup f_askT = some ⟨oc_askT, od_askT, .func (PySem.W.fnOf "ask_for_table" "ask_for_table" (defArgs s_ask_for_table) (defBody s_ask_for_table) (defScope s_ask_for_table) .none kV_askT dc_askT pm_askT an_askT cd_askT ct_askT), sl_askT⟩)
    (c_askT : PySem.W.codeIn K cd_askT "ask_for_table" = true)
    (k_askT : PySem.W.keepIn K (.ref f_askT) = true)
    (a_fwe : PySem.W.nsIn K mainGlobals "first_wrong_edit" = some (some (.ref f_fwe)))
    (l_fwe : K.lookup f_fwe = some ⟨oc_fwe, od_fwe, .func (PySem.W.fnOf "first_wrong_edit" "first_wrong_edit" (defArgs s_first_wrong_edit) (defBody s_first_wrong_edit) (defScope s_first_wrong_edit) .none kV_fwe dc_fwe pm_fwe an_fwe cd_fwe ct_fwe), sl_fwe⟩)
    (c_fwe : PySem.W.codeIn K cd_fwe "first_wrong_edit" = true)
    (k_fwe : PySem.W.keepIn K (.ref f_fwe) = true)
    (a_arr : PySem.W.nsIn K mainGlobals "is_arrival" = some (some (.ref f_arr)))
    (l_arr : K.lookup f_arr = some ⟨oc_arr, od_arr, .func (PySem.W.fnOf "is_arrival" "is_arrival" (defArgs s_is_arrival) (defBody s_is_arrival) (defScope s_is_arrival) .none kV_arr dc_arr pm_arr an_arr cd_arr ct_arr), sl_arr⟩)
    (c_arr : PySem.W.codeIn K cd_arr "is_arrival" = true)
    (k_arr : PySem.W.keepIn K (.ref f_arr) = true)
    (a_endOf : PySem.W.nsIn K mainGlobals "end_of" = some (some (.ref f_endOf)))
    (l_endOf : K.lookup f_endOf = some ⟨oc_endOf, od_endOf, .func (PySem.W.fnOf "end_of" "end_of" (defArgs s_end_of) (defBody s_end_of) (defScope s_end_of) .none kV_endOf dc_endOf pm_endOf an_endOf cd_endOf ct_endOf), sl_endOf⟩)
    (c_endOf : PySem.W.codeIn K cd_endOf "end_of" = true)
    (k_endOf : PySem.W.keepIn K (.ref f_endOf) = true)
    (a_made_ : PySem.W.nsIn K mainGlobals "_law_made" = some (some (.ref f_made_)))
    (l_made_ : K.lookup f_made_ = some ⟨oc_made_, od_made_, .func (PySem.W.fnOf "_law_made" "_law_made" (defArgs s__law_made) (defBody s__law_made) (defScope s__law_made) .none kV_made_ dc_made_ pm_made_ an_made_ cd_made_ ct_made_), sl_made_⟩)
    (c_made_ : PySem.W.codeIn K cd_made_ "_law_made" = true)
    (k_made_ : PySem.W.keepIn K (.ref f_made_) = true)
    (a_lrow : PySem.W.nsIn K mainGlobals "_law_row" = some (some (.ref f_lrow)))
    (l_lrow : K.lookup f_lrow = some ⟨oc_lrow, od_lrow, .func (PySem.W.fnOf "_law_row" "_law_row" (defArgs s__law_row) (defBody s__law_row) (defScope s__law_row) .none kV_lrow dc_lrow pm_lrow an_lrow cd_lrow ct_lrow), sl_lrow⟩)
    (c_lrow : PySem.W.codeIn K cd_lrow "_law_row" = true)
    (k_lrow : PySem.W.keepIn K (.ref f_lrow) = true)
    (a_ended : PySem.W.nsIn K mainGlobals "ended" = some (some (.ref f_ended)))
    (l_ended : K.lookup f_ended = some ⟨oc_ended, od_ended, .func (PySem.W.fnOf "ended" "ended" (defArgs s_ended) (defBody s_ended) (defScope s_ended) .none kV_ended dc_ended pm_ended an_ended cd_ended ct_ended), sl_ended⟩)
    (c_ended : PySem.W.codeIn K cd_ended "ended" = true)
    (k_ended : PySem.W.keepIn K (.ref f_ended) = true)
    (a_wordy : PySem.W.nsIn K mainGlobals "_law_wordy" = some (some (.ref f_wordy)))
    (l_wordy : K.lookup f_wordy = some ⟨oc_wordy, od_wordy, .func (PySem.W.fnOf "_law_wordy" "_law_wordy" (defArgs s__law_wordy) (defBody s__law_wordy) (defScope s__law_wordy) .none kV_wordy dc_wordy pm_wordy an_wordy cd_wordy ct_wordy), sl_wordy⟩)
    (c_wordy : PySem.W.codeIn K cd_wordy "_law_wordy" = true)
    (k_wordy : PySem.W.keepIn K (.ref f_wordy) = true)
    (a_rew : PySem.W.nsIn K mainGlobals "_law_rewritten" = some (some (.ref f_rew)))
    (l_rew : K.lookup f_rew = some ⟨oc_rew, od_rew, .func (PySem.W.fnOf "_law_rewritten" "_law_rewritten" (defArgs s__law_rewritten) (defBody s__law_rewritten) (defScope s__law_rewritten) .none kV_rew dc_rew pm_rew an_rew cd_rew ct_rew), sl_rew⟩)
    (c_rew : PySem.W.codeIn K cd_rew "_law_rewritten" = true)
    (k_rew : PySem.W.keepIn K (.ref f_rew) = true)
    (a_pairs : PySem.W.nsIn K mainGlobals "_law_pairs" = some (some (.ref f_pairs)))
    (l_pairs : K.lookup f_pairs = some ⟨oc_pairs, od_pairs, .func (PySem.W.fnOf "_law_pairs" "_law_pairs" (defArgs s__law_pairs) (defBody s__law_pairs) (defScope s__law_pairs) .none kV_pairs dc_pairs pm_pairs an_pairs cd_pairs ct_pairs), sl_pairs⟩)
    (c_pairs : PySem.W.codeIn K cd_pairs "_law_pairs" = true)
    (k_pairs : PySem.W.keepIn K (.ref f_pairs) = true)
    (a_tKh : PySem.W.nsIn K mainGlobals "KINDS" = some (some (.ref a_tK)))
    (l_tK : K.lookup a_tK = some ⟨.type "tuple", od_tK, .seq #[.str "put" t_tK0, .str "out" t_tK1, .str "set" t_tK2] n_tK, sl_tK⟩)
    (a_tRh : PySem.W.nsIn K mainGlobals "RELATIONS" = some (some (.ref a_tR)))
    (l_tR : K.lookup a_tR = some ⟨.type "tuple", od_tR, .seq #[.str "<" t_tR0, .str "=" t_tR1, .str ">" t_tR2] n_tR, sl_tR⟩)
    (a_tSh : PySem.W.nsIn K mainGlobals "KINDS_WITH_SIGN" = some (some (.ref a_tS)))
    (l_tS : K.lookup a_tS = some ⟨.type "tuple", od_tS, .seq #[.str "put" t_tS0, .str "set" t_tS1] n_tS, sl_tS⟩)
    (a_tCh : PySem.W.nsIn K mainGlobals "SIGN_CONDITIONS" = some (some (.ref a_tC)))
    (l_tC : K.lookup a_tC = some ⟨.type "tuple", od_tC, .seq #[.str "less" t_tC0, .str "same" t_tC1, .str "more" t_tC2] n_tC, sl_tC⟩)
    (a_tEh : PySem.W.nsIn K mainGlobals "RESULTS" = some (some (.ref a_tE)))
    (l_tE : K.lookup a_tE = some ⟨.type "tuple", od_tE, .seq #[.str "keep" t_tE0, .str "up" t_tE1, .str "down" t_tE2, .str "stay" t_tE3] n_tE, sl_tE⟩)
    (a_most : PySem.W.nsIn K mainGlobals "MOST_OPTIONS" = some (some (.int 5 t_most)))
    (a_least : PySem.W.nsIn K mainGlobals "LEAST_PLACE" = some (some (.int (-9) t_least)))
    (a_mostP : PySem.W.nsIn K mainGlobals "MOST_PLACE" = some (some (.int (10 ^ 12) t_mostP)))
    (a_mostS : PySem.W.nsIn K mainGlobals "MOST_SIGNS" = some (some (.int 1000 t_mostS)))
    (a_mostE : PySem.W.nsIn K mainGlobals "MOST_EDITS" = some (some (.int 6 t_mostE)))
    (a_sth : PySem.W.nsIn K mainGlobals "STEPS" = some (some (.ref a_st)))
    (l_st : K.lookup a_st = some ⟨.type "dict", none, .dict es_st n_st, #[]⟩)
    (q_st : PySem.W.KeysLit w.params es_st.toList)
    (v_st0 : PySem.W.nsIn K a_st "keep" = some (some (.int 0 t_st0)))
    (v_st1 : PySem.W.nsIn K a_st "up" = some (some (.int 1 t_st1)))
    (v_st2 : PySem.W.nsIn K a_st "down" = some (some (.int (-1) t_st2)))
    (aC : PySem.W.nsIn K mainGlobals "Table" = some (some (.ref C)))
    (pg : PySem.W.plainGet K C Str.empty = true)
    (hd : PySem.W.hasDictIn K C = true)
    (po : PySem.W.plainOver K C = true)
    (sa : PySem.W.findIn K (.ref C) "__setattr__" = some (some (.builtin "object.__setattr__")))
    (nk : PySem.W.findIn K (.ref C) "_kinds" = some none)
    (nr : PySem.W.findIn K (.ref C) "_rows" = some none)
    (nc : PySem.W.findIn K (.ref C) "_cells" = some none)
    (ha : PySem.W.findIn K (.ref C) "__class__" = some (some (.builtin "object.__class__")))
    (hn : PySem.W.specialIn K (.builtin "object.__class__") "__get__" = some (some (.builtin "getset_descriptor.__get__")))
    (htk : PySem.W.takesIn K (.builtin "object.__class__") = some true)
    (hm : PySem.W.mroIn K C (.type "object") = some true)
    (mkI : PySem.W.makesIn K C = true)
    (kC : PySem.W.keepIn K (.ref C) = true)
    (a_init : PySem.W.findIn K (.ref C) "__init__" = some (some (.ref f_init)))
    (i_init : PySem.W.isFn K (.ref f_init) = true)
    (l_init : K.lookup f_init = some ⟨oc_init, od_init, .func (PySem.W.fnOf "__init__" "Table.__init__" (defArgs s_Table___init__) (defBody s_Table___init__) (defScope s_Table___init__) (.ref T0) kV_init dc_init pm_init an_init cd_init ct_init), sl_init⟩)
    (c_init : PySem.W.codeIn K cd_init "Table.__init__" = true)
    (k_init : PySem.W.keepIn K (.ref f_init) = true)
    (lT : K.lookup T0 = some ⟨oc_T, od_T, .seq #[.ref ae] n_T, sl_T⟩)
    (lEmp : K.lookup ae = some ⟨.type "tuple", od_e, .seq #[] n_e, sl_e⟩)
    (a_pkinds : PySem.W.findIn K (.ref C) "kinds" = some (some (.ref p_pkinds)))
    (g_pkinds : PySem.W.specialIn K (.ref p_pkinds) "__get__" = some (some (.builtin "property.__get__")))
    (t_pkinds : PySem.W.takesIn K (.ref p_pkinds) = some true)
    (r_pkinds : PySem.W.recIn K p_pkinds "property" = some (.ref f_pkinds :: rest_pkinds))
    (l_pkinds : K.lookup f_pkinds = some ⟨oc_pkinds, od_pkinds, .func (PySem.W.fnOf "kinds" "Table.kinds" (defArgs s_Table_kinds) (defBody s_Table_kinds) (defScope s_Table_kinds) .none kV_pkinds dc_pkinds pm_pkinds an_pkinds cd_pkinds ct_pkinds), sl_pkinds⟩)
    (c_pkinds : PySem.W.codeIn K cd_pkinds "Table.kinds" = true)
    (k_pkinds : PySem.W.keepIn K (.ref f_pkinds) = true)
    (a_gt : PySem.W.findIn K (.ref C) "__getitem__" = some (some (.ref f_gt)))
    (i_gt : PySem.W.isFn K (.ref f_gt) = true)
    (f_gti : PySem.W.fnIn K f_gt = true)
    (l_gt : K.lookup f_gt = some ⟨oc_gt, od_gt, .func (PySem.W.fnOf "__getitem__" "Table.__getitem__" (defArgs s_Table___getitem__) (defBody s_Table___getitem__) (defScope s_Table___getitem__) .none kV_gt dc_gt pm_gt an_gt cd_gt ct_gt), sl_gt⟩)
    (c_gt : PySem.W.codeIn K cd_gt "Table.__getitem__" = true)
    (k_gt : PySem.W.keepIn K (.ref f_gt) = true)
    (a_pas : PySem.W.findIn K (.ref C) "passed" = some (some (.ref f_pas)))
    (i_pas : PySem.W.isFn K (.ref f_pas) = true)
    (l_pas : K.lookup f_pas = some ⟨oc_pas, od_pas, .func (PySem.W.fnOf "passed" "Table.passed" (defArgs s_Table_passed) (defBody s_Table_passed) (defScope s_Table_passed) .none kV_pas dc_pas pm_pas an_pas cd_pas ct_pas), sl_pas⟩)
    (c_pas : PySem.W.codeIn K cd_pas "Table.passed" = true)
    (k_pas : PySem.W.keepIn K (.ref f_pas) = true)
    (rdIn : PySem.W.readsIn K C (.type "type") = true)
    (ga : PySem.W.specialIn K (.ref C) "__getattribute__" = some (some (.builtin "type.__getattribute__")))
    (fcl : PySem.W.findCls K (.ref C) (.type "type") "read" = some (.get (.builtin "classmethod.__get__") (.ref pm_rd_) .none (.ref C)))
    (rrc : PySem.W.recIn K pm_rd_ "classmethod" = some (.ref f_rd :: rest_rd))
    (rfi : PySem.W.fnIn K f_rd = true)
    (l_rd : K.lookup f_rd = some ⟨oc_rd, od_rd, .func (PySem.W.fnOf "read" "Table.read" (defArgs s_Table_read) (defBody s_Table_read) (defScope s_Table_read) .none kV_rd dc_rd pm_rd an_rd cd_rd ct_rd), sl_rd⟩)
    (c_rd : PySem.W.codeIn K cd_rd "Table.read" = true)
    (k_rd : PySem.W.keepIn K (.ref f_rd) = true)
    (a_eq : PySem.W.findIn K (.ref C) "__eq__" = some (some (.ref f_eq)))
    (i_eq : PySem.W.isFn K (.ref f_eq) = true)
    (a_ne : PySem.W.findIn K (.ref C) "__ne__" = some (some (.builtin "object.__ne__")))
    (l_eq : K.lookup f_eq = some ⟨oc_eq, od_eq, .func (PySem.W.fnOf "__eq__" "Table.__eq__" (defArgs s_Table___eq__) (defBody s_Table___eq__) (defScope s_Table___eq__) .none kV_eq dc_eq pm_eq an_eq cd_eq ct_eq), sl_eq⟩)
    (c_eq : PySem.W.codeIn K cd_eq "Table.__eq__" = true)
    (k_eq : PySem.W.keepIn K (.ref f_eq) = true)
    (z_sorted : PySem.W.nsIn K mainGlobals "sorted" = some none)
    (z_len : PySem.W.nsIn K mainGlobals "len" = some none)
    (z_int_ : PySem.W.nsIn K mainGlobals "int" = some none)
    (z_abs_ : PySem.W.nsIn K mainGlobals "abs" = some none)
    (z_divmod : PySem.W.nsIn K mainGlobals "divmod" = some none)
    (z_range : PySem.W.nsIn K mainGlobals "range" = some none)
    (z_list : PySem.W.nsIn K mainGlobals "list" = some none)
    (z_tuple : PySem.W.nsIn K mainGlobals "tuple" = some none)
    (z_repr : PySem.W.nsIn K mainGlobals "repr" = some none)
    (z_min_ : PySem.W.nsIn K mainGlobals "min" = some none)
    (z_max_ : PySem.W.nsIn K mainGlobals "max" = some none)
    (z_isin : PySem.W.nsIn K mainGlobals "isinstance" = some none)
    (z_str : PySem.W.nsIn K mainGlobals "str" = some none)
    (z_bool : PySem.W.nsIn K mainGlobals "bool" = some none)
    (z_set_ : PySem.W.nsIn K mainGlobals "set" = some none)
    (z_enum : PySem.W.nsIn K mainGlobals "enumerate" = some none)
    (z_all_ : PySem.W.nsIn K mainGlobals "all" = some none) :
    ∃ fd : FuncData, (∀ (s : Shared) (v : Value), BindsTo s fd ⟨[v], []⟩ [("script", v)]) ∧ ∀ base : Heap, K.In base → base.Ns mainGlobals mg → XG.FnG P w K mg base CX0 9 fa fd ["script"] (spLaw K) := by
  have e := hfa.symm.trans (PySem.W.mg_of X G a_law)
  cases e
  have t : Top K w mg C := {
    B := ⟨PySem.W.mg_none_of X G z_len, PySem.W.mg_none_of X G z_int_, PySem.W.mg_none_of X G z_abs_, PySem.W.mg_none_of X G z_divmod, PySem.W.mg_none_of X G z_range, PySem.W.mg_none_of X G z_list, PySem.W.mg_none_of X G z_tuple, PySem.W.mg_none_of X G z_repr, PySem.W.mg_none_of X G z_min_, PySem.W.mg_none_of X G z_max_, PySem.W.mg_none_of X G z_isin, PySem.W.mg_none_of X G z_str, PySem.W.mg_none_of X G z_bool, PySem.W.mg_none_of X G z_set_, PySem.W.mg_none_of X G z_enum, PySem.W.mg_none_of X G z_all_⟩
    purse := at_mk X G a_purse l_purse c_purse k_purse (fun _ _ _ _ _ _ us hl => match us, hl with | [_, _], _ => rfl)
    draw := at_mk X G a_draw l_draw c_draw k_draw (fun _ _ _ _ _ _ us hl => match us, hl with | [_, _], _ => rfl)
    pick := at_mk X G a_pick l_pick c_pick k_pick (fun _ _ _ _ _ _ us hl => match us, hl with | [_, _], _ => rfl)
    sorts := at_mk X G a_sorts l_sorts c_sorts k_sorts (fun _ _ _ _ _ _ us hl => match us, hl with | [_], _ => rfl)
    keys := at_mk X G a_keys l_keys c_keys k_keys (fun _ _ _ _ _ _ us hl => match us, hl with | [_], _ => rfl)
    shuf := at_mk X G a_shuf l_shuf c_shuf k_shuf (fun _ _ _ _ _ _ us hl => match us, hl with | [_, _], _ => rfl)
    opts := at_mk X G a_opts l_opts c_opts k_opts (fun _ _ _ _ _ _ us hl => match us, hl with | [_, _, _, _], _ => rfl)
    cells := at_mk X G a_cells l_cells c_cells k_cells (fun _ _ _ _ _ _ us hl => match us, hl with | [_, _], _ => rfl)
    lines := at_mk X G a_lines l_lines c_lines k_lines (fun _ _ _ _ _ _ us hl => match us, hl with | [_], _ => rfl)
    text := at_mk X G a_text l_text c_text k_text (fun _ _ _ _ _ _ us hl => match us, hl with | [_, _], _ => rfl)
    right := at_mk X G a_right l_right c_right k_right (fun _ _ _ _ _ _ us hl => match us, hl with | [_], _ => rfl)
    word := at_mk X G a_word l_word c_word k_word (fun _ _ _ _ _ _ us hl => match us, hl with | [_, _], _ => rfl)
    kinds := at_mk X G a_kinds l_kinds c_kinds k_kinds (fun _ _ _ _ _ _ us hl => match us, hl with | [_], _ => rfl)
    cell := at_mk X G a_cell l_cell c_cell k_cell (fun _ _ _ _ _ _ us hl => match us, hl with | [_, _], _ => rfl)
    cellOf := at_mk X G a_cellOf l_cellOf c_cellOf k_cellOf (fun _ _ _ _ _ _ us hl => match us, hl with | [_], _ => rfl)
    optsOf := at_mk X G a_optsOf l_optsOf c_optsOf k_optsOf (fun _ _ _ _ _ _ us hl => match us, hl with | [_], _ => rfl)
    conds := at_mk X G a_conds l_conds c_conds k_conds (fun _ _ _ _ _ _ us hl => match us, hl with | [_, _], _ => rfl)
    res := at_mk X G a_res l_res c_res k_res (fun _ _ _ _ _ _ us hl => match us, hl with | [_, _], _ => rfl)
    row := at_mk X G a_row l_row c_row k_row (fun _ _ _ _ _ _ us hl => match us, hl with | [_, _], _ => rfl)
    first := at_mk X G a_first l_first c_first k_first (fun _ _ _ _ _ _ us hl => match us, hl with | [_, _], _ => rfl)
    kr := at_mk X G a_kr l_kr c_kr k_kr (fun _ _ _ _ _ _ us hl => match us, hl with | [_], _ => rfl)
    isText := at_mk X G a_isText l_isText c_isText k_isText (fun _ _ _ _ _ _ us hl => match us, hl with | [_], _ => rfl)
    isInt := at_mk X G a_isInt l_isInt c_isInt k_isInt (fun _ _ _ _ _ _ us hl => match us, hl with | [_], _ => rfl)
    isPlace := at_mk X G a_isPlace l_isPlace c_isPlace k_isPlace (fun _ _ _ _ _ _ us hl => match us, hl with | [_], _ => rfl)
    isSign := at_mk X G a_isSign l_isSign c_isSign k_isSign (fun _ _ _ _ _ _ us hl => match us, hl with | [_], _ => rfl)
    isEdit := at_mk X G a_isEdit l_isEdit c_isEdit k_isEdit (fun _ _ _ _ _ _ us hl => match us, hl with | [_], _ => rfl)
    isEditOf := at_mk X G a_isEditOf l_isEditOf c_isEditOf k_isEditOf (fun _ _ _ _ _ _ us hl => match us, hl with | [_, _], _ => rfl)
    cmp := at_mk X G a_cmp l_cmp c_cmp k_cmp (fun _ _ _ _ _ _ us hl => match us, hl with | [_, _, _], _ => rfl)
    met := at_mk X G a_met l_met c_met k_met (fun _ _ _ _ _ _ us hl => match us, hl with | [_, _, _], _ => rfl)
    chosen := at_mk X G a_chosen l_chosen c_chosen k_chosen (fun _ _ _ _ _ _ us hl => match us, hl with | [_, _], _ => rfl)
    formed := at_mk X G a_formed l_formed c_formed k_formed (fun _ _ _ _ _ _ us hl => match us, hl with | [_, _], _ => rfl)
    turned := at_mk X G a_turned l_turned c_turned k_turned (fun _ _ _ _ _ _ us hl => match us, hl with | [_, _, _, _], _ => rfl)
    lsign := at_mk X G a_lsign l_lsign c_lsign k_lsign (fun _ _ _ _ _ _ us hl => match us, hl with | [_], _ => rfl)
    deed := at_mk X G a_deed l_deed c_deed k_deed (fun _ _ _ _ _ _ us hl => match us, hl with | [_, _, _, _], _ => rfl)
    isList := at_mk X G a_isList l_isList c_isList k_isList (fun _ _ _ _ _ _ us hl => match us, hl with | [_], _ => rfl)
    behind := at_mk X G a_behind l_behind c_behind k_behind (fun _ _ _ _ _ _ us hl => match us, hl with | [_, _], _ => rfl)
    askT := at_mk X G a_askT l_askT c_askT k_askT (fun _ _ _ _ _ _ us hl => match us, hl with | [_], _ => rfl)
    fwe := at_mk X G a_fwe l_fwe c_fwe k_fwe (fun _ _ _ _ _ _ us hl => match us, hl with | [_, _, _], _ => rfl)
    arr := at_mk X G a_arr l_arr c_arr k_arr (fun _ _ _ _ _ _ us hl => match us, hl with | [_, _], _ => rfl)
    endOf := at_mk X G a_endOf l_endOf c_endOf k_endOf (fun _ _ _ _ _ _ us hl => match us, hl with | [_, _, _, _], _ => rfl)
    made_ := at_mk X G a_made_ l_made_ c_made_ k_made_ (fun _ _ _ _ _ _ us hl => match us, hl with | [_, _, _, _], _ => rfl)
    lrow := at_mk X G a_lrow l_lrow c_lrow k_lrow (fun _ _ _ _ _ _ us hl => match us, hl with | [_, _], _ => rfl)
    ended := at_mk X G a_ended l_ended c_ended k_ended (fun _ _ _ _ _ _ us hl => match us, hl with | [_, _, _, _], _ => rfl)
    wordy := at_mk X G a_wordy l_wordy c_wordy k_wordy (fun _ _ _ _ _ _ us hl => match us, hl with | [_, _, _], _ => rfl)
    rew := at_mk X G a_rew l_rew c_rew k_rew (fun _ _ _ _ _ _ us hl => match us, hl with | [_, _, _], _ => rfl)
    pairs := at_mk X G a_pairs l_pairs c_pairs k_pairs (fun _ _ _ _ _ _ us hl => match us, hl with | [_], _ => rfl)
    tK := tupC_mk X G a_tKh l_tK (.cons ⟨_, rfl⟩ (.cons ⟨_, rfl⟩ (.cons ⟨_, rfl⟩ (.nil)))) (by show 3 ≤ sizeLine; decide)
    tR := tupC_mk X G a_tRh l_tR (.cons ⟨_, rfl⟩ (.cons ⟨_, rfl⟩ (.cons ⟨_, rfl⟩ (.nil)))) (by show 3 ≤ sizeLine; decide)
    tS := tupC_mk X G a_tSh l_tS (.cons ⟨_, rfl⟩ (.cons ⟨_, rfl⟩ (.nil))) (by show 2 ≤ sizeLine; decide)
    tC := tupC_mk X G a_tCh l_tC (.cons ⟨_, rfl⟩ (.cons ⟨_, rfl⟩ (.cons ⟨_, rfl⟩ (.nil)))) (by show 3 ≤ sizeLine; decide)
    tE := tupC_mk X G a_tEh l_tE (.cons ⟨_, rfl⟩ (.cons ⟨_, rfl⟩ (.cons ⟨_, rfl⟩ (.cons ⟨_, rfl⟩ (.nil))))) (by show 4 ≤ sizeLine; decide)
    most := ⟨t_most, PySem.W.mg_of X G a_most⟩
    least := ⟨t_least, PySem.W.mg_of X G a_least⟩
    mostP := ⟨t_mostP, PySem.W.mg_of X G a_mostP⟩
    mostS := ⟨t_mostS, PySem.W.mg_of X G a_mostS⟩
    mostE := ⟨t_mostE, PySem.W.mg_of X G a_mostE⟩
    step := ⟨a_st, PySem.W.mg_of X G a_sth, ⟨_, _, _, l_st, q_st, v_st0, ⟨_, rfl⟩⟩, ⟨_, _, _, l_st, q_st, v_st1, ⟨_, rfl⟩⟩, ⟨_, _, _, l_st, q_st, v_st2, ⟨_, rfl⟩⟩⟩
    T := ⟨PySem.W.mg_of X G aC, ⟨pg, hd, po, sa⟩, nk, nr, nc⟩
    I := ⟨⟨pg, hd, po, sa⟩, ha, hn, htk, hm, me_self⟩
    init := ⟨f_init, _, ae, ⟨mkI, a_init, i_init, kC⟩, ⟨⟨_, _, _, _, _, _, _, _, _, _, rfl, l_init, c_init, .inr ⟨by simp, T0, _, [.ref ae], n_T, rfl, lT, rfl, .cons rfl .nil⟩, .inl rfl⟩, k_init⟩, fun H => .inr ⟨_, #[], n_e, lEmp, rfl, rfl, Nat.zero_le _, .nil⟩⟩
    pkinds := by
      have F := fun_mk (st := s_Table_kinds) l_pkinds c_pkinds k_pkinds
      exact ⟨f_pkinds, _, p_pkinds, F, ⟨a_pkinds, g_pkinds, t_pkinds, rest_pkinds, r_pkinds⟩, F.binds (ps := ["self"]) (fun _ _ _ _ _ _ us hl => match us, hl with | [_], _ => rfl)⟩
    get := by
      have F := fun_mk (st := s_Table___getitem__) l_gt c_gt k_gt
      exact ⟨f_gt, _, ⟨a_gt, f_gti, i_gt⟩, F, F.binds (ps := ["self", "at"]) (fun _ _ _ _ _ _ us hl => match us, hl with | [_, _], _ => rfl)⟩
    pas := by
      have F := fun_mk (st := s_Table_passed) l_pas c_pas k_pas
      exact ⟨f_pas, _, ⟨a_pas, i_pas, k_pas⟩, F, F.binds (ps := ["self", "edit", "past", "first"]) (fun _ _ _ _ _ _ us hl => match us, hl with | [_, _, _, _], _ => rfl)⟩
    read := ⟨f_rd, pm_rd_, .type "type", _, ⟨rdIn, ga⟩, ⟨fcl, ⟨rest_rd, rrc⟩, rfi⟩, fun_mk (st := s_Table_read) l_rd c_rd k_rd, (fun_mk (st := s_Table_read) l_rd c_rd k_rd).binds (ps := ["cls", "text"]) (fun _ _ _ _ _ _ us hl => match us, hl with | [_, _], _ => rfl), ⟨fun s us ws _ h1 h2 => match us, ws, h1, h2 with | [_], [_], _, _ => .of_eq rfl, fun r1 r2 => r1.append r2⟩⟩
    eq := by
      have F := fun_mk (st := s_Table___eq__) l_eq c_eq k_eq
      exact ⟨f_eq, _, ⟨a_eq, i_eq, a_ne, hm⟩, F, F.binds (ps := ["self", "other"]) (fun _ _ _ _ _ _ us hl => match us, hl with | [_, _], _ => rfl)⟩
    so := PySem.W.mg_none_of X G z_sorted
    endF := by
      have F := fun_mk (st := s_ended) l_ended c_ended k_ended
      exact ⟨f_ended, _, PySem.W.mg_of X G a_ended, k_ended, F, F.binds (ps := ["table", "text", "edits", "arrival"]) (fun _ _ _ _ _ _ us hl => match us, hl with | [_, _, _, _], _ => rfl)⟩ }
  exact ⟨_, fun s v => .of_eq rfl, fun base _ _ => law_all (fun_mk (st := s_law) l_law c_law k_law) t⟩
theorem walk {l : PySem.W.OpenLaw} {q : Program} {loose : List Str} {XP : (Str → Option Value) → Heap → Prop} {YP : World → Heap → Prop} {d : DefRec} {K : Params → PySem.W.Frag} (hn : l.most = some 63) (hdf : d.params.defaults = [])
    (hY : ∀ (w : World) (h : Heap), YP w h → (K w.params).In h)
    (F : ∀ (w : World) (mg : Str → Option Value) (fa : Addr) (h : Heap), (K w.params).In h → h.Ns mainGlobals mg → mg d.name = some (.ref fa) →
      ∃ fd : FuncData, (∀ (s : Shared) (u : Value), BindsTo s fd ⟨[u], []⟩ [("script", u)]) ∧ ∀ base : Heap, (K w.params).In base → base.Ns mainGlobals mg → XG.FnG l.prog w (K w.params) mg base CX0 9 fa fd ["script"] (spLaw (K w.params))) :
    PySem.W.WalkO q loose XP YP l.row.toRowW d [] (fun f vs => PySem.call f vs) :=
  XG.walk_calm (n := 63) (k := 9) (x := "script") (sp := fun w => spLaw (K w.params)) hn (by decide) hdf ⟨rfl, by decide, by decide⟩ hY F (fun _ _ a ns hl _ _ hS => ⟨a, ns, rfl, hS, Nat.le_trans hl (by decide), fun _ => rfl⟩)
end T

open PySem PySem.W PyProof.Rows in
set_option maxRecDepth 100000 in
set_option maxHeartbeats 0 in
theorem PySem.Challenge.cw_passedits_k19_whole_written_otherwise_holds : PySem.Challenge.rw_passedits_k19_whole_written_otherwise.Holds := by
  w_on; o_law; k_head; (case hw => w_witness2)
  k_fill
  refine T.walk (l := PySem.Challenge.rw_passedits_k19_whole_written_otherwise) rfl rfl (fun w h Y => PySem.W.kIn_of Y) ?F
  case F =>
    intro w mg fa h KX G hmg
    refine' T.top_mk KX G hmg ?a_law ?l_law ?c_law ?k_law ?a_purse ?l_purse ?c_purse ?k_purse ?a_draw ?l_draw ?c_draw ?k_draw ?a_pick ?l_pick ?c_pick ?k_pick ?a_sorts ?l_sorts ?c_sorts ?k_sorts ?a_keys ?l_keys ?c_keys ?k_keys ?a_shuf ?l_shuf ?c_shuf ?k_shuf ?a_opts ?l_opts ?c_opts ?k_opts ?a_cells ?l_cells ?c_cells ?k_cells ?a_lines ?l_lines ?c_lines ?k_lines ?a_text ?l_text ?c_text ?k_text ?a_right ?l_right ?c_right ?k_right ?a_word ?l_word ?c_word ?k_word ?a_kinds ?l_kinds ?c_kinds ?k_kinds ?a_cell ?l_cell ?c_cell ?k_cell ?a_cellOf ?l_cellOf ?c_cellOf ?k_cellOf ?a_optsOf ?l_optsOf ?c_optsOf ?k_optsOf ?a_conds ?l_conds ?c_conds ?k_conds ?a_res ?l_res ?c_res ?k_res ?a_row ?l_row ?c_row ?k_row ?a_first ?l_first ?c_first ?k_first ?a_kr ?l_kr ?c_kr ?k_kr ?a_isText ?l_isText ?c_isText ?k_isText ?a_isInt ?l_isInt ?c_isInt ?k_isInt ?a_isPlace ?l_isPlace ?c_isPlace ?k_isPlace ?a_isSign ?l_isSign ?c_isSign ?k_isSign ?a_isEdit ?l_isEdit ?c_isEdit ?k_isEdit ?a_isEditOf ?l_isEditOf ?c_isEditOf ?k_isEditOf ?a_cmp ?l_cmp ?c_cmp ?k_cmp ?a_met ?l_met ?c_met ?k_met ?a_chosen ?l_chosen ?c_chosen ?k_chosen ?a_formed ?l_formed ?c_formed ?k_formed ?a_turned ?l_turned ?c_turned ?k_turned ?a_lsign ?l_lsign ?c_lsign ?k_lsign ?a_deed ?l_deed ?c_deed ?k_deed ?a_isList ?l_isList ?c_isList ?k_isList ?a_behind ?l_behind ?c_behind ?k_behind ?a_askT ?l_askT ?c_askT ?k_askT ?a_fwe ?l_fwe ?c_fwe ?k_fwe ?a_arr ?l_arr ?c_arr ?k_arr ?a_endOf ?l_endOf ?c_endOf ?k_endOf ?a_made_ ?l_made_ ?c_made_ ?k_made_ ?a_lrow ?l_lrow ?c_lrow ?k_lrow ?a_ended ?l_ended ?c_ended ?k_ended ?a_wordy ?l_wordy ?c_wordy ?k_wordy ?a_rew ?l_rew ?c_rew ?k_rew ?a_pairs ?l_pairs ?c_pairs ?k_pairs ?a_tKh ?l_tK ?a_tRh ?l_tR ?a_tSh ?l_tS ?a_tCh ?l_tC ?a_tEh ?l_tE ?a_most ?a_least ?a_mostP ?a_mostS ?a_mostE ?a_sth ?l_st ?q_st ?v_st0 ?v_st1 ?v_st2 ?aC ?pg ?hd ?po ?sa ?nk ?nr ?nc ?ha ?hn ?htk ?hm ?mkI ?kC ?a_init ?i_init ?l_init ?c_init ?k_init ?lT ?lEmp ?a_pkinds ?g_pkinds ?t_pkinds ?r_pkinds ?l_pkinds ?c_pkinds ?k_pkinds ?a_gt ?i_gt ?f_gti ?l_gt ?c_gt ?k_gt ?a_pas ?i_pas ?l_pas ?c_pas ?k_pas ?rdIn ?ga ?fcl ?rrc ?rfi ?l_rd ?c_rd ?k_rd ?a_eq ?i_eq ?a_ne ?l_eq ?c_eq ?k_eq ?z_sorted ?z_len ?z_int_ ?z_abs_ ?z_divmod ?z_range ?z_list ?z_tuple ?z_repr ?z_min_ ?z_max_ ?z_isin ?z_str ?z_bool ?z_set_ ?z_enum ?z_all_
    (case a_law => k_is); (case l_law => k_is); (case c_law => k_is); (case k_law => k_is); (case a_purse => k_is); (case l_purse => k_is)
    (case c_purse => k_is); (case k_purse => k_is); (case a_draw => k_is); (case l_draw => k_is); (case c_draw => k_is); (case k_draw => k_is)
    (case a_pick => k_is); (case l_pick => k_is); (case c_pick => k_is); (case k_pick => k_is); (case a_sorts => k_is); (case l_sorts => k_is)
    (case c_sorts => k_is); (case k_sorts => k_is); (case a_keys => k_is); (case l_keys => k_is); (case c_keys => k_is); (case k_keys => k_is)
    (case a_shuf => k_is); (case l_shuf => k_is); (case c_shuf => k_is); (case k_shuf => k_is); (case a_opts => k_is); (case l_opts => k_is)
    (case c_opts => k_is); (case k_opts => k_is); (case a_cells => k_is); (case l_cells => k_is); (case c_cells => k_is); (case k_cells => k_is)
    (case a_lines => k_is); (case l_lines => k_is); (case c_lines => k_is); (case k_lines => k_is); (case a_text => k_is); (case l_text => k_is)
    (case c_text => k_is); (case k_text => k_is); (case a_right => k_is); (case l_right => k_is); (case c_right => k_is); (case k_right => k_is)
    (case a_word => k_is); (case l_word => k_is); (case c_word => k_is); (case k_word => k_is); (case a_kinds => k_is); (case l_kinds => k_is)
    (case c_kinds => k_is); (case k_kinds => k_is); (case a_cell => k_is); (case l_cell => k_is); (case c_cell => k_is); (case k_cell => k_is)
    (case a_cellOf => k_is); (case l_cellOf => k_is); (case c_cellOf => k_is); (case k_cellOf => k_is); (case a_optsOf => k_is); (case l_optsOf => k_is)
    (case c_optsOf => k_is); (case k_optsOf => k_is); (case a_conds => k_is); (case l_conds => k_is); (case c_conds => k_is); (case k_conds => k_is)
    (case a_res => k_is); (case l_res => k_is); (case c_res => k_is); (case k_res => k_is); (case a_row => k_is); (case l_row => k_is)
    (case c_row => k_is); (case k_row => k_is); (case a_first => k_is); (case l_first => k_is); (case c_first => k_is); (case k_first => k_is)
    (case a_kr => k_is); (case l_kr => k_is); (case c_kr => k_is); (case k_kr => k_is); (case a_isText => k_is); (case l_isText => k_is)
    (case c_isText => k_is); (case k_isText => k_is); (case a_isInt => k_is); (case l_isInt => k_is); (case c_isInt => k_is); (case k_isInt => k_is)
    (case a_isPlace => k_is); (case l_isPlace => k_is); (case c_isPlace => k_is); (case k_isPlace => k_is); (case a_isSign => k_is); (case l_isSign => k_is)
    (case c_isSign => k_is); (case k_isSign => k_is); (case a_isEdit => k_is); (case l_isEdit => k_is); (case c_isEdit => k_is); (case k_isEdit => k_is)
    (case a_isEditOf => k_is); (case l_isEditOf => k_is); (case c_isEditOf => k_is); (case k_isEditOf => k_is); (case a_cmp => k_is); (case l_cmp => k_is)
    (case c_cmp => k_is); (case k_cmp => k_is); (case a_met => k_is); (case l_met => k_is); (case c_met => k_is); (case k_met => k_is)
    (case a_chosen => k_is); (case l_chosen => k_is); (case c_chosen => k_is); (case k_chosen => k_is); (case a_formed => k_is); (case l_formed => k_is)
    (case c_formed => k_is); (case k_formed => k_is); (case a_turned => k_is); (case l_turned => k_is); (case c_turned => k_is); (case k_turned => k_is)
    (case a_lsign => k_is); (case l_lsign => k_is); (case c_lsign => k_is); (case k_lsign => k_is); (case a_deed => k_is); (case l_deed => k_is)
    (case c_deed => k_is); (case k_deed => k_is); (case a_isList => k_is); (case l_isList => k_is); (case c_isList => k_is); (case k_isList => k_is)
    (case a_behind => k_is); (case l_behind => k_is); (case c_behind => k_is); (case k_behind => k_is); (case a_askT => k_is); (case l_askT => k_is)
    (case c_askT => k_is); (case k_askT => k_is); (case a_fwe => k_is); (case l_fwe => k_is); (case c_fwe => k_is); (case k_fwe => k_is)
    (case a_arr => k_is); (case l_arr => k_is); (case c_arr => k_is); (case k_arr => k_is); (case a_endOf => k_is); (case l_endOf => k_is)
    (case c_endOf => k_is); (case k_endOf => k_is); (case a_made_ => k_is); (case l_made_ => k_is); (case c_made_ => k_is); (case k_made_ => k_is)
    (case a_lrow => k_is); (case l_lrow => k_is); (case c_lrow => k_is); (case k_lrow => k_is); (case a_ended => k_is); (case l_ended => k_is)
    (case c_ended => k_is); (case k_ended => k_is); (case a_wordy => k_is); (case l_wordy => k_is); (case c_wordy => k_is); (case k_wordy => k_is)
    (case a_rew => k_is); (case l_rew => k_is); (case c_rew => k_is); (case k_rew => k_is); (case a_pairs => k_is); (case l_pairs => k_is)
    (case c_pairs => k_is); (case k_pairs => k_is); (case a_tKh => k_is); (case l_tK => k_is); (case a_tRh => k_is); (case l_tR => k_is)
    (case a_tSh => k_is); (case l_tS => k_is); (case a_tCh => k_is); (case l_tC => k_is); (case a_tEh => k_is); (case l_tE => k_is)
    (case a_most => k_is); (case a_least => k_is); (case a_mostP => k_is); (case a_mostS => k_is); (case a_mostE => k_is); (case a_sth => k_is)
    (case l_st => k_is); (case q_st => k_keys); (case v_st0 => k_is); (case v_st1 => k_is); (case v_st2 => k_is); (case aC => k_is)
    (case pg => k_is); (case hd => k_is); (case po => k_is); (case sa => k_is); (case nk => k_is); (case nr => k_is)
    (case nc => k_is); (case ha => k_is); (case hn => k_is); (case htk => k_is); (case hm => k_is); (case mkI => k_is)
    (case kC => k_is); (case a_init => k_is); (case i_init => k_is); (case l_init => k_is); (case c_init => k_is); (case k_init => k_is)
    (case lT => k_is); (case lEmp => k_is); (case a_pkinds => k_is); (case g_pkinds => k_is); (case t_pkinds => k_is); (case r_pkinds => k_is)
    (case l_pkinds => k_is); (case c_pkinds => k_is); (case k_pkinds => k_is); (case a_gt => k_is); (case i_gt => k_is); (case f_gti => k_is)
    (case l_gt => k_is); (case c_gt => k_is); (case k_gt => k_is); (case a_pas => k_is); (case i_pas => k_is); (case l_pas => k_is)
    (case c_pas => k_is); (case k_pas => k_is); (case rdIn => k_is); (case ga => k_is); (case fcl => k_is); (case rrc => k_is)
    (case rfi => k_is); (case l_rd => k_is); (case c_rd => k_is); (case k_rd => k_is); (case a_eq => k_is); (case i_eq => k_is)
    (case a_ne => k_is); (case l_eq => k_is); (case c_eq => k_is); (case k_eq => k_is); (case z_sorted => k_is); (case z_len => k_is)
    (case z_int_ => k_is); (case z_abs_ => k_is); (case z_divmod => k_is); (case z_range => k_is); (case z_list => k_is); (case z_tuple => k_is)
    (case z_repr => k_is); (case z_min_ => k_is); (case z_max_ => k_is); (case z_isin => k_is); (case z_str => k_is); (case z_bool => k_is)
    (case z_set_ => k_is); (case z_enum => k_is); (case z_all_ => k_is)
