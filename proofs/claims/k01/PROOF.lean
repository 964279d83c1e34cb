import PyProof.Rows.All
import Wide.All
import OpenK.AllK
import Wide.FinOn
import HandS.ForMost
import HandS.EndBits
import HandS.Wide
import PyProof.ReprRoads
import HandS.ExcInit
import HandS.ExcIs
import HandS.IsInst
import HandS.Defaults
import HandS.MakeKwOnly
import HandS.ExcOwn
import HandS.WordsExc
import HandS.ExcField
import HandS.OwnEq
import PyProof.Raises
import PyProof.EqKinds
import PyProof.DictKinds
import HandS.SortKw
import KE.DataMinMax
import HandS.More
import KE.GoesEnum
import HandS.Walk
import HandS.Flow
import HandS.SetFor
import HandS.Strs
import HandS.Zip
import HandS.Star
import HandS.TupAny
import HandS.Deep
import PyProof.NeKinds
import PyProof.P3In
import KE.KDictDisplayH
import PyProof.DictFindH
import HandS.Style
import HandS.DictComp
import KE.KStateDown
import HandS.Head0
import HandS.Head1
import HandS.Head2
import HandS.HeadEnd
import HandS.HeadHook1
import HandS.HeadHook2
import PySem.Challenge.RW_roadsizes_k01_ways_made_and_refused
section
set_option Elab.async false
set_option linter.all false
set_option maxRecDepth 100000
set_option maxHeartbeats 4000000
/-! ## G: defs that are entered with no repr under way (guards known), so that repr of containers can be told -/
namespace G
open PySem PySem.Spec PyProof.Rows L2

/-- a def's promise, kept where no repr is under way -/
structure Ok (P : Program) (w : World) (K : PySem.W.Frag) (mg : Str → Option Value) (base : Heap) (CX : CXT) (k : Nat) (f : Addr) (fd : FuncData) (ps : List Str) (sp : Sp) : Prop where
  len : ∀ vs H Q E, sp vs H Q E → vs.length = ps.length
  go : ∀ (A : Around), A.guards = some [] → ∀ (outer : List Env) (s : Shared) (H : Hp) (args : Args) (us : List Value) (vs : List V) (Q : VK) (E : XK),
    Room k A → Env0 P w K mg base A outer s H → BindsTo s fd args (ps.zip us) → Vals vs us → sp vs H Q E → codeAny (model P w) A (.call (.ref f) args) (CR CX outer P w H s Q E) s
section
variable {P : Program} {w : World} {K : PySem.W.Frag} {mg : Str → Option Value} {base : Heap} {CX : CXT}
theorem Ok.mono {j k : Nat} {f : Addr} {fd : FuncData} {ps : List Str} {sp : Sp} (F : Ok P w K mg base CX j f fd ps sp) (h : j ≤ k) : Ok P w K mg base CX k f fd ps sp :=
  ⟨F.len, fun A hg outer s H args us vs Q E hr => F.go A hg outer s H args us vs Q E (hr.mono h)⟩
theorem Ok.of {k : Nat} {f : Addr} {fd : FuncData} {ps : List Str} {sp : Sp} (F : FnOk P w K mg base CX k f fd ps sp) : Ok P w K mg base CX k f fd ps sp :=
  ⟨F.len, fun A _ => F.run A⟩

theorem mk {k : Nat} {x qual : Str} {st : Stmt} {f : Addr} {fd : FuncData} {N ps : List Str} {sp : Sp} (F : Fun K x qual st f fd) (S : FnScope N ps (defScope st)) (len : ∀ vs H Q E, sp vs H Q E → vs.length = ps.length)
    (walk : ∀ (cdv : Value) (A : Around) (outer : List Env) (s : Shared) (H : Hp) (vs : List V) (Q : VK) (E : XK), A.guards = some [] → Room k (A.deeper (envOfC qual (defScope st) s.heap.objs.size f cdv)) → sp vs H Q E →
      ∃ t, PSs (cxOf CX P w K mg base N qual (defScope st) f cdv A outer s H E).nox (defBody st) t ∧ t { nx := fun _ H' => Q .non H', rt := Q } (start N vs) H) :
    Ok P w K mg base CX (k + 1) f fd ps sp := by
  refine ⟨len, ?_⟩
  obtain ⟨oc, od, kV, doc, pm, an, cdv, ct, osl, hfd, lk, cd⟩ := F.ex
  intro A hg outer s H args us vs Q E hr e0 hb rv hsp
  subst hfd
  have stay : ∀ b o, base.get? b = some o → s.heap.get? b = some o := fun b o e => (e0.bs b o e).1
  have KX : K.In s.heap := e0.mod.kin.keeps stay
  have par : ∀ y ∈ ps.zip us, (defScope st).names.lookup y.1 = some .local ∨ ((defScope st).names.lookup y.1 = some .cell ∧ ((cellsFrom (s.heap.objs.size + 1) (defScope st).names []).lookup y.1).isSome = true) := by
    rintro ⟨n, v⟩ hy
    cases S.par n (List.of_mem_zip hy).1 with
    | inl q => exact .inl q
    | inr q => exact .inr ⟨q, PySem.W.cellsFrom_some _ _ _ (.inl q)⟩
  refine codeAny_call_function hr.depth (KX _ _ lk) rfl S.co S.gen rfl (PySem.W.codeRec_of KX cd) (hb _ _ _ _ (wpAny_newFunctionEnv_cells S.kind par ?_))
  intro env he s1 x
  subst he
  refine ⟨(e0.mod.nolimit.keeps stay).keeps x.toInCall.keep, codeAny_func ?_⟩
  obtain ⟨t, ht, hq⟩ := walk cdv A outer s H vs Q E hg (hr.deeper _) hsp
  refine wpAny_mono (ht.nox.run [] s1 (start N vs) H _ (inv_start S hr.hd e0 (len _ _ _ _ hsp) rv x) hq) ?_ fun e s' hs => hs
  intro fl s' hs
  cases fl with
  | ret u => obtain ⟨v, σ', H', J, ru, q⟩ := hs; exact ⟨v, H', J.os, J.bare, J.base, J.hok, ru, q⟩
  | next => obtain ⟨σ', H', J, q⟩ := hs; exact ⟨.non, H', J.os, J.bare, J.base, J.hok, rfl, q⟩
  | brk => obtain ⟨_, _, _, q⟩ := hs; exact q.elim
  | cont => obtain ⟨_, _, _, q⟩ := hs; exact q.elim

/-- the law's entry: callerA has no guard -/
theorem enter {mb : Str → Option Value} {k : Nat} {fa a : Addr} {fd : FuncData} {x : Str} {sp : Sp} {s₁ : Shared} {vs : List Value} {H : Hp}
    (KX : K.In s₁.heap) (hns : s₁.heap.Ns mainGlobals mg) (hb : s₁.heap.Ns builtinsNs mb) (hbb : ∀ x : Str, x ≠ "__name__" → mb x = bootBuiltins x) (hlim : s₁.heap.NoLimit) (hgen : s₁.gens = #[])
    (ha : s₁.heap.get? a = some { cls := .type "list", data := .seq vs.toArray }) (hr : Room k callerA)
    (F : ∀ base : Heap, K.In base → base.Ns mainGlobals mg → Ok P w K mg base CX k fa fd [x] sp) (hbind : ∀ (s : Shared) (u : Value), BindsTo s fd ⟨[u], []⟩ [(x, u)])
    (hO : Only H) (hok : HOk P w H s₁.heap) (only_a : ∀ b o, H b = some o → b = a) (notK : (∃ o, H a = some o) → K.lookup a = none)
    (hsp : sp [.ref a] H (fun v _ => v = .bl true) fun _ _ _ => False) (hCX : ∀ H e s', CX [] H s₁ (fun _ _ _ => False) e s' → False) :
    codeAny (model P w) callerA (.call (.ref fa) ⟨[.ref a], []⟩) (fun r s' => r = .ok (.ret (.bool true)) ∧ OldK s₁.heap s'.heap ∧ s'.os = s₁.os ∧ AllBare s'.gens) s₁ := by
  have free : ∀ {b : Addr}, b ≠ a → H b = none := fun {b} hne => by
    cases q : H b with
    | none => rfl
    | some u => exact absurd (only_a b u q) hne
  have dic : ∀ {b : Addr} {m : Str → Option Value}, s₁.heap.Ns b m → (hidT s₁.heap H).Ns b m := by
    rintro b m ⟨o, es, ep, e, d, r⟩
    refine ⟨o, es, ep, hidT_get e (free ?_), d, r⟩
    rintro rfl
    rw [ha] at e
    cases e
    cases d
  have kin : K.In (hidT s₁.heap H) := by
    intro b o e
    refine hidT_get (KX b o e) ?_
    cases q : H b with
    | none => rfl
    | some u =>
      have hba := only_a b u q
      subst hba
      rw [notK ⟨u, q⟩] at e
      cases e
  obtain ⟨mc, l1, l2⟩ := hlim
  have e0 : Env0 P w K mg (hidT s₁.heap H) callerA [] s₁ H :=
    { frames := rfl, mod := ⟨kin, dic hns, ⟨mb, dic hb, hbb⟩, ⟨mc, dic l1, l2⟩⟩, bs := fun b o e => of_hidT e, bsz := Nat.le_of_eq (hidT_size _ _), funs := trivial, frf := fun b z => (List.not_mem_nil z).elim, hok := hok, bare := .of_eq hgen }
  refine codeAny_mono ((F _ kin (dic hns)).go callerA rfl [] s₁ H _ [.ref a] _ _ _ hr e0 (hbind s₁ (.ref a)) (.cons (show RelV (.ref a) (.ref a) from rfl) .nil) hsp) ?_
  intro r s' h
  match r, h with
  | .error e, h => exact (hCX H e s' h).elim
  | .ok .next, h => exact h.elim
  | .ok .brk, h => exact h.elim
  | .ok .cont, h => exact h.elim
  | .ok (.ret u), ⟨v, H', os, bare, un, hok', rv, q⟩ =>
    cases (q : v = .bl true)
    cases (rv : u = .bool true)
    refine ⟨rfl, OldK.of_keep fun b o e => ?_, os, bare⟩
    by_cases q : H b = none
    · exact un.keep b o e q List.not_mem_nil List.not_mem_nil
    · rcases hO b with z | ⟨ob, xs, z⟩
      · exact absurd z q
      · have k1 := (hok b _ z).1
        rw [e] at k1
        cases k1
        exact (hok' b _ (un.frzs b _ _ z)).1

theorem walk {l : PySem.W.OpenLaw} {n k : Nat} {q : Program} {loose : List Str} {XP : (Str → Option Value) → Heap → Prop} {YP : World → Heap → Prop} {d : DefRec} {K : Params → PySem.W.Frag} {sp : PySem.W.Frag → Sp} {x : Str}
    (hn : l.most = some n) (hn2 : n ≤ sizeLine) (hdf : d.params.defaults = []) (hr : Room k callerA) (hY : ∀ (w : World) (h : Heap), YP w h → (K w.params).In h)
    (F : ∀ (w : World) (mg : Str → Option Value) (fa : Addr) (h : Heap), (K w.params).In h → h.Ns mainGlobals mg → mg d.name = some (.ref fa) →
      ∃ fd : FuncData, (∀ (s : Shared) (u : Value), BindsTo s fd ⟨[u], []⟩ [(x, u)]) ∧ ∀ base : Heap, (K w.params).In base → base.Ns mainGlobals mg → Ok l.prog w (K w.params) mg base CX0 k fa fd [x] (sp (K w.params)))
    (hsp : ∀ (K : PySem.W.Frag) (H : Hp) (a : Addr) (ns : List Int), ns.length ≤ n → (∀ z ∈ ns, Builtin.Int.intBits z ≤ 1048576) → SqL K H a (ns.map V.int) → sp K [.ref a] H (fun v _ => v = .bl true) fun _ _ _ => False) :
    PySem.W.WalkO q loose XP YP l.row.toRowW d [] (fun f vs => PySem.call f vs) := by
  refine Att.attach_callB hn hdf ?_
  intro w s₀ s₁ mg mb fa o pm cd doc a vs ns G Y ho hd hcd hmg hobj hints hlen hbits hg
  have KX := hY w _ Y
  obtain ⟨fd, hb, hF⟩ := F w mg fa _ KX G.T.g hmg
  have rv := vals_ints hints
  have zl : ns.length ≤ sizeLine := Nat.le_trans hlen hn2
  have wish := fun (H : Hp) (S : SqL (K w.params) H a (ns.map V.int)) => hsp (K w.params) H a ns hlen hbits S
  by_cases hk : (K w.params).lookup a = none
  · refine enter (H := fun b => if b = a then some (.frz { cls := .type "list", data := .seq vs.toArray } (.lst (ns.map V.int))) else none) KX G.T.g G.T.b G.T.builtins G.T.nolimit hg hobj hr hF hb ?_ ?_ ?_ (fun _ => hk) (wish _ ?_) fun _ _ _ z => z
    · intro b
      by_cases e : b = a
      · exact .inr ⟨_, _, if_pos e⟩
      · exact .inl (if_neg e)
    · intro b o e
      by_cases z : b = a
      · subst z
        cases (if_pos rfl).symm.trans e
        exact ⟨hobj, by rw [List.length_map]; exact zl, vs, _, rv, hobj⟩
      · cases (if_neg z).symm.trans e
    · intro b o e
      by_cases z : b = a
      · exact z
      · cases (if_neg z).symm.trans e
    · exact .inl (.inr ⟨_, if_pos rfl⟩)
  · obtain ⟨o, ek⟩ := Option.ne_none_iff_exists'.mp hk
    have eo := (KX a o ek).symm.trans hobj
    cases eo
    refine enter (H := fun _ => none) KX G.T.g G.T.b G.T.builtins G.T.nolimit hg hobj hr hF hb (fun _ => .inl rfl) (fun b o e => nomatch e) (fun b o e => nomatch e) (fun ⟨o, e⟩ => nomatch e) (wish _ ?_) fun _ _ _ z => z
    refine .inr ⟨_, vs.toArray, _, ek, rfl, rfl, rfl, ?_, by simpa using rv⟩
    rw [List.size_toArray, hints.length]
    exact zl
end
end G

end
section
set_option Elab.async false
set_option linter.all false
set_option maxRecDepth 100000
set_option maxHeartbeats 4000000
/-! ## repr of containers; int ** int of great ints -/
namespace G
open PySem PySem.Spec PyProof.Rows L2
def keyD : Key → PyData
  | .inl i => .int i
  | .inr x => .str x
mutual
/-- data at a value: as it is read off the abstract heap; lists and no dict (true), or dicts and no list (false) -/
inductive Dr (K : PySem.W.Frag) (H : Hp) : Bool → V → PyData → Prop
  | non {m : Bool} : Dr K H m .non .none
  | bl {m : Bool} (b : Bool) : Dr K H m (.bl b) (.bool b)
  | int {m : Bool} (i : Int) : Dr K H m (.int i) (.int i)
  | str {m : Bool} (x : Str) : Dr K H m (.str x) (.str x)
  | lst {a : Addr} {xs : List V} {ds : List PyData} : SqL K H a xs → DrA K H true xs ds → Dr K H true (.ref a) (.list ds)
  | tup {m : Bool} {a : Addr} {xs : List V} {ds : List PyData} : SqT K H a xs → DrA K H m xs ds → Dr K H m (.ref a) (.tuple ds)
  | dic {a : Addr} {kvs : List (Key × V)} {ds : List PyData} : H a = some (.dK kvs) → DrA K H false (kvs.map (·.2)) ds → Dr K H false (.ref a) (.dict ((kvs.map fun p => keyD p.1).zip ds))
inductive DrA (K : PySem.W.Frag) (H : Hp) : Bool → List V → List PyData → Prop
  | nil {m : Bool} : DrA K H m [] []
  | cons {m : Bool} {v : V} {vs : List V} {d : PyData} {ds : List PyData} : Dr K H m v d → DrA K H m vs ds → DrA K H m (v :: vs) (d :: ds)
end
theorem DrA.len {K : PySem.W.Frag} {H : Hp} {m : Bool} : ∀ {vs : List V} {ds : List PyData}, DrA K H m vs ds → vs.length = ds.length
  | _, _, .nil => rfl
  | _, _, .cons _ t => congrArg Nat.succ (DrA.len t)
mutual
theorem Dr.noDict {K : PySem.W.Frag} {H : Hp} : ∀ (d : PyData) (v : V), Dr K H true v d → d.hasDict = false
  | .none, _, _ => by simp only [PyData.hasDict]
  | .bool _, _, _ => by simp only [PyData.hasDict]
  | .int _, _, _ => by simp only [PyData.hasDict]
  | .str _, _, _ => by simp only [PyData.hasDict]
  | .list ds, _, h => by
    cases h with
    | lst _ ha => simp only [PyData.hasDict]; exact DrA.noDict ds _ ha
  | .tuple ds, _, h => by
    cases h with
    | tup _ ha => simp only [PyData.hasDict]; exact DrA.noDict ds _ ha
  | .dict _, _, h => by cases h
theorem DrA.noDict {K : PySem.W.Frag} {H : Hp} : ∀ (ds : List PyData) (vs : List V), DrA K H true vs ds → PyData.hasDictAll ds = false
  | [], _, _ => by simp only [PyData.hasDictAll]
  | d :: ds, _, h => by
    cases h with
    | cons a b => simp only [PyData.hasDictAll, Dr.noDict d _ a, DrA.noDict ds _ b, Bool.or_self]
end
theorem keys_read {P : Program} {w : World} {h : Heap} : ∀ {es : List DictEntry} {kvs : List (Key × V)} {vs : List (Key × Value)}, Pairs (mixKind P w) es vs → KV kvs vs →
    ∃ as, ReadsAll h (es.map (·.key)) (kvs.map fun p => keyD p.1) as ∧ as = []
  | _, _, _, .nil, .nil => ⟨_, .nil, rfl⟩
  | _, _, _, .cons hk hv hp, .cons r t => by
    obtain ⟨as, q, e⟩ := keys_read (P := P) (w := w) (h := h) hp t
    subst e
    have hk' : keyIs _ _ = true := hk
    rw [← r.1] at hk'
    rename_i e' _ _ _ p' _
    rcases keyIs_shape hk' with ⟨i, t, ek, ev⟩ | ⟨x, t, ek, ev⟩
    · refine ⟨[], ?_, rfl⟩
      have z := ReadsAll.cons (h := h) (Reads.int i t) q
      rw [← ev] at z
      have ke : keyD p'.1 = .int i := by rw [ek]; rfl
      rw [List.map_cons, List.map_cons, ke]
      exact z
    · refine ⟨[], ?_, rfl⟩
      have z := ReadsAll.cons (h := h) (Reads.str x t) q
      rw [← ev] at z
      have ke : keyD p'.1 = .str x := by rw [ek]; rfl
      rw [List.map_cons, List.map_cons, ke]
      exact z
theorem vals_of {P : Program} {w : World} : ∀ {es : List DictEntry} {kvs : List (Key × V)} {vs : List (Key × Value)}, Pairs (mixKind P w) es vs → KV kvs vs → Vals (kvs.map (·.2)) (es.map (·.val))
  | _, _, _, .nil, .nil => .nil
  | _, _, _, .cons hk hv hp, .cons r t => .cons (by show RelV _ (DictEntry.val _); rw [hv]; exact r.2) (vals_of hp t)
section
variable {X : Cx} {pins : List (Addr × Obj)} {σ : L2.St} {H : Hp} {s : Shared}
mutual
theorem Dr.reads (I : Inv X pins σ H s) {m : Bool} : ∀ (d : PyData) (v : V) (u : Value), Dr X.K H m v d → RelV v u → ∃ as, Reads s.heap u d as ∧ (m = false → sysModules ∉ as)
  | .none, _, _, h, r => by
    cases h
    cases r
    exact ⟨_, Reads.none, fun _ => List.not_mem_nil⟩
  | .bool b, _, _, h, r => by
    cases h
    cases r
    exact ⟨_, Reads.bool b, fun _ => List.not_mem_nil⟩
  | .int i, _, _, h, r => by
    cases h
    obtain ⟨t, rfl⟩ := r
    exact ⟨_, Reads.int i t, fun _ => List.not_mem_nil⟩
  | .str x, _, _, h, r => by
    cases h
    obtain ⟨t, rfl⟩ := r
    exact ⟨_, Reads.str x t, fun _ => List.not_mem_nil⟩
  | .list ds, _, _, h, r => by
    cases h with
    | @lst a xs _ hs ha =>
      cases r
      obtain ⟨its, rv, ⟨o, n, ho, hc, _, hd⟩, _⟩ := I.list hs
      obtain ⟨as, hr, hn⟩ := DrA.reads I ds _ its ha rv
      exact ⟨_, Reads.list ho hc hd hr, fun z => by cases z⟩
  | .tuple ds, _, _, h, r => by
    cases h with
    | tup hs ha =>
      cases r
      obtain ⟨its, rv, ⟨o, ho, hc, n, hd⟩, _⟩ := I.tuple hs
      obtain ⟨as, hr, hn⟩ := DrA.reads I ds _ its ha rv
      exact ⟨_, Reads.tuple ho hc hd hr, hn⟩
  | .dict kds, _, _, h, r => by
    cases h with
    | @dic a kvs ds hs ha =>
      cases r
      obtain ⟨_, hsys, vs, rk, o, es, ep, ho, hx, hd, _, hp, _⟩ := (show ObjOk X.prog X.w H s.heap a (.dK kvs) from I.hok a _ hs)
      obtain ⟨_, hk, e⟩ := keys_read (h := s.heap) hp rk
      subst e
      have hl : (kvs.map fun p => keyD p.1).length = ds.length := by rw [List.length_map, ← ha.len, List.length_map]
      have e1 : ((kvs.map fun p => keyD p.1).zip ds).map (·.1) = kvs.map fun p => keyD p.1 := List.map_fst_zip (Nat.le_of_eq hl)
      have e2 : ((kvs.map fun p => keyD p.1).zip ds).map (·.2) = ds := List.map_snd_zip (Nat.le_of_eq hl.symm)
      have ha' : DrA X.K H false (kvs.map (·.2)) (((kvs.map fun p => keyD p.1).zip ds).map (·.2)) := by rw [e2]; exact ha
      obtain ⟨bs, hr, hn⟩ := DrA.reads2 I ((kvs.map fun p => keyD p.1).zip ds) _ _ ha' (vals_of hp rk)
      refine ⟨_, Reads.dict ho hx.1 hd (by rw [e1]; exact hk) hr, fun _ z => ?_⟩
      rcases List.mem_append.mp z with z | z
      · rcases List.mem_cons.mp z with e | e
        · rw [← e] at hsys
          simp at hsys
        · exact absurd e List.not_mem_nil
      · exact hn rfl z
theorem DrA.reads (I : Inv X pins σ H s) {m : Bool} : ∀ (ds : List PyData) (vs : List V) (us : List Value), DrA X.K H m vs ds → Vals vs us → ∃ as, ReadsAll s.heap us ds as ∧ (m = false → sysModules ∉ as)
  | [], _, _, h, r => by
    cases h
    cases r
    exact ⟨_, ReadsAll.nil, fun _ => List.not_mem_nil⟩
  | d :: ds, _, _, h, r => by
    cases h with
    | cons h1 h2 =>
      cases r with
      | cons r1 r2 =>
        obtain ⟨as, q1, n1⟩ := Dr.reads I d _ _ h1 r1
        obtain ⟨bs, q2, n2⟩ := DrA.reads I ds _ _ h2 r2
        exact ⟨_, ReadsAll.cons q1 q2, fun e z => (List.mem_append.mp z).elim (n1 e) (n2 e)⟩
theorem DrA.reads2 (I : Inv X pins σ H s) {m : Bool} : ∀ (kds : List (PyData × PyData)) (vs : List V) (us : List Value), DrA X.K H m vs (kds.map (·.2)) → Vals vs us → ∃ as, ReadsAll s.heap us (kds.map (·.2)) as ∧ (m = false → sysModules ∉ as)
  | [], _, _, h, r => by
    cases h
    cases r
    exact ⟨_, ReadsAll.nil, fun _ => List.not_mem_nil⟩
  | (k, d) :: ds, _, _, h, r => by
    cases h with
    | cons h1 h2 =>
      cases r with
      | cons r1 r2 =>
        obtain ⟨as, q1, n1⟩ := Dr.reads I d _ _ h1 r1
        obtain ⟨bs, q2, n2⟩ := DrA.reads2 I ds _ _ h2 r2
        exact ⟨_, ReadsAll.cons q1 q2, fun e z => (List.mem_append.mp z).elim (n1 e) (n2 e)⟩
end
end
/-- repr of a list that is not empty: what is read below it is none of the interpreter's own dict -/
theorem repr_top {prog : Program} {w : World} {A : Around} {E : Value → Shared → Prop} {s : Shared} {a : Addr} {o : Obj} {v : Value} {vs : List Value} {n : Nat} {ds : List PyData} {as : List Addr} {Q : Value → Shared → Prop} (ho : s.heap.get? a = some o) (hc : o.cls = .type "list") (hd : o.data = .seq (v :: vs).toArray n)
    (hr : ReadsAll s.heap (v :: vs) ds as) (hn : sysModules ∉ as) (hs : PyData.showableAll ds = true) (hg : A.guards = some []) (hu : A.units + ((PyData.list ds).depth + 1) < cLine) (hz : (PyData.list ds).shown.length ≤ sizeLine)
    (hQ : ∀ h' u tk, (∀ b o, s.heap.get? b = some o → h'.get? b = some o) → Q (.str (PyData.list ds).shown u) { s with heap := h', toks := tk }) : wpAny (model prog w) A (call (.builtin "repr") [.ref a]) Q E s := by
  have depth : (PyData.list ds).depth = PyData.depthAll ds + 1 := by simp only [PyData.depth]
  have text : (PyData.list ds).shown = listText (PyData.shownAll ds) := by simp only [PyData.shown]
  rw [text] at hz
  rw [depth] at hu
  obtain ⟨bs, most, items⟩ := ReprAllK.of_readsAll (prog := prog) (w := w) hr hs (fun _ => hn) (fun t ht => Nat.le_trans (listText_mem_le ht) hz)
  have apart : a ∉ bs := not_mem_of_deeper (.list ho hc hd (by simpa using hr)) (by rw [depth]; omega) most
  refine call_repr_slot (by omega) ⟨o, ho, hc⟩ F.slot_list_repr.toG ?_
  refine call_list_reprK ho hc hd apart (by simpa using items.length_eq) (fun i y e => items.item i y (by simpa using e)) hg (fun b _ => Clear.nil b) (by show A.units + 1 + _ < cLine; omega) (fun _ _ e => e) (fun h' u tk k => ⟨_, _, rfl, ?_⟩) hz
  rw [← text]
  exact hQ h' u tk k
def rRepr (K : PySem.W.Frag) : List V → Hp → VK → Prop := fun xs H Q => ∃ (a : Addr) (m : Bool) (y : V) (ys : List V) (ds : List PyData), xs = [.ref a] ∧ SqL K H a (y :: ys) ∧ DrA K H m (y :: ys) ds ∧ (PyData.list ds).showable = true ∧ (PyData.list ds).depth ≤ 20 ∧ (PyData.list ds).shown.length ≤ sizeLine ∧ Q (.str (PyData.list ds).shown) H
theorem call_repr {X : Cx} (hg : X.A.guards = some []) (hu : X.A.units + 64 < cLine) : CallR X (.builtin "repr") (rRepr X.K) := by
  intro pins s σ H xs us Q I r h
  obtain ⟨a, m, y, ys, ds, rfl, hL, hd, hs, hl, hz, q⟩ := h
  cases r with
  | cons rx rr =>
    cases rr
    cases rx
    have fin : ∀ (h' : Heap) (u : Tok) (tk : Nat), (∀ b o, s.heap.get? b = some o → h'.get? b = some o) → EP X pins σ Q (.str (PyData.list ds).shown u) { s with heap := h', toks := tk } := fun h' u tk k => ⟨.str (PyData.list ds).shown, H, I.kept (t' := tk) k, ⟨u, rfl⟩, q⟩
    obtain ⟨its, rv, ⟨o, n, ho, hc, _, hd'⟩, _⟩ := I.list hL
    obtain ⟨as, hr, hn⟩ := DrA.reads I ds _ its hd rv
    cases m with
    | true =>
      refine repr_of_reads' (.list ho hc hd' hr) hs (fun z => ?_) hg (by omega) (fun _ _ e => e) fin hz
      rw [show (PyData.list ds).hasDict = PyData.hasDictAll ds by simp only [PyData.hasDict], DrA.noDict ds _ hd] at z
      cases z
    | false =>
      cases rv with
      | cons r1 r2 => exact repr_top ho hc hd' hr (hn rfl) (by simpa only [PyData.showable] using hs) hg (by omega) hz fin
def rReprF : List V → Hp → VK → Prop := fun xs H Q => (xs = [.non] ∧ Q (.str "None") H) ∨ (∃ b, xs = [.bl b] ∧ Q (.str (if b then "True" else "False")) H) ∨ ∃ i, xs = [.int i] ∧ i.natAbs.log2 < 1920 ∧ Q (.str (toString i)) H
theorem call_reprF {X : Cx} : CallR X (.builtin "repr") rReprF := by
  intro pins s σ H xs us Q I r h
  rcases h with ⟨rfl, q⟩ | ⟨b, rfl, q⟩ | ⟨i, rfl, hz, q⟩
  · cases r with
    | cons rx rr => cases rr; cases rx; exact PySem.P.repr_of_none ⟨.str _, H, I.tok _, ⟨_, rfl⟩, q⟩
  · cases r with
    | cons rx rr => cases rr; cases rx; exact PySem.P.repr_of_bool ⟨.str _, H, I.tok _, ⟨_, rfl⟩, q⟩
  · cases r with
    | cons rx rr => cases rr; obtain ⟨t, rfl⟩ := rx; exact PySem.P.repr_of_int hz ⟨.str _, H, I.tok _, ⟨_, rfl⟩, q⟩
/-- a ** n, n a small written number, a of any size -/
theorem op_powN {X : Cx} : OpR X (binaryOp .Pow) (rI (fun i j => 0 ≤ j ∧ (Builtin.Int.intBits i : Int) * j ≤ 2 ^ 27) fun i j => .int (i ^ j.toNat)) := opI fun _ _ _ _ _ _ _ hc q => pow_int hc.1 hc.2 q
end G

end
section
set_option Elab.async false
set_option linter.all false
set_option maxRecDepth 100000
set_option maxHeartbeats 4000000
/-! ## an own error as a plain value: made by place or by name, its field read, isinstance of it -/
namespace PySem.W
open PySem PySem.Spec PySem.Calls PyProof.Rows
section
variable {prog : Program} {w : World} {A : Around} {E : Value → Shared → Prop} {s : Shared} {K : Frag} {x D : Addr} {ox : Obj} {od : Option Obj}
theorem g_findData {name : Str} {a g : Value} (hc : (clsIn K D).isSome = true) (ha : findIn K (.ref D) name = some (some a)) (hg : specialIn K a "__get__" = some (some g)) (ht : takesIn K a = some true) : findObj K D od name = some (.bind g a) := by
  cases e : clsIn K D with
  | none => rw [e] at hc; cases hc
  | some cd => unfold findObj; rw [e, Option.bind_some, ha, Option.bind_some]; simp [hg, ht]
/-- x.__class__, x an error that may have a dict of its own -/
theorem g_class {Q : Option Value → Shared → Prop} (F : L2.ExcC K D) (X : K.In s.heap) (I : InstAt s.heap x ox D od) (h : Q (some (.ref D)) { s with toks := s.toks + 1 }) : wpAny (model prog w) A (getAttr? (.ref x) "__class__") Q E s := by
  have cls : (clsIn K D).isSome = true := by obtain ⟨cd, hc, _⟩ := any_some F.hd; rw [hc]; rfl
  have found := g_findData (od := od) cls F.ha F.hn F.ht
  obtain ⟨hp, g, d, t, os⟩ := s
  have ty := I.type (M := model prog w)
  have look := looks_find (M := model prog w) X I found
  have base : Looks (model prog w) hp (isInstance (.ref x) (.type "BaseException")) true := ty.andThen (looks_subIn X F.hs)
  have other : (Value.builtin "BaseException.__getattribute__" == Value.builtin "object.__getattribute__") = false := by decide +kernel
  unfold getAttr? getAttrBy? getAttrBy
  refine wpAny_bind (wpAny_mkText (wpAny_bind (wpAny_attempt (wpAny_holding (wpAny_bind (ty.at (wpAny_bind ((looks_findIn (M := model prog w) X F.hg).at ?_))))))))
  show wpAny _ _ (if (true && Value.builtin "BaseException.__getattribute__" == Value.builtin "object.__getattribute__") = true then _ else _) _ _ _
  rw [other, Bool.and_false, if_neg Bool.false_ne_true]
  unfold getAttrByItsOwn hookBefore
  refine wpAny_bind (?_ : wpAny _ _ _ _ _ _); rw [if_pos (show onTheHeap (Value.ref D) = true from rfl)]
  refine (looks_findIn (M := model prog w) X F.hk).at (wpAny_bind (wpAny_attempt (wpAny_holding ?_)))
  unfold callGetattribute; rw [if_neg (show ¬ (false && onTheHeap (Value.builtin "BaseException.__getattribute__")) = true from Bool.false_ne_true)]
  unfold boundAndCalled; rw [PySem.F.excAttr_ValueError.ga.bind (.ref x)]
  refine wpAny_bind (wpAny_pure (?_ : wpAny _ _ (call (.builtin "BaseException.__getattribute__") [.ref x, .str "__class__" t]) _ _ _))
  refine wpAny_call (codeAny_call_builtin PySem.F.excAttr_ValueError.ga.plain PySem.F.entry_bexc_ga (@check_slot (model prog w) _ _ ⟨hp, g, d, t + 1, os⟩ "BaseException.__getattribute__" "BaseException" "__getattribute__" (.ref x) [.str "__class__" t] [] _ (by decide +kernel) (by decide +kernel) base (PySem.F.args_bexc_ga (.ref x) (.str "__class__" t)) ?_))
  unfold Builtin.«object.__getattribute__»
  refine wpAny_bind (wpAny_of_eq (a := ((Value.ref x : Value), [Value.str "__class__" t])) (by first | rfl | (simp only [slotArgs]; rfl)) (wpAny_bind (wpAny_pure (wpAny_bind (ty.at (wpAny_bind (look.at ?_)))))))
  refine (?_ : wpAny _ _ (holding [Value.builtin "object.__class__"] (call (.builtin "getset_descriptor.__get__") [.builtin "object.__class__", .ref x, .ref D]) >>= ret) _ _ _)
  refine wpAny_bind (wpAny_holding (wpAny_call (class_get (s := ⟨hp, g, d, t + 1, os⟩) (ox := ox) (od := od) X I F.hm (wpAny_pure (?_ : wpAny _ _ (handedOut (.ref D)) _ _ _)))))
  rw [handedOut_of (v := .ref D) rfl]
  first | exact wpAny_pure (wpAny_pure h) | exact wpAny_pure h | exact wpAny_pure (wpAny_bind (wpAny_pure (wpAny_pure h)))
theorem g_kit (F : L2.ExcC K D) : KitX K (.ref x) (.ref D) (fun h => InstAt h x ox D od) := by
  have there : ∃ o, K.lookup D = some o ∧ ∃ cd, o.data = .cls cd := by
    obtain ⟨cd, hc, _⟩ := any_some F.hd
    unfold clsIn at hc
    split at hc
    · rename_i o; exact ⟨_, o, _, rfl⟩
    · cases hc
  obtain ⟨⟨oc, odd, odata, osl⟩, hk, cd, hcd⟩ := there
  cases (hcd : odata = _)
  refine { ty := fun _ _ _ I => I.type, it := ?_, ne := ?_, ca := fun X I k => g_class F X I k }
  · intro M h X _ A' Q' E' s' k q
    unfold isType loadHead
    exact wpAny_bind (wpAny_loadPart (k _ _ (X _ _ hk)) (wpAny_pure q))
  · intro h tp dd its n sl X htp
    refine Bool.eq_false_iff.mpr fun q => ?_
    have e : D = tp := Value.ref.inj (beq_iff_eq.mp q)
    rw [← e, X _ _ hk] at htp
    cases htp
end
end PySem.W
namespace G
open PySem PySem.Spec PyProof.Rows L2
/-- at e: an error of the class at C whose field f is v -/
def Er (H : Hp) (e C : Addr) (f : Str) (v : V) : Prop := ∃ dx, H e = some (exo e C (some dx)) ∧ H dx = some (exd dx [(f, v)])
/-- what the written part tells of such a class -/
structure Cl (K : PySem.W.Frag) (C : Addr) (f : Str) : Prop where
  T : OexC K C
  F : ExcC K C
  no : PySem.W.findIn K (.ref C) f = some none
section
variable {X : Cx} {C D e : Addr} {f : Str} {v : V} {te : TE} {ex : Expr} {pos : Pos}
theorem er_inst {pins : List (Addr × Obj)} {σ : L2.St} {H : Hp} {s : Shared} (I : Inv X pins σ H s) (h : Er H e C f v) : ∃ (oe : Obj) (od : Obj) (u : Value), PySem.W.InstAt s.heap e oe C (some od) ∧ RelV v u ∧ PySem.W.lookIn f od = some (some u) := by
  obtain ⟨dx, h1, h2⟩ := h
  obtain ⟨t1, ho⟩ := exo_at I.hok h1
  obtain ⟨mA, hns, rel⟩ := exd_at I.hok h2
  obtain ⟨od, hod, hl⟩ := lookIn_ns hns
  have l : List.lookup f [(f, v)] = some v := by simp [List.lookup]
  obtain ⟨u, hu, ru⟩ := RelO.some_of (v := v) (o := mA f) (by rw [← l]; exact rel f)
  exact ⟨_, od, u, ⟨ho, rfl, by unfold PySem.W.notCls; rfl, hod⟩, ru, by rw [hl, hu]⟩
/-- isinstance(e, c) -/
def rIsEr (K : PySem.W.Frag) : List V → Hp → VK → Prop := fun xs H Q => ∃ (e C : Addr) (f : Str) (v c : V) (u : Value) (b : Bool), xs = [.ref e, c] ∧ Er H e C f v ∧ ExcC K C ∧ ClsV c u ∧ PySem.W.kitOne K (.ref C) u = some b ∧ Q (.bl b) H
theorem call_isEr : CallR X (.builtin "isinstance") (rIsEr X.K) := by
  intro pins s σ H xs us Q I r h
  obtain ⟨e, C, f, v, c, u, b, rfl, he, F, k, hb, q⟩ := h
  cases r with
  | cons rx rr =>
    cases rr with
    | cons rt rr =>
      cases rr
      cases rx
      cases k.eq rt
      obtain ⟨oe, od, _, J, _, _⟩ := er_inst I he
      exact PySem.W.kia_one (PySem.W.g_kit F) I.kIn J hb (fun z => nomatch z) fun tk => ⟨.bl b, H, I.tok tk, rfl, q⟩
/-- e.f -/
def tErF (K : PySem.W.Frag) (f : Str) (te : TE) : TE := fun σ H Q => te σ H fun x H1 => ∃ (e C : Addr) (v : V), x = .ref e ∧ Er H1 e C f v ∧ Cl K C f ∧ Q v H1
theorem pe_erF (he : PE X ex te) (hb : attributeBase ex f X.env (eval ex X.env) = eval ex X.env := by rfl) : PE X (.Attribute ex f pos) (tErF X.K f te) := by
  refine ⟨fun pins s σ H Q I h => attr_of hb (thn (he.run pins s σ H _ I h) fun u s1 hh => ?_)⟩
  obtain ⟨x, H1, I1, rx, e, C, v, rfl, hE, L, q⟩ := hh
  cases rx
  obtain ⟨oe, od, u, J, ru, lk⟩ := er_inst I1 hE
  exact HandSPX.exc_get I1.kIn J L.F.hg L.F.hk L.F.hs (PySem.W.findObj_own L.F.hd L.no rfl lk) (handed_of ru) ⟨v, H1, I1.tok _, ru, q⟩
end
end G

end
section
set_option Elab.async false
set_option linter.all false
set_option maxRecDepth 100000
set_option maxHeartbeats 4000000
/-! ## an own error made by a call with any arguments: its own __init__ is called with the same ones -/
namespace PySem.HandSPX
open PySem PySem.Spec PySem.Calls PyProof.Rows PySem.W
section
variable {prog : Program} {w : World} {A : Around} {E : Value → Shared → Prop} {R : Result → Shared → Prop} {h : Heap} {g : Array GenState} {d : Drawn} {t : Nat} {os : OsState}
variable {nm q : Str} {C N fI : Addr} {bs bm : List Value} {hdct : Bool} {sn : List Str} {sub : List Value} {ab : Bool} {col : Option Bool} {dd : Option Addr} {k0 k1 k2 k3 k5 : Option Value} {rest : List Value} {kw : List (Str × Value)}
/-- the class, made by ValueError's __new__ -/
abbrev veC (nm q : Str) (C N : Addr) (bs bm : List Value) (hdct : Bool) (sn : List Str) (sub : List Value) (ab : Bool) (col : Option Bool) (dd : Option Addr) (k0 k1 k2 k3 k5 : Option Value) : Obj := excClassObj nm q C N bs bm hdct sn sub ab col dd k0 k1 k2 k3 k5 "ValueError.__new__"
theorem g_has (hm : refsVE bm = true) (B : String) : (Value.ref C :: bm).contains (.type B) = veTail.contains (.type B) := by
  rw [List.contains_cons, refsVE_contains B bm hm]
  rfl
theorem g_check_new {M : Model} {Q : Unit → Shared → Prop} (hm : refsVE bm = true) (hC : h.get? C = some (veC nm q C N bs bm hdct sn sub ab col dd k0 k1 k2 k3 k5)) (hq : Q () ⟨h, g, d, t, os⟩) :
    wpAny M A (checkBuiltinCall "ValueError.__new__" ⟨.ref C :: rest, kw⟩) Q E ⟨h, g, d, t, os⟩ := by
  have F := PySem.F.excBase_ValueError
  have mine : (Value.ref C :: bm).contains (.type "ValueError") = true := (g_has hm _).trans (by decide +kernel)
  have star := F.noStar
  simp only [checkBuiltinCall, F.newKind, F.newSplit, F.newRow]
  repeat (first
    | (refine wpAny_loadPart_at hC ?_)
    | (refine wpAny_isSubtype_exc hC ?_; rw [mine])
    | (refine wpAny_staticBase_exc hC ?_)
    | (refine wpAny_madeBy_exc hC ?_)
    | (simp only [bne_self_eq_false, Bool.false_eq_true, if_false])
    | wp_step)
  all_goals first | exact hq | trace_state
theorem g_new (hm : refsVE bm = true) (hC : h.get? C = some (veC nm q C N bs bm hdct sn sub ab col dd k0 k1 k2 k3 k5)) (hz : rest.length ≤ sizeLine)
    (hq : R (.ok (.ret (.ref (h.objs.size + 1)))) ⟨(h.push (W.kdv_tup rest)).push (excO C h.objs.size), g, d, t, os⟩) : codeAny (model prog w) A (.builtin "ValueError.__new__" ⟨.ref C :: rest, kw⟩) R ⟨h, g, d, t, os⟩ := by
  have F := PySem.F.excBase_ValueError
  have ends := F.ends
  have mine : (Value.ref C :: bm).contains (.type "ValueError") = true := (g_has hm _).trans (by decide +kernel)
  have noA : (Value.ref C :: bm).contains (.type "AttributeError") = false := (g_has hm _).trans (by decide +kernel)
  have noN : (Value.ref C :: bm).contains (.type "NameError") = false := (g_has hm _).trans (by decide +kernel)
  refine codeAny_builtinAt F.entry ?_
  unfold Builtin.«BaseException.__new__»
  refine wpAt_bind (?_ : wpAt _ _ _ (stack >>= _) _ _ _)
  refine wpAt_bind (wpAt_stack fun p below => wpAt_of_wpAny ?_)
  wp_walk
  refine wpAt_of_wpAny ?_
  rw [F.owner]
  repeat (first
    | (with_reducible refine wpAny_madeHere_exc F.canon hC ?_)
    | (with_reducible refine wpAny_loadPart_at hC ?_)
    | (with_reducible refine wpAny_isSubtype_exc hC ?_; first | rw [mine] | rw [noA] | rw [noN])
    | wp_step)
  refine (?_ : R _ _)
  rw [Heap.size_push]
  exact hq
theorem g_type_call {Q : Fin → Shared → Prop} (hm : refsVE bm = true) (hC : h.get? C = some (veC nm q C N bs bm hdct sn sub ab col dd k0 k1 k2 k3 k5)) (hi : W.Looks (model prog w) h (typeLookup (.ref C) "__init__") (some (.ref fI)))
    (hb : ∀ self, W.Looks (model prog w) h (bindSpecial (.ref fI) self) (.ref fI, [self])) (hz : rest.length ≤ sizeLine)
    (hq : codeAny (model prog w) A (.call (.ref fI) ⟨.ref (h.objs.size + 1) :: rest, kw⟩) (fun r s' => match r with | .ok (.ret v) => v = .none ∧ Q (.done (.ret (.ref (h.objs.size + 1)))) s' | .ok _ => False | .error e => E e s')
      ⟨(h.push (W.kdv_tup rest)).push (excO C h.objs.size), g, d, t, os⟩) : wpAny (model prog w) A (Builtin.«type.__call__» ⟨.ref C :: rest, kw⟩) Q E ⟨h, g, d, t, os⟩ := by
  have F := PySem.F.excBase_ValueError
  repeat (first
    | (with_reducible refine wpAny_loadPart_at hC ?_)
    | (with_reducible refine wpAny_madeBy_exc hC ?_)
    | wp_step)
  refine codeAny_call_builtin_code (Code.quiet_builtin _ F.quiet) (g_check_new hm hC (g_new hm hC hz ?_))
  refine (?_ : wpAny _ _ _ _ _ _)
  have keep : ∀ b o, h.get? b = some o → ((h.push (W.kdv_tup rest)).push (excO C h.objs.size)).get? b = some o := fun b o e => Heap.get?_push_of_some _ (Heap.get?_push_of_some _ e)
  have hC₁ := keep _ _ hC
  have new : ((h.push (W.kdv_tup rest)).push (excO C h.objs.size)).get? (h.objs.size + 1) = some (excO C h.objs.size) := by heap_get
  have self : (Value.ref C :: bm).contains (.ref C) = true := by simp
  unfold isInstance
  repeat (first
    | (with_reducible refine wpAny_loadPart_at new ?_)
    | (with_reducible refine wpAny_isSubtype_exc hC₁ ?_; rw [self])
    | wp_step)
  refine (?_ : wpAny _ _ (typeLookup (.ref C) _) _ _ _)
  refine (hi.keeps keep).at (wpAny_holding (wpAny_bind (((hb (.ref (h.objs.size + 1))).keeps keep).at ?_)))
  refine wpAny_bind (wpAny_call (codeAny_mono hq ?_))
  intro r s' z
  rcases r with e | fl
  · exact z
  · cases fl with
    | ret v =>
      obtain ⟨ev, z'⟩ := z
      subst ev
      first | exact wpAny_pure (wpAny_pure z') | (wp_walk; exact z')
    | next => exact z.elim
    | brk => exact z.elim
    | cont => exact z.elim
theorem g_check_type {M : Model} {Q : Unit → Shared → Prop} (hC : h.get? C = some (veC nm q C N bs bm hdct sn sub ab col dd k0 k1 k2 k3 k5)) (hq : Q () ⟨h, g, d, t, os⟩) : wpAny M A (checkBuiltinCall "type.__call__" ⟨.ref C :: rest, kw⟩) Q E ⟨h, g, d, t, os⟩ := by
  have f3 := tc_sub
  have isT : (⟨h, g, d, t, os⟩ : Shared).TypeIs (.ref C) "type" := ⟨_, hC, rfl⟩
  simp only [checkBuiltinCall, tc_kind, tc_split]
  repeat (any_goals (first
    | assumption
    | (with_reducible refine wpAny_loadPart_at hC ?_)
    | (with_reducible refine wpAny_onRaise ?_)
    | (with_reducible refine wpAny_map ?_)
    | wp_step))
theorem g_call (hm : refsVE bm = true) (hC : h.get? C = some (veC nm q C N bs bm hdct sn sub ab col dd k0 k1 k2 k3 k5)) (hi : W.Looks (model prog w) h (typeLookup (.ref C) "__init__") (some (.ref fI)))
    (hb : ∀ self, W.Looks (model prog w) h (bindSpecial (.ref fI) self) (.ref fI, [self])) (hz : rest.length ≤ sizeLine)
    (hq : codeAny (model prog w) (A.under (.builtin "type.__call__" ⟨.ref C :: rest, kw⟩)) (.call (.ref fI) ⟨.ref (h.objs.size + 1) :: rest, kw⟩) (W.InitBack (h.objs.size + 1) R) ⟨(h.push (W.kdv_tup rest)).push (excO C h.objs.size), g, d, t, os⟩) :
    codeAny (model prog w) A (.call (.ref C) ⟨rest, kw⟩) R ⟨h, g, d, t, os⟩ := by
  have f1 := tc_lookup
  have f2 := tc_bind (.ref C)
  have isT : (⟨h, g, d, t, os⟩ : Shared).TypeIs (.ref C) "type" := ⟨_, hC, rfl⟩
  refine codeAny_of_tree (?_ : wpAny _ _ (callAny (.ref C) _) _ _ _)
  repeat (any_goals (first
    | assumption
    | (with_reducible refine wpAny_loadPart_at hC ?_)
    | wp_step))
  refine ⟨rfl, codeAny_call_builtin_at (Code.quiet_builtin _ (by decide +kernel)) entry_typeCall (g_check_type hC (g_type_call hm hC hi hb hz (codeAny_mono hq ?_)))⟩
  rintro (e | (v | _ | _ | _)) s' z <;> exact z
end
end PySem.HandSPX

end
section
set_option Elab.async false
set_option linter.all false
set_option maxRecDepth 100000
set_option maxHeartbeats 4000000
/-! ## C(v) and C(f=v) as values -/
namespace G
open PySem PySem.Spec PyProof.Rows L2
theorem Er.mono {H H' : Hp} {e C : Addr} {f : Str} {v : V} (s : Same H H') (h : Er H e C f v) : Er H' e C f v := by
  obtain ⟨dx, a, b⟩ := h
  exact ⟨dx, s _ _ a, s _ _ b⟩
/-- self.f = v -/
def spIni (C : Addr) (f : Str) : Sp := fun vs H Q _ => ∃ (a : Addr) (v : V), vs = [.ref a, v] ∧ H a = some (exo a C none) ∧ ∀ dx, H dx = none → dx ≠ a → Q .non (upd (upd H dx (exd dx [(f, v)])) a (exo a C (some dx)))
/-- a class with such an __init__: its def at fI -/
structure Mk (P : Program) (w : World) (K : PySem.W.Frag) (mg : Str → Option Value) (base : Heap) (C : Addr) (f : Str) : Prop where
  L : Cl K C f
  ex : ∃ (fI : Addr) (fd : FuncData) (ps : List Str), PySem.W.findIn K (.ref C) "__init__" = some (some (.ref fI)) ∧ PySem.W.typeIn K (.ref fI) = some (.type "function") ∧ FnOk P w K mg base CX0 1 fI fd ps (spIni C f) ∧
    ps.length = 2 ∧ (∀ (s : Shared) (u v : Value), BindsTo s fd ⟨[u, v], []⟩ (ps.zip [u, v])) ∧ ∀ (s : Shared) (u v : Value), BindsTo s fd ⟨[u], [(f, v)]⟩ (ps.zip [u, v])
section
variable {X : Cx} {C : Addr} {f x : Str} {e : Expr} {ta tk : TA} {p pos : Pos} {kws : List Keyword}
theorem made {pins : List (Addr × Obj)} {σ : L2.St} {H : Hp} {s : Shared} {Q : VK} {v : V} {u : Value} (M : Mk X.prog X.w X.K X.mg X.base C f) (hr : Room 2 X.A) (I : Inv X pins σ H s) (r : RelV v u) (us : List Value) (kw : List (Str × Value)) (hz : us.length ≤ 1)
    (how : (us = [u] ∧ kw = []) ∨ (us = [] ∧ kw = [(f, u)])) (hq : ∀ (e : Addr) (H' : Hp), H e = none → Same H H' → Er H' e C f v → Q (.ref e) H') : wpAny (model X.prog X.w) X.A (call (.ref C) us kw) (EP X pins σ Q) X.xe s := by
  obtain ⟨⟨T, F, no⟩, fI, fd, ps, iC, tI, G1, hl, b1, b2⟩ := M
  obtain ⟨nm, q, N, bs, bm, sn, sub, ab, col, dd, k0, k1, k2, k3, k5, hC, hbm⟩ := T.cls
  obtain ⟨hp, g, dr, tok, os⟩ := s
  have big : hp.objs.size ≤ hp.objs.size + 1 := Nat.le_succ _
  have free : H (hp.objs.size + 1) = none := I.hok.fresh big
  have keep : ∀ b o, hp.get? b = some o → ((hp.push (PySem.W.kdv_tup us)).push (PySem.HandSPX.excO C hp.objs.size)).get? b = some o := fun b o e => Heap.get?_push_of_some _ (Heap.get?_push_of_some _ e)
  have new : ((hp.push (PySem.W.kdv_tup us)).push (PySem.HandSPX.excO C hp.objs.size)).get? (hp.objs.size + 1) = some (PySem.HandSPX.excO C hp.objs.size) := by heap_get
  have J : Inv X pins σ (upd H (hp.objs.size + 1) (exo (hp.objs.size + 1) C none)) ⟨(hp.push (PySem.W.kdv_tup us)).push (PySem.HandSPX.excO C hp.objs.size), g, dr, tok, os⟩ := I.laid (t' := tok) keep big (exo_ok new)
  have bind : BindsTo ⟨(hp.push (PySem.W.kdv_tup us)).push (PySem.HandSPX.excO C hp.objs.size), g, dr, tok, os⟩ fd ⟨Value.ref (hp.objs.size + 1) :: us, kw⟩ (ps.zip [Value.ref (hp.objs.size + 1), u]) := by
    rcases how with ⟨rfl, rfl⟩ | ⟨rfl, rfl⟩
    · exact b1 _ _ _
    · exact b2 _ _ _
  have wish : spIni C f [.ref (hp.objs.size + 1), v] (upd H (hp.objs.size + 1) (exo (hp.objs.size + 1) C none)) (fun z H' => z = .non ∧ Q (.ref (hp.objs.size + 1)) H') E0 := by
    refine ⟨_, _, rfl, upd_same, fun dx h1 h2 => ⟨rfl, hq _ _ free (fun b o q => ?_) ⟨dx, upd_same, ?_⟩⟩⟩
    · have n1 : b ≠ hp.objs.size + 1 := ne_of_none q free
      rw [upd_ne n1, upd_ne (fun z => ?_), upd_ne n1]
      · exact q
      · rw [← z, upd_ne n1, q] at h1
        cases h1
    · rw [upd_ne h2, upd_same]
  refine wpAny_call (PySem.HandSPX.g_call hbm (I.kIn _ _ hC) (PySem.W.looks_findIn I.kIn iC) (fun self => PySem.W.bind_fn I.kIn self tI) (Nat.le_trans hz (by decide))
    (codeAny_mono (G1.run _ X.stack _ _ _ [Value.ref (hp.objs.size + 1), u] [.ref (hp.objs.size + 1), v] _ E0 (hr.make C us kw) (J.env0.make C us kw) bind (.cons (show RelV (.ref _) (.ref _) from rfl) (.cons r .nil)) wish) fun rr s' hh => ?_))
  rcases rr with er | fl
  · exact (hh : False).elim
  · cases fl with
    | ret u' =>
      obtain ⟨z, H', J', rz, ez, q'⟩ := J.after hh
      subst ez
      exact ⟨rz, ⟨.ref (hp.objs.size + 1), H', J', rfl, q'⟩⟩
    | next => exact hh.elim
    | brk => exact hh.elim
    | cont => exact hh.elim
/-- C(v), C(f=v) -/
def tMkE (C : Addr) (f : Str) (t : TA) : TE := fun σ H Q => t σ H fun vs H1 => ∃ v, vs = [v] ∧ ∀ (e : Addr) (H' : Hp), H1 e = none → Same H1 H' → Er H' e C f v → Q (.ref e) H'
theorem pe_mkE (M : Mk X.prog X.w X.K X.mg X.base C f) (hr : Room 2 X.A) (hg : Gl X x) (hm : X.mg x = some (.ref C)) (ha : PA X [e] ta) (hdb : (x == ("__debug__" : Str)) = false := by decide)
    (he : starEach [e] X.env = (false, eval e X.env) :: starEach [] X.env := by rfl) (hpl : (backTo pos (starEach [] X.env)).any (·.1) = false := by rfl) : PE X (.Call (.Name x p) [e] [] pos) (tMkE C f ta) := by
  refine ⟨fun pins s σ H Q I h => wpAny_Call_Name_kw (ld_glob I hg hm ?_ hdb)⟩
  refine PySem.W.callWith_K (h₀ := X.base) I.ok.mod.kin M.L.T.kC (thn (ha.run pos pins s σ H _ I h) fun us s1 hh => ?_) he hpl
  obtain ⟨vs, H1, I1, r1, v, rfl, q⟩ := hh
  cases r1 with
  | cons rv rn =>
    cases rn
    exact ⟨I1.kIn, made M hr I1 rv _ [] (Nat.le_refl _) (.inl ⟨rfl, rfl⟩) q⟩
theorem pe_mkEk (M : Mk X.prog X.w X.K X.mg X.base C f) (hr : Room 2 X.A) (hg : Gl X x) (hm : X.mg x = some (.ref C)) (hkw : PK X kws tk) (hks : (backToKw pos (keywordEach kws X.env)).filterMap (·.1) = [f] := by rfl) (hall : (backToKw pos (keywordEach kws X.env)).all (·.1.isSome) = true := by rfl)
    (hdb : (x == ("__debug__" : Str)) = false := by decide) (hpl : ((backTo pos (starEach [] X.env)).any (·.1) || (backToKw pos (keywordEach kws X.env)).any (·.1.isNone)) = false := by rfl) : PE X (.Call (.Name x p) [] kws pos) (tMkE C f tk) := by
  refine ⟨fun pins s σ H Q I h => wpAny_Call_Name_kw (ld_glob I hg hm ?_ hdb)⟩
  refine PySem.W.callWith_KW0 (h₀ := X.base) I.ok.mod.kin M.L.T.kC hall (thn (hkw.run pos pins s σ H _ I h) fun ws s2 hh => ?_) hpl
  obtain ⟨vs, H1, I1, r1, v, rfl, q⟩ := hh
  cases r1 with
  | cons rv rn =>
    cases rn
    refine ⟨I1.kIn, ?_⟩
    rw [hks]
    exact made M hr I1 rv [] _ (Nat.zero_le _) (.inr ⟨rfl, rfl⟩) q
end
end G

end
section
set_option autoImplicit false
set_option Elab.async false
set_option linter.all false
set_option maxRecDepth 100000
set_option maxHeartbeats 4000000
/-! ## an own error raised and caught: raise C(e); e.f of the error that a suite holds; a call by keyword that may raise -/
namespace G
open PySem PySem.Spec PyProof.Rows L2
section
variable {X : Cx} {C : Addr} {f x : Str} {e : Expr} {ta : TA} {p pos pos2 : Pos}
theorem mk_binds {P : Program} {w : World} {K : PySem.W.Frag} {fd : FuncData} {ps : List Str} (hl : ps.length = 2) (b : ∀ (s : Shared) (u v : Value), BindsTo s fd ⟨[u, v], []⟩ (ps.zip [u, v])) : Binds K fd ps [] := fun s us hk hn => by
  rw [List.append_nil] at hn ⊢
  rw [hl] at hn
  match us, hn with
  | [u, v], _ => exact b s u v
theorem pmk_er (M : Mk X.prog X.w X.K X.mg X.base C f) (hr : Room 2 X.A) (hg : Gl X x) (hm : X.mg x = some (.ref C)) (ha : PA X [e] ta) (hdb : (x == ("__debug__" : Str)) = false := by decide)
    (he : starEach [e] X.env = (false, eval e X.env) :: starEach [] X.env := by rfl) (hpl : (backTo pos (starEach [] X.env)).any (·.1) = false := by rfl) : PMk X (.Call (.Name x p) [e] [] pos) (tMkO C (spIni C f) [] ta) := by
  obtain ⟨L, fI, fd, ps, iC, tI, G1, hl, b1, b2⟩ := M
  exact pmk_oex L.T iC tI G1 hr (mk_binds (P := X.prog) (w := X.w) hl b1) .nil pass0 hg hm ha hdb he hpl
/-- raise C(e) -/
def tRaiseE (C : Addr) (f : Str) (W : WX) (ta : TA) : TS := fun _ σ H => tMkO C (spIni C f) [] ta σ H fun cls d H' => W cls d σ H'
theorem ps_raiseE {W : WX} (hc : X.calm = true) (M : Mk X.prog X.w X.K X.mg X.base C f) (hr : Room 2 X.A) (tk : Takes X W) (hg : Gl X x) (hm : X.mg x = some (.ref C)) (ha : PA X [e] ta) (hdb : (x == ("__debug__" : Str)) = false := by decide)
    (he : starEach [e] X.env = (false, eval e X.env) :: starEach [] X.env := by rfl) (hpl : (backTo pos (starEach [] X.env)).any (·.1) = false := by rfl) : PS X (.Raise (some (.Call (.Name x p) [e] [] pos)) none pos2) (tRaiseE C f W ta) :=
  ps_raise hc tk (pmk_er M hr hg hm ha hdb he hpl)
theorem mkO_of {v : V} {H : Hp} {Q : XK} (k : ∀ d, H d = none → Q (.ref C) (some d) (upd H d (.xd [(f, v)]))) : [v].length ≤ 1000 ∧ ∀ a, H a = none → spIni C f (.ref a :: ([v] ++ [])) (upd H a (exo a C none))
    (fun u H2 => u = .non ∧ ∃ (d : Addr) (fs : List (Str × V)), H2 a = some (exo a C (some d)) ∧ H2 d = some (exd d fs) ∧ H d = none ∧ Q (.ref C) (some d) (upd (del H2 a) d (.xd fs))) (fun _ _ _ => False) := by
  refine ⟨by show 1 ≤ 1000; decide, fun a ha => ⟨a, v, rfl, upd_same, fun dx h1 h2 => ⟨rfl, dx, [(f, v)], upd_same, ?_, ?_, ?_⟩⟩⟩
  · rw [upd_ne h2, upd_same]
  · rw [upd_ne h2] at h1
    exact h1
  · have hd : H dx = none := by
      rw [upd_ne h2] at h1
      exact h1
    have e : upd (del (upd (upd (upd H a (exo a C none)) dx (exd dx [(f, v)])) a (exo a C (some dx))) a) dx (.xd [(f, v)]) = upd H dx (.xd [(f, v)]) := by
      funext b
      by_cases hb : b = dx
      · subst hb
        rw [upd_same, upd_same]
      · rw [upd_ne hb, upd_ne hb]
        by_cases ha2 : b = a
        · subst ha2
          rw [del_same, ha]
        · rw [del_ne ha2, upd_ne ha2, upd_ne hb, upd_ne ha2]
    rw [e]
    exact k dx hd
end
theorem xf_of {K : PySem.W.Frag} {C : Addr} {f : Str} (L : Cl K C f) : XfC K C := ⟨L.F.hg, L.F.hk, L.F.hs, L.F.hd⟩
theorem look_one {f : Str} {v : V} : ([(f, v)] : List (Str × V)).lookup f = some v := by simp [List.lookup]
section
variable {X : Cx} {CX : CXT} {k : Nat} {f : Addr} {fd : FuncData} {ps ks : List Str} {sp : Sp} {E : L2.St → XK} {x : Str} {p pos : Pos} {e : Expr} {es : List Expr} {kws : List Keyword} {t tk : TA} {g : List Value → List Value → List Value} {gV : List V → List V → List V}
def tCallKS (sp : Sp) (gV : List V → List V → List V) (E : L2.St → XK) (t tk : TA) : TE := fun σ H Q => t σ H fun vs H1 => tk σ H1 fun zs H2 => sp (gV vs zs) H2 Q (E σ)
theorem run_fnKS {pins : List (Addr × Obj)} {σ : L2.St} {H : Hp} {s : Shared} {Q : VK} {us ws : List Value} {vs zs : List V} (F : FnOk X.prog X.w X.K X.mg X.base CX k f fd ps sp) (hr : Room k X.A) (hb : KBinds X.K fd ps ks g gV) (hx : PassesAt CX X σ (E σ))
    (I : Inv X pins σ H s) (r : Vals vs us) (rz : Vals zs ws) (h : sp (gV vs zs) H Q (E σ)) : wpAny (model X.prog X.w) X.A (call (.ref f) us (ks.zip ws)) (EP X pins σ Q) X.xe s := by
  have r2 := hb.rel r rz
  have hl : (g us ws).length = ps.length := by rw [← r2.length]; exact F.len _ _ _ _ h
  refine wpAny_call (codeAny_mono (F.run X.A X.stack s H ⟨us, ks.zip ws⟩ (g us ws) (gV vs zs) Q (E σ) hr I.env0 (hb.to s us ws I.kIn hl) r2 h) fun r s' hq => ?_)
  match r, hq with
  | .error er, z => exact hx pins H s er s' I z
  | .ok (.ret u), z => exact I.after z
  | .ok .next, z => exact z.elim
  | .ok .brk, z => exact z.elim
  | .ok .cont, z => exact z.elim
theorem pe_callKS (F : FnOk X.prog X.w X.K X.mg X.base CX k f fd ps sp) (hr : Room k X.A) (hg : Gl X x) (hm : X.mg x = some (.ref f)) (hk : PySem.W.keepIn X.K (.ref f) = true) (hb : KBinds X.K fd ps ks g gV) (hx : ∀ σ, PassesAt CX X σ (E σ))
    (ha : PA X (e :: es) t) (hkw : PK X kws tk) (hall : (backToKw pos (keywordEach kws X.env)).all (·.1.isSome) = true := by rfl) (hks : (backToKw pos (keywordEach kws X.env)).filterMap (·.1) = ks := by rfl)
    (hdb : (x == ("__debug__" : Str)) = false := by decide) (he : starEach (e :: es) X.env = (false, eval e X.env) :: starEach es X.env := by rfl)
    (hpl : ((backTo pos (starEach (e :: es) X.env)).any (·.1) || (backToKw pos (keywordEach kws X.env)).any (·.1.isNone)) = false := by rfl) :
    PE X (.Call (.Name x p) (e :: es) kws pos) (tCallKS sp gV E t tk) := by
  refine ⟨fun pins s σ H Q I h => ?_⟩
  refine wpAny_Call_Name_kw (ld_glob I hg hm ?_ hdb)
  refine PySem.W.callWith_KW (h₀ := X.base) I.ok.mod.kin hk hall (thn (ha.run pos pins s σ H _ I h) fun us s1 hh => ?_) hpl he
  obtain ⟨vs, H1, I1, r, q⟩ := hh
  refine thn (hkw.run pos pins s1 σ H1 _ I1 q) fun ws s2 hh => ?_
  obtain ⟨zs, H2, I2, rz, q2⟩ := hh
  refine ⟨I2.kIn, ?_⟩
  rw [hks]
  exact run_fnKS F hr hb (hx σ) I2 r rz q2
end
/-- «except C» takes an error of the class at C -/
theorem exm_own {K : PySem.W.Frag} {C : Addr} (isC : PySem.W.isClsIn K C = true) (ty : PySem.W.typeIn K (.ref C) = some (.type "type")) (up : PySem.W.subIn K (.ref C) (.type "BaseException") = some true) (self : PySem.W.subIn K (.ref C) (.ref C) = some true) : PySem.W.exmOne K (.ref C) (.ref C) = some true := by
  have c : (PySem.W.clsIn K C).isSome = true := isC
  have k : PySem.W.kitCls K (.ref C) (.ref C) = some true := by
    unfold PySem.W.kitCls
    dsimp only
    rw [c, ty, self]
    rfl
  unfold PySem.W.exmOne
  rw [up, k]
  rfl
end G

end
section
set_option autoImplicit false
set_option Elab.async false
set_option linter.all false
set_option maxRecDepth 100000
set_option maxHeartbeats 4000000
/-! ## try with several clauses, each with «as n» -/
namespace G
open PySem PySem.Spec PyProof.Rows L2
abbrev Suit : Type := Addr → Value → Option Addr → TS
/-- behind a suite its name is gone -/
def gone (i : Nat) (D : Ends) : Ends := { nx := fun τ G => D.nx (τ.set i none) G, rt := D.rt, bk := fun τ G => D.bk (τ.set i none) G, ct := fun τ G => D.ct (τ.set i none) G }
/-- what the clauses wish of an error of the body, one after the other -/
def wAll (K : PySem.W.Frag) (i : Nat) (W0 : WX) (D : Ends) : List (Value × Suit) → WX
  | [] => W0
  | p :: r => fun k d τ G => ∃ b, PySem.W.exmOne K k p.1 = some b ∧ (b = true → ∀ a, G a = none → p.2 a k d (gone i D) (τ.set i (some (.ref a))) G) ∧ (b = false → wAll K i W0 D r k d τ G)
inductive HdsAs (X : Cx) (n : Str) : List ExceptHandler → List (Value × Suit) → Prop
  | nil : HdsAs X n [] []
  | cons {y : Str} {c : Value} {tz : Suit} {st0 : Stmt} {st : List Stmt} {p1 p2 : Pos} {hr : List ExceptHandler} {l : List (Value × Suit)} (nm : Names X y c)
      (sq : ∀ (a : Addr) (oz : Obj) (k : Value) (d : Option Addr) (pz : List (Addr × Obj)), Zc k d oz → (∃ us, oz.data = .fields us) → PSs (X.suite a ((a, oz) :: pz)) (st0 :: st) (tz a k d)) (rest : HdsAs X n hr l) :
      HdsAs X n (.ExceptHandler (some (.Name y p1)) (some n) (st0 :: st) p2 :: hr) ((c, tz) :: l)
section
variable {X : Cx} {n : Str} {i : Nat} {st : List Stmt} {hd0 : ExceptHandler} {hr : List ExceptHandler} {l : List (Value × Suit)} {pos : Pos} {tq : WX → TS} {W0 : WX}
theorem ps_try_all (e1 : X.stack = X.env :: X.outer) (e2 : X.env.frame = some X.env.locals) (nd : X.N.Nodup) (ni : X.N[i]? = some n) (nl : X.env.kindOf n = some .local) (tk : Takes X W0)
    (hq : ∀ (W : WX) (pz : List (Addr × Obj)) (xz : Value → Shared → Prop), Takes (X.tr pz xz) W → PassesOwn (model X.prog X.w) X.A X.env xz → PSs (X.tr pz xz) st (tq W))
    (hk : HdsAs X n (hd0 :: hr) l) : PS X (.Try st (hd0 :: hr) [] [] pos) (fun D τ G => tq (wAll X.K i W0 D l) D τ G) := by
  refine ⟨fun pins s τ G D I hw => ?_⟩
  have okk := I.ok
  have fr0 : X.A.frames = some (X.env :: X.outer) := by rw [okk.frames, e1]
  have loc0 : Loc X.env.scope n := .inl nl
  refine wpAny_Try_except (wpAny_mono ((hq (wAll X.K i W0 D l) (X.pn ++ pins) (fun e s₁ => wpAny (model X.prog X.w) X.A (noteFrame e X.env) (fun _ s₂ => wpAny (model X.prog X.w) X.A (setFlight e none) (fun _ s₃ =>
    wpAny (model X.prog X.w) X.A (handleBy e X.env (hd0 :: hr)) (SP X pins D) X.xe s₃) X.xe s₂) X.xe s₁) (fun u s' zz => ?_) PassesOwn.looking).run [] s τ G D (I.toTry _) hw) (fun fl s1 hs => ?_) (fun e s1 he => he))
  · obtain ⟨a, B, sI, pq, τ', G', k, d, rfl, Jt, nb, up, sky, na, os, ag, wi⟩ := zz
    have J : Inv X pins τ' G' sI := Jt.ofTry okk
    have sk2 : Sky B (X.env :: X.outer) a (Zc k d) X.env.locals s'.heap := by rw [← e1]; exact sky
    show wpAny (model X.prog X.w) X.A (noteFrame (Value.ref a) X.env) _ _ _
    refine Sky.land Zc.steady fr0 e2 sk2 fun h3 f3 u3 => ?_
    have J3 : Inv X pins τ' G' { s' with heap := h3 } := J.landed nb f3.1 (up.trans u3) os ag
    obtain ⟨o3, us3, ae3, z3, dd3⟩ := f3.there
    have off : a ∉ frs (X.env :: X.outer) := fun hm => by
      obtain ⟨_, o', e', hnf⟩ := f3.2.2.1.mem hm
      rw [ae3] at e'
      cases e'
      exact hnf _ dd3
    have aL : a ≠ X.env.locals := fun z => off (List.mem_filterMap.mpr ⟨X.env, List.mem_cons_self, by rw [e2, z]⟩)
    have aF : a ∉ X.fs := fun hm => by
      obtain ⟨e, he, q⟩ := List.mem_filterMap.mp hm
      exact off (List.mem_filterMap.mpr ⟨e, List.mem_cons_of_mem _ he, q⟩)
    have S3 := J3.suite ae3 dd3 na aL aF
    have each : ∀ {hs' : List ExceptHandler} {l' : List (Value × Suit)}, HdsAs X n hs' l' → wAll X.K i W0 D l' k d τ' G' → wpAny (model X.prog X.w) X.A (handleBy (.ref a) X.env hs') (SP X pins D) X.xe { s' with heap := h3 } := by
      intro hs' l' hz
      induction hz with
      | nil =>
        intro wz
        refine wpAny_handleBy_nil ?_
        obtain ⟨_, _, _, oe, vs, T, oT, ts', he, hz, hd, h1, hr⟩ := id f3
        unfold PySem.passOn
        refine wpAny_bind (wpAny_field he hd h1 ?_)
        rw [if_neg (show ¬ ((Value.ref T == Value.none) = true) by simp)]
        have up2 : wpAny (model X.prog X.w) X.A (setFlight (.ref a) X.env.frame) (fun _ s4 => wpAny (model X.prog X.w) X.A (throw (.ref a) : Sem Flow) (SP X pins D) X.xe s4) X.xe { s' with heap := h3 } := by
          rw [e2]
          exact HandSPX.setFlight_upZ f3 fun h4 g4 u4 => wpAny_throw (tk _ _ ⟨a, B, sI, pins, τ', G', k, d, rfl, J, nb, (up.trans u3).trans u4, .inr (.inr (by rw [e1]; exact g4)), na, os, ag, wz⟩)
        first
          | exact wpAny_bind (wpAny_pure (wpAny_bind up2))
          | exact wpAny_bind up2
      | @cons y c tz st0 st2 p1 p2 hr2 l2 nm sq rest ih =>
        intro wz
        obtain ⟨b, hb, yes, no⟩ := wz
        refine wpAny_handleBy_cons (codeAny_handlers_test ?_) (by intro q; cases q)
        have lk : PySem.W.Looks (model X.prog X.w) h3 (typeOf (.ref a)) k := fun A Q E s kk q => wpAny_typeOf_ref (kk _ _ ae3) (by rw [z3.1]; exact q)
        have lm := PySem.W.exm_one (M := model X.prog X.w) (J3.kIn) lk hb
        have ask : ∀ {Q E : Value → Shared → Prop}, Q c { s' with heap := h3 } → wpAny (model X.prog X.w) (X.A.mark (some (.ref a))) (eval (.Name y p1) X.env) Q E { s' with heap := h3 } := fun {Q E} q => by
          obtain ⟨g0, g1, gm | ⟨gm, gv, gn⟩⟩ := nm
          · exact ld_glob (X := X.suite a ((a, o3) :: (X.pn ++ pins))) S3 g0 gm q g1
          · exact ld_blt (X := X.suite a ((a, o3) :: (X.pn ++ pins))) S3 g0 gm gv q gn g1
        refine ask (lm.here ?_)
        cases b with
        | true =>
          refine codeAny_handlers_suite_as (HandSPX.lands_againZ f3 fun h4 f4 u4 => ?_)
          have J4 : Inv X pins τ' G' { s' with heap := h4 } := J.landed nb f4.1 ((up.trans u3).trans u4) os ag
          obtain ⟨o4, us4, ae4, z4, dd4⟩ := f4.there
          have S4 := J4.suite ae4 dd4 na aL aF
          refine store_ok (X := X.suite a ((a, o4) :: (X.pn ++ pins))) (v := .ref a) S4 nd ni loc0 rfl (fun s5 S5 => ?_) (.inr nl)
          refine wpAny_mono ((sq a o4 k d (X.pn ++ pins) z4 ⟨_, dd4⟩).run [] s5 _ G' _ S5 (yes rfl a na)) (fun fl s6 hs6 => ?_) (fun _ _ z => False.elim z)
          have fin : ∀ {τ6 : L2.St} {G6 : Hp} {Q : Shared → Prop}, Inv (X.suite a ((a, o4) :: (X.pn ++ pins))) [] τ6 G6 s6 → (∀ s7, Inv X pins (τ6.set i none) G6 s7 → Q s7) → wpAny (model X.prog X.w) X.A (do bindName X.env n .none; unbindBehindTheSuite X.env n p2) (fun _ s7 => Q s7) X.xe s6 := fun {τ6 G6 Q} S6 q6 => gone_ok (S6.unsuite okk) nd ni nl q6
          cases fl with
          | next => obtain ⟨τ6, G6, S6, q6⟩ := hs6; exact fin S6 fun s7 J7 => ⟨_, _, J7, q6⟩
          | brk => obtain ⟨τ6, G6, S6, q6⟩ := hs6; exact fin S6 fun s7 J7 => ⟨_, _, J7, q6⟩
          | cont => obtain ⟨τ6, G6, S6, q6⟩ := hs6; exact fin S6 fun s7 J7 => ⟨_, _, J7, q6⟩
          | ret u => obtain ⟨v6, τ6, G6, S6, r6, q6⟩ := hs6; exact fin S6 fun s7 J7 => ⟨_, _, _, J7, r6, q6⟩
        | false =>
          show wpAny _ X.A (handleBy (Value.ref a) X.env hr2) _ _ _
          exact ih (no rfl)
    exact each hk wi
  · cases fl with
    | next => obtain ⟨τ', G', J', q⟩ := hs; exact wpAny_execs_nil ⟨τ', G', J'.ofTry okk, q⟩
    | brk => obtain ⟨τ', G', J', q⟩ := hs; exact ⟨τ', G', J'.ofTry okk, q⟩
    | cont => obtain ⟨τ', G', J', q⟩ := hs; exact ⟨τ', G', J'.ofTry okk, q⟩
    | ret u => obtain ⟨v, τ', G', J', r, q⟩ := hs; exact ⟨v, τ', G', J'.ofTry okk, r, q⟩
end
end G

end
section
set_option autoImplicit false
set_option Elab.async false
set_option linter.all false
set_option maxRecDepth 100000
set_option maxHeartbeats 4000000
/-! ## a built-in value == an instance: the built-in's own declines -/
namespace BK
open PySem PySem.W PySem.Spec PySem.Calls PyProof.Rows

section
variable {K : Frag} {x C : Addr} {ox : Obj} {od : Option Obj}
theorem in_false {prog : Program} {w : World} {A : Around} {E : Value → Shared → Prop} {s : Shared} {T : String} {Q : Bool → Shared → Prop} (X : K.In s.heap) (I : InstAt s.heap x ox C od) (h : subIn K (.ref C) (.type T) = some false) (q : Q false s) : wpAny (model prog w) A (isInstance (.ref x) (.type T)) Q E s :=
  have l : Looks (model prog w) s.heap (isInstance (.ref x) (.type T)) false := I.type.andThen (looks_subIn X h)
  l.here q
/-- at x: an instance of the class at C, which is not below the built-in kind T -/
def Own0 (K : Frag) (x C : Addr) (ox : Obj) (od : Option Obj) (T : String) (s : Shared) : Prop := K.In s.heap ∧ InstAt s.heap x ox C od ∧ subIn K (.ref C) (.type T) = some false
theorem dec_tuple (l : Addr) (its : Array Value) (n : Nat) (dd : Option Addr) (sl : Array (Option Value)) :
    Meets (Builtin.«tuple.__eq__» ⟨[.ref l, .ref x], []⟩) (fun _ R s => s.heap.get? l = some { cls := .type "tuple", dict := dd, data := .seq its n, slots := sl } ∧ Own0 K x C ox od "tuple" s ∧ R (.ok (.ret .notImplemented)) s) :=
  .of_wp fun prog w A R s h => by
    obtain ⟨hl, ⟨X, I, hs⟩, h⟩ := h
    have f1 : ∀ {A : Around} {Q : Bool → Shared → Prop} {E : Value → Shared → Prop}, Q false s → wpAny (model prog w) A (isInstance (.ref x) (.type "tuple")) Q E s := fun q => in_false X I hs q
    obtain ⟨hp, g, d, tk, os⟩ := s
    wp_walk using PySem.AutoSeq1.wpAny_loadPart' hl, f1
    exact ⟨_, rfl, h⟩
theorem dec_list (l : Addr) (its : Array Value) (n : Nat) (dd : Option Addr) (sl : Array (Option Value)) :
    Meets (Builtin.«list.__eq__» ⟨[.ref l, .ref x], []⟩) (fun _ R s => s.heap.get? l = some { cls := .type "list", dict := dd, data := .seq its n, slots := sl } ∧ Own0 K x C ox od "list" s ∧ R (.ok (.ret .notImplemented)) s) :=
  .of_wp fun prog w A R s h => by
    obtain ⟨hl, ⟨X, I, hs⟩, h⟩ := h
    have f1 : ∀ {A : Around} {Q : Bool → Shared → Prop} {E : Value → Shared → Prop}, Q false s → wpAny (model prog w) A (isInstance (.ref x) (.type "list")) Q E s := fun q => in_false X I hs q
    obtain ⟨hp, g, d, tk, os⟩ := s
    wp_walk using PySem.AutoSeq1.wpAny_loadPart' hl, f1
    exact ⟨_, rfl, h⟩
theorem dec_dict (l : Addr) (es : Array DictEntry) (n : Nat) (dd : Option Addr) (sl : Array (Option Value)) :
    Meets (Builtin.«dict.__eq__» ⟨[.ref l, .ref x], []⟩) (fun _ R s => s.heap.get? l = some { cls := .type "dict", dict := dd, data := .dict es n, slots := sl } ∧ Own0 K x C ox od "dict" s ∧ R (.ok (.ret .notImplemented)) s) :=
  .of_wp fun prog w A R s h => by
    obtain ⟨hl, ⟨X, I, hs⟩, h⟩ := h
    have f1 : ∀ {A : Around} {Q : Bool → Shared → Prop} {E : Value → Shared → Prop}, Q false s → wpAny (model prog w) A (isInstance (.ref x) (.type "dict")) Q E s := fun q => in_false X I hs q
    obtain ⟨hp, g, d, tk, os⟩ := s
    wp_walk using PySem.AutoSeq1.wpAny_loadPart' hl, f1
    exact ⟨_, rfl, h⟩
theorem dec_int (b : Int) (u : Tok) (dx : Addr) : Meets (Builtin.«int.__eq__» ⟨[.int b u, .ref x], []⟩) (fun _ R s => s.heap.get? x = some (instObj C dx) ∧ R (.ok (.ret .notImplemented)) s) :=
  .of_wp fun prog w A R s h => by
    obtain ⟨hp, g, d, tk, os⟩ := s
    obtain ⟨hl, h⟩ := h
    unfold instObj at hl
    wp_walk using PySem.AutoSeq1.wpAny_loadPart' hl, wpAny_load hl
    exact ⟨_, rfl, h⟩
theorem dec_bool (b : Bool) (dx : Addr) : Meets (Builtin.«int.__eq__» ⟨[.bool b, .ref x], []⟩) (fun _ R s => s.heap.get? x = some (instObj C dx) ∧ R (.ok (.ret .notImplemented)) s) :=
  .of_wp fun prog w A R s h => by
    obtain ⟨hp, g, d, tk, os⟩ := s
    obtain ⟨hl, h⟩ := h
    unfold instObj at hl
    wp_walk using PySem.AutoSeq1.wpAny_loadPart' hl, wpAny_load hl
    exact ⟨_, rfl, h⟩
theorem dec_str (b : Str) (u : Tok) (dx : Addr) : Meets (Builtin.«str.__eq__» ⟨[.str b u, .ref x], []⟩) (fun _ R s => s.heap.get? x = some (instObj C dx) ∧ R (.ok (.ret .notImplemented)) s) :=
  .of_wp fun prog w A R s h => by
    obtain ⟨hp, g, d, tk, os⟩ := s
    obtain ⟨hl, h⟩ := h
    unfold instObj at hl
    wp_walk using PySem.AutoSeq1.wpAny_loadPart' hl, wpAny_load hl
    exact ⟨_, rfl, h⟩
end
end BK

end
section
set_option autoImplicit false
set_option Elab.async false
set_option linter.all false
set_option maxRecDepth 100000
set_option maxHeartbeats 4000000
/-! ## len, +, in, [] and != by a class's own methods -/
namespace WO
open PySem PySem.Spec PyProof.Rows L2
section
variable {X : Cx} {CX : CXT} {n : Nat} {f C : Addr} {fd : FuncData} {ps : List Str} {sp : Sp} {E : XK}
/-- an own method, run somewhere below the running body -/
theorem run_own {A : Around} {pins : List (Addr × Obj)} {s : Shared} {σ : L2.St} {H : Hp} {xs : List V} {us : List Value} {Z : VK} {G : Value → Shared → Prop} (F : FnOk X.prog X.w X.K X.mg X.base CX n f fd ps sp) (sb : Sub X n A) (hb : Binds X.K fd ps []) (hx : Passes CX X E)
    (I : Inv X pins σ H s) (r : Vals xs us) (hsp : sp xs H Z E) (k : ∀ z u H1 s1, Inv X pins σ H1 s1 → RelV z u → Z z H1 → G u s1) : wpAny (model X.prog X.w) A (call (.ref f) us) G X.xe s := by
  have hl := F.len _ _ _ _ hsp
  have lu : us.length = ps.length := by rw [← r.length]; exact hl
  have env : Env0 X.prog X.w X.K X.mg X.base A X.stack s H := by
    have e := I.env0
    exact ⟨by rw [sb.fr]; exact e.frames, e.mod, e.bs, e.bsz, e.funs, e.frf, e.hok, e.bare⟩
  refine wpAny_call (codeAny_mono (F.run A X.stack s H ⟨us, []⟩ us xs _ E sb.room env (by simpa using hb s us I.kIn (by simpa using lu)) r hsp) fun res s1 hq => ?_)
  match res, hq with
  | .error e, hq => exact hx pins σ H s e s1 I hq
  | .ok (.ret u), hq =>
    obtain ⟨z, H1, I1, rz, q⟩ := I.after hq
    exact k z u H1 s1 I1 rz q
  | .ok .next, hq => exact hq.elim
  | .ok .brk, hq => exact hq.elim
  | .ok .cont, hq => exact hq.elim
/-- an instance of the class at C -/
def InsC (C : Addr) (H : Hp) (a : Addr) : Prop := ∃ dx fs, H a = some (.ins C dx fs)
structure Own (K : PySem.W.Frag) (C f : Addr) (m : Str) : Prop where
  at' : PySem.W.findIn K (.ref C) m = some (some (.ref f))
  fn : PySem.W.isFn K (.ref f) = true
def rLenO (C : Addr) (sp : Sp) (E : XK) : List V → Hp → VK → Prop := fun xs H Q => ∃ a, xs = [.ref a] ∧ InsC C H a ∧ sp [.ref a] H (fun v H1 => ∃ k : Nat, v = .int k ∧ k < 1000000 ∧ Q (.int k) H1) E
theorem call_lenO (F : FnOk X.prog X.w X.K X.mg X.base CX n f fd ps sp) (hr : Room (n + 1) X.A) (O : Own X.K C f "__len__") (hb : Binds X.K fd ps []) (hx : Passes CX X E) : CallR X (.builtin "len") (rLenO C sp E) := by
  intro pins s σ H xs us Q I r h
  obtain ⟨a, rfl, ⟨dx, fs, ha⟩, hsp⟩ := h
  cases r with
  | cons ra rr =>
    cases rr
    cases ra
    obtain ⟨_, J, _⟩ := ins_get I.hok ha
    obtain ⟨od, J, _⟩ := J.look
    obtain ⟨m, hF⟩ := I.fr
    refine PySem.W.len_K hF I.ok.mod.kin J O.at' O.fn (run_own F (A := X.A.in1) (xs := [.ref a]) ⟨hr.in1, rfl⟩ hb hx I (.cons rfl .nil) hsp fun z u H1 s1 I1 rz q => ?_)
    obtain ⟨k, rfl, hk, q⟩ := q
    obtain ⟨t, rfl⟩ := rz
    exact ⟨⟨by omega, by omega⟩, .int k, H1, I1.tok _, ⟨_, rfl⟩, q⟩
def rAddO (C : Addr) (sp : Sp) (E : XK) : R2 := fun x y H Q => ∃ a b, x = .ref a ∧ y = .ref b ∧ InsC C H a ∧ InsC C H b ∧ sp [.ref a, .ref b] H (fun v H1 => ∃ c, v = .ref c ∧ Q (.ref c) H1) E
theorem op_addO (F : FnOk X.prog X.w X.K X.mg X.base CX n f fd ps sp) (hr : Room n X.A) (O : Own X.K C f "__add__") (hc : PySem.W.selfFirst X.K C = true) (hb : Binds X.K fd ps []) (hx : Passes CX X E) : OpR X (binaryOp .Add) (rAddO C sp E) := by
  intro pins s σ H x y v u Q I rx ry h
  obtain ⟨a, b, rfl, rfl, ⟨dx, fs, ha⟩, ⟨dy, gs, hb'⟩, hsp⟩ := h
  cases rx
  cases ry
  obtain ⟨_, J, _⟩ := ins_get I.hok ha
  obtain ⟨_, J', _⟩ := ins_get I.hok hb'
  obtain ⟨od, J, _⟩ := J.look
  obtain ⟨od', J', _⟩ := J'.look
  obtain ⟨m, hF⟩ := I.fr
  refine PySem.W.binop_K (op := .Add) hF I.ok.mod.kin J J'.type hc O.at' O.fn (run_own F (A := X.A) (xs := [.ref a, .ref b]) ⟨hr, rfl⟩ hb hx I (.cons rfl (.cons rfl .nil)) hsp fun z u H1 s1 I1 rz q => ?_)
  obtain ⟨c, rfl, q⟩ := q
  cases rz
  exact ⟨.ref c, H1, I1, rfl, q⟩
def rInO (C : Addr) (sp : Sp) (E : XK) : R2 := fun x y H Q => ∃ a, y = .ref a ∧ InsC C H a ∧ sp [.ref a, x] H (fun v H1 => ∃ b, v = .bl b ∧ Q (.bl b) H1) E
def rNotInO (C : Addr) (sp : Sp) (E : XK) : R2 := fun x y H Q => ∃ a, y = .ref a ∧ InsC C H a ∧ sp [.ref a, x] H (fun v H1 => ∃ b, v = .bl b ∧ Q (.bl (!b)) H1) E
theorem op_inO (F : FnOk X.prog X.w X.K X.mg X.base CX n f fd ps sp) (hr : Room n X.A) (O : Own X.K C f "__contains__") (hb : Binds X.K fd ps []) (hx : Passes CX X E) : OpR X (compareOp .In) (rInO C sp E) := by
  intro pins s σ H x y v u Q I rx ry h
  obtain ⟨a, rfl, ⟨dx, fs, ha⟩, hsp⟩ := h
  cases ry
  obtain ⟨_, J, _⟩ := ins_get I.hok ha
  obtain ⟨od, J, _⟩ := J.look
  obtain ⟨m, hF⟩ := I.fr
  refine PySem.W.in_K hF I.ok.mod.kin J O.at' O.fn (run_own F (A := X.A) (xs := [.ref a, x]) ⟨hr, rfl⟩ hb hx I (.cons rfl (.cons rx .nil)) hsp fun z u H1 s1 I1 rz q => ?_)
  obtain ⟨b, rfl, q⟩ := q
  cases rz
  exact wpAny_truthy_bool ⟨.bl b, H1, I1, rfl, q⟩
theorem op_notInO (F : FnOk X.prog X.w X.K X.mg X.base CX n f fd ps sp) (hr : Room n X.A) (O : Own X.K C f "__contains__") (hb : Binds X.K fd ps []) (hx : Passes CX X E) : OpR X (compareOp .NotIn) (rNotInO C sp E) := by
  intro pins s σ H x y v u Q I rx ry h
  obtain ⟨a, rfl, ⟨dx, fs, ha⟩, hsp⟩ := h
  cases ry
  obtain ⟨_, J, _⟩ := ins_get I.hok ha
  obtain ⟨od, J, _⟩ := J.look
  obtain ⟨m, hF⟩ := I.fr
  refine PySem.W.notIn_K hF I.ok.mod.kin J O.at' O.fn (run_own F (A := X.A) (xs := [.ref a, x]) ⟨hr, rfl⟩ hb hx I (.cons rfl (.cons rx .nil)) hsp fun z u H1 s1 I1 rz q => ?_)
  obtain ⟨b, rfl, q⟩ := q
  cases rz
  exact wpAny_truthy_bool ⟨.bl (!b), H1, I1, rfl, q⟩
/-- o[e] by the own __getitem__ -/
def rIxO (C : Addr) (sp : Sp) (E : XK) : R2 := fun x y H Q => ∃ a, x = .ref a ∧ InsC C H a ∧ sp [.ref a, y] H Q E
theorem pe_ixO {a b : Expr} {ta tb : TE} {pos : Pos} (F : FnOk X.prog X.w X.K X.mg X.base CX n f fd ps sp) (hr : Room (n + 1) X.A) (O : Own X.K C f "__getitem__") (hf : PySem.W.fnIn X.K f = true) (hb : Binds X.K fd ps []) (hx : Passes CX X E) (ha : PE X a ta) (hi : PE X b tb)
    (hs : ∀ v i, subscripted b true v i = runValue (.builtin "lifetime.subscript" ⟨[v, i], []⟩)) : PE X (.Subscript a b pos) (tOp (rIxO C sp E) ta tb) := by
  refine ⟨fun pins s σ H Q I h => ?_⟩
  refine Subscript_ (binT ha hi I h fun v u s2 x y H2 I2 rx ry q => ?_)
  obtain ⟨p, rfl, ⟨dx, fs, hp⟩, hsp⟩ := q
  cases rx
  obtain ⟨_, J, _⟩ := ins_get I2.hok hp
  obtain ⟨od, J, _⟩ := J.look
  obtain ⟨m, hF⟩ := I2.fr
  exact PySem.W.sub_K hF I2.ok.mod.kin J O.at' hf O.fn (run_own F (A := X.A.in1) (xs := [.ref p, y]) ⟨hr.in1, rfl⟩ hb hx I2 (.cons rfl (.cons ry .nil)) hsp fun z u H1 s1 I1 rz q => ⟨z, H1, I1, rz, q⟩) (hs _ _)
/-- == by the own __eq__, either answer -/
def rEqO (C : Addr) (sp : Sp) (E : XK) : R2 := fun x y H Q => ∃ a b, x = .ref a ∧ y = .ref b ∧ InsC C H a ∧ InsC C H b ∧ sp [.ref a, .ref b] H (fun v H1 => ∃ c, v = .bl c ∧ Q (.bl c) H1) E
theorem op_eqO (F : FnOk X.prog X.w X.K X.mg X.base CX n f fd ps sp) (hr : Room n X.A) (O : Own X.K C f "__eq__") (hb : Binds X.K fd ps []) (hx : Passes CX X E) : OpR X (compareOp .Eq) (rEqO C sp E) := by
  intro pins s σ H x y v u Q I rx ry h
  obtain ⟨a, b, rfl, rfl, ⟨dx, fs, ha⟩, ⟨dy, gs, hb'⟩, hsp⟩ := h
  cases rx
  cases ry
  obtain ⟨_, J, _⟩ := ins_get I.hok ha
  obtain ⟨_, J', _⟩ := ins_get I.hok hb'
  obtain ⟨od, J, _⟩ := J.look
  obtain ⟨od', J', _⟩ := J'.look
  obtain ⟨m, hF⟩ := I.fr
  show wpAny (model X.prog X.w) X.A (richCompare .Eq (.ref a) (.ref b)) (EP X pins σ Q) X.xe s
  refine PySem.W.cmp_K (op := .Eq) (tb := .ref C) hr.units0 hF I.ok.mod.kin J J'.type (by simp [PySem.W.notFirst]) O.at' O.fn (run_own F (A := X.A) (xs := [.ref a, .ref b]) ⟨hr, rfl⟩ hb hx I (.cons rfl (.cons rfl .nil)) hsp fun z u H1 s1 I1 rz q => ?_)
  obtain ⟨c, rfl, q⟩ := q
  cases rz
  exact ⟨.bl c, H1, I1, rfl, q⟩
end
end WO

end
section
set_option autoImplicit false
set_option Elab.async false
set_option linter.all false
set_option maxRecDepth 100000
set_option maxHeartbeats 4000000
/-! ## an instance == a value of any kind, and the other way round -/
namespace PySem.W
open PySem PySem.Spec PySem.Calls PyProof.Rows
section
variable {prog : Program} {w : World} {A : Around} {E : Value → Shared → Prop} {s : Shared} {K : Frag} {x C f : Addr} {ox : Obj} {od : Option Obj} {u : Value} {T id : String}
theorem cmp_back {Q : Value → Shared → Prop} (hu : A.units < cLine) (X : K.In s.heap) (I : InstAt s.heap x ox C od) (hT : s.TypeIs u T) (slot : Slot T "__eq__" id) (hsub : subIn K (.ref C) (.type T) = some false)
    (hc : ∀ Q' : Value → Shared → Prop, Q' .notImplemented s → wpAny (model prog w) A (call (.builtin id) [u, .ref x]) Q' E s) (hs : findIn K (.ref C) "__eq__" = some (some (.ref f))) (hf : isFn K (.ref f) = true)
    (h : wpAny (model prog w) A (call (.ref f) [.ref x, u]) (CmpBack Q) E s) : wpAny (model prog w) A (richCompare .Eq u (.ref x)) Q E s := by
  have one : wpAny (model prog w) A (tryCompare (.ref x) "__eq__" u) (fun r s' => ∃ v, r = some v ∧ Q v s') E s := by
    unfold tryCompare
    refine wpAny_bind (ifBound_K X I hs hf (wpAny_mono h (fun v s' hv => ?_) fun _ _ e => e))
    cases v <;> first | exact hv.elim | exact wpAny_pure ⟨_, rfl, hv⟩
  simp only [richCompare, cmpInfo, hT.oneThing_none]
  refine wpAny_holding (wpAny_bind (wpAny_cRoomFor hu ?_))
  refine wpAny_bind (wpAny_typeOf hT (wpAny_bind (I.type.here ?_)))
  rw [if_pos (show (Value.type T != Value.ref C) = true from rfl)]
  refine wpAny_bind ((looks_subIn X hsub).here ?_)
  simp only [Bool.false_eq_true, if_false]
  refine wpAny_bind (wpAny_tryCompare_declines hT slot (hc _ ⟨rfl, ?_⟩))
  simp only [Bool.not_false, if_true]
  refine wpAny_bind (wpAny_mono one (fun r s' z => ?_) fun _ _ e => e)
  obtain ⟨v, rfl, hq⟩ := z
  exact wpAny_pure hq
end
end PySem.W
namespace WO
open PySem PySem.Spec PyProof.Rows L2 G
/-- x == y, x an instance of the class at C, y of any kind that is none of its subclasses -/
def rEqA (K : PySem.W.Frag) (C : Addr) (sp : Sp) (E : XK) : R2 := fun x y H Q => ∃ (a : Addr) (t : Value), x = .ref a ∧ InsC C H a ∧ TyX K H y t ∧ PySem.W.notFirst K C t = true ∧ sp [.ref a, y] H (fun v H1 => ∃ c, v = .bl c ∧ Q (.bl c) H1) E
section
variable {X : Cx} {CX : CXT} {n : Nat} {f C : Addr} {fd : FuncData} {ps : List Str} {sp : Sp} {E : XK}
theorem op_eqA (F : FnOk X.prog X.w X.K X.mg X.base CX n f fd ps sp) (hr : Room n X.A) (O : Own X.K C f "__eq__") (hb : Binds X.K fd ps []) (hx : Passes CX X E) : OpR X (compareOp .Eq) (rEqA X.K C sp E) := by
  intro pins s σ H x y v u Q I rx ry h
  obtain ⟨a, t, rfl, ⟨dx, fs, ha⟩, ty, hn, hsp⟩ := h
  cases (show v = Value.ref a from rx)
  obtain ⟨_, J, _⟩ := ins_get I.hok ha
  obtain ⟨od, J, _⟩ := J.look
  obtain ⟨m, hF⟩ := I.fr
  obtain ⟨Pk, Z, p, _⟩ := kit_of I ry ty
  show wpAny (model X.prog X.w) X.A (richCompare .Eq (.ref a) u) (EP X pins σ Q) X.xe s
  refine PySem.W.cmp_K (op := .Eq) (tb := t) hr.units0 hF I.ok.mod.kin J (Z.ty _ _ I.kIn p) hn O.at' O.fn (run_own F (A := X.A) (xs := [.ref a, y]) ⟨hr, rfl⟩ hb hx I (.cons rfl (.cons ry .nil)) hsp fun z w H1 s1 I1 rz q => ?_)
  obtain ⟨c, rfl, q⟩ := q
  cases rz
  exact ⟨.bl c, H1, I1, rfl, q⟩
theorem nf_ty {K : PySem.W.Frag} {C : Addr} {T : String} {l : List String} (h : PySem.fastBuiltinMro T = some (l.map Value.type)) : PySem.W.notFirst K C (.type T) = true := by
  have e : (l.map Value.type).contains (Value.ref C) = false := by
    induction l with
    | nil => rfl
    | cons x r ih => simp
  show (Value.type T == Value.ref C || ((PySem.fastBuiltinMro T).map fun z => z.contains (Value.ref C)) == some false) = true
  rw [h, Option.map_some, e]
  simp
theorem nf_kinds {K : PySem.W.Frag} {C : Addr} : PySem.W.notFirst K C (.type "NoneType") = true ∧ PySem.W.notFirst K C (.type "bool") = true ∧ PySem.W.notFirst K C (.type "int") = true ∧ PySem.W.notFirst K C (.type "str") = true ∧ PySem.W.notFirst K C (.type "list") = true ∧ PySem.W.notFirst K C (.type "tuple") = true ∧ PySem.W.notFirst K C (.type "dict") = true :=
  ⟨nf_ty (l := ["NoneType", "object"]) (by decide +kernel), nf_ty (l := ["bool", "int", "object"]) (by decide +kernel), nf_ty (l := ["int", "object"]) (by decide +kernel), nf_ty (l := ["str", "object"]) (by decide +kernel), nf_ty (l := ["list", "object"]) (by decide +kernel), nf_ty (l := ["tuple", "object"]) (by decide +kernel), nf_ty (l := ["dict", "object"]) (by decide +kernel)⟩
end
/-- a value of a built-in kind -/
inductive Bk (H : Hp) : V → Prop
  | non : Bk H .non
  | bl (b : Bool) : Bk H (.bl b)
  | int (i : Int) : Bk H (.int i)
  | str (x : Str) : Bk H (.str x)
  | tup {t : Addr} {xs : List V} (h : H t = some (.tup xs)) : Bk H (.ref t)
  | lst {t : Addr} {xs : List V} (h : H t = some (.lst xs)) : Bk H (.ref t)
  | dic {t : Addr} {kvs : List (Key × V)} (h : H t = some (.dK kvs)) : Bk H (.ref t)
theorem Bk.mono {H H' : Hp} (s : Same H H') {v : V} (h : Bk H v) : Bk H' v := by
  cases h with
  | non => exact .non
  | bl b => exact .bl b
  | int i => exact .int i
  | str x => exact .str x
  | tup h => exact .tup (s _ _ h)
  | lst h => exact .lst (s _ _ h)
  | dic h => exact .dic (s _ _ h)
/-- a class that is below none of these kinds -/
structure NoKin (K : PySem.W.Frag) (C : Addr) : Prop where
  n : PySem.W.subIn K (.ref C) (.type "NoneType") = some false
  b : PySem.W.subIn K (.ref C) (.type "bool") = some false
  i : PySem.W.subIn K (.ref C) (.type "int") = some false
  s : PySem.W.subIn K (.ref C) (.type "str") = some false
  t : PySem.W.subIn K (.ref C) (.type "tuple") = some false
  l : PySem.W.subIn K (.ref C) (.type "list") = some false
  d : PySem.W.subIn K (.ref C) (.type "dict") = some false
/-- x == y, x of a built-in kind, y an instance of the class at C: y's own __eq__ is asked -/
def rBack (C : Addr) (sp : Sp) (E : XK) : R2 := fun x y H Q => ∃ a : Addr, y = .ref a ∧ InsC C H a ∧ Bk H x ∧ sp [.ref a, x] H (fun v H1 => ∃ c, v = .bl c ∧ Q (.bl c) H1) E
section
variable {X : Cx} {CX : CXT} {n : Nat} {f C : Addr} {fd : FuncData} {ps : List Str} {sp : Sp} {E : XK}
theorem op_back (F : FnOk X.prog X.w X.K X.mg X.base CX n f fd ps sp) (hr : Room n X.A) (O : Own X.K C f "__eq__") (N : NoKin X.K C) (hb : Binds X.K fd ps []) (hx : Passes CX X E) : OpR X (compareOp .Eq) (rBack C sp E) := by
  intro pins s σ H x y v u Q I rx ry h
  obtain ⟨a, rfl, ⟨dx, fs, ha⟩, bk, hsp⟩ := h
  cases (show u = Value.ref a from ry)
  obtain ⟨_, J, _⟩ := ins_get I.hok ha
  have ho := J.obj
  obtain ⟨od, J, _⟩ := J.look
  show wpAny (model X.prog X.w) X.A (richCompare .Eq v (.ref a)) (EP X pins σ Q) X.xe s
  have fin : wpAny (model X.prog X.w) X.A (call (.ref f) [.ref a, v]) (PySem.W.CmpBack (EP X pins σ Q)) X.xe s := by
    refine run_own F (A := X.A) (xs := [.ref a, x]) ⟨hr, rfl⟩ hb hx I (.cons rfl (.cons rx .nil)) hsp fun z w H1 s1 I1 rz q => ?_
    obtain ⟨c, rfl, q⟩ := q
    cases rz
    exact ⟨.bl c, H1, I1, rfl, q⟩
  cases bk with
  | non =>
    cases rx
    exact PySem.W.cmp_back (T := "NoneType") hr.units0 I.kIn J rfl PySem.F.slot_NoneType_eq N.n (fun Q' hq => call_gives PySem.F.slot_NoneType_eq rfl PySem.F.entry_NoneType_eq (PySem.F.args_NoneType_eq_2 _ _) (PySem.SeqAt.NoneType___eq___none_ref_0 a) hq) O.at' O.fn fin
  | bl b =>
    cases rx
    exact PySem.W.cmp_back (T := "bool") hr.units0 I.kIn J rfl PySem.F.slot_bool_eq N.b (fun Q' hq => call_meets PySem.F.slot_bool_eq rfl PySem.F.entry_int_eq (PySem.F.args_int_eq_2 _ _) (BK.dec_bool b dx) ⟨ho, hq⟩) O.at' O.fn fin
  | int i =>
    obtain ⟨t, rfl⟩ := rx
    exact PySem.W.cmp_back (T := "int") hr.units0 I.kIn J rfl PySem.F.slot_int_eq N.i (fun Q' hq => call_meets PySem.F.slot_int_eq rfl PySem.F.entry_int_eq (PySem.F.args_int_eq_2 _ _) (BK.dec_int i t dx) ⟨ho, hq⟩) O.at' O.fn fin
  | str z =>
    obtain ⟨t, rfl⟩ := rx
    exact PySem.W.cmp_back (T := "str") hr.units0 I.kIn J rfl PySem.F.slot_str_eq N.s (fun Q' hq => call_meets PySem.F.slot_str_eq rfl PySem.F.entry_str_eq (PySem.F.args_str_eq_2 _ _) (BK.dec_str z t dx) ⟨ho, hq⟩) O.at' O.fn fin
  | @tup t xs h =>
    cases (show v = Value.ref t from rx)
    obtain ⟨its, r, it, _⟩ := I.tuple (SqT.of h)
    obtain ⟨⟨c, dd, data, sl⟩, go, hc, m, hd⟩ := id it
    simp only at hc hd
    subst hc hd
    exact PySem.W.cmp_back (T := "tuple") hr.units0 I.kIn J ⟨_, go, rfl⟩ PySem.F.slot_tuple_eq N.t (fun Q' hq => call_meets PySem.F.slot_tuple_eq ⟨_, go, rfl⟩ PySem.F.entry_tuple_eq (PySem.F.args_tuple_eq_2 _ _) (BK.dec_tuple (K := X.K) (C := C) (x := a) t its.toArray m dd sl) ⟨go, ⟨I.kIn, J, N.t⟩, hq⟩) O.at' O.fn fin
  | @lst t xs h =>
    cases (show v = Value.ref t from rx)
    obtain ⟨its, r, it, _⟩ := I.list (SqL.of h)
    obtain ⟨⟨c, dd, data, sl⟩, go, hc, m, hd⟩ := id it.isList
    simp only at hc hd
    subst hc hd
    exact PySem.W.cmp_back (T := "list") hr.units0 I.kIn J ⟨_, go, rfl⟩ PySem.F.slot_list_eq N.l (fun Q' hq => call_meets PySem.F.slot_list_eq ⟨_, go, rfl⟩ PySem.F.entry_list_eq (PySem.F.args_list_eq_2 _ _) (BK.dec_list (K := X.K) (C := C) (x := a) t its.toArray m dd sl) ⟨go, ⟨I.kIn, J, N.l⟩, hq⟩) O.at' O.fn fin
  | @dic t kvs h =>
    cases (show v = Value.ref t from rx)
    obtain ⟨_, _, vs, r, ob, es, ep, go, c⟩ := (show ObjOk X.prog X.w H s.heap t (.dK kvs) from I.hok t _ h)
    obtain ⟨cl, dd, data, sl⟩ := ob
    obtain ⟨⟨hc, _⟩, hd, _⟩ := c
    simp only at hc hd
    subst hc hd
    exact PySem.W.cmp_back (T := "dict") hr.units0 I.kIn J ⟨_, go, rfl⟩ PySem.F.slot_dict_eq N.d (fun Q' hq => call_meets PySem.F.slot_dict_eq ⟨_, go, rfl⟩ PySem.F.entry_dict_eq (PySem.F.args_dict_eq_2 _ _) (BK.dec_dict (K := X.K) (C := C) (x := a) t es _ dd sl) ⟨go, ⟨I.kIn, J, N.d⟩, hq⟩) O.at' O.fn fin
end
end WO

end
section
set_option Elab.async false
set_option linter.all false
set_option maxRecDepth 100000
set_option maxHeartbeats 4000000
/-! ## max of a list of ints, with and without default= -/
namespace G
open PySem PySem.Spec PyProof.Rows L2 PySem.W
theorem ints_reads {h : Heap} : ∀ {ns : List Int} {us : List Value}, Vals (ns.map V.int) us → ReadsAll h us (ns.map PyData.int) []
  | [], _, r => by cases r; exact .nil
  | n :: ns, _, r => by
    cases r with
    | cons a b =>
      obtain ⟨t, rfl⟩ := a
      exact .cons (as := []) (bs := []) (.int n t) (ints_reads b)
theorem ints_alike : ∀ ns : List Int, AlikeAll (ns.map PyData.int) := by
  intro ns
  refine ⟨fun x hx y hy => ?_, fun x hx => ?_⟩
  · obtain ⟨a, _, rfl⟩ := List.mem_map.mp hx
    obtain ⟨b, _, rfl⟩ := List.mem_map.mp hy
    rfl
  · obtain ⟨a, _, rfl⟩ := List.mem_map.mp hx
    intro z
    cases z
theorem ints_depth : ∀ ns : List Int, PyData.depthAll (ns.map PyData.int) = 0
  | [] => by simp only [List.map_nil, PyData.depthAll]
  | n :: ns => by simp only [List.map_cons, PyData.depthAll, PyData.depth, ints_depth ns, Nat.max_self]
theorem int_reads {h : Heap} {v : Value} {n : Int} {bs : List Addr} (r : Reads h v (.int n) bs) : RelV (.int n) v := by
  cases r
  exact ⟨_, rfl⟩
def rMaxID (K : PySem.W.Frag) : List V → List V → Hp → VK → Prop := fun xs zs H Q => ∃ (a : Addr) (ns : List Int) (d : Int), xs = [.ref a] ∧ zs = [.int d] ∧ SqL K H a (ns.map V.int) ∧ Q (.int (match ns with | [] => d | n :: r => r.foldl max n)) H
section
variable {X : Cx}
theorem call_maxID (hc : X.calm = true) (hu : X.A.units + 64 < cLine) : CallRK X (.builtin "max") ["default"] (rMaxID X.K) := by
  intro pins s σ H xs zs us ws Q I r rz h
  obtain ⟨a, ns, d, rfl, rfl, hL, q⟩ := h
  cases r with
  | cons rx rr =>
    cases rr
    cases rx
    cases rz with
    | cons ra rb =>
      cases rb
      obtain ⟨td, rfl⟩ := ra
      obtain ⟨its, rv, pl, _⟩ := I.list hL
      have hr := ints_reads (h := s.heap) rv
      refine max_list_default (xs := ns.map .int) (d := .int d td) (I.ok.hd hc) pl.isList (by simpa using hr) (ints_alike ns) (by rw [ints_depth]; omega) (fun e h' tk k => ?_) fun y ys i v h' tk bs e hv hR k => ?_
      · cases ns with
        | nil => exact ⟨.int d, H, I.kept (t' := tk) k, ⟨td, rfl⟩, q⟩
        | cons n r => cases e
      · cases ns with
        | nil => cases e
        | cons n r =>
          injection e with e1 e2
          subst e1 e2
          rw [maxD_ints] at hR
          exact ⟨.int _, H, I.kept (t' := tk) k, int_reads hR, q⟩
end
end G

end
section
set_option autoImplicit false
/-! ## ways and what becomes of letters: a mirror, and that a lesser body fares no worse -/
namespace M
inductive LW where
  | cut | tell | drop
  deriving DecidableEq
inductive TW where
  | turn | keep | lose
  deriving DecidableEq
mutual
inductive Way where
  | mk (head : Nat) (steps : List Step)
inductive Step where
  | road (size : Nat) (tellS : Bool) (loose : LW)
  | join (most : Nat)
  | tunnel (w : Way) (most : Nat) (t : TW)
end
def Way.head : Way → Nat
  | .mk h _ => h
def Way.steps : Way → List Step
  | .mk _ s => s
inductive Fate where
  | comes (l : List Nat)
  | told (size : Int) (place : List Nat)
  | silent (place : List Nat)
  deriving DecidableEq
/-- what a step makes of stretches; an end as it is seen from the step -/
def parts (c x : Nat) : List Nat := (List.range ((x + c - 1) / c)).map fun k => min c (x - k * c)
def cutAll (c : Nat) (l : List Nat) : List Nat := l.flatMap (parts c)
def road (h size : Nat) (tellS : Bool) (lw : LW) (sealed : Bool) (l : List Nat) : Fate :=
  if ∀ x ∈ l, x ≤ size - h then .comes l
  else if sealed then (if tellS then .told size [] else .silent [])
  else match lw with
    | .cut => .comes (cutAll (size - h) l)
    | .tell => .told size []
    | .drop => .silent []
def join (most : Nat) (l : List Nat) : Fate := if l.length > most then .silent [] else .comes [l.sum]
def turned (ih : Nat) (t : TW) : Fate → Fate
  | .told s p => if t = .turn then .told (s - ih) p else .silent p
  | .silent p => .silent p
  | .comes _ => .silent []
def seen (i : Nat) : Fate → Fate
  | .told s p => .told s (i :: p)
  | .silent p => .silent (i :: p)
  | .comes l => .comes l
/-- the tunnel, by what the inner way makes of each stretch -/
def tunnel (inner : Nat → Fate) (ih most : Nat) (t : TW) (l : List Nat) : List Nat → Fate
  | [] => .comes l
  | x :: r => match inner x with
    | .comes m => if m.length > most then .silent [] else tunnel inner ih most t l r
    | f => turned ih t f
mutual
def Way.walk (sealed : Bool) : Way → Nat → Fate
  | .mk h steps, b => Way.from sealed h steps 0 [b]
def Way.from (sealed : Bool) (h : Nat) : List Step → Nat → List Nat → Fate
  | [], _, l => .comes l
  | s :: r, i, l => match Step.does sealed h s l with
    | .comes m => Way.from sealed h r (i + 1) m
    | f => seen i f
def Step.does (sealed : Bool) (h : Nat) : Step → List Nat → Fate
  | .road size ts lw, l => road h size ts lw sealed l
  | .join most, l => join most l
  | .tunnel w most t, l => tunnel (fun x => Way.walk sealed w (h + x)) w.head most t l l
end
/-! ### truncation -/
def tr : List Nat → Nat → List Nat
  | _, 0 => []
  | [], _ + 1 => []
  | x :: l, b + 1 => if b + 1 ≤ x then [b + 1] else x :: tr l (b + 1 - x)
theorem tr_zero (l : List Nat) : tr l 0 = [] := by cases l <;> rfl
theorem tr_cons {x b : Nat} {l : List Nat} (hb : 0 < b) : tr (x :: l) b = if b ≤ x then [b] else x :: tr l (b - x) := by
  cases b with
  | zero => omega
  | succ b => rfl
theorem tr_nil (b : Nat) : tr [] b = [] := by cases b <;> rfl
theorem tr_mem : ∀ (l : List Nat) (b x : Nat), x ∈ tr l b → ∃ y ∈ l, x ≤ y
  | [], b, x, h => by rw [tr_nil] at h; cases h
  | y :: l, b, x, h => by
    by_cases hb : 0 < b
    · rw [tr_cons hb] at h
      split at h
      · rename_i hy
        have e : x = b := by simpa using h
        exact ⟨y, List.mem_cons_self, by omega⟩
      · rcases List.mem_cons.mp h with e | e
        · exact ⟨y, List.mem_cons_self, by omega⟩
        · obtain ⟨z, hz, hx⟩ := tr_mem l _ x e
          exact ⟨z, List.mem_cons_of_mem _ hz, hx⟩
    · have e : b = 0 := by omega
      subst e
      rw [tr_zero] at h
      cases h
theorem tr_len : ∀ (l : List Nat) (b : Nat), (tr l b).length ≤ l.length
  | [], b => by rw [tr_nil]; exact Nat.le_refl _
  | y :: l, b => by
    by_cases hb : 0 < b
    · rw [tr_cons hb]
      split
      · simp
      · have := tr_len l (b - y)
        simp; omega
    · have e : b = 0 := by omega
      subst e
      rw [tr_zero]; simp
theorem tr_sum : ∀ (l : List Nat) (b : Nat), b ≤ l.sum → (tr l b).sum = b
  | [], b, h => by rw [tr_nil]; simp at h ⊢; omega
  | y :: l, b, h => by
    by_cases hb : 0 < b
    · rw [tr_cons hb]
      split
      · simp
      · simp at h ⊢
        have := tr_sum l (b - y) (by omega)
        omega
    · have e : b = 0 := by omega
      subst e
      rw [tr_zero]; rfl
theorem tr_all {l : List Nat} (h : ∀ x ∈ l, 0 < x) : tr l l.sum = l := by
  induction l with
  | nil => rfl
  | cons x l ih =>
    have hx := h x List.mem_cons_self
    rw [tr_cons (by simp; omega)]
    cases l with
    | nil => simp
    | cons y r =>
      have hy := h y (by simp)
      rw [if_neg (by simp; omega)]
      have e : (x :: y :: r).sum - x = (y :: r).sum := by simp
      rw [e, ih fun z hz => h z (List.mem_cons_of_mem _ hz)]
theorem tr_append : ∀ (l m : List Nat) (b : Nat), tr (l ++ m) b = if b ≤ l.sum then tr l b else l ++ tr m (b - l.sum)
  | [], m, b => by
    cases b with
    | zero => simp [tr_zero]
    | succ b => simp
  | x :: l, m, b => by
    by_cases hb : 0 < b
    · rw [List.cons_append, tr_cons hb, tr_cons hb, tr_append l m (b - x), List.sum_cons]
      by_cases h1 : b ≤ x
      · rw [if_pos h1, if_pos (by omega), if_pos h1]
      · rw [if_neg h1, if_neg h1]
        by_cases h2 : b ≤ x + l.sum
        · rw [if_pos (by omega), if_pos h2]
        · rw [if_neg (by omega), if_neg h2]
          have e : b - x - l.sum = b - (x + l.sum) := by omega
          rw [e]; rfl
    · have e : b = 0 := by omega
      subst e
      simp [tr_zero]
/-! ### cutting -/
theorem parts_small {c x : Nat} (h0 : 0 < x) (h : x ≤ c) : parts c x = [x] := by
  unfold parts
  have e : (x + c - 1) / c = 1 := by
    have e1 : x + c - 1 = (x - 1) + c * 1 := by omega
    rw [e1, Nat.add_mul_div_left _ _ (by omega : 0 < c), Nat.div_eq_of_lt (by omega)]
  rw [e]
  show [min c (x - 0 * c)] = [x]
  rw [Nat.zero_mul, Nat.sub_zero, Nat.min_eq_right h]
theorem parts_more {c x : Nat} (hc : 0 < c) (h : c < x) : parts c x = c :: parts c (x - c) := by
  unfold parts
  have e : (x + c - 1) / c = (x - c + c - 1) / c + 1 := by
    have e1 : x + c - 1 = (x - c + c - 1) + c * 1 := by omega
    rw [e1, Nat.add_mul_div_left _ _ hc]
  rw [e, List.range_succ_eq_map, List.map_cons, List.map_map]
  congr 1
  · rw [Nat.zero_mul, Nat.sub_zero, Nat.min_eq_left (by omega)]
  · apply List.map_congr_left
    intro k _
    show min c (x - (k + 1) * c) = min c (x - c - k * c)
    rw [Nat.succ_mul]
    congr 1
    omega
theorem parts_ind {c : Nat} {P : Nat → Prop} (hc : 0 < c) (small : ∀ x, 0 < x → x ≤ c → P x) (more : ∀ x, c < x → P (x - c) → P x) (x : Nat) (hx : 0 < x) : P x := by
  induction x using Nat.strongRecOn with
  | _ x ih =>
    by_cases h : x ≤ c
    · exact small x hx h
    · exact more x (by omega) (ih (x - c) (by omega) (by omega))
theorem parts_sum {c x : Nat} (hc : 0 < c) (hx : 0 < x) : (parts c x).sum = x := by
  refine parts_ind (P := fun x => (parts c x).sum = x) hc (fun x h1 h2 => ?_) (fun x h1 ih => ?_) x hx
  · rw [parts_small h1 h2]; simp
  · rw [parts_more hc h1, List.sum_cons, ih]; omega
theorem parts_pos {c x : Nat} (hc : 0 < c) (hx : 0 < x) : ∀ y ∈ parts c x, 0 < y ∧ y ≤ c ∧ y ≤ x := by
  refine parts_ind (P := fun x => ∀ y ∈ parts c x, 0 < y ∧ y ≤ c ∧ y ≤ x) hc (fun x h1 h2 => ?_) (fun x h1 ih => ?_) x hx
  · rw [parts_small h1 h2]
    intro y hy
    have e : y = x := by simpa using hy
    omega
  · rw [parts_more hc h1]
    intro y hy
    rcases List.mem_cons.mp hy with e | e
    · omega
    · have := ih y e
      omega
/-- the first piece -/
theorem parts_head {c x : Nat} (hc : 0 < c) (hx : 0 < x) : ∃ r, parts c x = min c x :: r := by
  by_cases h : x ≤ c
  · exact ⟨[], by rw [parts_small hx h, Nat.min_eq_right h]⟩
  · exact ⟨_, by rw [parts_more hc (by omega), Nat.min_eq_left (by omega)]⟩
theorem parts_tr {c : Nat} (hc : 0 < c) (x : Nat) (hx : 0 < x) : ∀ b, 0 < b → b ≤ x → tr (parts c x) b = parts c b := by
  refine parts_ind (P := fun x => ∀ b, 0 < b → b ≤ x → tr (parts c x) b = parts c b) hc (fun x h1 h2 b hb hbx => ?_) (fun x h1 ih b hb hbx => ?_) x hx
  · rw [parts_small h1 h2, tr_cons hb, if_pos hbx, parts_small hb (by omega)]
  · rw [parts_more hc h1, tr_cons hb]
    by_cases h : b ≤ c
    · rw [if_pos h, parts_small hb h]
    · rw [if_neg h, parts_more (x := b) hc (by omega), ih (b - c) (by omega) (by omega)]
theorem cut_sum {c : Nat} (hc : 0 < c) : ∀ {l : List Nat}, (∀ x ∈ l, 0 < x) → (cutAll c l).sum = l.sum
  | [], _ => rfl
  | x :: l, h => by
    show (parts c x ++ cutAll c l).sum = _
    rw [List.sum_append, parts_sum hc (h x List.mem_cons_self), cut_sum hc fun y hy => h y (List.mem_cons_of_mem _ hy), List.sum_cons]
theorem cut_tr {c : Nat} (hc : 0 < c) : ∀ {l : List Nat} {b : Nat}, (∀ x ∈ l, 0 < x) → b ≤ l.sum → cutAll c (tr l b) = tr (cutAll c l) b
  | [], b, _, _ => by rw [tr_nil]; show [] = tr [] b; rw [tr_nil]
  | x :: l, b, h, hb => by
    have hx := h x List.mem_cons_self
    show _ = tr (parts c x ++ cutAll c l) b
    by_cases h0 : 0 < b
    · rw [tr_append, parts_sum hc hx, tr_cons h0]
      by_cases h1 : b ≤ x
      · rw [if_pos h1, if_pos h1, parts_tr hc x hx b h0 h1]
        show parts c b ++ [] = _
        rw [List.append_nil]
      · rw [if_neg h1, if_neg h1]
        show parts c x ++ cutAll c (tr l (b - x)) = _
        rw [cut_tr hc (fun y hy => h y (List.mem_cons_of_mem _ hy)) (by simp at hb; omega)]
    · have e : b = 0 := by omega
      subst e
      rw [tr_zero, tr_zero]; rfl
theorem cut_same {c : Nat} : ∀ {l : List Nat}, (∀ x ∈ l, 0 < x ∧ x ≤ c) → cutAll c l = l
  | [], _ => rfl
  | x :: l, h => by
    show parts c x ++ cutAll c l = _
    have hx := h x List.mem_cons_self
    rw [parts_small hx.1 hx.2, cut_same fun y hy => h y (List.mem_cons_of_mem _ hy)]
    rfl
/-! ### the stretches of a letter, and those of a lesser one -/
/-- stretches of a body b -/
structure Good (b : Nat) (l : List Nat) : Prop where
  sum : l.sum = b
  ne : l ≠ []
  pos : 0 < b → ∀ x ∈ l, 0 < x
  zero : b = 0 → l = [0]
  first : ∀ x ∈ l, x ≤ l.headD 0
/-- stretches of b beside those of a body that is not less -/
def Rel (b : Nat) (l l' : List Nat) : Prop := if b = 0 then l = [0] else l = tr l' b
theorem good_one (b : Nat) : Good b [b] where
  sum := by simp
  ne := by simp
  pos := fun h x hx => by
    have e : x = b := by simpa using hx
    omega
  zero := fun h => by rw [h]
  first := fun x hx => by
    have e : x = b := by simpa using hx
    rw [e]
    exact Nat.le_refl b
theorem rel_one {b b' : Nat} (h : b ≤ b') : Rel b [b] [b'] := by
  unfold Rel
  split
  · rename_i e; rw [e]
  · rw [tr_cons (by omega), if_pos h]
/-- lesser stretches: each at most one of the greater, the first at most the first; no more of them -/
theorem rel_mem {b b' : Nat} {l l' : List Nat} (h : Rel b l l') (g : Good b' l') : ∀ x ∈ l, ∃ y ∈ l', x ≤ y := by
  unfold Rel at h
  split at h
  · subst h
    intro x hx
    have e : x = 0 := by simpa using hx
    cases l' with
    | nil => exact absurd rfl g.ne
    | cons y r => exact ⟨y, List.mem_cons_self, by omega⟩
  · subst h
    exact tr_mem l' b
theorem rel_len {b b' : Nat} {l l' : List Nat} (h : Rel b l l') (g : Good b' l') : l.length ≤ l'.length := by
  unfold Rel at h
  split at h
  · subst h
    cases l' with
    | nil => exact absurd rfl g.ne
    | cons y r => simp
  · subst h
    exact tr_len l' b
theorem good_cut {b c : Nat} {l : List Nat} (hc : 0 < c) (hb : 0 < b) (g : Good b l) : Good b (cutAll c l) := by
  have p := g.pos hb
  obtain ⟨y, r, rfl⟩ : ∃ y r, l = y :: r := by
    cases l with
    | nil => exact absurd rfl g.ne
    | cons y r => exact ⟨y, r, rfl⟩
  obtain ⟨r', hr⟩ := parts_head hc (p y List.mem_cons_self)
  have e : cutAll c (y :: r) = min c y :: (r' ++ cutAll c r) := by
    show parts c y ++ cutAll c r = _
    rw [hr]; rfl
  refine ⟨by rw [cut_sum hc p, g.sum], by rw [e]; simp, fun _ x hx => ?_, fun h => by omega, fun x hx => ?_⟩
  · obtain ⟨z, hz, hx⟩ := List.mem_flatMap.mp hx
    exact (parts_pos hc (p z hz) x hx).1
  · rw [e]
    show x ≤ min c y
    obtain ⟨z, hz, hx⟩ := List.mem_flatMap.mp hx
    have q := parts_pos hc (p z hz) x hx
    have f : z ≤ y := g.first z hz
    omega
mutual
/-- what a way's steps are: sizes above heads, at least one piece put together -/
def Way.ok : Way → Prop
  | .mk h steps => 0 < h ∧ Step.okAll h steps
def Step.okAll (h : Nat) : List Step → Prop
  | [] => True
  | s :: r => Step.ok h s ∧ Step.okAll h r
def Step.ok (h : Nat) : Step → Prop
  | .road size _ _ => h < size
  | .join most => 0 < most
  | .tunnel w most _ => Way.ok w ∧ 0 < most
end
theorem road_comes {h size : Nat} {ts : Bool} {lw : LW} {sealed : Bool} {l m : List Nat} (e : road h size ts lw sealed l = .comes m) : (m = l ∧ ∀ x ∈ l, x ≤ size - h) ∨ (m = cutAll (size - h) l ∧ sealed = false ∧ lw = .cut ∧ ¬ ∀ x ∈ l, x ≤ size - h) := by
  unfold road at e
  split at e
  · rename_i q
    injection e with e
    exact .inl ⟨e.symm, q⟩
  · rename_i q
    split at e
    · split at e <;> cases e
    · rename_i qs
      split at e
      · injection e with e
        exact .inr ⟨e.symm, by simpa using qs, rfl, q⟩
      · cases e
      · cases e
theorem tunnel_comes {inner : Nat → Fate} {ih most : Nat} {t : TW} {l m : List Nat} : ∀ {r : List Nat}, tunnel inner ih most t l r = .comes m → m = l ∧ ∀ x ∈ r, ∃ k, inner x = .comes k ∧ k.length ≤ most
  | [], e => by
    unfold tunnel at e
    injection e with e
    exact ⟨e.symm, fun x hx => by cases hx⟩
  | x :: r, e => by
    unfold tunnel at e
    split at e
    · rename_i k hk
      split at e
      · cases e
      · rename_i hl
        obtain ⟨h1, h2⟩ := tunnel_comes e
        refine ⟨h1, fun y hy => ?_⟩
        rcases List.mem_cons.mp hy with z | z
        · exact ⟨k, z ▸ hk, by omega⟩
        · exact h2 y z
    · rename_i f hf
      cases hi : inner x with
      | comes k => exact absurd hi (hf k)
      | told s p =>
        rw [hi] at e
        simp only [turned] at e
        split at e <;> cases e
      | silent p =>
        rw [hi] at e
        cases e
theorem tunnel_pass {inner : Nat → Fate} {ih most : Nat} {t : TW} {l : List Nat} : ∀ {r : List Nat}, (∀ x ∈ r, ∃ k, inner x = .comes k ∧ k.length ≤ most) → tunnel inner ih most t l r = .comes l
  | [], _ => rfl
  | x :: r, h => by
    obtain ⟨k, e, hk⟩ := h x List.mem_cons_self
    unfold tunnel
    rw [e]
    show (if k.length > most then _ else _) = _
    rw [if_neg (by omega)]
    exact tunnel_pass fun y hy => h y (List.mem_cons_of_mem _ hy)
theorem rel_cut {b b' c : Nat} {l l' : List Nat} (hc : 0 < c) (hle : b ≤ b') (h : Rel b l l') (g : Good b' l') (g0 : Good b l) : Rel b (if b = 0 then l else cutAll c l) (cutAll c l') := by
  unfold Rel at h ⊢
  split
  · rename_i e
    rw [if_pos e] at h
    exact h
  · rename_i e
    rw [if_neg e] at h
    subst h
    exact cut_tr hc (g.pos (by omega)) (by rw [g.sum]; exact hle)
/-- one road, both letters -/
theorem road_mono {h size : Nat} {ts : Bool} {lw : LW} {sealed : Bool} {b b' : Nat} {l l' m' : List Nat} (hs : h < size) (hle : b ≤ b') (g : Good b l) (g' : Good b' l') (r : Rel b l l') (e : road h size ts lw sealed l' = .comes m') :
    ∃ m, road h size ts lw sealed l = .comes m ∧ Good b m ∧ Good b' m' ∧ Rel b m m' := by
  have hc : 0 < size - h := by omega
  rcases road_comes e with ⟨rfl, ha⟩ | ⟨rfl, rfl, rfl, hn⟩
  · have hl : ∀ x ∈ l, x ≤ size - h := fun x hx => by
      obtain ⟨y, hy, hxy⟩ := rel_mem r g' x hx
      exact Nat.le_trans hxy (ha y hy)
    exact ⟨l, by unfold road; rw [if_pos hl], g, g', r⟩
  · have hb' : 0 < b' := by
      rcases Nat.eq_zero_or_pos b' with z | z
      · rw [g'.zero z] at hn
        exact absurd (fun x hx => by have e : x = 0 := by simpa using hx
                                     omega) hn
      · exact z
    have gm' := good_cut hc hb' g'
    have rm := rel_cut hc hle r g' g
    by_cases hl : ∀ x ∈ l, x ≤ size - h
    · refine ⟨l, by unfold road; rw [if_pos hl], g, gm', ?_⟩
      by_cases hb : b = 0
      · rw [if_pos hb] at rm; exact rm
      · rw [if_neg hb, cut_same fun x hx => ⟨g.pos (by omega) x hx, hl x hx⟩] at rm
        exact rm
    · have hb : ¬ b = 0 := fun z => hl fun x hx => by
        rw [g.zero z] at hx
        have e : x = 0 := by simpa using hx
        omega
      rw [if_neg hb] at rm
      exact ⟨_, by unfold road; rw [if_neg hl, if_neg (by simp)], good_cut hc (by omega) g, gm', rm⟩
mutual
/-- a letter that comes does so for each lesser body -/
theorem Way.mono (sealed : Bool) : ∀ (w : Way), w.ok → ∀ (b b' : Nat) (m' : List Nat), b ≤ b' → w.walk sealed b' = .comes m' → ∃ m, w.walk sealed b = .comes m ∧ Good b m ∧ Good b' m' ∧ Rel b m m'
  | .mk h steps, hw, b, b', m', hle, e => Way.from_mono sealed h steps hw.1 hw.2 0 b b' [b] [b'] m' hle (good_one b) (good_one b') (rel_one hle) e
theorem Way.from_mono (sealed : Bool) (h : Nat) : ∀ (steps : List Step), 0 < h → Step.okAll h steps → ∀ (i b b' : Nat) (l l' m' : List Nat), b ≤ b' → Good b l → Good b' l' → Rel b l l' → Way.from sealed h steps i l' = .comes m' →
    ∃ m, Way.from sealed h steps i l = .comes m ∧ Good b m ∧ Good b' m' ∧ Rel b m m'
  | [], _, _, i, b, b', l, l', m', hle, g, g', r, e => by
    unfold Way.from at e
    injection e with e
    subst e
    exact ⟨l, by unfold Way.from; rfl, g, g', r⟩
  | s :: rest, h0, hok, i, b, b', l, l', m', hle, g, g', r, e => by
    unfold Way.from at e
    split at e
    · rename_i k' hk
      obtain ⟨k, e1, gk, gk', rk⟩ := Step.mono sealed h s h0 hok.1 b b' l l' k' hle g g' r hk
      obtain ⟨m, e2, q⟩ := Way.from_mono sealed h rest h0 hok.2 (i + 1) b b' k k' m' hle gk gk' rk e
      exact ⟨m, by unfold Way.from; rw [e1]; exact e2, q⟩
    · rename_i f hf
      cases hd : Step.does sealed h s l' with
      | comes k => exact absurd hd (hf k)
      | told a p => rw [hd] at e; cases e
      | silent p => rw [hd] at e; cases e
theorem Step.mono (sealed : Bool) (h : Nat) : ∀ (s : Step), 0 < h → Step.ok h s → ∀ (b b' : Nat) (l l' m' : List Nat), b ≤ b' → Good b l → Good b' l' → Rel b l l' → Step.does sealed h s l' = .comes m' →
    ∃ m, Step.does sealed h s l = .comes m ∧ Good b m ∧ Good b' m' ∧ Rel b m m'
  | .road size ts lw, _, hok, b, b', l, l', m', hle, g, g', r, e => by
    unfold Step.does at e ⊢
    exact road_mono hok hle g g' r e
  | .join most, _, hok, b, b', l, l', m', hle, g, g', r, e => by
    unfold Step.does join at e
    split at e
    · cases e
    · rename_i q
      injection e with e
      subst e
      refine ⟨[b], ?_, good_one b, by rw [g'.sum]; exact good_one b', by rw [g'.sum]; exact rel_one hle⟩
      unfold Step.does join
      rw [if_neg (by have := rel_len r g'; omega), g.sum]
  | .tunnel w most t, _, hok, b, b', l, l', m', hle, g, g', r, e => by
    unfold Step.does at e ⊢
    obtain ⟨rfl, ha⟩ := tunnel_comes e
    refine ⟨l, tunnel_pass fun x hx => ?_, g, g', r⟩
    obtain ⟨y, hy, hxy⟩ := rel_mem r g' x hx
    obtain ⟨k', hk', hl'⟩ := ha y hy
    obtain ⟨k, hk, gk, gk', rk⟩ := Way.mono sealed w hok.1 (h + x) (h + y) k' (by omega) hk'
    exact ⟨k, hk, by have := rel_len rk gk'; omega⟩
end
/-- a sealed letter is one piece -/
theorem Way.from_sealed (h : Nat) : ∀ (steps : List Step) (i b : Nat) (m : List Nat), Way.from true h steps i [b] = .comes m → m = [b]
  | [], i, b, m, e => by
    unfold Way.from at e
    injection e with e
    exact e.symm
  | s :: rest, i, b, m, e => by
    unfold Way.from at e
    split at e
    · rename_i k hk
      have hb : k = [b] := by
        cases s with
        | road size ts lw =>
          unfold Step.does at hk
          rcases road_comes hk with ⟨q, _⟩ | ⟨_, q, _⟩
          · exact q
          · cases q
        | join most =>
          unfold Step.does join at hk
          split at hk
          · cases hk
          · injection hk with hk
            simpa using hk.symm
        | tunnel w most t =>
          unfold Step.does at hk
          exact (tunnel_comes hk).1
      subst hb
      exact Way.from_sealed h rest (i + 1) b m e
    · rename_i f hf
      cases hd : Step.does true h s [b] with
      | comes k => exact absurd hd (hf k)
      | told a p => rw [hd] at e; cases e
      | silent p => rw [hd] at e; cases e
theorem Way.walk_sealed (w : Way) (b : Nat) (m : List Nat) (e : w.walk true b = .comes m) : m = [b] := by
  obtain ⟨h, steps⟩ := w
  exact Way.from_sealed h steps 0 b m e
theorem from_cons (sealed : Bool) (h : Nat) (x : Step) (s : List Step) (i : Nat) (l : List Nat) : Way.from sealed h (x :: s) i l = match Step.does sealed h x l with
    | .comes m => Way.from sealed h s (i + 1) m
    | f => seen i f := by
  conv => lhs; unfold Way.from
/-- one way behind another -/
theorem Way.from_append (sealed : Bool) (h : Nat) (r : List Step) : ∀ (s : List Step) (i : Nat) (l : List Nat), Way.from sealed h (s ++ r) i l = match Way.from sealed h s i l with
    | .comes m => Way.from sealed h r (i + s.length) m
    | f => f
  | [], i, l => by
    show Way.from sealed h r i l = _
    rw [show Way.from sealed h [] i l = .comes l by unfold Way.from; rfl]
    rfl
  | x :: s, i, l => by
    rw [List.cons_append, from_cons, from_cons]
    cases hd : Step.does sealed h x l with
    | comes k =>
      show Way.from sealed h (s ++ r) (i + 1) k = _
      rw [Way.from_append sealed h r s (i + 1) k]
      have e : i + 1 + s.length = i + (x :: s).length := by simp; omega
      rw [e]
    | told a p => rfl
    | silent p => rfl
/-- the places of the steps behind i: as if the way began there -/
def shift (i : Nat) : Fate → Fate
  | .told s (p :: q) => .told s ((p + i) :: q)
  | .silent (p :: q) => .silent ((p + i) :: q)
  | f => f
theorem shift_seen (i j : Nat) (f : Fate) : shift i (seen j f) = seen (j + i) f := by cases f <;> rfl
theorem Way.from_shift (sealed : Bool) (h i : Nat) : ∀ (s : List Step) (j : Nat) (l : List Nat), Way.from sealed h s (j + i) l = shift i (Way.from sealed h s j l)
  | [], j, l => by
    rw [show Way.from sealed h [] j l = .comes l by unfold Way.from; rfl, show Way.from sealed h [] (j + i) l = .comes l by unfold Way.from; rfl]
    rfl
  | x :: s, j, l => by
    rw [from_cons, from_cons]
    cases hd : Step.does sealed h x l with
    | comes k =>
      show Way.from sealed h s (j + i + 1) k = shift i (Way.from sealed h s (j + 1) k)
      rw [show j + i + 1 = j + 1 + i by omega]
      exact Way.from_shift sealed h i s (j + 1) k
    | told a p => exact (shift_seen i j _).symm
    | silent p => exact (shift_seen i j _).symm
end M

end
section
set_option Elab.async false
set_option linter.all false
set_option maxRecDepth 100000
set_option maxHeartbeats 4000000
/-! ## the program's ways: good ones -/
namespace WP
open PySem L2 G
def top (i : Nat) : Stmt := PySem.Challenge.pw_roadsizes_k01_ways_made_and_refused.main.body.getD i (.Pass ⟨0, 0, 0, 0⟩)
abbrev sInteger : Stmt := top 2
abbrev sWithin : Stmt := top 3
abbrev sMost : Stmt := top 27
abbrev sList : Stmt := top 25
abbrev sStep : Stmt := top 29
abbrev sRoad : Stmt := top 26
abbrev sTells : Stmt := top 28
abbrev sHead : Stmt := top 24
abbrev sInit : Stmt := inClass (top 23) 0
abbrev sLen : Stmt := inClass (top 23) 1
abbrev sAdd : Stmt := inClass (top 23) 5
structure Bn (mg : Str → Option Value) : Prop where
  isi : mg "isinstance" = none
  bool : mg "bool" = none
  int : mg "int" = none
  tuple : mg "tuple" = none
  list : mg "list" = none
  len : mg "len" = none
  enum : mg "enumerate" = none
  max : mg "max" = none
  sum : mg "sum" = none
section
variable {P : Program} {w : World} {K : PySem.W.Frag} {mg : Str → Option Value} {base : Heap}
def spInteger : Sp := fun vs H Q _ => ∃ v : Int, vs = [.int v] ∧ Q (.bl true) H
theorem scIn : FnScope ["value"] ["value"] (defScope sInteger) := ⟨rfl, rfl, rfl, by decide +kernel, rfl, by decide +kernel, by decide +kernel⟩
theorem ok_integer {f : Addr} {fd : FuncData} (F : Fun K "is_integer" "is_integer" sInteger f fd) (B : Bn mg) : FnOk P w K mg base CX0 1 f fd ["value"] spInteger := by
  refine F.ok scIn (fun vs H Q E h => ?_) (fun cdv A outer s H vs Q E hr h => ?_)
  · obtain ⟨v, rfl, _⟩ := h
    rfl
  · obtain ⟨v, rfl, k⟩ := h
    refine ⟨_, pss_one (ps_ret (pe_and (pe_callB call_isi (by rfl) B.isi (by decide +kernel) (pa_cons (pv 0) (pa_cons (pe_bltn (v := .ty "int") (by rfl) B.int (by decide +kernel) rfl) pa_nil)))
      (pe_one (pe_not (pe_callB call_isi (by rfl) B.isi (by decide +kernel) (pa_cons (pv 0) (pa_cons (pe_bltn (v := .ty "bool") (by rfl) B.bool (by decide +kernel) rfl) pa_nil))))))), ?_⟩
    exact ⟨_, rfl, _, _, _, _, _, rfl, .ty _, .base (.int _), kit_ty (r := true) (by decide +kernel), _, rfl, iteT ⟨_, rfl, _, _, _, _, _, rfl, .ty _, .base (.int _), kit_ty (r := false) (by decide +kernel), _, rfl, k⟩⟩
def spWithin : Sp := fun vs H Q _ => ∃ v a b : Int, vs = [.int v, .int a, .int b] ∧ Q (.bl (decide (a ≤ v ∧ v ≤ b))) H
theorem sc3 : FnScope ["value", "least", "greatest"] ["value", "least", "greatest"] (defScope sWithin) := ⟨rfl, rfl, rfl, by decide +kernel, rfl, by decide +kernel, by decide +kernel⟩
theorem ok_within {f fI : Addr} {fd fdI : FuncData} (F : Fun K "is_within" "is_within" sWithin f fd) (B : Bn mg) (FI : Fun K "is_integer" "is_integer" sInteger fI fdI) (gI : mg "is_integer" = some (.ref fI)) (bI : Binds K fdI ["value"] []) : FnOk P w K mg base CX0 2 f fd ["value", "least", "greatest"] spWithin := by
  have GI : FnOk P w K mg base CX0 1 fI fdI ["value"] spInteger := ok_integer FI B
  refine F.ok sc3 (fun vs H Q E h => ?_) (fun cdv A outer s H vs Q E hr h => ?_)
  · obtain ⟨v, a, b, rfl, _⟩ := h
    rfl
  · obtain ⟨v, a, b, rfl, k⟩ := h
    refine ⟨_, pss_one (ps_ret (pe_and (pe_call GI hr rfl gI FI.kp bI .nil pass0 (pa_cons (pv 0) pa_nil)) (pe_one (pe_chain op_le op_le (pv 1) (pv 0) (pv 2))))), ?_⟩
    refine ⟨_, rfl, v, rfl, _, rfl, iteT ?_⟩
    refine ⟨_, rfl, _, rfl, _, _, rfl, rfl, _, rfl, ?_⟩
    refine ite2 (fun h1 => ⟨_, rfl, _, _, rfl, rfl, ?_⟩) (fun h1 => ?_)
    · have e1 : a ≤ v := of_decide_eq_true h1
      have e : decide (a ≤ v ∧ v ≤ b) = decide (v ≤ b) := by
        by_cases z : v ≤ b
        · rw [decide_eq_true z, decide_eq_true ⟨e1, z⟩]
        · rw [decide_eq_false z, decide_eq_false fun q => z q.2]
      rw [e] at k
      exact k
    · have e : decide (a ≤ v ∧ v ≤ b) = false := decide_eq_false fun q => h1 (decide_eq_true q.1)
      rw [e] at k
      exact k
/-- is_body, _is_most of ints -/
def spIn1 (a b : Int) : Sp := fun vs H Q _ => ∃ v : Int, vs = [.int v] ∧ Q (.bl (decide (a ≤ v ∧ v ≤ b))) H
structure Wi (P : Program) (w : World) (K : PySem.W.Frag) (mg : Str → Option Value) (base : Heap) (f : Addr) (fd : FuncData) : Prop where
  ok : FnOk P w K mg base CX0 2 f fd ["value", "least", "greatest"] spWithin
  g : mg "is_within" = some (.ref f)
  k : PySem.W.keepIn K (.ref f) = true
  b : Binds K fd ["value", "least", "greatest"] []
theorem scM : FnScope ["value"] ["value"] (defScope sMost) := ⟨rfl, rfl, rfl, by decide +kernel, rfl, by decide +kernel, by decide +kernel⟩
theorem ok_most {f fW : Addr} {fd fdW : FuncData} {t : Tok} (F : Fun K "is_most" "is_most" sMost f fd) (W : Wi P w K mg base fW fdW) (g : mg "GREATEST_MOST" = some (.int 1000000000000 t)) : FnOk P w K mg base CX0 3 f fd ["value"] (spIn1 1 1000000000000) := by
  refine F.ok scM (fun vs H Q E h => ?_) (fun cdv A outer s H vs Q E hr h => ?_)
  · obtain ⟨v, rfl, _⟩ := h
    rfl
  · obtain ⟨v, rfl, k⟩ := h
    exact ⟨_, pss_one (ps_ret (pe_call W.ok hr rfl W.g W.k W.b .nil pass0 (pa_cons (pv 0) (pa_cons pe_int (pa_cons (pe_glob (v := .int 1000000000000) rfl g ⟨_, rfl⟩) pa_nil))))), _, rfl, v, 1, 1000000000000, rfl, k⟩
theorem scHd : FnScope ["value"] ["value"] (defScope sHead) := ⟨rfl, rfl, rfl, by decide +kernel, rfl, by decide +kernel, by decide +kernel⟩
theorem ok_head {f fW : Addr} {fd fdW : FuncData} {t : Tok} (F : Fun K "is_head" "is_head" sHead f fd) (W : Wi P w K mg base fW fdW) (g : mg "GREATEST_HEAD" = some (.int 40 t)) : FnOk P w K mg base CX0 3 f fd ["value"] (spIn1 1 40) := by
  refine F.ok scHd (fun vs H Q E h => ?_) (fun cdv A outer s H vs Q E hr h => ?_)
  · obtain ⟨v, rfl, _⟩ := h
    rfl
  · obtain ⟨v, rfl, k⟩ := h
    exact ⟨_, pss_one (ps_ret (pe_call W.ok hr rfl W.g W.k W.b .nil pass0 (pa_cons (pv 0) (pa_cons pe_int (pa_cons (pe_glob (v := .int 40) rfl g ⟨_, rfl⟩) pa_nil))))), _, rfl, v, 1, 40, rfl, k⟩
end
end WP

end
section
set_option Elab.async false
set_option linter.all false
set_option maxRecDepth 100000
set_option maxHeartbeats 4000000
/-! ## ways on the heap -/
namespace M
mutual
def Way.depth : Way → Nat
  | .mk _ s => 1 + Step.deepest s
def Step.deepest : List Step → Nat
  | [] => 0
  | .tunnel w _ _ :: r => max w.depth (Step.deepest r)
  | .road _ _ _ :: r => Step.deepest r
  | .join _ :: r => Step.deepest r
end
mutual
def Way.size : Way → Nat
  | .mk _ s => s.length + Step.inner s
def Step.inner : List Step → Nat
  | [] => 0
  | .tunnel w _ _ :: r => w.size + Step.inner r
  | .road _ _ _ :: r => Step.inner r
  | .join _ :: r => Step.inner r
end
mutual
/-- a way that the program takes -/
def Way.fine : Way → Prop
  | .mk h s => (1 ≤ h ∧ h ≤ 40) ∧ (1 ≤ s.length ∧ s.length ≤ 12) ∧ Step.fineAll h s ∧ 1 + Step.deepest s ≤ 3 ∧ s.length + Step.inner s ≤ 40
def Step.fineAll (h : Nat) : List Step → Prop
  | [] => True
  | s :: r => Step.fine h s ∧ Step.fineAll h r
def Step.fine (h : Nat) : Step → Prop
  | .road size _ _ => h < size ∧ size ≤ 1000
  | .join most => 1 ≤ most ∧ most ≤ 1000000000000
  | .tunnel w most _ => Way.fine w ∧ 1 ≤ most ∧ most ≤ 1000000000000
end
end M
namespace WP
open PySem L2 G
def sdS (b : Bool) : Str := if b then "tell" else "drop"
def lwS : M.LW → Str
  | .cut => "cut"
  | .tell => "tell"
  | .drop => "drop"
def twS : M.TW → Str
  | .turn => "turn"
  | .keep => "keep"
  | .lose => "lose"
def flds (h : Int) (t : Addr) (D Z : Int) : List (Str × V) := putF "size" (.int Z) (putF "depth" (.int D) (putF "steps" (.ref t) (putF "head" (.int h) [])))
theorem nk : ¬ (("head" : Str) = "steps") ∧ ¬ (("head" : Str) = "depth") ∧ ¬ (("head" : Str) = "size") ∧ ¬ (("steps" : Str) = "depth") ∧ ¬ (("steps" : Str) = "size") ∧ ¬ (("depth" : Str) = "size") := by decide +kernel
theorem flds_head (h : Int) (t : Addr) (D Z : Int) : (flds h t D Z).lookup ("head" : Str) = some (.int h) := by
  unfold flds
  rw [lookup_putF, if_neg nk.2.2.1, lookup_putF, if_neg nk.2.1, lookup_putF, if_neg nk.1, lookup_putF, if_pos rfl]
theorem flds_steps (h : Int) (t : Addr) (D Z : Int) : (flds h t D Z).lookup ("steps" : Str) = some (.ref t) := by
  unfold flds
  rw [lookup_putF, if_neg nk.2.2.2.2.1, lookup_putF, if_neg nk.2.2.2.1, lookup_putF, if_pos rfl]
theorem flds_depth (h : Int) (t : Addr) (D Z : Int) : (flds h t D Z).lookup ("depth" : Str) = some (.int D) := by
  unfold flds
  rw [lookup_putF, if_neg nk.2.2.2.2.2, lookup_putF, if_pos rfl]
theorem flds_size (h : Int) (t : Addr) (D Z : Int) : (flds h t D Z).lookup ("size" : Str) = some (.int Z) := by
  unfold flds
  rw [lookup_putF, if_pos rfl]
mutual
/-- a way stands at a -/
def WayAt (C : Addr) (H : Hp) : M.Way → Addr → Prop
  | .mk h s, a => ∃ dx t xs, H a = some (.ins C dx (flds h t ((1 + M.Step.deepest s : Nat) : Int) ((s.length + M.Step.inner s : Nat) : Int))) ∧ H t = some (.tup xs) ∧ StepsAt C H s xs
def StepsAt (C : Addr) (H : Hp) : List M.Step → List V → Prop
  | [], xs => xs = []
  | s :: r, xs => ∃ x ys, xs = x :: ys ∧ StepAt C H s x ∧ StepsAt C H r ys
def StepAt (C : Addr) (H : Hp) : M.Step → V → Prop
  | .road size ts lw, x => ∃ t, x = .ref t ∧ H t = some (.tup [.str "road", .int (size : Int), .str (sdS ts), .str (lwS lw)])
  | .join most, x => ∃ t, x = .ref t ∧ H t = some (.tup [.str "join", .int (most : Int)])
  | .tunnel w most tw, x => ∃ t a, x = .ref t ∧ H t = some (.tup [.str "tunnel", .ref a, .int (most : Int), .str (twS tw)]) ∧ WayAt C H w a
end
mutual
theorem WayAt.mono {C : Addr} {H H' : Hp} (s : Same H H') : ∀ {w : M.Way} {a : Addr}, WayAt C H w a → WayAt C H' w a
  | .mk h st, a, x => by
    unfold WayAt at x ⊢
    obtain ⟨dx, t, xs, h1, h2, h3⟩ := x
    exact ⟨dx, t, xs, s _ _ h1, s _ _ h2, StepsAt.mono s h3⟩
theorem StepsAt.mono {C : Addr} {H H' : Hp} (s : Same H H') : ∀ {st : List M.Step} {xs : List V}, StepsAt C H st xs → StepsAt C H' st xs
  | [], xs, x => by
    unfold StepsAt at x ⊢
    exact x
  | y :: r, xs, x => by
    unfold StepsAt at x ⊢
    obtain ⟨u, ys, e, h1, h2⟩ := x
    exact ⟨u, ys, e, StepAt.mono s h1, StepsAt.mono s h2⟩
theorem StepAt.mono {C : Addr} {H H' : Hp} (s : Same H H') : ∀ {st : M.Step} {x : V}, StepAt C H st x → StepAt C H' st x
  | .road size ts lw, v, x => by
    unfold StepAt at x ⊢
    obtain ⟨t, e, h⟩ := x
    exact ⟨t, e, s _ _ h⟩
  | .join most, v, x => by
    unfold StepAt at x ⊢
    obtain ⟨t, e, h⟩ := x
    exact ⟨t, e, s _ _ h⟩
  | .tunnel w most tw, v, x => by
    unfold StepAt at x ⊢
    obtain ⟨t, a, e, h, h2⟩ := x
    exact ⟨t, a, e, s _ _ h, WayAt.mono s h2⟩
end
theorem StepsAt.get {C : Addr} {H : Hp} : ∀ {st : List M.Step} {xs : List V} {i : Nat} {x : V}, StepsAt C H st xs → xs[i]? = some x → ∃ s, st[i]? = some s ∧ StepAt C H s x
  | [], xs, i, x, h, e => by
    unfold StepsAt at h
    subst h
    cases e
  | y :: r, xs, 0, x, h, e => by
    unfold StepsAt at h
    obtain ⟨u, ys, rfl, h1, _⟩ := h
    cases e
    exact ⟨y, rfl, h1⟩
  | y :: r, xs, i + 1, x, h, e => by
    unfold StepsAt at h
    obtain ⟨u, ys, rfl, _, h2⟩ := h
    obtain ⟨s, a, b⟩ := StepsAt.get (i := i) h2 e
    exact ⟨s, a, b⟩
theorem StepsAt.len {C : Addr} {H : Hp} : ∀ {st : List M.Step} {xs : List V}, StepsAt C H st xs → xs.length = st.length
  | [], xs, h => by
    unfold StepsAt at h
    subst h
    rfl
  | y :: r, xs, h => by
    unfold StepsAt at h
    obtain ⟨u, ys, rfl, _, h2⟩ := h
    exact congrArg Nat.succ h2.len
theorem fine_get {h : Nat} : ∀ {st : List M.Step} {i : Nat} {s : M.Step}, M.Step.fineAll h st → st[i]? = some s → M.Step.fine h s
  | [], i, s, _, e => by cases e
  | y :: r, 0, s, f, e => by
    unfold M.Step.fineAll at f
    cases e
    exact f.1
  | y :: r, i + 1, s, f, e => by
    unfold M.Step.fineAll at f
    exact fine_get (i := i) f.2 e
end WP

end
section
set_option Elab.async false
set_option linter.all false
set_option maxRecDepth 100000
set_option maxHeartbeats 4000000
namespace WP
open PySem L2 G
theorem Same.of_upd {H : Hp} {p : Addr} {o : HO} (h : H p = none) : Same H (upd H p o) := fun a u e => by
  rw [upd_ne (ne_of_none e h)]
  exact e
/-- the class Way, the module's constants -/
structure Wt (K : PySem.W.Frag) (mg : Str → Option Value) (C : Addr) : Prop where
  g : mg "Way" = some (.ref C)
  cl : Cls K C
  nH : NoAttr K C "head"
  nS : NoAttr K C "steps"
  nD : NoAttr K C "depth"
  nZ : NoAttr K C "size"
  iA : PySem.W.findIn K (.ref C) "__class__" = some (some (.builtin "object.__class__"))
  iN : PySem.W.specialIn K (.builtin "object.__class__") "__get__" = some (some (.builtin "getset_descriptor.__get__"))
  iT : PySem.W.takesIn K (.builtin "object.__class__") = some true
  iM : PySem.W.mroIn K C (.type "object") = some true
  gHead : ∃ t, mg "GREATEST_HEAD" = some (.int 40 t)
  gRoad : ∃ t, mg "GREATEST_ROAD" = some (.int 1000 t)
  gMost : ∃ t, mg "GREATEST_MOST" = some (.int 1000000000000 t)
  gSteps : ∃ t, mg "MOST_STEPS" = some (.int 12 t)
  gDepth : ∃ t, mg "GREATEST_DEPTH" = some (.int 3 t)
  gSize : ∃ t, mg "GREATEST_SIZE" = some (.int 40 t)
  wS : ∃ a, mg "SEALED_WORDS" = some (.ref a) ∧ ∀ H, SqT K H a [.str "tell", .str "drop"]
  wL : ∃ a, mg "LOOSE_WORDS" = some (.ref a) ∧ ∀ H, SqT K H a [.str "cut", .str "tell", .str "drop"]
  wT : ∃ a, mg "TELLS_WORDS" = some (.ref a) ∧ ∀ H, SqT K H a [.str "turn", .str "keep", .str "lose"]
/-- a def of the text that is called by its name -/
structure Df (P : Program) (w : World) (K : PySem.W.Frag) (mg : Str → Option Value) (base : Heap) (k : Nat) (x : Str) (ps : List Str) (sp : Sp) : Prop where
  ex : ∃ (f : Addr) (fd : FuncData), FnOk P w K mg base CX0 k f fd ps sp ∧ mg x = some (.ref f) ∧ PySem.W.keepIn K (.ref f) = true ∧ Binds K fd ps []
section
variable {P : Program} {w : World} {K : PySem.W.Frag} {mg : Str → Option Value} {base : Heap} {C : Addr}
def spRoad : Sp := fun vs H Q _ => ∃ (size : Nat) (least : Int) (ts : Bool) (lw : M.LW), vs = [.int (size : Int), .str (sdS ts), .str (lwS lw), .int least] ∧ least ≤ (size : Int) ∧ size ≤ 1000 ∧ Q (.bl true) H
theorem in_sd (b : Bool) : inV (.str (sdS b)) [.str "tell", .str "drop"] = true := by cases b <;> decide +kernel
theorem in_lw (l : M.LW) : inV (.str (lwS l)) [.str "cut", .str "tell", .str "drop"] = true := by cases l <;> decide +kernel
theorem in_tw (l : M.TW) : inV (.str (twS l)) [.str "turn", .str "keep", .str "lose"] = true := by cases l <;> decide +kernel
theorem scR : FnScope ["size", "sealed", "loose", "least"] ["size", "sealed", "loose", "least"] (defScope sRoad) := ⟨rfl, rfl, rfl, by decide +kernel, rfl, by decide +kernel, by decide +kernel⟩
theorem ok_road {f : Addr} {fd : FuncData} (F : Fun K "is_road" "is_road" sRoad f fd) (T : Wt K mg C) (W : Df P w K mg base 2 "is_within" ["value", "least", "greatest"] spWithin) : FnOk P w K mg base CX0 3 f fd ["size", "sealed", "loose", "least"] spRoad := by
  obtain ⟨fW, fdW, GW, gW, kW, bW⟩ := W.ex
  obtain ⟨t1, g1⟩ := T.gRoad
  obtain ⟨aS, g2, q2⟩ := T.wS
  obtain ⟨aL, g3, q3⟩ := T.wL
  refine F.ok scR (fun vs H Q E h => ?_) (fun cdv A outer s H vs Q E hr h => ?_)
  · obtain ⟨size, least, ts, lw, rfl, _⟩ := h
    rfl
  · obtain ⟨size, least, ts, lw, rfl, hs, hs2, k⟩ := h
    refine ⟨_, pss_one (ps_ret (pe_and (pe_call GW hr rfl gW kW bW .nil pass0 (pa_cons (pv 0) (pa_cons (pv 3) (pa_cons (pe_glob (v := .int 1000) rfl g1 ⟨_, rfl⟩) pa_nil)))) (pe_and (pe_cmpR op_in_seq (pv 1) (pe_glob (v := .ref aS) rfl g2 rfl) (by rfl)) (pe_one (pe_cmpR op_in_seq (pv 2) (pe_glob (v := .ref aL) rfl g3 rfl) (by rfl)))))), ?_⟩
    have e : decide (least ≤ (size : Int) ∧ (size : Int) ≤ 1000) = true := decide_eq_true (by omega)
    refine ⟨_, rfl, _, rfl, (size : Int), least, 1000, rfl, ?_⟩
    rw [e]
    refine ⟨_, rfl, ?_⟩
    refine iteT ⟨_, rfl, aS, _, rfl, .inr (q2 _), rfl, rfl, ?_⟩
    rw [in_sd]
    refine ⟨_, rfl, iteT ⟨_, rfl, aL, _, rfl, .inr (q3 _), rfl, rfl, ?_⟩⟩
    rw [in_lw]
    exact k
def spTells : Sp := fun vs H Q _ => ∃ tw : M.TW, vs = [.str (twS tw)] ∧ Q (.bl true) H
theorem scT : FnScope ["value"] ["value"] (defScope sTells) := ⟨rfl, rfl, rfl, by decide +kernel, rfl, by decide +kernel, by decide +kernel⟩
theorem ok_tells {f : Addr} {fd : FuncData} (F : Fun K "is_tells" "is_tells" sTells f fd) (T : Wt K mg C) : FnOk P w K mg base CX0 1 f fd ["value"] spTells := by
  obtain ⟨aT, g2, q2⟩ := T.wT
  refine F.ok scT (fun vs H Q E h => ?_) (fun cdv A outer s H vs Q E hr h => ?_)
  · obtain ⟨tw, rfl, _⟩ := h
    rfl
  · obtain ⟨tw, rfl, k⟩ := h
    refine ⟨_, pss_one (ps_ret (pe_cmpR op_in_seq (pv 0) (pe_glob (v := .ref aT) rfl g2 rfl) (by rfl))), ?_⟩
    refine ⟨_, rfl, aT, _, rfl, .inr (q2 _), rfl, rfl, ?_⟩
    rw [in_tw]
    exact k
/-- is_step_list, of a list or a tuple -/
def spList (K : PySem.W.Frag) : Sp := fun vs H Q _ => ∃ (l : Addr) (xs : List V), vs = [.ref l] ∧ (H l = some (.lst xs) ∨ H l = some (.tup xs)) ∧ 1 ≤ xs.length ∧ xs.length ≤ 12 ∧ ∀ H', Same H H' → Q (.bl true) H'
theorem scLi : FnScope ["value"] ["value"] (defScope sList) := ⟨rfl, rfl, rfl, by decide +kernel, rfl, by decide +kernel, by decide +kernel⟩
theorem ok_list {f : Addr} {fd : FuncData} (F : Fun K "is_step_list" "is_step_list" sList f fd) (B : Bn mg) (T : Wt K mg C) : FnOk P w K mg base CX0 1 f fd ["value"] (spList K) := by
  obtain ⟨t1, g1⟩ := T.gSteps
  refine F.ok scLi (fun vs H Q E h => ?_) (fun cdv A outer s H vs Q E hr h => ?_)
  · obtain ⟨l, xs, rfl, _⟩ := h
    rfl
  · obtain ⟨l, xs, rfl, hl, l1, l2, k⟩ := h
    refine ⟨_, pss_one (ps_ret (pe_and (pe_callB call_isiT (by rfl) B.isi (by decide +kernel) (pa_cons (pv 0) (pa_cons (pe_tup (pa_cons (pe_bltn (v := .ty "list") (by rfl) B.list (by decide +kernel) rfl) (pa_cons (pe_bltn (v := .ty "tuple") (by rfl) B.tuple (by decide +kernel) rfl) pa_nil))) pa_nil)))
      (pe_one (pe_chain op_le op_le pe_int (pe_callB call_len_seq (by rfl) B.len PySem.boot_len (pa_cons (pv 0) pa_nil)) (pe_glob (v := .int 12) rfl g1 ⟨_, rfl⟩))))), ?_⟩
    refine ⟨_, rfl, by show 2 ≤ sizeLine; decide, fun p np => ?_⟩
    have sp : Same H (upd H p (.tup [.ty "list", .ty "tuple"])) := Same.of_upd np
    have fin : ∀ (n : Int), n = (xs.length : Int) → ∀ Q' : VK, (∀ H', Same H H' → Q' (.bl true) H') → (∃ i j, V.int 1 = .int i ∧ V.int n = .int j ∧ ∃ k, V.bl (decide (i ≤ j)) = .bl k ∧ if k = true then ∃ i2 j2, V.int n = .int i2 ∧ V.int 12 = .int j2 ∧ Q' (.bl (decide (i2 ≤ j2))) (upd H p (.tup [.ty "list", .ty "tuple"])) else Q' (.bl false) (upd H p (.tup [.ty "list", .ty "tuple"]))) := by
      intro n hn Q' k'
      refine ⟨_, _, rfl, rfl, _, rfl, ?_⟩
      rw [decide_eq_true (by omega)]
      refine iteT ⟨_, _, rfl, rfl, ?_⟩
      rw [decide_eq_true (by omega)]
      exact k' _ sp
    have kl : PySem.W.kitAny K (.type "list") [.type "list", .type "tuple"] = some true := by
      unfold PySem.W.kitAny
      rw [kit_ty (r := true) (by decide +kernel)]
    have kt : PySem.W.kitAny K (.type "tuple") [.type "list", .type "tuple"] = some true := by
      unfold PySem.W.kitAny
      rw [kit_ty (r := false) (by decide +kernel)]
      unfold PySem.W.kitAny
      rw [kit_ty (r := true) (by decide +kernel)]
    rcases hl with hl | hl
    · exact ⟨_, p, _, _, _, _, rfl, upd_same, .cons (.ty _) (.cons (.ty _) .nil), .base (.lst (sp _ _ hl)), kl, _, rfl, iteT ⟨_, rfl, l, xs, rfl, .inl (SqL.of (sp _ _ hl)), fin _ rfl _ k⟩⟩
    · exact ⟨_, p, _, _, _, _, rfl, upd_same, .cons (.ty _) (.cons (.ty _) .nil), .base (.tup (sp _ _ hl)), kt, _, rfl, iteT ⟨_, rfl, l, xs, rfl, .inr (SqT.of (sp _ _ hl)), fin _ rfl _ k⟩⟩
/-- _is_step of a good step -/
def spStep (C : Addr) : Sp := fun vs H Q _ => ∃ (x : V) (h : Nat) (st : M.Step), vs = [x, .int (h : Int)] ∧ StepAt C H st x ∧ M.Step.fine h st ∧ Q (.bl true) H
theorem scSt : FnScope ["value", "head", "kind"] ["value", "head"] (defScope sStep) := ⟨rfl, rfl, rfl, by decide +kernel, rfl, by decide +kernel, by decide +kernel⟩
theorem kinds : ("road" : Str) ≠ "join" ∧ ("road" : Str) ≠ "tunnel" ∧ ("join" : Str) ≠ "tunnel" ∧ ("join" : Str) ≠ "road" ∧ ("tunnel" : Str) ≠ "road" ∧ ("tunnel" : Str) ≠ "join" := by decide +kernel
theorem ok_step {f : Addr} {fd : FuncData} (F : Fun K "_is_step" "_is_step" sStep f fd) (B : Bn mg) (T : Wt K mg C) (WR : Df P w K mg base 3 "is_road" ["size", "sealed", "loose", "least"] spRoad) (WM : Df P w K mg base 3 "is_most" ["value"] (spIn1 1 1000000000000)) (WT : Df P w K mg base 1 "is_tells" ["value"] spTells) :
    FnOk P w K mg base CX0 5 f fd ["value", "head"] (spStep C) := by
  obtain ⟨fR, fdR, GR, gR, kR, bR⟩ := WR.ex
  obtain ⟨fM, fdM, GM, gM, kM, bM⟩ := WM.ex
  obtain ⟨fT, fdT, GT, gT, kT, bT⟩ := WT.ex
  refine F.ok scSt (fun vs H Q E h => ?_) (fun cdv A outer s H vs Q E hr h => ?_)
  · obtain ⟨x, h, st, rfl, _⟩ := h
    rfl
  · obtain ⟨x, h, st, rfl, hx, hf, k⟩ := h
    refine ⟨_, pss_cons (ps_if (PW.pt (pw_or (pt_not (pt_val (pe_callB call_isi (by rfl) B.isi (by decide +kernel) (pa_cons (pv 0) (pa_cons (pe_bltn (v := .ty "tuple") (by rfl) B.tuple (by decide +kernel) rfl) pa_nil))))) (pw_or1 (pt_cmpR (op_eq) (pe_callB call_len_seq (by rfl) B.len PySem.boot_len (pa_cons (pv 0) pa_nil)) (pe_int) (nomark _))))) (pss_one (ps_ret pe_bl)) (pss_nil))
      (pss_cons (ps_set (i := 2) scSt.nd rfl (Or.inl rfl) (pe_ix ix_tup (pv 0) pe_int (fun _ _ => rfl)))
      (pss_cons (ps_if (pt_cmpR (op_eq) (pv 2) (pe_str) (nomark _)) (pss_one (ps_ret (pe_and (pe_cmpR (op_eq) (pe_callB call_len_seq (by rfl) B.len PySem.boot_len (pa_cons (pv 0) pa_nil)) (pe_int) (nomark _)) (pe_one (pe_call GR (hr.mono (by decide)) rfl gR kR bR .nil pass0 (pa_cons (pe_ix ix_tup (pv 0) pe_int (fun _ _ => rfl)) (pa_cons (pe_ix ix_tup (pv 0) pe_int (fun _ _ => rfl)) (pa_cons (pe_ix ix_tup (pv 0) pe_int (fun _ _ => rfl)) (pa_cons (pe_op op_add (pv 1) (pe_int)) pa_nil))))))))) (pss_nil))
      (pss_cons (ps_if (pt_cmpR (op_eq) (pv 2) (pe_str) (nomark _)) (pss_one (ps_ret (pe_and (pe_cmpR (op_eq) (pe_callB call_len_seq (by rfl) B.len PySem.boot_len (pa_cons (pv 0) pa_nil)) (pe_int) (nomark _)) (pe_one (pe_call GM (hr.mono (by decide)) rfl gM kM bM .nil pass0 (pa_cons (pe_ix ix_tup (pv 0) pe_int (fun _ _ => rfl)) pa_nil)))))) (pss_nil))
      (pss_cons (ps_if (pt_cmpR (op_eq) (pv 2) (pe_str) (nomark _)) (pss_one (ps_ret (pe_and (pe_cmpR (op_eq) (pe_callB call_len_seq (by rfl) B.len PySem.boot_len (pa_cons (pv 0) pa_nil)) (pe_int) (nomark _)) (pe_and (pe_callB call_isi (by rfl) B.isi (by decide +kernel) (pa_cons (pe_ix ix_tup (pv 0) pe_int (fun _ _ => rfl)) (pa_cons (pe_glob (v := .ref C) rfl T.g rfl) pa_nil))) (pe_and (pe_call GM (hr.mono (by decide)) rfl gM kM bM .nil pass0 (pa_cons (pe_ix ix_tup (pv 0) pe_int (fun _ _ => rfl)) pa_nil)) (pe_one (pe_call GT (hr.mono (by decide)) rfl gT kT bT .nil pass0 (pa_cons (pe_ix ix_tup (pv 0) pe_int (fun _ _ => rfl)) pa_nil)))))))) (pss_nil))
      (pss_one (ps_ret pe_bl)))))), ?_⟩
    have pre : ∀ (t : Addr) (y : V) (ys : List V), x = .ref t → H t = some (.tup (y :: ys)) → ∀ (D : Ends) (rest : TS), rest D [some x, some (.int (h : Int)), some y] H →
        tSeq (tIfS (tOr (tNot (tB (tCB (rIsi K) (tCons (tVar 0) (tCons (tC (.ty "tuple")) tNil))))) (tTest (tOp rEq (tCB (fun xs H Q => ∃ p ys, xs = [.ref p] ∧ (SqL K H p ys ∨ SqT K H p ys) ∧ Q (.int ys.length) H) (tCons (tVar 0) tNil)) (tC (.int 0))))) (tRet (tC (.bl false))) tNext)
          (tSeq (tAsg (tOp (rIxT K) (tVar 0) (tC (.int 0))) (gName 2)) rest) D [some x, some (.int (h : Int)), none] H := by
      intro t y ys ex ht D rest q
      subst ex
      refine ⟨_, rfl, _, _, _, _, _, rfl, .ty _, .base (.tup ht), kit_ty (r := true) (by decide +kernel), _, rfl, iteF ⟨_, rfl, t, _, rfl, .inr (SqT.of ht), rfl, _, rfl, ?_⟩⟩
      have e : decide (V.int ((y :: ys).length : Int) = V.int 0) = false := decide_eq_false (by
        intro z
        injection z with z
        simp at z
        omega)
      rw [e]
      exact iteF ⟨_, rfl, t, _, _, y, rfl, rfl, SqT.of ht, (by exact atI_nat (xs := y :: ys) (j := 0) rfl), q⟩
    have yes : ∀ {a : Str}, decide (V.str a = V.str a) = true := decide_eq_true rfl
    have no : ∀ {a b : Str}, a ≠ b → decide (V.str a = V.str b) = false := fun h => decide_eq_false fun z => h (V.str.inj z)
    cases st with
    | road size ts lw =>
      unfold StepAt at hx
      unfold M.Step.fine at hf
      obtain ⟨t, rfl, ht⟩ := hx
      refine pre t _ _ rfl ht _ _ ⟨_, rfl, rfl, _, rfl, ?_⟩
      rw [yes]
      exact iteT ⟨_, rfl, t, _, rfl, .inr (SqT.of ht), rfl, _, rfl, iteT ⟨_, rfl, t, _, _, _, rfl, rfl, SqT.of ht, (by exact atI_nat (xs := [V.str "road", .int (size : Int), .str (sdS ts), .str (lwS lw)]) (j := 1) rfl), _, rfl, t, _, _, _, rfl, rfl, SqT.of ht, (by exact atI_nat (xs := [V.str "road", .int (size : Int), .str (sdS ts), .str (lwS lw)]) (j := 2) rfl), _, rfl, t, _, _, _, rfl, rfl, SqT.of ht, (by exact atI_nat (xs := [V.str "road", .int (size : Int), .str (sdS ts), .str (lwS lw)]) (j := 3) rfl), _, rfl, _, _, rfl, rfl, size, (h : Int) + 1, ts, lw, rfl, by omega, hf.2, k⟩⟩
    | join most =>
      unfold StepAt at hx
      unfold M.Step.fine at hf
      obtain ⟨t, rfl, ht⟩ := hx
      refine pre t _ _ rfl ht _ _ ⟨_, rfl, rfl, _, rfl, ?_⟩
      rw [no kinds.2.2.2.1]
      refine iteF ⟨_, rfl, rfl, _, rfl, ?_⟩
      rw [yes]
      refine iteT ⟨_, rfl, t, _, rfl, .inr (SqT.of ht), rfl, _, rfl, iteT ⟨_, rfl, t, _, _, _, rfl, rfl, SqT.of ht, (by exact atI_nat (xs := [V.str "join", V.int (most : Int)]) (j := 1) rfl), most, rfl, ?_⟩⟩
      rw [decide_eq_true (by omega)]
      exact k
    | tunnel w most tw =>
      unfold StepAt at hx
      unfold M.Step.fine at hf
      obtain ⟨t, a, rfl, ht, hw⟩ := hx
      refine pre t _ _ rfl ht _ _ ⟨_, rfl, rfl, _, rfl, ?_⟩
      rw [no kinds.2.2.2.2.1]
      refine iteF ⟨_, rfl, rfl, _, rfl, ?_⟩
      rw [no kinds.2.2.2.2.2]
      refine iteF ⟨_, rfl, rfl, _, rfl, ?_⟩
      rw [yes]
      obtain ⟨wh, ws⟩ := w
      unfold WayAt at hw
      obtain ⟨dx, u, xs, h1, _, _⟩ := hw
      have kit : PySem.W.kitOne K (.ref C) (.ref C) = some true := by
        unfold PySem.W.kitOne
        rw [if_pos (by simp)]
      refine iteT ⟨_, rfl, t, _, rfl, .inr (SqT.of ht), rfl, _, rfl, iteT ⟨_, rfl, t, _, _, _, rfl, rfl, SqT.of ht, (by exact atI_nat (xs := [V.str "tunnel", .ref a, .int (most : Int), .str (twS tw)]) (j := 1) rfl), _, _, _, _, true, rfl, .own C, .base (.ins h1 T.cl T.iA T.iN T.iT T.iM), kit, _, rfl, iteT ⟨_, rfl, t, _, _, _, rfl, rfl, SqT.of ht, (by exact atI_nat (xs := [V.str "tunnel", .ref a, .int (most : Int), .str (twS tw)]) (j := 2) rfl), most, rfl, ?_⟩⟩⟩
      rw [decide_eq_true (by omega)]
      exact ⟨_, rfl, iteT ⟨_, rfl, t, _, _, _, rfl, rfl, SqT.of ht, (by exact atI_nat (xs := [V.str "tunnel", .ref a, .int (most : Int), .str (twS tw)]) (j := 3) rfl), tw, rfl, k⟩⟩
end
end WP

end
section
set_option autoImplicit false
set_option Elab.async false
set_option linter.all false
set_option maxRecDepth 100000
set_option maxHeartbeats 4000000
namespace WP
open PySem L2 G PyProof.Rows
/-! ### a tuple that is counted through -/
theorem en_new {v : Value} {o : Obj} {Hd : Heap → Prop} (B : Begins v o Hd) : Meets (Builtin.«enumerate.__new__» ⟨[.type "enumerate", v], []⟩) (fun _ R u => Hd u.heap ∧ R (.ok (.ret (.ref (u.heap.push o).objs.size))) { u with heap := (u.heap.push o).push { cls := .type "enumerate", data := .fields #[.none, .bool false, .ref u.heap.objs.size, rawInt 0, .none, .none] } }) :=
  .of_wp fun prog w A R u h => by
    obtain ⟨x, g, d, k, os⟩ := u
    obtain ⟨h1, h⟩ := h
    have sb := sub_enumerate
    have q1 : ∀ {A2 : Around} {E : Value → Shared → Prop} {Q : Value → Shared → Prop}, Q (.ref x.objs.size) ⟨x.push o, g, d, k, os⟩ → wpAny (model prog w) A2 (pyIter v) Q E ⟨x, g, d, k, os⟩ := fun q => B.iter prog w _ _ ⟨x, g, d, k, os⟩ _ h1 q
    wp_walk using q1
    refine wpAny_stack_any fun _ => wpAny_pure ?_
    split
    · rename_i c _ _ _ _ _
      cases (c == Value.type "enumerate") <;> (wp_walk using q1; exact ⟨_, rfl, h⟩)
    · (wp_walk using q1; exact ⟨_, rfl, h⟩)
theorem en_call {prog : Program} {w : World} {A : Around} {E : Value → Shared → Prop} {s : Shared} {v : Value} {o : Obj} {Hd : Heap → Prop} {Q : Value → Shared → Prop} (B : Begins v o Hd) (h1 : Hd s.heap)
    (h : ∀ u, IsEnum u (s.heap.objs.size + 1) s.heap.objs.size 0 .none → u.get? s.heap.objs.size = some o → (∀ b p, s.heap.get? b = some p → u.get? b = some p) → Q (.ref (s.heap.objs.size + 1)) { s with heap := u }) : wpAny (model prog w) A (call (.type "enumerate") [v]) Q E s := by
  refine callType_new F.called_enumerate (by decide) (F.typeCall_enumerate_1 _) (F.newCall_enumerate_1 _) (fun x => F.args_object_init_2 x _) F.entry_enumerate_new (en_new B) ⟨h1, ?_⟩
  have z : (s.heap.push o).objs.size = s.heap.objs.size + 1 := Heap.size_push ..
  show _ ∧ _
  rw [z]
  have he := Heap.get?_push_size (s.heap.push o) (o := { cls := .type "enumerate", data := .fields #[.none, .bool false, .ref s.heap.objs.size, rawInt 0, .none, .none] }) rfl
  rw [z] at he
  exact ⟨⟨_, he, rfl⟩, h _ he (Heap.get?_push_of_some _ (Heap.get?_push_size _ B.free)) fun b p e => Heap.get?_push_of_some _ (Heap.get?_push_of_some _ e)⟩
/-- the tuple at a, each item in a new pair behind its place -/
def Iet (K : PySem.W.Frag) (a : Addr) : It where
  go := fun i H => ∃ (xs : List V) (x : V), SqT K H a xs ∧ xs[i]? = some x
  yld := fun i H v H' => ∃ T x, v = .ref T ∧ H T = none ∧ H' = upd H T (.tup [.int (i : Nat), x]) ∧ ∀ xs, SqT K H a xs → xs[i]? = some x
  stop := fun i H => ∃ xs : List V, SqT K H a xs ∧ xs.length ≤ i
theorem turn_et {P : Program} {w : World} {K : PySem.W.Frag} {elts : List Expr} {kk : Nat} {tpos : Pos} (a e it : Addr) (hae : a ≠ e) (hai : a ≠ it) :
    Turn P w K (.Tuple elts kk tpos) (Iet K a) [e, it] e (fun i h => (∃ x, IsEnum h e it ((i : Nat) : Int) x) ∧ h.IsTupleIter it a i ∧ e ≠ it) where
  mem := List.mem_cons_self
  obj := fun i h st b hb => by
    obtain ⟨⟨x, he⟩, ⟨o, ho, hc, hd⟩, _⟩ := st
    rcases List.mem_cons.mp hb with z | z
    · subst z
      exact ⟨_, he, fun v q => nomatch q⟩
    · have z2 : b = it := by simpa using z
      subst z2
      exact ⟨o, ho, fun v q => by rw [hd] at q; cases q⟩
  keep := fun i h h' st k => by
    obtain ⟨⟨x, he⟩, hi, hn⟩ := st
    exact ⟨⟨x, k e (by simp) _ he⟩, hi.at fun o q => k it (by simp) o q, hn⟩
  item := by
    intro X hP hw hK hc i
    intro pins s σ H E I hf st hg
    subst hP hw hK
    obtain ⟨⟨_, he⟩, hit, hne⟩ := st
    obtain ⟨xs, x, hq, hx⟩ := hg
    obtain ⟨its, rv, p, lz⟩ := I.tuple hq
    obtain ⟨u, hu, ru⟩ := rv.get hx
    have hi : i < its.toArray.size := by
      have := List.getElem?_eq_some_iff.mp hu
      obtain ⟨z, _⟩ := this
      simpa using z
    have le : e < s.heap.objs.size := Heap.lt_size he
    have li : it < s.heap.objs.size := by
      obtain ⟨_, q, _⟩ := hit
      exact Heap.lt_size q
    have hef : e ∉ [it, a] := by
      intro z
      rcases List.mem_cons.mp z with z | z
      · exact hne z
      · have z2 : e = a := by simpa using z
        exact hae z2.symm
    refine wpAny_pyNext_enum_itemD (Draws.tuple (A := X.A.in1) (by exact I.ok.hd hc) it a hai its.toArray) he ⟨hit, show s.heap.IsTuple a its.toArray from p⟩ hi hne hef fun y h' tk hy ho hs hT hsz hk => ?_
    have ey : y = u := by
      have q : its.toArray[i]? = some u := by simpa using hu
      rw [q] at hy
      exact (Option.some.inj hy).symm
    subst ey
    refine ⟨_, rfl, wpAny_letOwnedTupleGo_enum (s := { s with heap := h', toks := tk + 1 }) ho fun h2 he2 sb => ?_⟩
    have hT2 : h2.get? s.heap.objs.size = some { cls := .type "tuple", data := .seq #[.int i tk, y] } := (sb.2 _ (Nat.ne_of_gt le)).trans hT
    have new : ObjOk X.prog X.w (upd H s.heap.objs.size (.tup [.int (i : Nat), x])) h2 s.heap.objs.size (.tup [.int (i : Nat), x]) :=
      ⟨by show 2 ≤ sizeLine; decide, [.int i tk, y], .cons ⟨_, rfl⟩ (.cons ru .nil), ⟨_, hT2, rfl, _, rfl⟩⟩
    have keep : ∀ b ob, b ∉ [e, it] → s.heap.get? b = some ob → h2.get? b = some ob := fun b ob hb q => (sb.2 b (fun z => hb (by simp [z]))).trans (hk b ob (fun z => hb (by simp [z])) (fun z => hb (by simp [z])) q)
    have I1 : Inv X pins σ (upd H s.heap.objs.size (.tup [.int (i : Nat), x])) { s with heap := h2, toks := tk + 1 } := I.turnedNew (ch := [e, it]) keep hf (Nat.le_refl _) new
    refine ⟨.ref s.heap.objs.size, _, I1, rfl, ⟨_, x, rfl, I.hok.fresh (Nat.le_refl _), rfl, fun ys hy => by rw [I.tuple_inj hy hq]; exact hx⟩, ⟨⟨y, ?_⟩, hs.1.at fun o q => (sb.2 it (Ne.symm hne)).trans q, hne⟩, fun b hb => ?_⟩
    · rw [show ((i + 1 : Nat) : Int) = (i : Int) + 1 by omega]
      exact he2
    · have lb : b < s.heap.objs.size := by
        rcases List.mem_cons.mp hb with z | z
        · rw [z]; exact le
        · rw [show b = it by simpa using z]; exact li
      rw [upd_ne (Nat.ne_of_lt lb)]
      exact (hf b hb).1
  done := by
    intro X hP hw hK hc i
    intro pins s σ H E I hf st hg
    subst hP hw hK
    obtain ⟨⟨_, he⟩, hit, hne⟩ := st
    obtain ⟨xs, hq, hx⟩ := hg
    obtain ⟨its, rv, p, lz⟩ := I.tuple hq
    have ⟨f0, f1, f2, f3, f4, f5⟩ := hf it (List.mem_cons_of_mem _ List.mem_cons_self)
    have hl := rv.length
    have hTe : s.TypeIs (.ref e) "enumerate" := ⟨_, he, rfl⟩
    unfold pyNext
    refine wpAny_bind (wpAny_attempt (wpAny_callSpecial?_slot (name := Str.ofString "__next__") hTe F.slot_enumerate_next (wpAny_call_entry F.slot_enumerate_next hTe F.entry_enumerate_next ?_ (F.args_enumerate_next_1 _))))
    refine (show wpAny _ _ (field (.ref e) 2 >>= _) _ _ _ from ?_)
    refine wpAny_bind (wpAny_field he rfl (x := .ref it) rfl (wpAny_bind (wpAny_nextOf_tuple_end (I.ok.hd hc) hit (show s.heap.IsTuple a its.toArray from p) (by simp; omega) fun h' x hx1 hx2 => ?_)))
    obtain ⟨o, ho, hc2⟩ := hx2
    exact wpAny_bind (wpAny_isInstance (T := "StopIteration") (b := true) ⟨o, ho, hc2⟩ isSubtype_stop (wpAny_pure ⟨rfl, I.turned (t' := s.toks) (fun b o hb q => hx1 b o hb q) f0 f1 f3 f4 f5⟩))
  self := fun _ _ s Q E st h => by
    obtain ⟨⟨x, he⟩, _⟩ := st
    exact wpAny_pyIter_enum he h
def iEnT (K : PySem.W.Frag) (ta : TA) : TI := fun σ H R => ta σ H fun vs H1 => ∃ a xs, vs = [.ref a] ∧ SqT K H1 a xs ∧ R (Iet K a) H1
theorem pi_et {X : Cx} {e : Expr} {ta : TA} {p pos tpos : Pos} {elts : List Expr} {kk : Nat} (hg : Gl X "enumerate") (hm : X.mg "enumerate" = none) (ha : PA X [e] ta) (hs : starEach [e] X.env = [(false, eval e X.env)] := by rfl) : PI X (.Tuple elts kk tpos) (.Call (.Name "enumerate" p) [e] [] pos) (iEnT X.K ta) := by
  constructor
  intro pins s σ H R I h
  refine Call_ (ld_blt I hg hm boot_enumerate (PyProof.Rows.callWith_type1 (thn (ha.run pos pins s σ H _ I h) fun us s1 ⟨vs, H1, I1, r1, a, xs, ex, hq, q⟩ => ?_) hs rfl))
  subst ex
  cases r1 with
  | cons r rr =>
    cases rr
    cases r
    obtain ⟨its, rv, p', hz⟩ := I1.tuple hq
    have p2 : s1.heap.IsTuple a its.toArray := p'
    have la : a < s1.heap.objs.size := by
      obtain ⟨_, q, _⟩ := p2
      exact Heap.lt_size q
    refine en_call (begins_tuple a its.toArray) p2 fun u he hit hk => wpAny_pyIter_enum he ?_
    have I2 : Inv X pins σ H1 { s1 with heap := u } := I1.kept (t' := s1.toks) hk
    refine ⟨_, [s1.heap.objs.size + 1, s1.heap.objs.size], _, _, H1, rfl, I2, turn_et a (s1.heap.objs.size + 1) s1.heap.objs.size (Nat.ne_of_lt (Nat.lt_succ_of_lt la)) (Nat.ne_of_lt la), ⟨⟨.none, he⟩, ⟨_, hit, rfl, rfl⟩, Nat.succ_ne_self _⟩, fun b hb => ?_, q⟩
    have sb : s1.heap.objs.size ≤ b := by
      rcases List.mem_cons.mp hb with z | z
      · rw [z]; exact Nat.le_add_right _ _
      · rw [show b = s1.heap.objs.size by simpa using z]
        exact Nat.le_refl _
    exact I1.fpOk sb (I1.hok.fresh sb)
theorem walk_et {K : PySem.W.Frag} {a : Addr} {xs : List V} : Walk (Iet K a) xs.length (fun H => SqT K H a xs) (YPair (fun i => some (.int (i : Nat))) (fun i => xs[i]?)) where
  goes := fun i _ hi q => ⟨xs, xs[i], q, by simp [hi]⟩
  stops := fun _ q => ⟨xs, q, Nat.le_refl _⟩
  yields := fun i H v H' _ q y => by
    obtain ⟨T, x, h1, h2, h3, h4⟩ := y
    exact ⟨T, _, x, h1, h2, h3, rfl, h4 xs q⟩
end WP

end
section
set_option autoImplicit false
set_option Elab.async false
set_option linter.all false
set_option maxRecDepth 100000
set_option maxHeartbeats 4000000
/-! ## Way.__init__ for good rows: the pieces -/
namespace M
def tuns : List Step → List Way
  | [] => []
  | .tunnel w _ _ :: r => w :: tuns r
  | .road _ _ _ :: r => tuns r
  | .join _ :: r => tuns r
theorem tuns_app : ∀ (l m : List Step), tuns (l ++ m) = tuns l ++ tuns m
  | [], m => rfl
  | .tunnel w a b :: r, m => by
    show w :: tuns (r ++ m) = w :: tuns r ++ tuns m
    rw [tuns_app r m]; rfl
  | .road a b c :: r, m => tuns_app r m
  | .join a :: r, m => tuns_app r m
theorem tuns_len : ∀ l : List Step, (tuns l).length ≤ l.length
  | [] => Nat.le_refl _
  | .tunnel w a b :: r => by
    show (tuns r).length + 1 ≤ r.length + 1
    exact Nat.succ_le_succ (tuns_len r)
  | .road a b c :: r => Nat.le_succ_of_le (tuns_len r)
  | .join a :: r => Nat.le_succ_of_le (tuns_len r)
theorem inner_eq : ∀ st : List Step, Step.inner st = ((tuns st).map Way.size).sum
  | [] => by simp [Step.inner, tuns]
  | .tunnel w a b :: r => by
    unfold Step.inner tuns
    rw [inner_eq r, List.map_cons, List.sum_cons]
  | .road a b c :: r => by
    unfold Step.inner tuns
    exact inner_eq r
  | .join a :: r => by
    unfold Step.inner tuns
    exact inner_eq r
theorem deepest_eq : ∀ st : List Step, Step.deepest st = (tuns st).foldr (fun w d => max w.depth d) 0
  | [] => by simp [Step.deepest, tuns]
  | .tunnel w a b :: r => by
    unfold Step.deepest tuns
    rw [deepest_eq r, List.foldr_cons]
  | .road a b c :: r => by
    unfold Step.deepest tuns
    exact deepest_eq r
  | .join a :: r => by
    unfold Step.deepest tuns
    exact deepest_eq r
theorem fold_max : ∀ (l : List Int) (a b : Int), (l.foldl max (max a b)) = max a (l.foldl max b)
  | [], a, b => rfl
  | c :: r, a, b => by
    show r.foldl max (max (max a b) c) = max a (r.foldl max (max b c))
    rw [Int.max_assoc, fold_max r a (max b c)]
theorem deep_max (ws : List Way) : (match ws.map fun w => ((w.depth : Nat) : Int) with | [] => (0 : Int) | n :: r => r.foldl max n) = ((ws.foldr (fun w d => max w.depth d) 0 : Nat) : Int) := by
  induction ws with
  | nil => rfl
  | cons w r ih =>
    show ((r.map fun w => ((w.depth : Nat) : Int)).foldl max ((w.depth : Nat) : Int)) = _
    cases r with
    | nil => show ((w.depth : Nat) : Int) = ((max w.depth 0 : Nat) : Int); rw [Nat.max_zero]
    | cons v q =>
      show ((q.map fun w => ((w.depth : Nat) : Int)).foldl max (max ((w.depth : Nat) : Int) ((v.depth : Nat) : Int))) = _
      rw [fold_max]
      have e : ((q.map fun w => ((w.depth : Nat) : Int)).foldl max ((v.depth : Nat) : Int)) = (((v :: q).foldr (fun w d => max w.depth d) 0 : Nat) : Int) := ih
      rw [e]
      show _ = ((max w.depth ((v :: q).foldr (fun w d => max w.depth d) 0) : Nat) : Int)
      omega
theorem sum_cast (ws : List Way) : (ws.map fun w => ((w.size : Nat) : Int)).sum = (((ws.map Way.size).sum : Nat) : Int) := by
  induction ws with
  | nil => rfl
  | cons w r ih => rw [List.map_cons, List.sum_cons, ih, List.map_cons, List.sum_cons]; omega
end M
namespace WP
open PySem L2 G
section
variable {X : Cx} {tg it : Expr}
theorem pi_or {w1 w2 : TI} (h1 : PI X tg it w1) (h2 : PI X tg it w2) : PI X tg it (fun σ H R => w1 σ H R ∨ w2 σ H R) := ⟨fun pins s σ H R I h => h.elim (h1.run pins s σ H R I) (h2.run pins s σ H R I)⟩
def tDead : TS := fun _ _ _ => False
theorem ps_dead {b : List Stmt} : PSs X b tDead := ⟨fun _ _ _ _ _ _ h => h.elim⟩
end
def SAt (H : Hp) (l : Addr) (xs : List V) : Prop := H l = some (.lst xs) ∨ H l = some (.tup xs)
theorem SAt.mono {H H' : Hp} {l : Addr} {xs : List V} (s : Same H H') (h : SAt H l xs) : SAt H' l xs := h.elim (fun e => .inl (s _ _ e)) fun e => .inr (s _ _ e)
section
variable {K : PySem.W.Frag} {H : Hp} {σ : St} {l : Addr} {xs : List V}
theorem or_seq {te : TE} {R : It → Hp → Prop} (ht : ∀ Q : VK, Q (.ref l) H → te σ H Q) (hl : SAt H l xs) (k : ∀ (J : It) (Gd : Hp → Prop), (∀ H', Same H H' → Gd H') → Walk J xs.length Gd (YAt xs) → R J H) : iList K te σ H R ∨ iTup K te σ H R :=
  hl.elim (fun e => .inl (ht _ ⟨l, rfl, ⟨xs, SqL.of e⟩, k _ _ (fun H' s => SqL.of (s _ _ e)) walk_list⟩)) fun e => .inr (ht _ ⟨l, rfl, ⟨xs, SqT.of e⟩, k _ _ (fun H' s => SqT.of (s _ _ e)) walk_tup⟩)
theorem or_enum {ta : TA} {R : It → Hp → Prop} (ht : ∀ Q : List V → Hp → Prop, Q [.ref l] H → ta σ H Q) (hl : SAt H l xs) (k : ∀ (J : It) (Gd : Hp → Prop), (∀ H', Same H H' → Gd H') → Walk J xs.length Gd (YPair (fun i => some (.int (i : Nat))) (fun i => xs[i]?)) → R J H) : iEnum K ta σ H R ∨ iEnT K ta σ H R :=
  hl.elim (fun e => .inl (ht _ ⟨l, xs, rfl, SqL.of e, k _ _ (fun H' s => SqL.of (s _ _ e)) walk_enum⟩)) fun e => .inr (ht _ ⟨l, xs, rfl, SqT.of e, k _ _ (fun H' s => SqT.of (s _ _ e)) walk_et⟩)
end
/-- ways at addresses -/
inductive WaysAt (C : Addr) (H : Hp) : List M.Way → List V → Prop
  | nil : WaysAt C H [] []
  | cons {w : M.Way} {a : Addr} {ws : List M.Way} {vs : List V} (h : WayAt C H w a) (t : WaysAt C H ws vs) : WaysAt C H (w :: ws) (.ref a :: vs)
theorem WaysAt.mono {C : Addr} {H H' : Hp} (s : Same H H') {ws : List M.Way} {vs : List V} (h : WaysAt C H ws vs) : WaysAt C H' ws vs := by
  induction h with
  | nil => exact .nil
  | cons h _ ih => exact .cons (h.mono s) ih
theorem WaysAt.snoc {C : Addr} {H : Hp} {ws : List M.Way} {vs : List V} {w : M.Way} {a : Addr} (h : WaysAt C H ws vs) (hw : WayAt C H w a) : WaysAt C H (ws ++ [w]) (vs ++ [.ref a]) := by
  induction h with
  | nil => exact .cons hw .nil
  | cons h _ ih => exact .cons h ih
theorem WaysAt.len {C : Addr} {H : Hp} {ws : List M.Way} {vs : List V} (h : WaysAt C H ws vs) : vs.length = ws.length := by
  induction h with
  | nil => rfl
  | cons _ _ ih => simp [ih]
theorem WaysAt.get {C : Addr} {H : Hp} {ws : List M.Way} {vs : List V} (h : WaysAt C H ws vs) : ∀ {i : Nat} {v : V}, vs[i]? = some v → ∃ w a, ws[i]? = some w ∧ v = .ref a ∧ WayAt C H w a := by
  induction h with
  | nil => intro i v e; cases e
  | cons h t ih =>
    intro i v e
    cases i with
    | zero => cases e; exact ⟨_, _, rfl, rfl, h⟩
    | succ i => obtain ⟨w, a, e1, e2, e3⟩ := ih (i := i) e; exact ⟨w, a, e1, e2, e3⟩
end WP

end
section
set_option autoImplicit false
set_option Elab.async false
set_option linter.all false
set_option maxRecDepth 100000
set_option maxHeartbeats 4000000
/-! ## Way.__init__ for good rows -/
namespace WP
open PySem L2 G
section
variable {P : Program} {w : World} {K : PySem.W.Frag} {mg : Str → Option Value} {base : Heap} {C : Addr}
abbrev NI : List Str := ["self", "head", "steps", "position", "step", "inner_ways", "depth", "size", "inner"]
theorem scI : FnScope NI ["self", "head", "steps"] (defScope sInit) := ⟨rfl, rfl, rfl, by decide +kernel, rfl, by decide +kernel, by decide +kernel⟩
/-- the ways of the tunnels -/
def tTuns (K : PySem.W.Frag) : TE := tLc (fun σ H R => iList K (tVar 2) σ H R ∨ iTup K (tVar 2) σ H R) (gName 4) (tTest (tOp rEq (tOp (rIxT K) (tVar 4) (tC (.int 0))) (tC (.str "tunnel")))) (tOp (rIxT K) (tVar 4) (tC (.int 1))) [4]
theorem add_upd {H G : Hp} {D : Addr} {o : HO} (nD : H D = none) (s : Same H G) : Same H (upd G D o) := fun b u e => by
  rw [upd_ne (ne_of_none e nD)]
  exact s _ _ e
theorem take_snoc {α : Type} {l : List α} {i : Nat} {x : α} (h : l[i]? = some x) : l.take (i + 1) = l.take i ++ [x] := by
  rw [List.take_succ, h]
  rfl
theorem tuns_run {σ : St} {H : Hp} {a0 a1 p q a5 a6 a7 a8 : Option V} {l : Addr} {xs : List V} {st : List M.Step} {Q : VK} (hσ : σ = [a0, a1, some (.ref l), p, q, a5, a6, a7, a8]) (hl : SAt H l xs) (hs : StepsAt C H st xs) (hn : xs.length ≤ 1000)
    (k : ∀ D vs H', Same H H' → H' D = some (.lst vs) → WaysAt C H (M.tuns st) vs → Q (.ref D) H') : tTuns K σ H Q := by
  subst hσ
  have yes : ∀ {a : Str}, decide (V.str a = V.str a) = true := decide_eq_true rfl
  have no : ∀ {a b : Str}, a ≠ b → decide (V.str a = V.str b) = false := fun h => decide_eq_false fun z => h (V.str.inj z)
  refine or_seq (fun Q h => ⟨_, rfl, h⟩) hl fun J Gd hG wk D nD => ?_
  refine lc_it wk (fun i G => Same H G ∧ ∃ acc, acc.length ≤ i ∧ G D = some (.lst acc) ∧ WaysAt C H (M.tuns (st.take i)) acc) ⟨Same.of_upd nD, [], Nat.le_refl _, upd_same, .nil⟩ (fun i G _ p => hG G p.1) ?_ ?_
  · rintro i v G G' hi ⟨s, acc, hA, hD, hw⟩ ⟨rfl, hx⟩
    obtain ⟨sp, hsp, hst⟩ := hs.get hx
    have et := take_snoc hsp
    have la : acc.length < sizeLine := Nat.lt_of_lt_of_le (Nat.lt_of_le_of_lt hA hi) (Nat.le_trans hn (by decide))
    have z1 : ∀ {y0 : V} {ys : List V}, atI (y0 :: ys) (0 : Int) = some y0 := fun {y0 ys} => by exact atI_nat (xs := y0 :: ys) (j := 0) rfl
    refine ⟨rfl, ?_⟩
    have hst2 := hst
    cases sp with
    | road size ts lw =>
      unfold StepAt at hst
      obtain ⟨t, rfl, ht⟩ := hst
      refine ⟨_, rfl, t, _, _, _, rfl, rfl, SqT.of (s _ _ ht), z1, rfl, _, rfl, ?_⟩
      rw [no kinds.2.1]
      refine iteF ⟨s, acc, Nat.le_succ_of_le hA, hD, ?_⟩
      rw [et, M.tuns_app]
      exact (List.append_nil _).symm ▸ hw
    | join most =>
      unfold StepAt at hst
      obtain ⟨t, rfl, ht⟩ := hst
      refine ⟨_, rfl, t, _, _, _, rfl, rfl, SqT.of (s _ _ ht), z1, rfl, _, rfl, ?_⟩
      rw [no kinds.2.2.1]
      refine iteF ⟨s, acc, Nat.le_succ_of_le hA, hD, ?_⟩
      rw [et, M.tuns_app]
      exact (List.append_nil _).symm ▸ hw
    | tunnel wy most tw =>
      unfold StepAt at hst
      obtain ⟨t, a, rfl, ht, hway⟩ := hst
      refine ⟨_, rfl, t, _, _, _, rfl, rfl, SqT.of (s _ _ ht), z1, rfl, _, rfl, ?_⟩
      rw [yes]
      refine iteT ⟨_, rfl, t, _, _, _, rfl, rfl, SqT.of (s _ _ ht), (by exact atI_nat (xs := [V.str "tunnel", V.ref a, V.int (most : Int), V.str (twS tw)]) (j := 1) rfl), acc, hD, la, add_upd nD s, _, by simp; exact hA, upd_same, ?_⟩
      rw [et, M.tuns_app]
      exact hw.snoc hway
  · rintro G ⟨s, acc, hA, hD, hw⟩
    have e : st.take xs.length = st := by rw [hs.len]; exact List.take_length
    rw [e] at hw
    exact k D acc G s hD hw
/-- a field of each of the ways, ints -/
def tFlds (K : PySem.W.Frag) (f : Str) : TE := tLc (iList K (tVar 5)) (gName 8) tYes (tFld K (tVar 8) f) [8]
theorem flds_run {f : Str} {g : M.Way → Int} {σ : St} {H : Hp} {a0 a1 a2 p q a6 a7 a8 : Option V} {D0 : Addr} {vs : List V} {ws : List M.Way} {Q : VK} (T : Wt K mg C) (nf : NoAttr K C f) (hg : ∀ H wy a, WayAt C H wy a → ∃ dx fs, H a = some (.ins C dx fs) ∧ fs.lookup f = some (.int (g wy)))
    (hσ : σ = [a0, a1, a2, p, q, some (.ref D0), a6, a7, a8]) (hl : H D0 = some (.lst vs)) (hw : WaysAt C H ws vs) (hn : vs.length ≤ 1000) (k : ∀ D H', Same H H' → H' D = some (.lst ((ws.map g).map V.int)) → Q (.ref D) H') : tFlds K f σ H Q := by
  subst hσ
  refine ⟨_, rfl, D0, rfl, ⟨vs, SqL.of hl⟩, fun D nD => ?_⟩
  refine lc_it walk_list (fun i G => Same H G ∧ G D = some (.lst ((((ws.take i).map g)).map V.int))) ⟨Same.of_upd nD, upd_same⟩ (fun i G _ p => SqL.of (p.1 _ _ hl)) ?_ ?_
  · rintro i v G G' hi ⟨s, hD⟩ ⟨rfl, hx⟩
    obtain ⟨wy, a, hwi, rfl, hat⟩ := hw.get hx
    obtain ⟨dx, fs, h1, h2⟩ := hg H wy a hat
    refine ⟨rfl, _, rfl, a, C, dx, fs, _, rfl, s _ _ h1, T.cl, nf, h2, _, hD, ?_, add_upd nD s, ?_⟩
    · rw [List.length_map, List.length_map, List.length_take]
      exact Nat.lt_of_le_of_lt (Nat.le_trans (Nat.min_le_left _ _) (Nat.le_of_lt (Nat.lt_of_lt_of_le hi hn))) (by decide)
    · rw [take_snoc hwi, List.map_append, List.map_append, upd_same]
      rfl
  · rintro G ⟨s, hD⟩
    have e : ws.take vs.length = ws := by rw [hw.len]; exact List.take_length
    rw [e] at hD
    exact k D G s hD
theorem depth_fld (H : Hp) (wy : M.Way) (a : Addr) (h : WayAt C H wy a) : ∃ dx fs, H a = some (.ins C dx fs) ∧ fs.lookup ("depth" : Str) = some (.int ((wy.depth : Nat) : Int)) := by
  obtain ⟨wh, ws⟩ := wy
  unfold WayAt at h
  obtain ⟨dx, t, xs, h1, _, _⟩ := h
  refine ⟨dx, _, h1, ?_⟩
  rw [flds_depth]
  unfold M.Way.depth
  rfl
theorem size_fld (H : Hp) (wy : M.Way) (a : Addr) (h : WayAt C H wy a) : ∃ dx fs, H a = some (.ins C dx fs) ∧ fs.lookup ("size" : Str) = some (.int ((wy.size : Nat) : Int)) := by
  obtain ⟨wh, ws⟩ := wy
  unfold WayAt at h
  obtain ⟨dx, t, xs, h1, _, _⟩ := h
  refine ⟨dx, _, h1, ?_⟩
  rw [flds_size]
  unfold M.Way.size
  rfl
end
end WP

end
section
set_option autoImplicit false
set_option Elab.async false
set_option linter.all false
set_option maxRecDepth 100000
set_option maxHeartbeats 4000000
/-! ## Way.__init__ for good rows: the def -/
namespace WP
open PySem L2 G
theorem set_then {te : TE} {i : Nat} {t2 : TS} {D : Ends} {σ : St} {H : Hp} (h : te σ H fun v H1 => t2 D (σ.set i (some v)) H1) : tSeq (tAsg te (gName i)) t2 D σ H := h
theorem add_of {tb : TE} {i : Int} {σ : St} {H : Hp} {Q : VK} (h : tb σ H fun y H2 => ∃ a b, V.int i = .int a ∧ y = .int b ∧ Q (.int (a + b)) H2) : tOp (rI0 fun i j => .int (i + j)) (tC (.int i)) tb σ H Q := h
theorem maxID_at {K : PySem.W.Frag} {H : Hp} {Q : VK} {a : Addr} {ns : List Int} {n : Int} (e : (match ns with | [] => (0 : Int) | n :: r => r.foldl max n) = n) (hq : SqL K H a (ns.map V.int)) (q : Q (.int n) H) : G.rMaxID K [.ref a] [.int 0] H Q := by
  subst e
  refine ⟨a, ns, 0, rfl, rfl, hq, ?_⟩
  cases ns <;> exact q
theorem maxD_of {K : PySem.W.Frag} {tl : TE} {σ : St} {H : Hp} {Q : VK} (h : tl σ H fun x H1 => G.rMaxID K [x] [.int 0] H1 Q) : tCKw (G.rMaxID K) (tCons tl tNil) (tCons (tC (.int 0)) tNil) σ H Q := h
theorem sum_of {K : PySem.W.Frag} {tl : TE} {σ : St} {H : Hp} {Q : VK} (h : tl σ H fun x H1 => rSum K [x] H1 Q) : tCB (rSum K) (tCons tl tNil) σ H Q := h
theorem len_add {K : PySem.W.Frag} {tl : TE} {σ : St} {H : Hp} {Q : VK} {l : Addr} {xs : List V} (hσ : σ[2]? = some (some (.ref l))) (hl : SAt H l xs) (h : tl σ H fun x H1 => rSum K [x] H1 fun y H2 => ∃ a b, V.int (xs.length : Int) = .int a ∧ y = .int b ∧ Q (.int (a + b)) H2) :
    tOp (rI0 fun i j => .int (i + j)) (tCB (fun zs H Q => ∃ p ys, zs = [.ref p] ∧ (SqL K H p ys ∨ SqT K H p ys) ∧ Q (.int ys.length) H) (tCons (tVar 2) tNil)) (tCB (rSum K) (tCons tl tNil)) σ H Q :=
  ⟨_, hσ, l, xs, rfl, hl.elim (fun e => .inl (SqL.of e)) (fun e => .inr (SqT.of e)), h⟩
theorem tup_or {K : PySem.W.Frag} {H : Hp} {l : Addr} {xs : List V} {Q : VK} (hl : SAt H l xs) (k : ∀ t G, Same H G → G t = some (.tup xs) → Q (.ref t) G) : (SqL K H l xs ∧ ∀ q, H q = none → Q (.ref q) (upd H q (.tup xs))) ∨ (SqT K H l xs ∧ Q (.ref l) H) :=
  hl.elim (fun e => .inl ⟨SqL.of e, fun q hq => k _ _ (Same.of_upd hq) upd_same⟩) fun e => .inr ⟨SqT.of e, k _ _ (Same.refl _) e⟩
theorem len_put {f : Str} {v : V} {fs : List (Str × V)} {n : Nat} (h : fs.length < n) : (putF f v fs).length < n + 1 := by
  exact Nat.lt_of_le_of_lt (length_putF f v fs) (Nat.succ_lt_succ h)
section
variable {P : Program} {w : World} {K : PySem.W.Frag} {mg : Str → Option Value} {base : Heap} {C : Addr}
/-- at a new instance x: steps of a list or a tuple, as they stood before it was made -/
def spInit (C : Addr) : Sp := fun vs H Q _ => ∃ (x l dx : Addr) (h : Nat) (xs : List V) (st : List M.Step) (H0 : Hp), vs = [.ref x, .int (h : Int), .ref l] ∧ H x = some (.ins C dx []) ∧ H0 x = none ∧ Same H0 H ∧ SAt H0 l xs ∧ StepsAt C H0 st xs ∧ M.Way.fine (.mk h st) ∧
  ∀ H', Same H0 H' → WayAt C H' (.mk h st) x → Q .non H'
theorem ok_init {f : Addr} {fd : FuncData} (F : Fun K "__init__" "Way.__init__" sInit f fd) (B : Bn mg) (T : Wt K mg C) (W : Df P w K mg base 3 "is_head" ["value"] (spIn1 1 40)) (WL : Df P w K mg base 1 "is_step_list" ["value"] (spList K)) (WS : Df P w K mg base 5 "_is_step" ["value", "head"] (spStep C)) :
    FnOk P w K mg base CX0 6 f fd ["self", "head", "steps"] (spInit C) := by
  obtain ⟨fW, fdW, GW, gW, kW, bW⟩ := W.ex
  obtain ⟨fL, fdL, GL, gL, kL, bL⟩ := WL.ex
  obtain ⟨fS, fdS, GS, gS, kS, bS⟩ := WS.ex
  obtain ⟨t2, g2⟩ := T.gDepth
  obtain ⟨t3, g3⟩ := T.gSize
  refine F.ok scI (fun vs H Q E h => ?_) (fun cdv A outer s H vs Q E hr h => ?_)
  · obtain ⟨x, l, dx, h, xs, st, H0, rfl, _⟩ := h
    rfl
  · obtain ⟨x, l, dx, h, xs, st, H0, rfl, hx, hx0, s0, hl, hs, hf, k⟩ := h
    have r1 := hr.mono (by decide : 1 ≤ 5)
    have r0 := hr.mono (by decide : 3 ≤ 5)
    refine ⟨_, pss_cons (ps_if (pt_not (pt_val (pe_call GW r0 rfl gW kW bW .nil pass0 (pa_cons (pv 1) pa_nil)))) ps_dead pss_nil)
      (pss_cons (ps_if (pt_not (pt_val (pe_call GL r1 rfl gL kL bL .nil pass0 (pa_cons (pv 2) pa_nil)))) ps_dead pss_nil)
      (pss_cons (ps_for PassesOwn.never rfl (pi_or (pi_enum (by rfl) B.enum (pa_cons (pv 2) pa_nil)) (pi_et (by rfl) B.enum (pa_cons (pv 2) pa_nil))) (pg_tup (by rfl) (pgs_cons (pg_name (i := 3) scI.nd rfl (Or.inl rfl)) (pgs_cons (pg_name (i := 4) scI.nd rfl (Or.inl rfl)) pgs_nil)))
        (pss_one (ps_if (pt_not (pt_val (pe_call GS hr rfl gS kS bS .nil pass0 (pa_cons (pv 4) (pa_cons (pv 1) pa_nil))))) ps_dead pss_nil)))
      (pss_cons (ps_setLc (i := 5) (own := [("step", 4)]) (g := gName 4) (tt := tTest (tOp rEq (tOp (rIxT K) (tVar 4) (tC (.int 0))) (tC (.str "tunnel")))) (te := tOp (rIxT K) (tVar 4) (tC (.int 1))) rfl scI.nd rfl rfl (sw_true rfl rfl rfl (by decide +kernel)) (pi_or (pi_list (pv 2)) (pi_tup (pv 2))) (blkOk_by (N := NI) (sc := defScope sInit) (by decide +kernel))
          (fun _ _ _ _ _ => pg_name (i := 4) scI.nd rfl (Or.inl rfl)) (fun _ _ _ _ _ => pts_one (by exact pt_cmpR op_eq (pe_ix ix_tup (pv 4) pe_int (fun _ _ => rfl)) pe_str (nomark _))) (fun _ _ _ _ _ => by exact pe_ix ix_tup (pv 4) pe_int (fun _ _ => rfl)))
      (pss_cons (ps_set (i := 6) scI.nd rfl (Or.inl rfl) (pe_op op_add pe_int (pe_callBK (G.call_maxID rfl hr.units) (by rfl) B.max (by decide +kernel) (pa_cons (pe_lc (own := [("inner", 8)]) (g := gName 8) (tt := tYes) (te := tFld K (tVar 8) "depth") rfl scI.nd (pi_list (pv 5)) (blkOk_by (N := NI) (sc := defScope sInit) (by decide +kernel))
          (fun _ _ _ _ _ => pg_name (i := 8) scI.nd rfl (Or.inl rfl)) (fun _ _ _ _ _ => pts_nil) (fun _ _ _ _ _ => by exact pe_fld (pv 8) rfl)) pa_nil) (pk_cons pe_int pk_nil))))
      (pss_cons (ps_if (pt_cmpR op_gt (pv 6) (pe_glob (v := .int 3) rfl g2 ⟨_, rfl⟩) (nomark _)) ps_dead pss_nil)
      (pss_cons (ps_set (i := 7) scI.nd rfl (Or.inl rfl) (pe_op op_add (pe_callB call_len_seq (by rfl) B.len PySem.boot_len (pa_cons (pv 2) pa_nil)) (pe_callB (cr_sum rfl) (by rfl) B.sum (by decide +kernel) (pa_cons (pe_lc (own := [("inner", 8)]) (g := gName 8) (tt := tYes) (te := tFld K (tVar 8) "size") rfl scI.nd (pi_list (pv 5)) (blkOk_by (N := NI) (sc := defScope sInit) (by decide +kernel))
          (fun _ _ _ _ _ => pg_name (i := 8) scI.nd rfl (Or.inl rfl)) (fun _ _ _ _ _ => pts_nil) (fun _ _ _ _ _ => by exact pe_fld (pv 8) rfl)) pa_nil))))
      (pss_cons (ps_if (pt_cmpR op_gt (pv 7) (pe_glob (v := .int 40) rfl g3 ⟨_, rfl⟩) (nomark _)) ps_dead pss_nil)
      (pss_cons (ps_fld (pv 0) (pv 1) rfl)
      (pss_cons (ps_fld (pv 0) (pe_callTy call_tuple_of (by rfl) B.tuple (by decide +kernel) (pa_cons (pv 2) pa_nil)) rfl)
      (pss_cons (ps_fld (pv 0) (pv 6) rfl)
      (pss_one (ps_fld (pv 0) (pv 7) rfl)))))))))))), ?_⟩
    unfold M.Way.fine at hf
    obtain ⟨hh, hn, hall, hd, hz⟩ := hf
    have ln := hs.len
    refine ⟨_, rfl, (h : Int), rfl, ?_⟩
    rw [decide_eq_true (by omega)]
    refine ⟨_, rfl, iteF ⟨_, rfl, l, xs, rfl, hl.mono s0, by omega, by omega, fun H1 s1 => ⟨_, rfl, iteF ?_⟩⟩⟩
    have S1 := s0.trans s1
    have hx1 : H1 x = some (.ins C dx []) := s1 _ _ hx
    clear s1 hx s0
    refine or_enum (fun Q h => ⟨_, rfl, h⟩) (hl.mono S1) fun J Gd hG wk => ?_
    refine for_it wk (fun i σ G => Same H1 G ∧ ∃ p q, σ = [some (.ref x), some (.int (h : Int)), some (.ref l), p, q, none, none, none, none]) ⟨Same.refl _, _, _, rfl⟩ (fun i σ G _ z => hG G z.1) ?_ ?_
    · rintro i v σ G G' hi ⟨s, p, q, rfl⟩ ⟨t, a, b, rfl, nt, rfl, e1, hb⟩
      cases e1
      obtain ⟨sp, hsp, hst⟩ := hs.get hb
      have s2 : Same H1 (upd G t (.tup [V.int (i : Nat), b])) := s.trans (Same.of_upd nt)
      refine ⟨t, _, rfl, SqT.of upd_same, rfl, _, _, rfl, _, _, rfl, rfl, ?_⟩
      exact ⟨_, rfl, _, rfl, b, h, sp, rfl, hst.mono (S1.trans s2), fine_get hall hsp, _, rfl, iteF ⟨s2, _, _, rfl⟩⟩
    · rintro σ G ⟨s, p, q, rfl⟩
      have S2 := S1.trans s
      have hx2 := s _ _ hx1
      dsimp only
      refine set_then (te := tTuns K) (i := 5) ?_
      refine tuns_run (st := st) (xs := xs) rfl (hl.mono S2) (hs.mono S2) (by omega) fun D0 vs H2 s3 hD0 hW => ?_
      have lw : vs.length ≤ 1000 := by
        have e1 := hW.len
        have e2 := M.tuns_len st
        omega
      refine set_then (i := 6) ?_
      refine add_of (i := 1) (maxD_of (tl := tFlds K "depth") ?_)
      refine flds_run (f := "depth") (g := fun w => ((w.depth : Nat) : Int)) T T.nD (fun H wy a => depth_fld H wy a) rfl hD0 (hW.mono s3) lw fun D1 H3 s4 hD1 => ?_
      refine maxID_at (M.deep_max _) (SqL.of hD1) ⟨_, _, rfl, rfl, ?_⟩
      rw [← M.deepest_eq]
      refine ⟨_, rfl, _, _, rfl, rfl, _, rfl, ?_⟩
      rw [decide_eq_false (by omega)]
      refine iteF ?_
      unfold tNext
      dsimp only
      have s5 := s3.trans s4
      refine set_then (i := 7) (len_add (l := l) (xs := xs) (tl := tFlds K "size") rfl (hl.mono (S2.trans s5)) ?_)
      refine flds_run (f := "size") (g := fun w => ((w.size : Nat) : Int)) T T.nZ (fun H wy a => size_fld H wy a) rfl (s4 _ _ hD0) (hW.mono s5) lw fun D2 H4 s6 hD2 => ?_
      refine ⟨D2, _, rfl, SqL.of hD2, _, _, rfl, rfl, ?_⟩
      rw [M.sum_cast, ← M.inner_eq]
      refine ⟨_, rfl, _, _, rfl, rfl, _, rfl, ?_⟩
      rw [decide_eq_false (by omega)]
      refine iteF ?_
      dsimp only
      have S4 : Same H0 H4 := S2.trans (s5.trans s6)
      have hx4 : H4 x = some (.ins C dx []) := s6 _ _ (s5 _ _ hx2)
      refine ⟨_, rfl, _, rfl, x, C, dx, [], rfl, hx4, T.cl, T.nH, by decide, ?_⟩
      have S5 : Same H0 (upd H4 x (.ins C dx (putF "head" (.int (h : Int)) []))) := add_upd hx0 S4
      have e1 : (1 : Int) + ((M.Step.deepest st : Nat) : Int) = ((1 + M.Step.deepest st : Nat) : Int) := by omega
      have e2 : ((xs.length : Nat) : Int) + ((M.Step.inner st : Nat) : Int) = ((st.length + M.Step.inner st : Nat) : Int) := by omega
      have fin : ∀ (t : Addr) (G2 : Hp), Same (upd H4 x (.ins C dx (putF "head" (.int (h : Int)) []))) G2 → G2 t = some (.tup xs) → tSeq (sFld K (tVar 0) (tC (.ref t)) "steps") (tSeq (sFld K (tVar 0) (tVar 6) "depth") (sFld K (tVar 0) (tVar 7) "size")) { nx := fun _ H' => Q V.non H', rt := Q } [some (.ref x), some (.int (h : Int)), some (.ref l), p, q, some (.ref D0), some (.int (1 + ((M.Step.deepest st : Nat) : Int))), some (.int ((xs.length : Int) + ((M.Step.inner st : Nat) : Int))), none] G2 := fun t G2 sG ht => by
        have hx5 : G2 x = some (.ins C dx (putF "head" (.int (h : Int)) [])) := sG _ _ upd_same
        have tx : t ≠ x := fun z => by
          rw [z, hx5] at ht
          cases ht
        have S6 := S5.trans sG
        rw [e1, e2]
        refine ⟨_, rfl, x, C, dx, _, rfl, hx5, T.cl, T.nS, len_put (by decide), ?_⟩
        refine ⟨_, rfl, _, rfl, x, C, dx, _, rfl, upd_same, T.cl, T.nD, len_put (len_put (by decide)), ?_⟩
        refine ⟨_, rfl, _, rfl, x, C, dx, _, rfl, upd_same, T.cl, T.nZ, len_put (len_put (len_put (by decide))), ?_⟩
        have S7 := add_upd (o := .ins C dx (flds (h : Int) t ((1 + M.Step.deepest st : Nat) : Int) ((st.length + M.Step.inner st : Nat) : Int))) hx0 (add_upd (o := .ins C dx (putF "depth" (.int ((1 + M.Step.deepest st : Nat) : Int)) (putF "steps" (.ref t) (putF "head" (.int (h : Int)) [])))) hx0 (add_upd (o := .ins C dx (putF "steps" (.ref t) (putF "head" (.int (h : Int)) []))) hx0 S6))
        refine k _ S7 ?_
        unfold WayAt
        exact ⟨dx, t, xs, upd_same, by rw [upd_ne tx, upd_ne tx, upd_ne tx]; exact ht, hs.mono S7⟩
      rcases hl.mono S5 with e | e
      · exact ⟨_, rfl, l, xs, rfl, .inl ⟨SqL.of e, fun t nt => fin t _ (Same.of_upd nt) upd_same⟩⟩
      · exact ⟨_, rfl, l, xs, rfl, .inr ⟨SqT.of e, fin l _ (Same.refl _) e⟩⟩
end
end WP

end
section
set_option autoImplicit false
set_option Elab.async false
set_option linter.all false
set_option maxRecDepth 100000
set_option maxHeartbeats 4000000
/-! ## set(a list of hin), and sorted of it -/
namespace WS
open PySem PySem.Spec PyProof.Rows L2
abbrev empt (Wd : World) : Obj := { cls := .type "set", dict := none, data := .set #[] 0 (.fresh 0 0 (!Wd.params.followText "set-order")) }
abbrev walker (ls : Addr) : Obj := { cls := .type "list_iterator", data := .fields #[.ref ls, .int 0 0] }
section
variable {Pg : Program} {Wd : World} {Ar : Around} {Ex : Value → Shared → Prop} {sh : Shared}
/-- what is left of a new set, filled -/
def Filled (Wd : World) (sh : Shared) (zs : List Int) (s2 : Shared) : Prop := ∃ hp tk c, s2 = { sh with heap := hp, toks := tk } ∧ SetR Wd hp sh.heap.objs.size (fun j => decide (j ∈ zs)) c ∧ c ≤ zs.length ∧ ∀ b o, sh.heap.get? b = some o → hp.get? b = some o
set_option maxHeartbeats 3200000 in
/-- __init__ of the new set at the end of the heap -/
theorem init_list {ls : Addr} {arr : Array Value} {zs : List Int} (ok : Ar.handled = none) (at0 : sh.heap.IsList ls arr) (hin : IntsAre arr.toList zs) (few : zs.length + 1 < scanBound) (tS : Shared.TypeIs { sh with heap := sh.heap.push (empt Wd) } (.ref sh.heap.objs.size) "set") :
    codeAny (model Pg Wd) Ar (.call (.builtin "set.__init__") ⟨[.ref sh.heap.objs.size, .ref ls], []⟩) (wants (fun r s2 => r = .none ∧ Filled Wd sh zs s2) Ex) { sh with heap := sh.heap.push (empt Wd) } := by
  have size_eq : arr.size = zs.length := by
    have q := IntsAre.length hin
    rwa [Array.length_toList] at q
  refine codeAny_call_builtin (R := wants _ Ex) F.called_set.init.plain F.entry_set_init (check_set_init_1 tS ?_)
  obtain ⟨⟨oc, od, oda, osl⟩, gl, cl, nl, dl⟩ := at0
  simp only at cl dl
  subst cl; subst dl
  have gl2 : (sh.heap.push (empt Wd)).get? ls = some { cls := .type "list", dict := od, data := .seq arr nl, slots := osl } := Heap.get?_push_of_some _ gl
  have k1 := F.sub_list_set
  have k2 := F.sub_list_frozenset
  have k3 : (Value.type "list" == Value.type "dict") = false := by decide
  have il : (sh.heap.push (empt Wd)).IsList ls arr := ⟨_, gl2, rfl, nl, rfl⟩
  unfold Builtin.«set.__init__» noKeywords Builtin.Frozenset.updateFrom
  generalize eI : pyIter = IT
  wp_walk
  subst eI
  refine wpAny_pyIter_list il ?_
  refine wpAny_bind (wpAny_runValue ?_)
  have low : ls < sh.heap.objs.size := Heap.lt_size gl
  have sz : (sh.heap.push (empt Wd)).objs.size = sh.heap.objs.size + 1 := Heap.size_push ..
  have ne1 : ls ≠ (sh.heap.push (empt Wd)).objs.size := by rw [sz]; exact Nat.ne_of_lt (Nat.lt_succ_of_lt low)
  have ne2 : sh.heap.objs.size ∉ [(sh.heap.push (empt Wd)).objs.size, ls] := by
    rw [sz]
    intro z
    rcases List.mem_cons.mp z with e | e
    · exact absurd e (Nat.ne_of_lt (Nat.lt_succ_self _))
    · exact absurd (List.mem_singleton.mp e) (Nat.ne_of_gt low)
  have item : ∀ (i : Nat) (v : Value), arr[i]? = some v → ∃ k t, zs[i]? = some k ∧ v = .int k t := by
    intro i v hv
    have hi : i < zs.length := by rw [← size_eq]; exact (Array.getElem?_eq_some_iff.mp hv).1
    obtain ⟨t, e⟩ := PyProof.Rows.IntsAre.int_at hin i v (by rw [Array.getElem?_toList]; exact hv)
    refine ⟨zs[i], t, List.getElem?_eq_getElem hi, ?_⟩
    rw [e, List.getD_eq_getElem?_getD, List.getElem?_eq_getElem hi] <;> rfl
  refine set_update_ints ((Walks.list (by simp [ok]) _ ls ne1 arr).toS) sh.heap.objs.size ne2 zs size_eq few item (arr.size - 0) 0 _ (by omega) (Nat.zero_le _) ⟨⟨_, Heap.get?_push_size _ rfl, rfl, rfl⟩, (il.push _)⟩ ?first0 ?rest0
  case first0 =>
    have g : ((sh.heap.push (empt Wd)).push (walker ls)).get? sh.heap.objs.size = some (empt Wd) := Heap.get?_push_of_some _ (Heap.get?_push_size _ rfl)
    exact ⟨0, Nat.le_refl 0, setR_new_at g⟩
  case rest0 =>
    rintro ⟨hp, g2, d2, tk, os2⟩ c mv hc R
    have eg : g2 = sh.gens := mv.gens
    have ed : d2 = sh.drawn := mv.drawn
    have eo : os2 = sh.os := mv.os
    subst eg; subst ed; subst eo
    show wpAny _ _ _ _ _ _
    refine wpAny_pure ?_
    show wpAny _ _ (ret Value.none) _ _ _
    rw [size_eq] at hc
    refine wpAny_pure ⟨rfl, hp, tk, c, rfl, R, hc, fun b o e => ?_⟩
    have lb : b < sh.heap.objs.size := Heap.lt_size e
    refine mv.heap b o ?_ (Heap.get?_push_of_some _ (Heap.get?_push_of_some _ e))
    rw [sz]
    intro z
    rcases List.mem_cons.mp z with e | e
    · exact absurd e (Nat.ne_of_lt lb)
    · exact absurd (List.mem_singleton.mp e) (Nat.ne_of_lt (Nat.lt_succ_of_lt lb))
set_option maxHeartbeats 3200000 in
theorem set_of_list {ls : Addr} {arr : Array Value} (zs : List Int) {Qv : Value → Shared → Prop} (ok : Ar.handled = none) (at0 : sh.heap.IsList ls arr) (hin : IntsAre arr.toList zs) (few : zs.length + 1 < scanBound)
    (k : ∀ s2, Filled Wd sh zs s2 → Qv (.ref sh.heap.objs.size) s2) : wpAny (model Pg Wd) Ar (call (.type "set") [.ref ls]) Qv Ex sh := by
  obtain ⟨c0, tl0, mro0⟩ := F.called_set.mro
  have f1 := F.called_set.made
  have f2 := F.called_set.sub
  refine wpAny_call (codeAny_of_tree ?_)
  show wpAny _ _ (callAny (.type "set") _) _ _ _
  refine wpAny_pure ⟨Code.quiet_builtin _ (by decide +kernel), codeAny_builtin F.entry_type_call ?_⟩
  rw [Around.under_plain (weight_type_call_type "set" [.ref ls] []) rfl]
  have f3 := F.called_set.notType
  have f4 := F.called_set.canCreate
  have f5 := F.typeCall_set_1 (.ref ls)
  repeat (any_goals (first | assumption | wp_step))
  refine codeAny_mono (code_set_led1 (.ref ls) (E := Ex) (Q₁ := fun ob s1 => ob = .ref sh.heap.objs.size ∧ s1 = { sh with heap := sh.heap.push (empt Wd) }) ⟨rfl, rfl⟩) fun r s1 hr => ?_
  match r, hr with
  | .error e, hr => exact hr
  | .ok .next, hr => exact hr.elim
  | .ok .brk, hr => exact hr.elim
  | .ok .cont, hr => exact hr.elim
  | .ok (.ret ob), hr =>
    obtain ⟨rfl, rfl⟩ := hr
    have tS : Shared.TypeIs { sh with heap := sh.heap.push (empt Wd) } (.ref sh.heap.objs.size) "set" := ⟨_, Heap.get?_push_size _ rfl, rfl⟩
    have f6 := F.called_set.init.lookup
    have f7 := F.called_set.init.bind (.ref sh.heap.objs.size)
    repeat (any_goals (first | assumption | wp_step))
    refine codeAny_mono (init_list (zs := zs) (Ex := Ex) (by simp [ok]) at0 hin few tS) fun r2 s2 hr2 => ?_
    match r2, hr2 with
    | .error e, hr2 => exact hr2
    | .ok .next, hr2 => exact hr2.elim
    | .ok .brk, hr2 => exact hr2.elim
    | .ok .cont, hr2 => exact hr2.elim
    | .ok (.ret v), hr2 =>
      obtain ⟨rfl, hF⟩ := hr2
      obtain ⟨hp, tk, c, rfl, R, hc, hk⟩ := hF
      repeat (any_goals (first | assumption | wp_step))
      exact k _ ⟨hp, tk, c, rfl, R, hc, hk⟩
end
section
variable {X : Cx}
def rSetL (K : PySem.W.Frag) (Wd : World) : List V → Hp → VK → Prop := fun xs H Q => ∃ (l : Addr) (zs : List Int), xs = [.ref l] ∧ SqL K H l (zs.map V.int) ∧ zs.length ≤ 4000 ∧ ∀ (p : Addr) (c : Nat), H p = none → c ≤ zs.length → Q (.ref p) (upd H p (SetO Wd p (fun j => decide (j ∈ zs)) c))
theorem cr_setL (hc : X.calm = true) : CallR X (.type "set") (rSetL X.K X.w) := by
  intro pins s σ H xs us Q I r h
  obtain ⟨l, zs, rfl, hL, few, q⟩ := h
  rw [Vals.ref1 r]
  obtain ⟨its, rv, pl, _⟩ := I.list hL
  refine set_of_list zs (I.ok.hd hc) pl.isList (by simpa using ints_of_vals rv) (by unfold scanBound; omega) fun s2 hF => ?_
  obtain ⟨hp, tk, c, rfl, R, hc2, hk⟩ := hF
  exact ⟨.ref _, upd H s.heap.objs.size (SetO X.w s.heap.objs.size (fun j => decide (j ∈ zs)) c), I.laid (t' := tk) hk (Nat.le_refl _) (setO_new R), rfl, q _ c (I.hok.fresh (Nat.le_refl _)) hc2⟩
end
end WS

end
section
set_option autoImplicit false
set_option Elab.async false
set_option linter.all false
set_option maxRecDepth 100000
set_option maxHeartbeats 4000000
/-! ## pieces for any law -/
namespace Y
open PySem L2 G
theorem of_upd {H : Hp} {p : Addr} {o : HO} (h : H p = none) : Same H (upd H p o) := fun a u e => by
  rw [upd_ne (ne_of_none e h)]
  exact e
theorem add_upd {H G : Hp} {D : Addr} {o : HO} (nD : H D = none) (s : Same H G) : Same H (upd G D o) := fun b u e => by
  rw [upd_ne (ne_of_none e nD)]
  exact s _ _ e
/-- a def of the text that is called by its name, and keeps a promise -/
structure Df (P : Program) (w : World) (K : PySem.W.Frag) (mg : Str → Option Value) (base : Heap) (k : Nat) (x : Str) (ps : List Str) (sp : Sp) : Prop where
  ex : ∃ (f : Addr) (fd : FuncData), FnOk P w K mg base CX0 k f fd ps sp ∧ mg x = some (.ref f) ∧ PySem.W.keepIn K (.ref f) = true ∧ Binds K fd ps []
structure Fd (K : PySem.W.Frag) (mg : Str → Option Value) (x : Str) (st : Stmt) (ps : List Str) : Prop where
  ex : ∃ (f : Addr) (fd : FuncData), Fun K x x st f fd ∧ mg x = some (.ref f) ∧ PySem.W.keepIn K (.ref f) = true ∧ Binds K fd ps []
theorem Fd.df {P : Program} {w : World} {K : PySem.W.Frag} {mg : Str → Option Value} {base : Heap} {x : Str} {st : Stmt} {ps : List Str} {k : Nat} {sp : Sp} (h : Fd K mg x st ps) (ok : ∀ f fd, Fun K x x st f fd → FnOk P w K mg base CX0 k f fd ps sp) : Df P w K mg base k x ps sp := by
  obtain ⟨f, fd, h1, h2, h3, h4⟩ := h.ex
  exact ⟨f, fd, ok f fd h1, h2, h3, h4⟩
theorem set_then {te : TE} {i : Nat} {t2 : TS} {D : Ends} {σ : L2.St} {H : Hp} (h : te σ H fun v H1 => t2 D (σ.set i (some v)) H1) : tSeq (tAsg te (gName i)) t2 D σ H := h
theorem len_put {f : Str} {v : V} {fs : List (Str × V)} {n : Nat} (h : fs.length < n) : (putF f v fs).length < n + 1 := Nat.lt_of_le_of_lt (length_putF f v fs) (Nat.succ_lt_succ h)
theorem take_snoc {α : Type} {l : List α} {i : Nat} {x : α} (h : l[i]? = some x) : l.take (i + 1) = l.take i ++ [x] := by
  rw [List.take_succ, h]
  rfl
theorem drop_at {α : Type} {l : List α} {i : Nat} {x : α} (h : l[i]? = some x) : l.drop i = x :: l.drop (i + 1) := by
  obtain ⟨hi, ex⟩ := List.getElem?_eq_some_iff.mp h
  rw [← ex, ← List.drop_eq_getElem_cons hi]
section
variable {X : Cx} {tg it : Expr}
theorem pi_or {w1 w2 : TI} (h1 : PI X tg it w1) (h2 : PI X tg it w2) : PI X tg it (fun σ H R => w1 σ H R ∨ w2 σ H R) := ⟨fun pins s σ H R I h => h.elim (h1.run pins s σ H R I) (h2.run pins s σ H R I)⟩
def tDead : TS := fun _ _ _ => False
theorem ps_dead {b : List Stmt} : PSs X b tDead := ⟨fun _ _ _ _ _ _ h => h.elim⟩
end
def SAt (H : Hp) (l : Addr) (xs : List V) : Prop := H l = some (.lst xs) ∨ H l = some (.tup xs)
theorem SAt.mono {H H' : Hp} {l : Addr} {xs : List V} (s : Same H H') (h : SAt H l xs) : SAt H' l xs := h.elim (fun e => .inl (s _ _ e)) fun e => .inr (s _ _ e)
section
variable {K : PySem.W.Frag} {H : Hp} {σ : L2.St} {l : Addr} {xs : List V}
theorem or_seq {te : TE} {R : It → Hp → Prop} (ht : ∀ Q : VK, Q (.ref l) H → te σ H Q) (hl : SAt H l xs) (k : ∀ (J : It) (Gd : Hp → Prop), (∀ H', Same H H' → Gd H') → Walk J xs.length Gd (YAt xs) → R J H) : iList K te σ H R ∨ iTup K te σ H R :=
  hl.elim (fun e => .inl (ht _ ⟨l, rfl, ⟨xs, SqL.of e⟩, k _ _ (fun H' s => SqL.of (s _ _ e)) walk_list⟩)) fun e => .inr (ht _ ⟨l, rfl, ⟨xs, SqT.of e⟩, k _ _ (fun H' s => SqT.of (s _ _ e)) walk_tup⟩)
end
theorem at0 {y0 : V} {ys : List V} : atI (y0 :: ys) (0 : Int) = some y0 := by exact atI_nat (xs := y0 :: ys) (j := 0) rfl
def ni (l : List Nat) : List V := (l.map fun n => ((n : Nat) : Int)).map V.int
theorem ni_len (l : List Nat) : (ni l).length = l.length := by
  unfold ni
  rw [List.length_map, List.length_map]
theorem ni_get {l : List Nat} {i : Nat} {x : V} (h : (ni l)[i]? = some x) : ∃ b, l[i]? = some b ∧ x = .int ((b : Nat) : Int) := by
  unfold ni at h
  rw [List.getElem?_map, List.getElem?_map] at h
  cases e : l[i]? with
  | none => rw [e] at h; cases h
  | some b =>
    rw [e] at h
    cases h
    exact ⟨b, rfl, rfl⟩
theorem ni_at {l : List Nat} {i b : Nat} (h : l[i]? = some b) : (ni l)[i]? = some (.int ((b : Nat) : Int)) := by
  unfold ni
  rw [List.getElem?_map, List.getElem?_map, h]
  rfl
theorem ni_app (l m : List Nat) : ni (l ++ m) = ni l ++ ni m := by
  unfold ni
  rw [List.map_append, List.map_append]
theorem ni_drop (l : List Nat) (i : Nat) : (ni l).drop i = ni (l.drop i) := by
  unfold ni
  rw [← List.map_drop, ← List.map_drop]
theorem ni_take (l : List Nat) (i : Nat) : (ni l).take i = ni (l.take i) := by
  unfold ni
  rw [← List.map_take, ← List.map_take]
theorem line2 : 2 ≤ sizeLine ∧ 3 ≤ sizeLine ∧ 1 ≤ sizeLine ∧ 0 ≤ sizeLine := by decide
/-- xs[k:] -/
theorem cut_from (xs : List V) (k : Nat) : cutV xs (some (k : Int)) none = xs.drop k := by
  unfold cutV
  rw [HT.sIx_none, HT.sIx_nat]
  by_cases h : k ≤ xs.length
  · rw [Nat.min_eq_left h]
    exact List.take_of_length_le (by rw [List.length_drop]; omega)
  · rw [Nat.min_eq_right (by omega), List.drop_of_length_le (by omega), List.drop_of_length_le (by omega), List.take_nil]
theorem six_pos {n k : Nat} (h : 0 < k) (hn : 0 < n) (d : Nat) : HT.sIx n d (some (k : Int)) ≠ 0 := by
  rw [HT.sIx_nat]
  omega
structure Bn (mg : Str → Option Value) : Prop where
  isi : mg "isinstance" = none
  bool : mg "bool" = none
  int : mg "int" = none
  tuple : mg "tuple" = none
  list : mg "list" = none
  len : mg "len" = none
  range : mg "range" = none
  zip : mg "zip" = none
  min : mg "min" = none
  max : mg "max" = none
  sorted : mg "sorted" = none
  set : mg "set" = none
  enum : mg "enumerate" = none
end Y

end
section
set_option autoImplicit false
set_option Elab.async false
set_option linter.all false
set_option maxRecDepth 100000
set_option maxHeartbeats 4000000
/-! ## pieces of the gates' texts that the texts of ways want, too -/
namespace M
def Step.dep : Step → Nat
  | .tunnel w _ _ => w.depth
  | .road _ _ _ => 0
  | .join _ => 0
theorem deep_cons : ∀ (s : Step) (r : List Step), Step.deepest (s :: r) = max (Step.dep s) (Step.deepest r)
  | .tunnel w a b, r => by
    conv => lhs; unfold Step.deepest
    rfl
  | .road a b c, r => by
    conv => lhs; unfold Step.deepest
    exact (Nat.zero_max _).symm
  | .join a, r => by
    conv => lhs; unfold Step.deepest
    exact (Nat.zero_max _).symm
theorem dep_le : ∀ {s : List Step} {i : Nat} {x : Step}, s[i]? = some x → Step.dep x ≤ Step.deepest s
  | [], i, x, h => by cases h
  | y :: r, 0, x, h => by
    have e : y = x := Option.some.inj h
    rw [deep_cons, e]
    omega
  | y :: r, i + 1, x, h => by
    have := dep_le (s := r) (i := i) (x := x) h
    rw [deep_cons]
    omega
theorem depth_pos (wy : Way) : 1 ≤ wy.depth := by
  obtain ⟨h, s⟩ := wy
  unfold Way.depth
  omega
end M
namespace WP
open PySem L2 G
variable {C : Addr}
theorem head_fld {H : Hp} {wy : M.Way} {a : Addr} (h : WayAt C H wy a) : ∃ dx fs, H a = some (.ins C dx fs) ∧ fs.lookup ("head" : Str) = some (.int ((wy.head : Nat) : Int)) := by
  obtain ⟨wh, ws⟩ := wy
  unfold WayAt at h
  obtain ⟨dx, t, xs, h1, _, _⟩ := h
  exact ⟨dx, _, h1, flds_head _ _ _ _⟩
theorem steps_fld {H : Hp} {wy : M.Way} {a : Addr} (h : WayAt C H wy a) : ∃ dx fs t xs, H a = some (.ins C dx fs) ∧ fs.lookup ("steps" : Str) = some (.ref t) ∧ H t = some (.tup xs) ∧ StepsAt C H wy.steps xs := by
  obtain ⟨wh, ws⟩ := wy
  unfold WayAt at h
  obtain ⟨dx, t, xs, h1, h2, h3⟩ := h
  exact ⟨dx, _, t, xs, h1, flds_steps _ _ _ _, h2, h3⟩
end WP
namespace CP
open PySem L2 G Y
/-- all but lists stays -/
def KeepT (H H' : Hp) : Prop := ∀ a o, (∀ xs, o ≠ .lst xs) → H a = some o → H' a = some o
theorem put_keepT {G : Hp} {l : Addr} {xs : List V} {o : HO} (h : G l = some (.lst xs)) : KeepT G (upd G l o) := fun a o n e => by
  rw [upd_ne (fun z => by
    rw [z, h] at e
    cases e
    exact n _ rfl)]
  exact e
theorem same_keepT {H H' : Hp} (s : Same H H') : KeepT H H' := fun a o _ e => s a o e
theorem if_then {c : TT} {t1 t2 t3 : TS} {D : Ends} {σ : L2.St} {H : Hp} (Z : L2.St → Hp → Prop) (k : ∀ σ' H', Z σ' H' → t3 D σ' H') (h : (∀ σ' H', Z σ' H' → t3 D σ' H') → tIfS c t1 t2 { D with nx := fun σ' H' => t3 D σ' H' } σ H) : tSeq (tIfS c t1 t2) t3 D σ H := h k
theorem set_k {te : TE} {i : Nat} {t2 : TS} {D : Ends} {σ : L2.St} {H : Hp} (Z : V → Hp → Prop) (k : ∀ v H', Z v H' → t2 D (σ.set i (some v)) H') (h : (∀ v H', Z v H' → t2 D (σ.set i (some v)) H') → te σ H fun v H1 => t2 D (σ.set i (some v)) H1) : tSeq (tAsg te (gName i)) t2 D σ H := h k
theorem iteP {p : Prop} [Decidable p] {A B : Prop} (h : p) (a : A) : if decide p = true then A else B := by
  rw [decide_eq_true h]
  exact a
theorem iteN {p : Prop} [Decidable p] {A B : Prop} (h : ¬ p) (b : B) : if decide p = true then A else B := by
  rw [decide_eq_false h]
  exact b
theorem iteNT {x y : V} {A B : Prop} (h : ¬ x = y) (a : A) : if (!decide (x = y)) = true then A else B := by
  rw [decide_eq_false h]
  exact a
theorem fine_all {wy : M.Way} (h : wy.fine) : M.Step.fineAll wy.head wy.steps ∧ wy.steps.length ≤ 12 ∧ wy.size ≤ 40 := by
  obtain ⟨wh, s⟩ := wy
  unfold M.Way.fine at h
  refine ⟨h.2.2.1, h.2.1.2, ?_⟩
  unfold M.Way.size
  exact h.2.2.2.2
theorem fine_dep {wy : M.Way} (h : wy.fine) : wy.depth ≤ 3 := by
  obtain ⟨wh, s⟩ := wy
  unfold M.Way.fine at h
  unfold M.Way.depth
  exact h.2.2.2.1
end CP

end
section
set_option Elab.async false
set_option linter.all false
set_option maxRecDepth 100000
set_option maxHeartbeats 4000000
/-! ## where the law draws from -/
namespace S
open PySem L2
def top (i : Nat) : Stmt := PySem.Challenge.pw_roadsizes_k01_ways_made_and_refused.main.body.getD i (.Pass ⟨0, 0, 0, 0⟩)
abbrev sSource : Stmt := top 31
abbrev sDraw : Stmt := top 32
abbrev sPick : Stmt := top 33
/-- the built-ins that these defs call -/
structure Bi (mg : Str → Option Value) : Prop where
  int : mg "int" = none
  len : mg "len" = none
/-- a source: two numbers that are not negative, the second one small -/
def Two (r m : Int) : List V := [.int r, .int m]
structure Fine (r m : Int) : Prop where
  r0 : 0 ≤ r
  m0 : 0 ≤ m
  m1 : m < 2147483648
def At (H : Hp) (p : Addr) : Prop := ∃ r m, H p = some (.lst (Two r m)) ∧ Fine r m
theorem bits_lt (x : Int) : x.natAbs < 2 ^ (Builtin.Int.intBits x) := by
  unfold Builtin.Int.intBits
  split
  · rename_i h
    have e : x = 0 := by simpa using h
    subst e
    decide
  · exact Nat.lt_log2_self
theorem bits_le {x : Int} {n : Nat} (h : x.natAbs < 2 ^ n) : Builtin.Int.intBits x ≤ n := by
  unfold Builtin.Int.intBits
  split
  · exact Nat.zero_le _
  · rename_i q
    have ne : x.natAbs ≠ 0 := fun e => q (by simp [Int.natAbs_eq_zero.mp e])
    exact (Nat.log2_lt ne).mpr h
theorem cube_ok {m z : Int} (h0 : 0 ≤ m) (h1 : m < 2147483648) (hz : Builtin.Int.intBits z ≤ 1048576) : (Builtin.Int.intBits (m * 48611 + z) : Int) * 3 ≤ 2 ^ 27 := by
  have b1 := bits_lt z
  have b2 : z.natAbs < 2 ^ 1048576 := Nat.lt_of_lt_of_le b1 (Nat.pow_le_pow_right (by decide) hz)
  have b3 : (m * 48611 + z).natAbs < 2 ^ 1048577 := by
    have e : (2 : Nat) ^ 1048577 = 2 ^ 1048576 * 2 := Nat.pow_succ ..
    have e2 : (2 : Nat) ^ 100 ≤ 2 ^ 1048576 := Nat.pow_le_pow_right (by decide) (by decide)
    have e3 : (2 : Nat) ^ 100 = 1267650600228229401496703205376 := by decide
    generalize (2 : Nat) ^ 1048576 = t at *
    rw [e]
    omega
  have b4 := bits_le b3
  have e27 : (2 : Int) ^ 27 = 134217728 := by decide
  rw [e27]
  omega
/-! ### promises -/
def spSource (K : PySem.W.Frag) : Sp := fun vs H Q _ => ∃ (a : Addr) (ns : List Int) (i : Nat), vs = [.ref a, .int i] ∧ i ≤ 1000 ∧ SqL K H a (ns.map V.int) ∧ ns.length ≤ 63 ∧ (∀ z ∈ ns, Builtin.Int.intBits z ≤ 1048576) ∧
  ∀ p r m, H p = none → Fine r m → Q (.ref p) (upd H p (.lst (Two r m)))
def spDraw : Sp := fun vs H Q _ => ∃ (p : Addr) (r m span : Int), vs = [.ref p, .int span] ∧ H p = some (.lst (Two r m)) ∧ Fine r m ∧ 1 ≤ span ∧ span.natAbs.log2 < 9000 ∧
  ∀ k r' m', Fine r' m' → 0 ≤ k → k < span → Q (.int k) (upd H p (.lst (Two r' m')))
def spPick (K : PySem.W.Frag) : Sp := fun vs H Q _ => ∃ (p l : Addr) (r m : Int) (xs : List V), vs = [.ref p, .ref l] ∧ H p = some (.lst (Two r m)) ∧ Fine r m ∧ l ≠ p ∧ SqL K H l xs ∧ 1 ≤ xs.length ∧ xs.length ≤ 1000 ∧
  ∀ (j : Nat) (x : V) (r' m' : Int), Fine r' m' → xs[j]? = some x → Q x (upd H p (.lst (Two r' m')))
section
variable {P : Program} {w : World} {K : PySem.W.Frag} {mg : Str → Option Value} {base : Heap}
theorem sc1 : FnScope ["script", "start", "mixed", "cell", "rest"] ["script", "start"] (defScope sSource) := ⟨rfl, rfl, rfl, by decide +kernel, rfl, by decide +kernel, by decide +kernel⟩
theorem ints_at {ns : List Int} {i : Nat} {x : V} (h : (ns.map V.int)[i]? = some x) : ∃ z, x = .int z ∧ z ∈ ns ∧ ns[i]? = some z := by
  rw [List.getElem?_map] at h
  cases e : ns[i]? with
  | none => rw [e] at h; cases h
  | some z => rw [e] at h; exact ⟨z, (Option.some.inj h).symm, List.mem_of_getElem? e, rfl⟩
theorem ok_source {f : Addr} {fd : FuncData} (F : Fun K "_law_source" "_law_source" sSource f fd) (B : Bi mg) : FnOk P w K mg base CX0 1 f fd ["script", "start"] (spSource K) := by
  refine F.ok sc1 (fun vs H Q E h => ?_) (fun cdv A outer s H vs Q E hr h => ?_)
  · obtain ⟨a, ns, i, rfl, _⟩ := h
    rfl
  · obtain ⟨a, ns, st, rfl, hst, hS, hl, hb, k⟩ := h
    refine ⟨_, pss_cons (ps_set (i := 2) sc1.nd rfl (Or.inl rfl) (pe_op op_add pe_int (pv 1)))
      (pss_cons (ps_for PassesOwn.never rfl (pi_list (pv 0)) (pg_name (i := 3) sc1.nd rfl (Or.inl rfl))
        (pss_one (ps_set (i := 2) sc1.nd rfl (Or.inl rfl) (pe_op op_add (pe_op op_mod (pe_callTy call_int1 (by rfl) B.int (by decide +kernel)
          (pa_cons (pe_op G.op_powN (pe_callTy call_int1 (by rfl) B.int (by decide +kernel) (pa_cons (pe_op op_add (pe_op op_mul (pv 2) pe_int) (pe_callTy call_int1 (by rfl) B.int (by decide +kernel) (pa_cons (pv 3) pa_nil))) pa_nil)) pe_int) pa_nil)) pe_int) pe_int))))
      (pss_cons (ps_set (i := 4) sc1.nd rfl (Or.inl rfl) pe_int)
      (pss_cons (ps_if (PW.pt (pw_and (pt_cmpR op_lt (pv 1) (pe_callB call_len_seq (by rfl) B.len PySem.boot_len (pa_cons (pv 0) pa_nil)) (nomark _))
          (pw_and1 (pt_cmpR op_ge (pe_ix ix_list (pv 0) (pv 1) (fun _ _ => rfl)) (pe_op op_pow pe_int pe_int) (nomark _)))))
        (pss_one (ps_set (i := 4) sc1.nd rfl (Or.inl rfl) (pe_op op_sub (pe_ix ix_list (pv 0) (pv 1) (fun _ _ => rfl)) (pe_op op_pow pe_int pe_int)))) pss_nil)
      (pss_one (ps_ret (pe_lst (pa_cons (pv 4) (pa_cons (pv 2) pa_nil)))))))), ?_⟩
    -- mixed = 97 + start
    refine ⟨_, rfl, _, _, rfl, rfl, ?_⟩
    -- for cell in script
    refine ⟨_, rfl, a, rfl, ⟨_, hS⟩, for_list (K := K) (a := a) (xs := ns.map V.int) (fun i σ H2 => ∃ (m : Int) (c : Option V), σ = [some (.ref a), some (.int st), some (.int m), c, none] ∧ H2 = H ∧ (0 ≤ m ∧ m < 2147483648))
      ⟨_, none, rfl, rfl, by omega, by omega⟩ (fun i σ H2 _ ⟨_, _, _, e, _⟩ => by rw [e]; exact hS) ?_ ?_⟩
    · rintro i y σ H2 hi ⟨m, c, rfl, rfl, h0, h1⟩
      obtain ⟨z, rfl, hz, _⟩ := ints_at hi
      refine ⟨_, rfl, _, _, rfl, rfl, .inl ⟨by omega, by omega⟩, _, rfl, .inl ⟨_, rfl, _, _, rfl, rfl, .inl ⟨_, rfl, _, _, rfl, rfl, ⟨by decide, cube_ok h0 h1 (hb z hz)⟩, .inl ⟨_, rfl, _, _, rfl, rfl, (by show (0 : Int) < 2147483587; decide), _, _, rfl, rfl, ?_⟩⟩⟩⟩
      refine ⟨_, _, rfl, rfl, ?_⟩
      have e1 := Int.emod_nonneg ((m * 48611 + z) ^ (3 : Int).toNat) (b := 2147483587) (by decide)
      have e2 := Int.emod_lt_of_pos ((m * 48611 + z) ^ (3 : Int).toNat) (b := 2147483587) (by decide)
      exact ⟨Int.add_nonneg e1 (by decide), Int.lt_of_lt_of_le (Int.add_lt_add_right e2 1) (by decide)⟩
    · rintro σ H2 ⟨m, c, rfl, rfl, h0, h1⟩
      -- rest = 0; if start < len(script) and script[start] >= 10 ** 18
      refine ⟨_, rfl, _, rfl, a, _, rfl, .inl hS, _, _, rfl, rfl, _, rfl, ?_⟩
      have fin : ∀ r : Int, 0 ≤ r → tRet (tLst (tCons (tVar 4) (tCons (tVar 2) tNil))) { nx := fun _ H' => Q .non H', rt := Q } [some (.ref a), some (.int st), some (.int m), c, some (.int r)] H2 := fun r hr =>
        ⟨_, rfl, _, rfl, (by show 2 ≤ sizeLine; decide), fun p hp => k p r m hp ⟨hr, h0, h1⟩⟩
      by_cases hlt : st < ns.length
      · have e : decide ((st : Int) < ((ns.map V.int).length : Int)) = true := by
          rw [List.length_map]
          exact decide_eq_true (by omega)
        rw [e]
        refine iteT ?_
        have hit : (ns.map V.int)[st]? = some (V.int ns[st]) := by rw [List.getElem?_map, List.getElem?_eq_getElem hlt]; rfl
        refine ⟨_, rfl, _, rfl, a, _, _, _, rfl, rfl, hS, atI_nat hit, _, _, rfl, rfl, ⟨by decide, by decide, by decide⟩, _, _, rfl, rfl, _, rfl, ?_⟩
        refine ite2 (fun hge => ?_) (fun _ => fin 0 (by decide))
        refine ⟨_, rfl, _, rfl, a, _, _, _, rfl, rfl, hS, atI_nat hit, _, _, rfl, rfl, ⟨by decide, by decide, by decide⟩, _, _, rfl, rfl, ?_⟩
        exact fin _ (Int.sub_nonneg_of_le (of_decide_eq_true hge))
      · have e : decide ((st : Int) < ((ns.map V.int).length : Int)) = false := by
          rw [List.length_map]
          exact decide_eq_false (by omega)
        rw [e]
        exact iteF (iteF (fin 0 (by decide)))
theorem fits {a : Int} {n : Nat} (h : 0 ≤ a) (h1 : a < 2 ^ n) : a.natAbs < 2 ^ n := by
  have e : ((2 : Int) ^ n) = ((2 ^ n : Nat) : Int) := by rw [Int.natCast_pow]; rfl
  rw [e] at h1
  omega
theorem sc2 : FnScope ["source", "span", "found"] ["source", "span"] (defScope sDraw) := ⟨rfl, rfl, rfl, by decide +kernel, rfl, by decide +kernel, by decide +kernel⟩
theorem ok_draw {f : Addr} {fd : FuncData} (F : Fun K "_law_draw" "_law_draw" sDraw f fd) (B : Bi mg) : FnOk P w K mg base CX0 1 f fd ["source", "span"] spDraw := by
  refine F.ok sc2 (fun vs H Q E h => ?_) (fun cdv A outer s H vs Q E hr h => ?_)
  · obtain ⟨p, r, m, span, rfl, _⟩ := h
    rfl
  · obtain ⟨p, r, m, span, rfl, hp, ⟨r0, m0, m1⟩, s1, s2, k⟩ := h
    refine ⟨_, pss_cons (ps_if (pt_cmpR op_ge (pe_ix ix_list (pv 0) pe_int (fun _ _ => rfl)) (pv 1) (nomark _))
        (pss_cons (ps_set (i := 2) sc2.nd rfl (Or.inl rfl) (pe_op op_mod (pe_callTy call_int1 (by rfl) B.int (by decide +kernel) (pa_cons (pe_ix ix_list (pv 0) pe_int (fun _ _ => rfl)) pa_nil)) (pv 1)))
        (pss_cons (ps_asg (pe_op op_fdivW (pe_ix ix_list (pv 0) pe_int (fun _ _ => rfl)) (pv 1)) (pg_sub (pv 0) pe_int set_list))
        (pss_one (ps_ret (pv 2))))) pss_nil)
      (pss_cons (ps_asg (pe_op op_mod (pe_callTy call_int1 (by rfl) B.int (by decide +kernel) (pa_cons (pe_op op_add (pe_op op_mul (pe_ix ix_list (pv 0) pe_int (fun _ _ => rfl)) pe_int) pe_int) pa_nil)) pe_int) (pg_sub (pv 0) pe_int set_list))
      (pss_one (ps_ret (pe_op op_mod (pe_callTy call_int1 (by rfl) B.int (by decide +kernel) (pa_cons (pe_op op_fdiv (pe_op op_mod (pe_callTy call_int1 (by rfl) B.int (by decide +kernel)
        (pa_cons (pe_op op_pow (pe_callTy call_int1 (by rfl) B.int (by decide +kernel) (pa_cons (pe_ix ix_list (pv 0) pe_int (fun _ _ => rfl)) pa_nil)) pe_int) pa_nil)) pe_int) pe_int) pa_nil)) (pv 1))))), ?_⟩
    have g0 : atI (Two r m) 0 = some (.int r) := rfl
    refine ⟨_, rfl, p, _, _, _, rfl, rfl, SqL.of hp, g0, _, rfl, _, _, rfl, rfl, _, rfl, ?_⟩
    refine ite2 (fun hge => ?_) (fun hlt => ?_)
    · have hge' : span ≤ r := of_decide_eq_true hge
      have q0 : 0 ≤ r / span := Int.ediv_nonneg r0 (by omega)
      refine ⟨_, rfl, p, _, _, _, rfl, rfl, SqL.of hp, g0, .inl ⟨_, rfl, _, rfl, _, _, rfl, rfl, (by show 0 < span; omega), ?_⟩⟩
      refine ⟨_, rfl, p, _, _, _, rfl, rfl, SqL.of hp, g0, _, rfl, _, _, rfl, rfl, ⟨(by omega), s2⟩, ?_⟩
      refine ⟨_, rfl, p, _, _, _, rfl, rfl, hp, rfl, ?_⟩
      exact ⟨_, rfl, k (r % span) (r / span) m ⟨q0, m0, m1⟩ (Int.emod_nonneg _ (by omega)) (Int.emod_lt_of_pos _ (by omega))⟩
    · have g1 : atI (Two r m) 1 = some (.int m) := rfl
      have e1 := Int.emod_nonneg (m * 69621 + 7919) (b := 2147483647) (by decide)
      have e2 := Int.emod_lt_of_pos (m * 69621 + 7919) (b := 2147483647) (by decide)
      refine ⟨_, rfl, p, _, _, _, rfl, rfl, SqL.of hp, g1, _, _, rfl, rfl, .inl ⟨by omega, by omega⟩, _, _, rfl, rfl, .inl ⟨_, rfl, _, _, rfl, rfl, (by show (0 : Int) < 2147483647; decide), ?_⟩⟩
      refine ⟨_, rfl, p, _, _, _, rfl, rfl, hp, rfl, ?_⟩
      have hp2 : (upd H p (.lst (Two r ((m * 69621 + 7919) % 2147483647)))) p = some (.lst (Two r ((m * 69621 + 7919) % 2147483647))) := upd_same
      have g2 : atI (Two r ((m * 69621 + 7919) % 2147483647)) 1 = some (.int ((m * 69621 + 7919) % 2147483647)) := rfl
      refine ⟨_, rfl, p, _, _, _, rfl, rfl, SqL.of hp2, g2, .inl ⟨_, rfl, _, _, rfl, rfl, ⟨by decide, by decide, by omega⟩, .inl ⟨_, rfl, _, _, rfl, rfl, (by show (0 : Int) < 1000000007; decide), _, _, rfl, rfl, ⟨by decide, by decide⟩, .inl ⟨_, rfl, _, rfl, _, _, rfl, rfl, (by show 0 < span; omega), ?_⟩⟩⟩⟩
      exact k _ r _ ⟨r0, e1, by omega⟩ (Int.emod_nonneg _ (by omega)) (Int.emod_lt_of_pos _ (by omega))
theorem sc3 : FnScope ["source", "items"] ["source", "items"] (defScope sPick) := ⟨rfl, rfl, rfl, by decide +kernel, rfl, by decide +kernel, by decide +kernel⟩
theorem ok_pick {f fD : Addr} {fd fdD : FuncData} (F : Fun K "_law_pick" "_law_pick" sPick f fd) (B : Bi mg) (FD : Fun K "_law_draw" "_law_draw" sDraw fD fdD) (gD : mg "_law_draw" = some (.ref fD)) (bD : Binds K fdD ["source", "span"] []) :
    FnOk P w K mg base CX0 2 f fd ["source", "items"] (spPick K) := by
  have GD : FnOk P w K mg base CX0 1 fD fdD ["source", "span"] spDraw := ok_draw FD B
  refine F.ok sc3 (fun vs H Q E h => ?_) (fun cdv A outer s H vs Q E hr h => ?_)
  · obtain ⟨p, l, r, m, xs, rfl, _⟩ := h
    rfl
  · obtain ⟨p, l, r, m, xs, rfl, hp, hf, hne, hL, l1, l2, k⟩ := h
    refine ⟨_, pss_one (ps_ret (pe_ix ix_list (pv 1) (pe_call GD hr rfl gD FD.kp bD .nil pass0 (pa_cons (pv 0) (pa_cons (pe_callB call_len_seq (by rfl) B.len PySem.boot_len (pa_cons (pv 1) pa_nil)) pa_nil))) (fun _ _ => rfl))), ?_⟩
    refine ⟨_, rfl, _, rfl, _, rfl, l, xs, rfl, .inl hL, p, r, m, _, rfl, hp, hf, by omega, ?_, fun j r' m' hf' h0 h1 => ?_⟩
    · exact PySem.Flt.log2_lt_of (k := 9000) (by decide) (Nat.lt_of_lt_of_le (by omega : _ < 1001) (Nat.le_trans (by decide : 1001 ≤ 2 ^ 10) (Nat.pow_le_pow_right (by decide) (by decide))))
    · obtain ⟨n, rfl⟩ := Int.eq_ofNat_of_zero_le h0
      have hn : n < xs.length := by omega
      have hit : xs[n]? = some xs[n] := List.getElem?_eq_getElem hn
      refine ⟨l, xs, _, xs[n], rfl, rfl, ?_, atI_nat hit, k n _ r' m' hf' hit⟩
      rcases hL with (h | ⟨o, h⟩) | h
      · exact .inl (.inl (by rw [upd_ne hne]; exact h))
      · exact .inl (.inr ⟨o, by rw [upd_ne hne]; exact h⟩)
      · exact .inr h
end
end S

end
section
set_option autoImplicit false
set_option Elab.async false
set_option linter.all false
set_option maxRecDepth 100000
set_option maxHeartbeats 4000000
/-! ## draws: what they leave -/
namespace Y
open PySem L2 G
/-- all but the source at p stays -/
def Bt (p : Addr) (H H' : Hp) : Prop := (∀ a o, a ≠ p → H a = some o → H' a = some o) ∧ S.At H' p
theorem Bt.trans {p : Addr} {H H1 H2 : Hp} (a : Bt p H H1) (b : Bt p H1 H2) : Bt p H H2 := ⟨fun x o n e => b.1 x o n (a.1 x o n e), b.2⟩
theorem Bt.same {p : Addr} {H H' : Hp} (s : Same H H') (h : S.At H p) : Bt p H H' := by
  obtain ⟨r, m, e, f⟩ := h
  exact ⟨fun a o _ e2 => s _ _ e2, r, m, s _ _ e, f⟩
theorem Bt.put {p : Addr} {H : Hp} {r m : Int} (f : S.Fine r m) : Bt p H (upd H p (.lst (S.Two r m))) := ⟨fun a o n e => by rw [upd_ne n]; exact e, r, m, upd_same, f⟩
theorem Bt.new {p u : Addr} {H : Hp} (o : HO) (h : S.At H p) (hu : H u = none) : Bt p H (upd H u o) := Bt.same (of_upd hu) h
theorem at_ne {H : Hp} {p L : Addr} (h : S.At H p) (hL : H L = none) : L ≠ p := fun e => by
  obtain ⟨r, m, e2, _⟩ := h
  rw [e, e2] at hL
  cases hL
theorem bt_lst {p L : Addr} {H H' : Hp} {o : HO} (b : Bt p H H') (ne : L ≠ p) (h : H L = some o) : H' L = some o := b.1 L _ ne h
theorem sameAt {p : Addr} {H H' : Hp} (s : Same H H') (h : S.At H p) : S.At H' p := by
  obtain ⟨r, m, e, f⟩ := h
  exact ⟨r, m, s _ _ e, f⟩
theorem sameBt {p : Addr} {H G G' : Hp} (s : Same H G) (n : H p = none) (b : Bt p G G') : Same H G' := fun a o e => b.1 a o (fun z => by rw [z, n] at e; cases e) (s a o e)
theorem draw_at {H : Hp} {Q : VK} {E : XK} {p : Addr} {n : Int} (h : S.At H p) (n1 : 1 ≤ n) (n2 : n.natAbs.log2 < 9000) (k : ∀ j H', 0 ≤ j → j < n → Bt p H H' → Q (.int j) H') : S.spDraw [.ref p, .int n] H Q E := by
  obtain ⟨r, m, hp, hf⟩ := h
  exact ⟨p, r, m, n, rfl, hp, hf, n1, n2, fun j r1 m1 f1 j0 j1 => k j _ j0 j1 (Bt.put f1)⟩
/-- a draw as it stands in an expression: below a written number, or below what a name holds -/
theorem draw_vv {σ : L2.St} {H : Hp} {Q : VK} {E : XK} {p : Addr} {i : Nat} {n : Int} (hσ : σ[i]? = some (some (.ref p))) (h : S.At H p) (n1 : 1 ≤ n) (n2 : n.natAbs.log2 < 9000) (k : ∀ j H', 0 ≤ j → j < n → Bt p H H' → Q (.int j) H') : tCall S.spDraw [] E (tCons (tVar i) (tCons (tC (.int n)) tNil)) σ H Q := ⟨_, hσ, draw_at (E := E) h n1 n2 k⟩
theorem draw_var {σ : L2.St} {H : Hp} {Q : VK} {E : XK} {p : Addr} {i j : Nat} {n : Int} (hσ : σ[i]? = some (some (.ref p))) (hj : σ[j]? = some (some (.int n))) (h : S.At H p) (n1 : 1 ≤ n) (n2 : n.natAbs.log2 < 9000) (k : ∀ j H', 0 ≤ j → j < n → Bt p H H' → Q (.int j) H') : tCall S.spDraw [] E (tCons (tVar i) (tCons (tVar j) tNil)) σ H Q := ⟨_, hσ, _, hj, draw_at (E := E) h n1 n2 k⟩
theorem draw_of {σ : L2.St} {H : Hp} {Q : VK} {p : Addr} {E : XK} {i : Nat} {c n : Int} (hσ : σ[i]? = some (some (.ref p))) (h : S.At H p) (n1 : 1 ≤ n) (n2 : n.natAbs.log2 < 9000) (k : ∀ j H', 0 ≤ j → j < n → Bt p H H' → Q (.int (c + j)) H') :
    tOp (rI0 fun i j => .int (i + j)) (tC (.int c)) (tCall S.spDraw [] E (tCons (tVar i) (tCons (tC (.int n)) tNil))) σ H Q := by
  obtain ⟨r, m, hp, hf⟩ := h
  exact ⟨_, hσ, p, r, m, n, rfl, hp, hf, n1, n2, fun j r1 m1 f1 j0 j1 => ⟨_, _, rfl, rfl, k j _ j0 j1 (Bt.put f1)⟩⟩
theorem draw_w {σ : L2.St} {H : Hp} {Q : VK} {E : XK} {p : Addr} {i j : Nat} {c n : Int} (hσ : σ[i]? = some (some (.ref p))) (hj : σ[j]? = some (some (.int n))) (h : S.At H p) (n1 : 1 ≤ n) (n2 : n.natAbs.log2 < 9000) (k : ∀ x H', 0 ≤ x → x < n → Bt p H H' → Q (.int (c + x)) H') :
    tOp (rI0 fun i j => .int (i + j)) (tC (.int c)) (tCall S.spDraw [] E (tCons (tVar i) (tCons (tVar j) tNil))) σ H Q := by
  obtain ⟨r, m, hp, hf⟩ := h
  exact ⟨_, hσ, _, hj, p, r, m, n, rfl, hp, hf, n1, n2, fun x r1 m1 f1 j0 j1 => ⟨_, _, rfl, rfl, k x _ j0 j1 (Bt.put f1)⟩⟩
/-- a pick from a list just made -/
theorem pick_at {K : PySem.W.Frag} {H : Hp} {Q : VK} {p l : Addr} {E : XK} {xs : List V} (h : S.At H p) (hl : H l = none) (h1 : 1 ≤ xs.length) (h2 : xs.length ≤ 1000) (k : ∀ x H', x ∈ xs → Bt p H H' → Q x H') : S.spPick K [.ref p, .ref l] (upd H l (.lst xs)) Q E := by
  obtain ⟨r, m, hp, hf⟩ := h
  have lp : l ≠ p := fun z => by
    rw [z, hp] at hl
    cases hl
  exact ⟨p, l, r, m, xs, rfl, by rw [upd_ne lp.symm]; exact hp, hf, lp, SqL.of upd_same, h1, h2, fun j x r2 m2 f2 hx => k x _ (List.mem_of_getElem? hx) ((Bt.same (of_upd hl) ⟨r, m, hp, hf⟩).trans (Bt.put f2))⟩
theorem pick_of {K : PySem.W.Frag} {σ : L2.St} {H : Hp} {Q : VK} {p : Addr} {E : XK} {i : Nat} {xs : List V} {ta : TA} (hσ : σ[i]? = some (some (.ref p))) (h : S.At H p) (h1 : 1 ≤ xs.length) (h2 : xs.length ≤ 1000) (ha : ∀ Q2 : List V → Hp → Prop, Q2 xs H → ta σ H Q2) (k : ∀ x H', x ∈ xs → Bt p H H' → Q x H') :
    tCall (S.spPick K) [] E (tCons (tVar i) (tCons (tLst ta) tNil)) σ H Q := ⟨_, hσ, ha _ ⟨Nat.le_trans h2 (by decide), fun l hl => pick_at (E := E) h hl h1 h2 k⟩⟩
end Y

end
section
set_option autoImplicit false
set_option Elab.async false
set_option linter.all false
set_option maxRecDepth 100000
set_option maxHeartbeats 4000000
/-! ## ways: pieces -/
namespace M
def isz : Step → Nat
  | .tunnel w _ _ => w.size
  | .road _ _ _ => 0
  | .join _ => 0
theorem inner_cons : ∀ (s : Step) (r : List Step), Step.inner (s :: r) = isz s + Step.inner r
  | .tunnel w a b, r => by
    conv => lhs; unfold Step.inner
    rfl
  | .road a b c, r => by
    conv => lhs; unfold Step.inner
    exact (Nat.zero_add _).symm
  | .join a, r => by
    conv => lhs; unfold Step.inner
    exact (Nat.zero_add _).symm
end M
namespace CP
open PySem L2 G Y
theorem bt_keepT {p : Addr} {H H' : Hp} (b : Bt p H H') (h : S.At H p) : KeepT H H' := fun a o n e => b.1 a o (fun z => by
  obtain ⟨r, m, e2, _⟩ := h
  rw [z, e2] at e
  cases e
  exact n _ rfl) e
theorem KeepT.trans {H H1 H2 : Hp} (a : KeepT H H1) (b : KeepT H1 H2) : KeepT H H2 := fun x o n e => b x o n (a x o n e)
theorem KeepT.tup {H H' : Hp} {t : Addr} {xs : List V} (k : KeepT H H') (h : H t = some (.tup xs)) : H' t = some (.tup xs) := k _ _ (fun _ z => by cases z) h
end CP
namespace WP
open PySem L2 G
variable {C : Addr}
open CP (KeepT)
mutual
theorem WayAt.keep {C : Addr} {H H' : Hp} (s : CP.KeepT H H') : ∀ {w : M.Way} {a : Addr}, WayAt C H w a → WayAt C H' w a
  | .mk h st, a, x => by
    unfold WayAt at x ⊢
    obtain ⟨dx, t, xs, h1, h2, h3⟩ := x
    exact ⟨dx, t, xs, s _ _ (fun _ z => by cases z) h1, CP.KeepT.tup s h2, StepsAt.keep s h3⟩
theorem StepsAt.keep {C : Addr} {H H' : Hp} (s : CP.KeepT H H') : ∀ {st : List M.Step} {xs : List V}, StepsAt C H st xs → StepsAt C H' st xs
  | [], xs, x => by
    unfold StepsAt at x ⊢
    exact x
  | y :: r, xs, x => by
    unfold StepsAt at x ⊢
    obtain ⟨u, ys, e, h1, h2⟩ := x
    exact ⟨u, ys, e, StepAt.keep s h1, StepsAt.keep s h2⟩
theorem StepAt.keep {C : Addr} {H H' : Hp} (s : CP.KeepT H H') : ∀ {st : M.Step} {x : V}, StepAt C H st x → StepAt C H' st x
  | .road size ts lw, v, x => by
    unfold StepAt at x ⊢
    obtain ⟨t, e, h⟩ := x
    exact ⟨t, e, CP.KeepT.tup s h⟩
  | .join most, v, x => by
    unfold StepAt at x ⊢
    obtain ⟨t, e, h⟩ := x
    exact ⟨t, e, CP.KeepT.tup s h⟩
  | .tunnel w most tw, v, x => by
    unfold StepAt at x ⊢
    obtain ⟨t, a, e, h, h2⟩ := x
    exact ⟨t, a, e, CP.KeepT.tup s h, WayAt.keep s h2⟩
end
theorem StepsAt.snoc {C : Addr} {H : Hp} : ∀ {s : List M.Step} {xs : List V} {y : M.Step} {x : V}, StepsAt C H s xs → StepAt C H y x → StepsAt C H (s ++ [y]) (xs ++ [x])
  | [], xs, y, x, h, h2 => by
    unfold StepsAt at h
    subst h
    show StepsAt C H [y] [x]
    unfold StepsAt
    exact ⟨x, [], rfl, h2, by unfold StepsAt; rfl⟩
  | z :: s, xs, y, x, h, h2 => by
    unfold StepsAt at h
    obtain ⟨u, ys, rfl, h3, h4⟩ := h
    show StepsAt C H (z :: (s ++ [y])) (u :: (ys ++ [x]))
    unfold StepsAt
    exact ⟨u, ys ++ [x], rfl, h3, StepsAt.snoc h4 h2⟩
structure Mw (P : Program) (w : World) (K : PySem.W.Frag) (mg : Str → Option Value) (base : Heap) (C : Addr) : Prop where
  ex : ∃ (f : Addr) (fd : FuncData), FnOk P w K mg base CX0 6 f fd ["self", "head", "steps"] (spInit C) ∧ Mk K C f ∧ Binds K fd ["self", "head", "steps"] []
theorem made_way {H : Hp} {Q : VK} {E : XK} {l : Addr} {h : Nat} {xs : List V} {st : List M.Step} (hl : SAt H l xs) (hs : StepsAt C H st xs) (hf : M.Way.fine (.mk h st)) (k : ∀ x H', Same H H' → WayAt C H' (.mk h st) x → Q (.ref x) H') :
    ∀ x dx, H x = none → H dx = none → dx ≠ x → spInit C (.ref x :: ([.int (h : Int), .ref l] ++ [])) (upd (upd H dx (.own x)) x (.ins C dx [])) (fun v H2 => v = .non ∧ Q (.ref x) H2) E := fun x dx hx hdx ne =>
  ⟨x, l, dx, h, xs, st, H, rfl, upd_same, hx, (Same.of_upd hdx).trans (Same.of_upd (by rw [upd_ne ne.symm]; exact hx)), hl, hs, hf, fun H' s wa => ⟨rfl, k x H' s wa⟩⟩
theorem StepsAt.app {C : Addr} {H : Hp} : ∀ {s r : List M.Step} {xs ys : List V}, StepsAt C H s xs → StepsAt C H r ys → StepsAt C H (s ++ r) (xs ++ ys)
  | [], r, xs, ys, a, b => by
    unfold StepsAt at a
    subst a
    exact b
  | x :: s, r, xs, ys, a, b => by
    unfold StepsAt at a
    obtain ⟨u, us, rfl, h1, h2⟩ := a
    show StepsAt C H (x :: (s ++ r)) (u :: (us ++ ys))
    unfold StepsAt
    exact ⟨u, us ++ ys, rfl, h1, h2.app b⟩
theorem StepsAt.ne {C : Addr} {H : Hp} {s : List M.Step} {xs : List V} (h : StepsAt C H s xs) (n : 1 ≤ s.length) : xs ≠ [] := fun e => by
  have := h.len
  rw [e] at this
  simp at this
  rw [← this] at n
  simp at n
theorem StepsAt.take {C : Addr} {H : Hp} : ∀ {s : List M.Step} {xs : List V} (i : Nat), StepsAt C H s xs → StepsAt C H (s.take i) (xs.take i)
  | s, xs, 0, _ => by
    rw [List.take_zero, List.take_zero]
    unfold StepsAt
    rfl
  | [], xs, i + 1, h => by
    unfold StepsAt at h
    subst h
    unfold StepsAt
    rfl
  | y :: s, xs, i + 1, h => by
    unfold StepsAt at h
    obtain ⟨u, us, rfl, h1, h2⟩ := h
    rw [List.take_succ_cons, List.take_succ_cons]
    unfold StepsAt
    exact ⟨u, us.take i, rfl, h1, h2.take i⟩
theorem StepsAt.drop {C : Addr} {H : Hp} : ∀ {s : List M.Step} {xs : List V} (i : Nat), StepsAt C H s xs → StepsAt C H (s.drop i) (xs.drop i)
  | s, xs, 0, h => by
    rw [List.drop_zero, List.drop_zero]
    exact h
  | [], xs, i + 1, h => by
    unfold StepsAt at h
    subst h
    unfold StepsAt
    rfl
  | y :: s, xs, i + 1, h => by
    unfold StepsAt at h
    obtain ⟨u, us, rfl, h1, h2⟩ := h
    rw [List.drop_succ_cons, List.drop_succ_cons]
    exact h2.drop i
theorem sl_any {K : PySem.W.Frag} {H : Hp} {Q : VK} {t : Addr} {xs : List V} {lo hi : Option Int} (h : H t = some (.tup xs)) (k : ∀ u G, Same H G → G u = some (.tup (cutV xs lo hi)) → Q (.ref u) G) : rSlA K (.ref t) lo hi H Q :=
  ⟨t, xs, rfl, SqT.of h, fun z => k t H (Same.refl H) (by
    unfold cutV
    rw [z.1, z.2, List.drop_zero, Nat.sub_zero, List.take_length]
    exact h), fun _ p hp => k p _ (Same.of_upd hp) upd_same⟩
theorem catA_own {K : PySem.W.Frag} {H : Hp} {Q : VK} {a b : Addr} {xs ys : List V} (ha : H a = some (.tup xs)) (hb : H b = some (.tup ys)) (hl : xs.length + ys.length ≤ sizeLine) (k : ∀ c H', Same H H' → H' c = some (.tup (xs ++ ys)) → Q (.ref c) H') : rCatA K (.ref a) (.ref b) H Q :=
  ⟨a, b, xs, ys, rfl, rfl, SqT.of ha, SqT.of hb, hl, fun z => k b H (Same.refl H) (by rw [z]; exact hb), fun _ z => k a H (Same.refl H) (by rw [z, List.append_nil]; exact ha), fun _ _ p hp => k p _ (Same.of_upd hp) upd_same⟩
theorem cut_lo (xs : List V) (k : Nat) : cutV xs (some (k : Int)) none = xs.drop k := Y.cut_from xs k
theorem cut_hi (xs : List V) (k : Nat) : cutV xs none (some (k : Int)) = xs.take k := by
  unfold cutV
  rw [HT.sIx_nat, HT.sIx_none, List.drop_zero, Nat.sub_zero]
  by_cases h : k ≤ xs.length
  · rw [Nat.min_eq_left h]
  · rw [Nat.min_eq_right (by omega), List.take_of_length_le (Nat.le_refl _), List.take_of_length_le (by omega)]
section
variable {P : Program} {w : World} {K : PySem.W.Frag} {mg : Str → Option Value} {base : Heap} {C : Addr}
def spLenW (C : Addr) : Sp := fun vs H Q _ => ∃ a wy, vs = [.ref a] ∧ WayAt C H wy a ∧ Q (.int ((M.Way.steps wy).length : Nat)) H
theorem scLW : FnScope ["self"] ["self"] (defScope sLen) := ⟨rfl, rfl, rfl, by decide +kernel, rfl, by decide +kernel, by decide +kernel⟩
theorem ok_len {f : Addr} {fd : FuncData} (F : Fun K "__len__" "Way.__len__" sLen f fd) (B : Bn mg) (T : Wt K mg C) : FnOk P w K mg base CX0 1 f fd ["self"] (spLenW C) := by
  refine F.ok scLW (fun vs H Q E h => ?_) (fun cdv A outer s H vs Q E hr h => ?_)
  · obtain ⟨a, wy, rfl, _⟩ := h
    rfl
  · obtain ⟨a, wy, rfl, hw, k⟩ := h
    obtain ⟨dx, fs, t, xs, h1, h2, h3, h4⟩ := steps_fld hw
    refine ⟨_, pss_one (ps_ret (pe_callB call_len_seq (by rfl) B.len PySem.boot_len (pa_cons (pe_fld (pv 0) rfl) pa_nil))), ?_⟩
    refine ⟨_, rfl, a, C, dx, fs, _, rfl, h1, T.cl, T.nS, h2, t, xs, rfl, .inr (SqT.of h3), ?_⟩
    rw [h4.len]
    exact k
end
theorem line2 : 2 ≤ sizeLine ∧ 3 ≤ sizeLine ∧ 1 ≤ sizeLine ∧ 0 ≤ sizeLine := by decide
theorem catT_of {K : PySem.W.Frag} {H : Hp} {a b : Addr} {xs ys : List V} {Q : VK} (ha : H a = some (.tup xs)) (hb : H b = some (.tup ys)) (ne : xs ≠ []) (hl : xs.length + ys.length ≤ sizeLine) (k : ∀ u G, Same H G → G u = some (.tup (xs ++ ys)) → Q (.ref u) G) : rCatT K (.ref a) (.ref b) H Q :=
  ⟨a, b, xs, ys, rfl, rfl, SqT.of ha, SqT.of hb, ne, hl, fun e => k a H (Same.refl _) (by rw [e, List.append_nil]; exact ha), fun _ p hp => k p _ (Same.of_upd hp) upd_same⟩
theorem depth_pos (wy : M.Way) : 1 ≤ wy.depth := M.depth_pos wy
end WP

end
section
set_option autoImplicit false
set_option Elab.async false
set_option linter.all false
set_option maxRecDepth 100000
set_option maxHeartbeats 4000000
/-! ## != of an own class that says only == -/
namespace WO
open PySem PySem.Spec PyProof.Rows L2
section
variable {prog : Program} {w : World} {A : Around} {E : Value → Shared → Prop} {s : Shared} {K : PySem.W.Frag} {x y C f : Addr} {ox : Obj} {od : Option Obj}
theorem bound_ne {M : Model} {args : List Value} {Q : Option Value → Shared → Prop} (X : K.In s.heap) (I : PySem.W.InstAt s.heap x ox C od) (hs : PySem.W.findIn K (.ref C) "__ne__" = some (some (.builtin "object.__ne__")))
    (h : wpAny M A (call (.builtin "object.__ne__") (.ref x :: args)) (fun v => Q (some v)) E s) : wpAny M A (callSpecialIfBound? (.ref x) "__ne__" args) Q E s := by
  simp only [callSpecialIfBound?, bindSpecialIfBound?]
  refine wpAny_holding (wpAny_bind (wpAny_bind (wpAny_bind (I.type.here ((PySem.W.looks_findIn X hs).here ?_)))))
  refine wpAny_bind (wpAny_askSetting (wpAny_ite ?_))
  have e : wpAny M A (call (.builtin "object.__ne__") ([.ref x] ++ args) >>= fun v => pure (some v)) Q E s := wpAny_bind (wpAny_mono h (fun v s' q => wpAny_pure q) fun _ _ q => q)
  split
  · exact wpAny_bind (wpAny_of_eq (F.cmp_object.ne.bind _) (wpAny_pure (by exact e)))
  · exact wpAny_tryCatch (wpAny_bind (wpAny_of_eq (F.cmp_object.ne.bind _) (wpAny_pure (by exact e))))
theorem entry_ne {Q : Fin → Shared → Prop} (hu : A.units < cLine) (X : K.In s.heap) (I : PySem.W.InstAt s.heap x ox C od) (he : PySem.W.findIn K (.ref C) "__eq__" = some (some (.ref f))) (hf : PySem.W.isFn K (.ref f) = true)
    (h : wpAny (model prog w) A (call (.ref f) [.ref x, .ref y]) (fun v s' => ∃ b, v = .bool b ∧ Q (.done (.ret (.bool (!b)))) s') E s) : wpAny (model prog w) A (Builtin.«object.__ne__» ⟨[.ref x, .ref y], []⟩) Q E s := by
  unfold Builtin.«object.__ne__»
  repeat (first
    | with_reducible refine wpAny_cRoomFor hu ?_
    | (refine wpAny_bind (m := callSpecialIfBound? (.ref x) (Str.ofString "__eq__") [.ref y]) (PySem.W.ifBound_K X I he hf (wpAny_mono h (fun r s' hr => by
          obtain ⟨b, rfl, hq⟩ := hr
          repeat (first | exact hq | exact wpAny_pure hq | exact wpAny_truthy_bool hq | (refine wpAny_bind (m := truthy (.bool _)) (wpAny_truthy_bool ?_)) | wp_step)) fun _ _ e => e)))
    | wp_step)
theorem rich_ne {Q : Value → Shared → Prop} (hu : A.units + 1 < cLine) (X : K.In s.heap) (I : PySem.W.InstAt s.heap x ox C od) (hy : PySem.W.Looks (model prog w) s.heap (typeOf (.ref y)) (.ref C)) (hm : PySem.W.mroIn K C (.type "object") = some true)
    (hs : PySem.W.findIn K (.ref C) "__ne__" = some (some (.builtin "object.__ne__"))) (he : PySem.W.findIn K (.ref C) "__eq__" = some (some (.ref f))) (hf : PySem.W.isFn K (.ref f) = true)
    (h : wpAny (model prog w) A.in1 (call (.ref f) [.ref x, .ref y]) (fun v s' => ∃ b, v = .bool b ∧ Q (.bool (!b)) s') E s) : wpAny (model prog w) A (richCompare .NotEq (.ref x) (.ref y)) Q E s := by
  have one : wpAny (model prog w) A (tryCompare (.ref x) "__ne__" (.ref y)) (fun r s' => ∃ v, r = some v ∧ Q v s') E s := by
    unfold tryCompare
    refine wpAny_bind (bound_ne X I hs (wpAny_call (codeAny_call_builtin F.cmp_object.ne.plain F.cmpEntry_ne (PySem.W.check_slot F.cmpKind_ne F.cmpSplit_ne (I.type.andThen (PySem.W.looks_mroIn X hm)) (F.cmpArgs_ne _ _)
      (entry_ne (A := A.in1) hu X I he hf (wpAny_mono h (fun v s' hv => ?_) fun _ _ e => e))))))
    obtain ⟨b, rfl, hq⟩ := hv
    exact ⟨b, rfl, wpAny_pure ⟨_, rfl, hq⟩⟩
  unfold richCompare
  simp only [oneThing_ref]
  refine wpAny_holding (wpAny_bind (wpAny_cRoomFor (Nat.lt_of_succ_lt hu) ?_))
  refine wpAny_bind (I.type.here (wpAny_bind (hy.here ?_)))
  split
  · rename_i q
    simp at q
  · refine wpAny_bind (wpAny_pure ?_)
    simp only [Bool.false_eq_true, if_false]
    refine wpAny_bind (wpAny_mono one (fun r s' z => ?_) fun _ _ e => e)
    obtain ⟨v, rfl, hq⟩ := z
    exact wpAny_pure hq
end
section
variable {X : Cx} {CX : CXT} {n : Nat} {C f : Addr} {fd : FuncData} {ps : List Str} {sp : Sp} {E : XK}
/-- != by the own __eq__ -/
def rNeO (C : Addr) (sp : Sp) (E : XK) : R2 := fun x y H Q => ∃ a b, x = .ref a ∧ y = .ref b ∧ InsC C H a ∧ InsC C H b ∧ sp [.ref a, .ref b] H (fun v H1 => ∃ c, v = .bl c ∧ Q (.bl (!c)) H1) E
theorem op_neO (F : FnOk X.prog X.w X.K X.mg X.base CX n f fd ps sp) (hr : Room (n + 1) X.A) (O : Own X.K C f "__eq__") (hm : PySem.W.mroIn X.K C (.type "object") = some true) (hs : PySem.W.findIn X.K (.ref C) "__ne__" = some (some (.builtin "object.__ne__")))
    (hb : Binds X.K fd ps []) (hx : Passes CX X E) : OpR X (compareOp .NotEq) (rNeO C sp E) := by
  intro pins s σ H x y v u Q I rx ry h
  obtain ⟨a, b, rfl, rfl, ⟨dx, fs, ha⟩, ⟨dy, gs, hb'⟩, hsp⟩ := h
  cases rx
  cases ry
  obtain ⟨_, J, _⟩ := ins_get I.hok ha
  obtain ⟨_, J', _⟩ := ins_get I.hok hb'
  obtain ⟨od, J, _⟩ := J.look
  obtain ⟨od', J', _⟩ := J'.look
  show wpAny (model X.prog X.w) X.A (richCompare .NotEq (.ref a) (.ref b)) (EP X pins σ Q) X.xe s
  refine rich_ne hr.in1.units0 I.kIn J J'.type hm hs O.at' O.fn (run_own F (A := X.A.in1) (xs := [.ref a, .ref b]) ⟨hr.in1, rfl⟩ hb hx I (.cons rfl (.cons rfl .nil)) hsp fun z u H1 s1 I1 rz q => ?_)
  obtain ⟨c, rfl, q⟩ := q
  cases rz
  exact ⟨c, rfl, .bl (!c), H1, I1, rfl, q⟩
end
end WO

end
section
set_option autoImplicit false
set_option Elab.async false
set_option linter.all false
set_option maxRecDepth 100000
set_option maxHeartbeats 4000000
/-! ## == and != of tuples with own objects among their items; ways against ways -/
namespace NQ
open PySem PySem.Spec PyProof.Rows L2
open AutoSeq1 (wpAny_loadPart')
section
variable {prog : Program} {w : World} {A : Around} {R : Result → Shared → Prop}
theorem ne_run {a b : Addr} {ia ib : Array Value} {ka kb : Nat} {da db : Option Addr} {sa sb : Array (Option Value)} (sz : ia.size = ib.size) (J : Nat → Shared → Prop)
    (step : ∀ k (p : k < ia.size) (q : k < ib.size) t, J k t → wpAny (model prog w) A.in1 (eqBool ia[k] ib[k]) (fun r t' => r = true ∧ J (k + 1) t') (fun e t' => R (.error e) t') t)
    (stop : ∀ t, J ia.size t → R (.ok (.ret (.bool false))) t) {t : Shared} (ga : t.heap.get? a = some { cls := .type "tuple", dict := da, data := .seq ia ka, slots := sa })
    (gb : t.heap.get? b = some { cls := .type "tuple", dict := db, data := .seq ib kb, slots := sb }) (go : J 0 t) :
    wpAny (model prog w) A.in1 (Builtin.«tuple.__ne__» ⟨[.ref a, .ref b], []⟩) (GQ.FinOf prog w A R) (fun e t' => R (.error e) t') t := by
  have sub := AutoSeq1.sub_tuple_tuple
  have zl : (ia.toList.zip ib.toList).length = ia.size := by simp [sz]
  have go' := go
  obtain ⟨t1, t2, t3, t4, t5⟩ := t
  wp_walk using wpAny_loadPart' ga, wpAny_loadPart' gb, wpAny_forIn_list _ (fun more z t' => z.1 = none ∧ ∃ k, more = (ia.toList.zip ib.toList).drop k ∧ k ≤ ia.size ∧ J k t') _
  case turn =>
    rintro ⟨u, v⟩ more z t' ⟨hz, k, em, hk, hJ⟩
    have kl : k < (ia.toList.zip ib.toList).length := Nat.lt_of_not_le fun g => by
      rw [List.drop_of_length_le g] at em
      cases em
    have k1 : k < ia.size := zl ▸ kl
    have k2 : k < ib.size := sz ▸ k1
    rw [List.drop_eq_getElem_cons kl] at em
    injection em with e1 e2
    have eu : u = ia[k] := by simpa using congrArg Prod.fst e1
    have ev : v = ib[k] := by simpa using congrArg Prod.snd e1
    subst eu ev
    refine wpAny_bind (wpAny_mono (step k k1 k2 t' hJ) (fun r t2 q2 => ?_) fun _ _ x => x)
    obtain ⟨er, q2⟩ := q2
    subst er
    wp_walk
    exact ⟨rfl, k + 1, e2, k1, q2⟩
  case fin =>
    rintro ⟨z1, z2⟩ t' ⟨hz, k, em, hk, hJ⟩
    simp only at hz
    subst hz
    have kg : ia.size ≤ k := Nat.le_of_not_lt fun g => by
      rw [List.drop_eq_getElem_cons (zl.symm ▸ g)] at em
      cases em
    have ek : k = ia.size := Nat.le_antisymm hk kg
    have done := stop t' (ek ▸ hJ)
    wp_walk
    simpa [Builtin.Tuple.tupleCompareSizes, sz] using done
  case h =>
    exact ⟨rfl, 0, rfl, Nat.zero_le _, go'⟩
end
section
variable {prog : Program} {w : World} {A : Around} {E : Value → Shared → Prop} {t : Shared}
theorem rc_ne {a b : Addr} {ia ib : Array Value} {Q : Value → Shared → Prop} (sz : ia.size = ib.size) (hu : A.units < cLine) (J : Nat → Shared → Prop) (ta : t.heap.IsTuple a ia) (tb : t.heap.IsTuple b ib)
    (step : ∀ k (p : k < ia.size) (q : k < ib.size) t, J k t → wpAny (model prog w) A.in1 (eqBool ia[k] ib[k]) (fun r t' => r = true ∧ J (k + 1) t') E t)
    (stop : ∀ t, J ia.size t → Q (.bool false) t) (go : J 0 t) : wpAny (model prog w) A (richCompare .NotEq (.ref a) (.ref b)) Q E t := by
  obtain ⟨⟨ca, da, pa, sa⟩, ga, qa, na, va⟩ := id ta
  obtain ⟨⟨cb, db, pb, sb⟩, gb, qb, nb, vb⟩ := id tb
  simp only at qa va qb vb
  subst qa va qb vb
  refine wpAny_richCompare_same_room (op := .NotEq) ⟨_, ga, rfl⟩ ⟨_, gb, rfl⟩ F.slot_tuple_ne (GQ.call_here F.slot_tuple_ne ⟨_, ga, rfl⟩ F.entry_tuple_ne (F.args_tuple_ne_2 _ _) ?_) hu
  exact ne_run (R := wants (fun v t' => v ≠ .notImplemented ∧ Q v t') E) sz J step (fun t' q => ⟨(fun x => nomatch x), stop t' q⟩) ga gb go
end
section
variable {X : Cx} {n : Nat} {D : Eqv}
/-- x != y of tuples that are equal item by item -/
def rNeT (K : PySem.W.Frag) (D : Eqv) : R2 := fun x y H Q => DTup K D x y H ∧ ∀ H', Ext H H' → Q (.bl false) H'
theorem op_neT (hD : Mon D) (h : EqG X n D) (hr : Room (n + 1) X.A) : OpR X (compareOp .NotEq) (rNeT X.K D) := by
  intro pins s σ H x y v u Q I rx ry hq
  obtain ⟨⟨a, b, xs, ys, rfl, rfl, ha, hb, p⟩, q⟩ := hq
  cases rx
  cases ry
  obtain ⟨ia, ra, ea, -⟩ := I.tuple ha
  obtain ⟨ib, rb, eb, -⟩ := I.tuple hb
  have sz : ia.toArray.size = ib.toArray.size := by
    have := p.1
    rw [ra.length, rb.length] at this
    rw [List.size_toArray, List.size_toArray]
    exact this
  show wpAny (model X.prog X.w) X.A (richCompare .NotEq (.ref a) (.ref b)) (EP X pins σ Q) X.xe s
  refine rc_ne sz hr.units0 (fun _ t => LoopI X pins σ H t) ea eb (fun i h1 h2 t l => turnG hD h ⟨hr, rfl⟩ p ra rb i h1 h2 t l) (fun t l => ?_) ⟨H, I, Ext.rfl'⟩
  obtain ⟨H1, I1, x1⟩ := l
  exact ⟨.bl false, H1, I1, rfl, q H1 x1⟩
end
end NQ
namespace EB
open PySem PySem.Spec PyProof.Rows L2
open AutoSeq1 (wpAny_loadPart')
section
variable {prog : Program} {w : World} {A : Around} {R : Result → Shared → Prop}
theorem eq_run {a b : Addr} {ia ib : Array Value} {ka kb : Nat} {da db : Option Addr} {sa sb : Array (Option Value)} (J : Nat → Shared → Prop)
    (step : ∀ k (p : k < ia.size) (q : k < ib.size) t, J k t → wpAny (model prog w) A.in1 (eqBool ia[k] ib[k]) (fun r t' => (r = true ∧ J (k + 1) t') ∨ (r = false ∧ R (.ok (.ret (.bool false))) t')) (fun e t' => R (.error e) t') t)
    (stop : ∀ t, J (min ia.size ib.size) t → R (.ok (.ret (.bool (ia.size == ib.size)))) t) {t : Shared} (ga : t.heap.get? a = some { cls := .type "tuple", dict := da, data := .seq ia ka, slots := sa })
    (gb : t.heap.get? b = some { cls := .type "tuple", dict := db, data := .seq ib kb, slots := sb }) (go : J 0 t) :
    wpAny (model prog w) A.in1 (Builtin.«tuple.__eq__» ⟨[.ref a, .ref b], []⟩) (GQ.FinOf prog w A R) (fun e t' => R (.error e) t') t := by
  have sub := AutoSeq1.sub_tuple_tuple
  have zl : (ia.toList.zip ib.toList).length = min ia.size ib.size := by simp
  have go' := go
  obtain ⟨t1, t2, t3, t4, t5⟩ := t
  wp_walk using wpAny_loadPart' ga, wpAny_loadPart' gb, wpAny_forIn_list _ (fun more z t' => z.1 = none ∧ ∃ k, more = (ia.toList.zip ib.toList).drop k ∧ k ≤ min ia.size ib.size ∧ J k t') _
  case turn =>
    rintro ⟨u, v⟩ more z t' ⟨hz, k, em, hk, hJ⟩
    have kl : k < (ia.toList.zip ib.toList).length := Nat.lt_of_not_le fun g => by
      rw [List.drop_of_length_le g] at em
      cases em
    have k0 : k < min ia.size ib.size := zl ▸ kl
    have k1 : k < ia.size := Nat.lt_of_lt_of_le k0 (Nat.min_le_left _ _)
    have k2 : k < ib.size := Nat.lt_of_lt_of_le k0 (Nat.min_le_right _ _)
    rw [List.drop_eq_getElem_cons kl] at em
    injection em with e1 e2
    have eu : u = ia[k] := by simpa using congrArg Prod.fst e1
    have ev : v = ib[k] := by simpa using congrArg Prod.snd e1
    subst eu ev
    refine wpAny_bind (wpAny_mono (step k k1 k2 t' hJ) (fun r t2 q2 => ?_) fun _ _ x => x)
    rcases q2 with ⟨er, q2⟩ | ⟨er, q2⟩
    · subst er
      wp_walk
      exact ⟨rfl, k + 1, e2, k0, q2⟩
    · subst er
      wp_walk
      exact q2
  case fin =>
    rintro ⟨z1, z2⟩ t' ⟨hz, k, em, hk, hJ⟩
    simp only at hz
    subst hz
    have kg : min ia.size ib.size ≤ k := Nat.le_of_not_lt fun g => by
      rw [List.drop_eq_getElem_cons (zl.symm ▸ g)] at em
      cases em
    have ek : k = min ia.size ib.size := Nat.le_antisymm hk kg
    have done := stop t' (ek ▸ hJ)
    wp_walk
    simpa [Builtin.Tuple.tupleCompareSizes] using done
  case h =>
    exact ⟨rfl, 0, rfl, Nat.zero_le _, go'⟩
end
section
variable {prog : Program} {w : World} {A : Around} {E : Value → Shared → Prop} {t : Shared}
theorem rc_eq {a b : Addr} {ia ib : Array Value} {Q : Value → Shared → Prop} (hu : A.units < cLine) (J : Nat → Shared → Prop) (ta : t.heap.IsTuple a ia) (tb : t.heap.IsTuple b ib)
    (step : ∀ k (p : k < ia.size) (q : k < ib.size) t, J k t → wpAny (model prog w) A.in1 (eqBool ia[k] ib[k]) (fun r t' => (r = true ∧ J (k + 1) t') ∨ (r = false ∧ Q (.bool false) t')) E t)
    (stop : ∀ t, J (min ia.size ib.size) t → Q (.bool (ia.size == ib.size)) t) (go : J 0 t) : wpAny (model prog w) A (richCompare .Eq (.ref a) (.ref b)) Q E t := by
  obtain ⟨⟨ca, da, pa, sa⟩, ga, qa, na, va⟩ := id ta
  obtain ⟨⟨cb, db, pb, sb⟩, gb, qb, nb, vb⟩ := id tb
  simp only at qa va qb vb
  subst qa va qb vb
  refine wpAny_richCompare_same_room (op := .Eq) ⟨_, ga, rfl⟩ ⟨_, gb, rfl⟩ F.slot_tuple_eq (GQ.call_here F.slot_tuple_eq ⟨_, ga, rfl⟩ F.entry_tuple_eq (F.args_tuple_eq_2 _ _) ?_) hu
  refine eq_run (R := wants (fun v t' => v ≠ .notImplemented ∧ Q v t') E) J (fun k p q t j => wpAny_mono (step k p q t j) (fun r t' h => h.imp id fun h => ⟨h.1, (fun x => nomatch x), h.2⟩) fun _ _ x => x) (fun t' q => ⟨(fun x => nomatch x), stop t' q⟩) ga gb go
end
/-- how two values compare, by the abstract heap -/
abbrev Cmp := V → V → Bool → Hp → Prop
def MonB (D : Cmp) : Prop := ∀ x y c H H', Ext H H' → D x y c H → D x y c H'
def EqB (X : Cx) (n : Nat) (D : Cmp) : Prop :=
  ∀ (A : Around) (pins : List (Addr × Obj)) (s : Shared) (σ : L2.St) (H : Hp) (x y : V) (u v : Value) (c : Bool), Sub X n A → Inv X pins σ H s → RelV x u → RelV y v → D x y c H →
    wpAny (model X.prog X.w) A (eqBool u v) (fun r s' => r = c ∧ ∃ H', Inv X pins σ H' s' ∧ Ext H H') X.xe s
def RcB (X : Cx) (n : Nat) (D : Cmp) : Prop :=
  ∀ (A : Around) (pins : List (Addr × Obj)) (s : Shared) (σ : L2.St) (H : Hp) (x y : V) (u v : Value) (c : Bool), Sub X n A → Inv X pins σ H s → RelV x u → RelV y v → D x y c H →
    wpAny (model X.prog X.w) A (richCompare .Eq u v) (fun r s' => r = .bool c ∧ ∃ H', Inv X pins σ H' s' ∧ Ext H H') X.xe s
def BFlat : Cmp := fun x y c _ => flatV x = true ∧ flatV y = true ∧ eqV x y = c
structure PrB (D : Cmp) (xs ys : List V) (cs : List Bool) (H : Hp) : Prop where
  len : cs.length = min xs.length ys.length
  at' : ∀ (i : Nat) x y c, (∀ j, j < i → cs[j]? = some true) → xs[i]? = some x → ys[i]? = some y → cs[i]? = some c → D x y c H
def BTup (K : PySem.W.Frag) (D : Cmp) : Cmp := fun x y c H => ∃ a b xs ys cs, x = .ref a ∧ y = .ref b ∧ SqT K H a xs ∧ SqT K H b ys ∧ PrB D xs ys cs H ∧ c = (cs.all id && decide (xs.length = ys.length))
/-- the same object is equal to itself -/
def BSm (D : Cmp) : Cmp := fun x y c H => D x y c H ∧ (x = y → c = true)
section
variable {X : Cx} {n m : Nat} {D D' : Cmp}
theorem mon_flat : MonB BFlat := fun _ _ _ _ _ _ d => d
theorem mon_sm (h : MonB D) : MonB (BSm D) := fun x y c H H' e d => ⟨h x y c H H' e d.1, d.2⟩
theorem mon_tup {K : PySem.W.Frag} (h : MonB D) : MonB (BTup K D) := fun x y c H H' e d => by
  obtain ⟨a, b, xs, ys, cs, hx, hy, h1, h2, p, hc⟩ := d
  exact ⟨a, b, xs, ys, cs, hx, hy, h1.ext e, h2.ext e, ⟨p.len, fun i x y c g0 g1 g2 g3 => h x y c H H' e (p.at' i x y c g0 g1 g2 g3)⟩, hc⟩
theorem mon_or (h : MonB D) (h' : MonB D') : MonB (fun x y c H => D x y c H ∨ D' x y c H) := fun x y c H H' e d => d.elim (fun d => .inl (h x y c H H' e d)) fun d => .inr (h' x y c H H' e d)
theorem eqB_flat : EqB X 0 BFlat := by
  intro A pins s σ H x y u v c sb I rx ry d
  obtain ⟨fx, fy, e⟩ := d
  have q := eqAt_V (A := A) (s := s) rx ry fx fy
  rw [e] at q
  exact q X.prog X.w X.xe _ ⟨rfl, H, I, Ext.rfl'⟩
theorem EqB.or (h : EqB X n D) (h' : EqB X n D') : EqB X n (fun x y c H => D x y c H ∨ D' x y c H) := fun A pins s σ H x y u v c sb I rx ry d => by
  rcases d with d | d
  · exact h A pins s σ H x y u v c sb I rx ry d
  · exact h' A pins s σ H x y u v c sb I rx ry d
theorem EqB.mono (h : EqB X n D) (hn : n ≤ m) : EqB X m D := fun A pins s σ H x y u v c sb => h A pins s σ H x y u v c (sb.mono hn)
theorem rcB_tup (hD : MonB D) (h : EqB X n D) : RcB X (n + 1) (BTup X.K D) := by
  intro A pins s σ H x y u v c sb I rx ry d
  obtain ⟨a, b, xs, ys, cs, rfl, rfl, ha, hb, p, hc⟩ := d
  cases rx
  cases ry
  obtain ⟨ia, ra, ea, -⟩ := I.tuple ha
  obtain ⟨ib, rb, eb, -⟩ := I.tuple hb
  have za : ia.toArray.size = xs.length := by rw [List.size_toArray, ra.length]
  have zb : ib.toArray.size = ys.length := by rw [List.size_toArray, rb.length]
  refine rc_eq sb.room.units0 (fun k t => (∀ j, j < k → cs[j]? = some true) ∧ LoopI X pins σ H t) ea eb (fun k k1 k2 t j => ?_) (fun t j => ?_) ⟨fun j hj => by omega, H, I, Ext.rfl'⟩
  · obtain ⟨j0, H1, I1, x1⟩ := j
    have q1 : k < xs.length := by omega
    have q2 : k < ys.length := by omega
    have q3 : k < cs.length := by rw [p.len]; omega
    obtain ⟨u, hu, ru⟩ := ra.get (List.getElem?_eq_getElem q1)
    obtain ⟨v, hv, rv⟩ := rb.get (List.getElem?_eq_getElem q2)
    have g1 : ia[k]? = some ia.toArray[k] := by simp
    have g2 : ib[k]? = some ib.toArray[k] := by simp
    rw [g1] at hu
    rw [g2] at hv
    rw [Option.some.inj hu, Option.some.inj hv]
    refine wpAny_mono (h A.in1 pins t σ H1 _ _ u v cs[k] sb.in1 I1 ru rv (hD _ _ _ _ _ x1 (p.at' k _ _ _ j0 (List.getElem?_eq_getElem q1) (List.getElem?_eq_getElem q2) (List.getElem?_eq_getElem q3)))) (fun r t2 q => ?_) fun _ _ x => x
    obtain ⟨hr, H2, I2, x2⟩ := q
    cases ec : cs[k] with
    | true =>
      refine .inl ⟨hr.trans ec, fun j hj => ?_, H2, I2, x1.trans x2⟩
      by_cases z : j = k
      · rw [z, List.getElem?_eq_getElem q3, ec]
      · exact j0 j (by omega)
    | false =>
      refine .inr ⟨hr.trans ec, ?_, H2, I2, x1.trans x2⟩
      have : cs.all id = false := by
        rw [List.all_eq_false]
        exact ⟨cs[k], List.getElem_mem q3, by rw [ec]; decide⟩
      rw [hc, this]
      rfl
  · obtain ⟨j0, l⟩ := j
    refine ⟨?_, l⟩
    have : cs.all id = true := by
      rw [List.all_eq_true]
      intro z hz
      obtain ⟨i, hi, rfl⟩ := List.getElem_of_mem hz
      have := j0 i (by rw [p.len] at hi; omega)
      rw [List.getElem?_eq_getElem hi] at this
      exact Option.some.inj this
    rw [hc, this, Bool.true_and, za, zb]
    congr 1
theorem RcB.eqB (h : RcB X n D) (hr : ∀ x y c H, D x y c H → ∃ a b, x = .ref a ∧ y = .ref b) : EqB X n (BSm D) := by
  intro A pins s σ H x y u v c sb I rx ry d
  obtain ⟨d, hs⟩ := d
  obtain ⟨a, b, rfl, rfl⟩ := hr _ _ _ _ d
  cases rx
  cases ry
  by_cases hab : a = b
  · subst hab
    rw [hs rfl]
    exact SeqAt.EqAt.same (A := A) (s := s) (.ref a) X.prog X.w X.xe _ ⟨rfl, H, I, Ext.rfl'⟩
  · refine GQ.eqBool_refG hab (wpAny_mono (h A pins s σ H (.ref a) (.ref b) _ _ c sb I rfl rfl d) (fun r s' q => ?_) fun _ _ x => x)
    exact ⟨c, q.1, rfl, q.2⟩
theorem eqB_tup (hD : MonB D) (h : EqB X n D) : EqB X (n + 1) (BSm (BTup X.K D)) := (rcB_tup hD h).eqB fun _ _ _ _ d => let ⟨a, b, _, _, _, hx, hy, _⟩ := d; ⟨a, b, hx, hy⟩
/-- x == y as an expression -/
def rEqB (D : Cmp) : R2 := fun x y H Q => ∃ c, D x y c H ∧ ∀ H', Ext H H' → Q (.bl c) H'
theorem op_eqB (h : RcB X n D) (hr : Room n X.A) : OpR X (compareOp .Eq) (rEqB D) := by
  intro pins s σ H x y v u Q I rx ry hq
  obtain ⟨c, d, q⟩ := hq
  show wpAny (model X.prog X.w) X.A (richCompare .Eq v u) (EP X pins σ Q) X.xe s
  refine wpAny_mono (h X.A pins s σ H x y v u c ⟨hr, rfl⟩ I rx ry d) (fun r t z => ?_) fun _ _ x => x
  obtain ⟨e, H1, I1, x1⟩ := z
  subst e
  exact ⟨.bl c, H1, I1, rfl, q H1 x1⟩
end
end EB
namespace CP
open PySem L2 G Y
mutual
/-- a plan as data -/
def dWay : M.Way → PyData
  | .mk h s => .tuple [.int (h : Int), .tuple (dSteps s)]
def dSteps : List M.Step → List PyData
  | [] => []
  | s :: r => dStep s :: dSteps r
def dStep : M.Step → PyData
  | .road size ts lw => .tuple [.str "road", .int (size : Int), .str (WP.sdS ts), .str (WP.lwS lw)]
  | .join most => .tuple [.str "join", .int (most : Int)]
  | .tunnel w most t => .tuple [.str "tunnel", dWay w, .int (most : Int), .str (WP.twS t)]
end
theorem lay_words : (∀ ts, (PyData.str (WP.sdS ts)).canLay0 = true) ∧ (∀ lw, (PyData.str (WP.lwS lw)).canLay0 = true) ∧ (∀ t, (PyData.str (WP.twS t)).canLay0 = true) ∧ (PyData.str "road").canLay0 = true ∧ (PyData.str "join").canLay0 = true ∧ (PyData.str "tunnel").canLay0 = true := by
  refine ⟨fun ts => ?_, fun lw => ?_, fun t => ?_, by decide +kernel, by decide +kernel, by decide +kernel⟩
  · cases ts <;> decide +kernel
  · cases lw <;> decide +kernel
  · cases t <;> decide +kernel
mutual
theorem lay_way : ∀ w : M.Way, (dWay w).canLay0 = true ∧ (dWay w).depth ≤ 3 * w.depth
  | .mk h s => by
    obtain ⟨a, b⟩ := lay_steps s
    unfold dWay M.Way.depth
    refine ⟨by simp only [PyData.canLay0, PyData.canLayAll0, a, Bool.and_self], ?_⟩
    simp only [PyData.depth, PyData.depthAll]
    omega
theorem lay_steps : ∀ s : List M.Step, PyData.canLayAll0 (dSteps s) = true ∧ PyData.depthAll (dSteps s) ≤ 3 * M.Step.deepest s + 1
  | [] => by
    unfold dSteps
    exact ⟨rfl, by simp only [PyData.depthAll]; omega⟩
  | y :: r => by
    obtain ⟨a, b⟩ := lay_step y
    obtain ⟨c, d⟩ := lay_steps r
    unfold dSteps
    rw [M.deep_cons]
    refine ⟨by simp only [PyData.canLayAll0, a, c, Bool.and_self], ?_⟩
    simp only [PyData.depthAll]
    omega
theorem lay_step : ∀ s : M.Step, (dStep s).canLay0 = true ∧ (dStep s).depth ≤ 3 * M.Step.dep s + 1
  | .road size ts lw => by
    unfold dStep
    refine ⟨by simp only [PyData.canLayAll0, show ∀ l, (PyData.tuple l).canLay0 = PyData.canLayAll0 l from fun l => by simp only [PyData.canLay0], lay_words.1, lay_words.2.1, lay_words.2.2.2.1, show (PyData.int (size : Int)).canLay0 = true from rfl, Bool.and_self], ?_⟩
    simp only [PyData.depth, PyData.depthAll]
    omega
  | .join most => by
    unfold dStep
    refine ⟨by simp only [PyData.canLayAll0, show ∀ l, (PyData.tuple l).canLay0 = PyData.canLayAll0 l from fun l => by simp only [PyData.canLay0], lay_words.2.2.2.2.1, show (PyData.int (most : Int)).canLay0 = true from rfl, Bool.and_self], ?_⟩
    simp only [PyData.depth, PyData.depthAll]
    omega
  | .tunnel w most t => by
    obtain ⟨a, b⟩ := lay_way w
    unfold dStep
    refine ⟨by simp only [PyData.canLayAll0, show ∀ l, (PyData.tuple l).canLay0 = PyData.canLayAll0 l from fun l => by simp only [PyData.canLay0], lay_words.2.2.1, lay_words.2.2.2.2.2, a, show (PyData.int (most : Int)).canLay0 = true from rfl, Bool.and_self], ?_⟩
    simp only [PyData.depth, PyData.depthAll]
    have e : M.Step.dep (.tunnel w most t) = w.depth := rfl
    omega
end
theorem shp_way {w : M.Way} (h : w.depth ≤ 3) : SeqAt.shaped (dWay w) = true := by
  obtain ⟨a, b⟩ := lay_way w
  unfold SeqAt.shaped
  rw [a, Bool.true_and]
  exact decide_eq_true (by omega)
theorem eqv_str {x y : Str} (h : PyData.eqv (.str x) (.str y) = true) : x = y := by
  simp only [PyData.eqv] at h
  exact eq_of_beq h
theorem eqv_nat {x y : Nat} (h : PyData.eqv (.int (x : Int)) (.int (y : Int)) = true) : x = y := by
  simp only [PyData.eqv] at h
  have := eq_of_beq h
  omega
theorem eqv_cons {x y : PyData} {xs ys : List PyData} (h : PyData.eqvAll (x :: xs) (y :: ys) = true) : PyData.eqv x y = true ∧ PyData.eqvAll xs ys = true := by
  simp only [PyData.eqvAll] at h
  exact Bool.and_eq_true_iff.mp h
theorem eqv_tp {xs ys : List PyData} (h : PyData.eqv (.tuple xs) (.tuple ys) = true) : PyData.eqvAll xs ys = true := by
  simp only [PyData.eqv] at h
  exact h
theorem sd_inj {a b : Bool} (h : WP.sdS a = WP.sdS b) : a = b := by
  cases a <;> cases b <;> first | rfl | exact absurd h (by decide +kernel)
theorem lw_inj {a b : M.LW} (h : WP.lwS a = WP.lwS b) : a = b := by
  cases a <;> cases b <;> first | rfl | exact absurd h (by decide +kernel)
theorem tw_inj {a b : M.TW} (h : WP.twS a = WP.twS b) : a = b := by
  cases a <;> cases b <;> first | rfl | exact absurd h (by decide +kernel)
theorem kinds_ne : ("road" : Str) ≠ "join" ∧ ("road" : Str) ≠ "tunnel" ∧ ("join" : Str) ≠ "road" ∧ ("join" : Str) ≠ "tunnel" ∧ ("tunnel" : Str) ≠ "road" ∧ ("tunnel" : Str) ≠ "join" := by decide +kernel
mutual
theorem way_inj : ∀ {w u : M.Way}, PyData.eqv (dWay w) (dWay u) = true → w = u
  | .mk h s, .mk g r, e => by
    unfold dWay at e
    obtain ⟨e1, e2⟩ := eqv_cons (eqv_tp e)
    obtain ⟨e3, _⟩ := eqv_cons e2
    rw [eqv_nat e1, steps_inj (eqv_tp e3)]
theorem steps_inj : ∀ {s r : List M.Step}, PyData.eqvAll (dSteps s) (dSteps r) = true → s = r
  | [], [], e => rfl
  | [], y :: r, e => by
    unfold dSteps at e
    simp only [PyData.eqvAll] at e
    cases e
  | x :: s, [], e => by
    unfold dSteps at e
    simp only [PyData.eqvAll] at e
    cases e
  | x :: s, y :: r, e => by
    unfold dSteps at e
    obtain ⟨e1, e2⟩ := eqv_cons e
    rw [step_inj e1, steps_inj e2]
theorem step_inj : ∀ {s r : M.Step}, PyData.eqv (dStep s) (dStep r) = true → s = r
  | .road a b c, .road a' b' c', e => by
    unfold dStep at e
    obtain ⟨_, e2⟩ := eqv_cons (eqv_tp e)
    obtain ⟨e3, e4⟩ := eqv_cons e2
    obtain ⟨e5, e6⟩ := eqv_cons e4
    obtain ⟨e7, _⟩ := eqv_cons e6
    rw [eqv_nat e3, sd_inj (eqv_str e5), lw_inj (eqv_str e7)]
  | .join a, .join b, e => by
    unfold dStep at e
    obtain ⟨_, e2⟩ := eqv_cons (eqv_tp e)
    obtain ⟨e3, _⟩ := eqv_cons e2
    rw [eqv_nat e3]
  | .tunnel w a b, .tunnel w' a' b', e => by
    unfold dStep at e
    obtain ⟨_, e2⟩ := eqv_cons (eqv_tp e)
    obtain ⟨e3, e4⟩ := eqv_cons e2
    obtain ⟨e5, e6⟩ := eqv_cons e4
    obtain ⟨e7, _⟩ := eqv_cons e6
    rw [way_inj e3, eqv_nat e5, tw_inj (eqv_str e7)]
  | .road a b c, .join d, e => by unfold dStep at e; exact absurd (eqv_str (eqv_cons (eqv_tp e)).1) kinds_ne.1
  | .road a b c, .tunnel x y z, e => by unfold dStep at e; exact absurd (eqv_str (eqv_cons (eqv_tp e)).1) kinds_ne.2.1
  | .join d, .road a b c, e => by unfold dStep at e; exact absurd (eqv_str (eqv_cons (eqv_tp e)).1) kinds_ne.2.2.1
  | .join d, .tunnel x y z, e => by unfold dStep at e; exact absurd (eqv_str (eqv_cons (eqv_tp e)).1) kinds_ne.2.2.2.1
  | .tunnel x y z, .road a b c, e => by unfold dStep at e; exact absurd (eqv_str (eqv_cons (eqv_tp e)).1) kinds_ne.2.2.2.2.1
  | .tunnel x y z, .join d, e => by unfold dStep at e; exact absurd (eqv_str (eqv_cons (eqv_tp e)).1) kinds_ne.2.2.2.2.2
end
theorem eqv_rfl (w : M.Way) : PyData.eqv (dWay w) (dWay w) = true := SeqAt.eqv_refl _ (lay_way w).1
def weq (a b : M.Way) : Bool := PyData.eqv (dWay a) (dWay b)
def seq (a b : M.Step) : Bool := PyData.eqv (dStep a) (dStep b)
theorem weq_iff {a b : M.Way} : weq a b = true ↔ a = b := ⟨way_inj, fun e => by rw [e]; exact eqv_rfl b⟩
theorem seq_refl (a : M.Step) : seq a a = true := SeqAt.eqv_refl _ (lay_step a).1
theorem seq_iff {a b : M.Step} : seq a b = true ↔ a = b := ⟨step_inj, fun e => by rw [e]; exact seq_refl b⟩
theorem all_steps : ∀ (s r : List M.Step), PyData.eqvAll (dSteps s) (dSteps r) = ((List.zipWith seq s r).all id && decide (s.length = r.length))
  | [], [] => by unfold dSteps; rfl
  | [], y :: r => by
    unfold dSteps
    simp only [PyData.eqvAll, List.zipWith_nil_left, List.length_nil, List.length_cons]
    simp
  | x :: s, [] => by
    unfold dSteps
    simp only [PyData.eqvAll, List.zipWith_nil_right, List.length_nil, List.length_cons]
    simp
  | x :: s, y :: r => by
    have ih := all_steps s r
    unfold dSteps
    simp only [PyData.eqvAll, List.zipWith_cons_cons, List.all_cons, id, List.length_cons, Nat.add_right_cancel_iff]
    rw [ih, Bool.and_assoc]
    rfl
theorem weq_mk (h g : Nat) (s r : List M.Step) : weq (.mk h s) (.mk g r) = (decide (h = g) && ((List.zipWith seq s r).all id && decide (s.length = r.length))) := by
  unfold weq dWay
  simp only [PyData.eqv, PyData.eqvAll, Bool.and_true]
  rw [all_steps]
  congr 1
  by_cases e : h = g
  · subst e
    simp
  · rw [decide_eq_false e]
    exact beq_eq_false_iff_ne.mpr (by omega)
end CP
namespace WP
open PySem L2 G
mutual
/-- what stands at a place is one way -/
theorem way_fun {C : Addr} {H : Hp} : ∀ {w u : M.Way} {a : Addr}, WayAt C H w a → WayAt C H u a → w = u
  | .mk h s, .mk g r, a, x, y => by
    unfold WayAt at x y
    obtain ⟨dx, t, xs, a1, a2, a3⟩ := x
    obtain ⟨dy, u, ys, b1, b2, b3⟩ := y
    rw [a1] at b1
    have e := HO.ins.inj (Option.some.inj b1)
    have e1 := flds_head (h : Int) t ((1 + M.Step.deepest s : Nat) : Int) ((s.length + M.Step.inner s : Nat) : Int)
    have e2 := flds_steps (h : Int) t ((1 + M.Step.deepest s : Nat) : Int) ((s.length + M.Step.inner s : Nat) : Int)
    rw [e.2.2, flds_head] at e1
    rw [e.2.2, flds_steps] at e2
    have e1 := V.int.inj (Option.some.inj e1)
    have e2 := V.ref.inj (Option.some.inj e2)
    subst e2
    rw [a2] at b2
    cases b2
    rw [show h = g by omega, steps_fun a3 b3]
theorem steps_fun {C : Addr} {H : Hp} : ∀ {s r : List M.Step} {xs : List V}, StepsAt C H s xs → StepsAt C H r xs → s = r
  | [], [], xs, _, _ => rfl
  | [], y :: r, xs, a, b => by
    unfold StepsAt at a b
    obtain ⟨_, _, e, _⟩ := b
    rw [a] at e
    cases e
  | x :: s, [], xs, a, b => by
    unfold StepsAt at a b
    obtain ⟨_, _, e, _⟩ := a
    rw [b] at e
    cases e
  | x :: s, y :: r, xs, a, b => by
    unfold StepsAt at a b
    obtain ⟨u, us, rfl, a1, a2⟩ := a
    obtain ⟨v, vs, e, b1, b2⟩ := b
    cases e
    rw [step_fun a1 b1, steps_fun a2 b2]
theorem step_fun {C : Addr} {H : Hp} : ∀ {s r : M.Step} {x : V}, StepAt C H s x → StepAt C H r x → s = r
  | .road a b c, .road a' b' c', x, h, k => by
    unfold StepAt at h k
    obtain ⟨t, rfl, h⟩ := h
    obtain ⟨u, e, k⟩ := k
    cases e
    rw [h] at k
    have e := HO.tup.inj (Option.some.inj k)
    simp only [List.cons.injEq, V.int.injEq, V.str.injEq, and_true, true_and] at e
    rw [show a = a' by omega, CP.sd_inj e.2.1, CP.lw_inj e.2.2]
  | .join a, .join b, x, h, k => by
    unfold StepAt at h k
    obtain ⟨t, rfl, h⟩ := h
    obtain ⟨u, e, k⟩ := k
    cases e
    rw [h] at k
    have e := HO.tup.inj (Option.some.inj k)
    simp only [List.cons.injEq, V.int.injEq, and_true, true_and] at e
    rw [show a = b by omega]
  | .tunnel w a b, .tunnel w' a' b', x, h, k => by
    unfold StepAt at h k
    obtain ⟨t, i, rfl, h, h2⟩ := h
    obtain ⟨u, j, e, k, k2⟩ := k
    cases e
    rw [h] at k
    have e := HO.tup.inj (Option.some.inj k)
    simp only [List.cons.injEq, V.int.injEq, V.str.injEq, V.ref.injEq, and_true, true_and] at e
    obtain ⟨e1, e2, e3⟩ := e
    subst e1
    rw [way_fun h2 k2, show a = a' by omega, CP.tw_inj e3]
  | .road a b c, .join d, x, h, k => by
    unfold StepAt at h k
    obtain ⟨t, rfl, h⟩ := h
    obtain ⟨u, e, k⟩ := k
    cases e
    rw [h] at k
    exact absurd (congrArg List.length (HO.tup.inj (Option.some.inj k))) (by simp)
  | .join d, .road a b c, x, h, k => by
    unfold StepAt at h k
    obtain ⟨t, rfl, h⟩ := h
    obtain ⟨u, e, k⟩ := k
    cases e
    rw [h] at k
    exact absurd (congrArg List.length (HO.tup.inj (Option.some.inj k))) (by simp)
  | .tunnel w a b, .join d, x, h, k => by
    unfold StepAt at h k
    obtain ⟨t, i, rfl, h, _⟩ := h
    obtain ⟨u, e, k⟩ := k
    cases e
    rw [h] at k
    exact absurd (congrArg List.length (HO.tup.inj (Option.some.inj k))) (by simp)
  | .join d, .tunnel w a b, x, h, k => by
    unfold StepAt at h k
    obtain ⟨t, rfl, h⟩ := h
    obtain ⟨u, i, e, k, _⟩ := k
    cases e
    rw [h] at k
    exact absurd (congrArg List.length (HO.tup.inj (Option.some.inj k))) (by simp)
  | .road a b c, .tunnel w d e0, x, h, k => by
    unfold StepAt at h k
    obtain ⟨t, rfl, h⟩ := h
    obtain ⟨u, i, e, k, _⟩ := k
    cases e
    rw [h] at k
    have e := HO.tup.inj (Option.some.inj k)
    simp only [List.cons.injEq, V.str.injEq] at e
    exact absurd e.1 (by decide +kernel)
  | .tunnel w d e0, .road a b c, x, h, k => by
    unfold StepAt at h k
    obtain ⟨t, i, rfl, h, _⟩ := h
    obtain ⟨u, e, k⟩ := k
    cases e
    rw [h] at k
    have e := HO.tup.inj (Option.some.inj k)
    simp only [List.cons.injEq, V.str.injEq] at e
    exact absurd e.1 (by decide +kernel)
end
end WP
namespace WP
open PySem L2 G
abbrev sWEq : Stmt := inClass (top 23) 4
theorem scWEq : FnScope ["self", "other"] ["self", "other"] (defScope sWEq) := ⟨rfl, rfl, rfl, by decide +kernel, rfl, by decide +kernel, by decide +kernel⟩
end WP
namespace EB
open PySem PySem.Spec PyProof.Rows L2 WP
def BWy (C : Addr) (n : Nat) : Cmp := fun x y c H => ∃ a b w1 w2, x = .ref a ∧ y = .ref b ∧ WayAt C H w1 a ∧ WayAt C H w2 b ∧ w1.depth ≤ n ∧ c = CP.weq w1 w2
theorem mon_wy {C : Addr} {n : Nat} : MonB (BWy C n) := fun x y c H H' e d => by
  obtain ⟨a, b, w1, w2, hx, hy, h1, h2, hd, hc⟩ := d
  exact ⟨a, b, w1, w2, hx, hy, h1.mono e, h2.mono e, hd, hc⟩
def BIt (C : Addr) (n : Nat) : Cmp := fun x y c H => BFlat x y c H ∨ BSm (BWy C n) x y c H
theorem mon_bit {C : Addr} {n : Nat} : MonB (BIt C n) := mon_or mon_flat (mon_sm mon_wy)
def spWEB (C : Addr) (n : Nat) : Sp := fun vs H Q _ => ∃ (a b : Addr) (w1 w2 : M.Way), vs = [.ref a, .ref b] ∧ WayAt C H w1 a ∧ WayAt C H w2 b ∧ w1.depth ≤ n ∧ ∀ H', Ext H H' → Q (.bl (CP.weq w1 w2)) H'
section
variable {X : Cx} {n m : Nat}
theorem rcB_wy {C f : Addr} {fd : FuncData} (F : FnOk X.prog X.w X.K X.mg X.base CX0 n f fd ["self", "other"] (spWEB C m)) (O : WO.Own X.K C f "__eq__") (hb : Binds X.K fd ["self", "other"] []) : RcB X n (BWy C m) := by
  intro A pins s σ H x y u v c sb I rx ry d
  obtain ⟨a, b, w1, w2, rfl, rfl, h1, h2, hd, hc⟩ := d
  cases rx
  cases ry
  obtain ⟨da, fa, g1, _⟩ := head_fld h1
  obtain ⟨db, fb, g2, _⟩ := head_fld h2
  obtain ⟨_, J, _⟩ := ins_get I.hok g1
  obtain ⟨_, J', _⟩ := ins_get I.hok g2
  obtain ⟨od, J, _⟩ := J.look
  obtain ⟨ow, J', _⟩ := J'.look
  obtain ⟨m0, hF⟩ := I.fr
  refine PySem.W.cmp_K (op := .Eq) (tb := .ref C) sb.room.units0 hF I.ok.mod.kin J J'.type (by simp [PySem.W.notFirst]) O.at' O.fn (WO.run_own F (A := A) (xs := [.ref a, .ref b]) (Z := fun v H1 => v = .bl c ∧ Ext H H1) (E := E0) sb hb pass0 I (.cons rfl (.cons rfl .nil)) ⟨a, b, w1, w2, rfl, h1, h2, hd, fun H' e => ⟨by rw [hc], e⟩⟩ fun z u H1 s1 I1 rz q => ?_)
  obtain ⟨rfl, q⟩ := q
  cases rz
  exact ⟨rfl, H1, I1, q⟩
end
theorem fl_s (a b : Str) (H : Hp) : BFlat (.str a) (.str b) (a == b) H := ⟨rfl, rfl, rfl⟩
theorem fl_i (a b : Int) (H : Hp) : BFlat (.int a) (.int b) (a == b) H := ⟨rfl, rfl, rfl⟩
section
variable {K : PySem.W.Frag} {C : Addr}
/-- the first items differ: nothing more is asked -/
theorem prs_ne {H : Hp} {D : Cmp} {x y : V} {xs ys : List V} (h : D x y false H) : PrB D (x :: xs) (y :: ys) (false :: List.replicate (min xs.length ys.length) true) H := by
  refine ⟨by rw [List.length_cons, List.length_replicate, List.length_cons, List.length_cons]; omega, fun i x' y' c g0 g1 g2 g3 => ?_⟩
  cases i with
  | zero =>
    cases g1
    cases g2
    cases g3
    exact h
  | succ i =>
    have := g0 0 (Nat.succ_pos i)
    cases this
theorem prs_nil {H : Hp} {D : Cmp} : PrB D [] [] [] H := ⟨rfl, fun i x y c _ g1 _ _ => by cases g1⟩
theorem prs_cons {H : Hp} {D : Cmp} {x y : V} {c : Bool} {xs ys : List V} {cs : List Bool} (h : D x y c H) (p : PrB D xs ys cs H) : PrB D (x :: xs) (y :: ys) (c :: cs) H := by
  refine ⟨by rw [List.length_cons, List.length_cons, List.length_cons, p.len]; omega, fun i x' y' c' g0 g1 g2 g3 => ?_⟩
  cases i with
  | zero =>
    cases g1
    cases g2
    cases g3
    exact h
  | succ i => exact p.at' i x' y' c' (fun j hj => g0 (j + 1) (by omega)) g1 g2 g3
theorem sne {a b : Str} (h : a ≠ b) (H : Hp) : BFlat (.str a) (.str b) false H := ⟨rfl, rfl, by
  show (a == b) = false
  exact beq_eq_false_iff_ne.mpr h⟩
theorem bsame (C : Addr) (H : Hp) {w1 w2 : M.Way} {n : Nat} {a b : Addr} (h1 : WayAt C H w1 a) (h2 : WayAt C H w2 b) (hd : w1.depth ≤ n) : BSm (BWy C n) (.ref a) (.ref b) (CP.weq w1 w2) H :=
  ⟨⟨a, b, w1, w2, rfl, rfl, h1, h2, hd, rfl⟩, fun e => by
    cases e
    exact CP.weq_iff.mpr (WP.way_fun h1 h2)⟩
theorem tup_step {n : Nat} {H : Hp} {x y : V} {c : Bool} {t u : Addr} {xs ys : List V} {cs : List Bool} (hx : x = .ref t) (hy : y = .ref u) (h1 : H t = some (.tup xs)) (h2 : H u = some (.tup ys)) (p : PrB (BIt C n) xs ys cs H) (hc : c = (cs.all id && decide (xs.length = ys.length))) : BTup K (BIt C n) x y c H :=
  ⟨t, u, xs, ys, cs, hx, hy, SqT.of h1, SqT.of h2, p, hc⟩
theorem step_b {H : Hp} {n : Nat} : ∀ {s r : M.Step} {x y : V}, M.Step.dep s ≤ n → StepAt C H s x → StepAt C H r y → BTup K (BIt C n) x y (CP.seq s r) H
  | .road a b c, .road a' b' c', x, y, d, h, k => by
    unfold StepAt at h k
    obtain ⟨t, e, h⟩ := h
    obtain ⟨u, f, k⟩ := k
    refine tup_step e f h k (prs_cons (.inl (fl_s _ _ H)) (prs_cons (.inl (fl_i _ _ H)) (prs_cons (.inl (fl_s _ _ H)) (prs_cons (.inl (fl_s _ _ H)) prs_nil)))) ?_
    unfold CP.seq CP.dStep
    simp only [PyData.eqv, PyData.eqvAll, List.all_cons, List.all_nil, id, List.length_cons, List.length_nil, decide_true, Bool.and_true]
  | .join a, .join b, x, y, d, h, k => by
    unfold StepAt at h k
    obtain ⟨t, e, h⟩ := h
    obtain ⟨u, f, k⟩ := k
    refine tup_step e f h k (prs_cons (.inl (fl_s _ _ H)) (prs_cons (.inl (fl_i _ _ H)) prs_nil)) ?_
    unfold CP.seq CP.dStep
    simp only [PyData.eqv, PyData.eqvAll, List.all_cons, List.all_nil, id, List.length_cons, List.length_nil, decide_true, Bool.and_true]
  | .tunnel w a b, .tunnel w' a' b', x, y, d, h, k => by
    unfold StepAt at h k
    obtain ⟨t, i, e, h, h2⟩ := h
    obtain ⟨u, j, f, k, k2⟩ := k
    refine tup_step e f h k (prs_cons (.inl (fl_s _ _ H)) (prs_cons (.inr (bsame C H h2 k2 d)) (prs_cons (.inl (fl_i _ _ H)) (prs_cons (.inl (fl_s _ _ H)) prs_nil)))) ?_
    unfold CP.seq CP.dStep CP.weq
    simp only [PyData.eqv, PyData.eqvAll, List.all_cons, List.all_nil, id, List.length_cons, List.length_nil, decide_true, Bool.and_true]
  | .road a b c, .join d0, x, y, d, h, k => by
    unfold StepAt at h k
    obtain ⟨t, e, h⟩ := h
    obtain ⟨u, f, k⟩ := k
    refine tup_step e f h k (prs_ne (.inl (sne CP.kinds_ne.1 H))) ?_
    exact Bool.eq_false_iff.mpr fun q => by cases CP.seq_iff.mp q
  | .join d0, .road a b c, x, y, d, h, k => by
    unfold StepAt at h k
    obtain ⟨t, e, h⟩ := h
    obtain ⟨u, f, k⟩ := k
    refine tup_step e f h k (prs_ne (.inl (sne CP.kinds_ne.2.2.1 H))) ?_
    exact Bool.eq_false_iff.mpr fun q => by cases CP.seq_iff.mp q
  | .tunnel w a b, .join d0, x, y, d, h, k => by
    unfold StepAt at h k
    obtain ⟨t, i, e, h, _⟩ := h
    obtain ⟨u, f, k⟩ := k
    refine tup_step e f h k (prs_ne (.inl (sne CP.kinds_ne.2.2.2.2.2 H))) ?_
    exact Bool.eq_false_iff.mpr fun q => by cases CP.seq_iff.mp q
  | .join d0, .tunnel w a b, x, y, d, h, k => by
    unfold StepAt at h k
    obtain ⟨t, e, h⟩ := h
    obtain ⟨u, i, f, k, _⟩ := k
    refine tup_step e f h k (prs_ne (.inl (sne CP.kinds_ne.2.2.2.1 H))) ?_
    exact Bool.eq_false_iff.mpr fun q => by cases CP.seq_iff.mp q
  | .road a b c, .tunnel w d0 e0, x, y, d, h, k => by
    unfold StepAt at h k
    obtain ⟨t, e, h⟩ := h
    obtain ⟨u, i, f, k, _⟩ := k
    refine tup_step e f h k (prs_ne (.inl (sne CP.kinds_ne.2.1 H))) ?_
    exact Bool.eq_false_iff.mpr fun q => by cases CP.seq_iff.mp q
  | .tunnel w d0 e0, .road a b c, x, y, d, h, k => by
    unfold StepAt at h k
    obtain ⟨t, i, e, h, _⟩ := h
    obtain ⟨u, f, k⟩ := k
    refine tup_step e f h k (prs_ne (.inl (sne CP.kinds_ne.2.2.2.2.1 H))) ?_
    exact Bool.eq_false_iff.mpr fun q => by cases CP.seq_iff.mp q
theorem step_sb {H : Hp} {n : Nat} {s r : M.Step} {x y : V} (d : M.Step.dep s ≤ n) (h : StepAt C H s x) (k : StepAt C H r y) : BSm (BTup K (BIt C n)) x y (CP.seq s r) H :=
  ⟨step_b d h k, fun e => by
    subst e
    exact CP.seq_iff.mpr (WP.step_fun h k)⟩
theorem steps_b {H : Hp} {n : Nat} : ∀ {s r : List M.Step} {xs ys : List V}, M.Step.deepest s ≤ n → StepsAt C H s xs → StepsAt C H r ys → PrB (BSm (BTup K (BIt C n))) xs ys (List.zipWith CP.seq s r) H
  | [], [], xs, ys, d, h1, h2 => by
    unfold StepsAt at h1 h2
    subst h1 h2
    exact prs_nil
  | [], _ :: _, xs, ys, d, h1, h2 => by
    unfold StepsAt at h1
    subst h1
    exact ⟨by simp, fun i x y c _ g1 _ _ => by cases g1⟩
  | _ :: _, [], xs, ys, d, h1, h2 => by
    unfold StepsAt at h2
    subst h2
    exact ⟨by simp, fun i x y c _ _ g2 _ => by cases g2⟩
  | s :: s', r :: r', xs, ys, d, h1, h2 => by
    rw [M.deep_cons] at d
    unfold StepsAt at h1 h2
    obtain ⟨x, xs, rfl, a1, a2⟩ := h1
    obtain ⟨y, ys, rfl, b1, b2⟩ := h2
    rw [List.zipWith_cons_cons]
    exact prs_cons (step_sb (by omega) a1 b1) (steps_b (by omega) a2 b2)
end
section
variable {P : Program} {w : World} {K : PySem.W.Frag} {mg : Str → Option Value} {base : Heap} {C : Addr}
theorem ok_weqB {k n : Nat} {f : Addr} {fd : FuncData} (F : Fun K "__eq__" "Way.__eq__" sWEq f fd) (B : Bn mg) (T : Wt K mg C) (G0 : FnOk P w K mg base CX0 k f fd ["self", "other"] (spWEB C n)) (O : WO.Own K C f "__eq__") (b : Binds K fd ["self", "other"] []) : FnOk P w K mg base CX0 (k + 3) f fd ["self", "other"] (spWEB C (n + 1)) := by
  refine F.ok scWEq (fun vs H Q E h => ?_) (fun cdv A outer s H vs Q E hr h => ?_)
  · obtain ⟨a, b, w1, w2, rfl, _⟩ := h
    rfl
  · obtain ⟨x, y, w1, w2, rfl, ha, hb, hd, kk⟩ := h
    refine ⟨_, pss_one (ps_ret (pe_and (pe_callB call_isi (by rfl) B.isi (by decide +kernel) (pa_cons (pv 1) (pa_cons (pe_glob (v := .ref C) rfl T.g rfl) pa_nil)))
      (pe_and (pe_cmpR op_eq (pe_fld (pv 0) rfl) (pe_fld (pv 1) rfl) (nomark _))
      (pe_one (pe_cmpR (op_eqB (rcB_tup (mon_sm (mon_tup mon_bit)) (eqB_tup mon_bit ((eqB_flat.mono (Nat.zero_le k)).or ((rcB_wy G0 O b).eqB fun _ _ _ _ d => let ⟨a, b, _, _, hx, hy, _⟩ := d; ⟨a, b, hx, hy⟩)))) hr) (pe_fld (pv 0) rfl) (pe_fld (pv 1) rfl) (nomark _)))))), ?_⟩
    obtain ⟨da, fa, a1, a2⟩ := head_fld ha
    obtain ⟨db, fb, b1, b2⟩ := head_fld hb
    obtain ⟨dc, fc, t1, xs, c1, c2, c3, c4⟩ := steps_fld ha
    obtain ⟨de, fe, t2, ys, e1, e2, e3, e4⟩ := steps_fld hb
    refine ⟨_, rfl, _, _, _, _, true, rfl, .own C, .base (.ins b1 T.cl T.iA T.iN T.iT T.iM), ?_, _, rfl, iteT ?_⟩
    · unfold PySem.W.kitOne
      rw [if_pos (by simp)]
    refine ⟨_, rfl, x, C, da, fa, _, rfl, a1, T.cl, T.nH, a2, _, rfl, y, C, db, fb, _, rfl, b1, T.cl, T.nH, b2, rfl, _, rfl, ?_⟩
    obtain ⟨g1, s1⟩ := w1
    obtain ⟨g2, s2⟩ := w2
    have hl := c4.len
    have hm := e4.len
    change xs.length = s1.length at hl
    change ys.length = s2.length at hm
    change StepsAt C H s1 xs at c4
    change StepsAt C H s2 ys at e4
    show (if _ then _ else _)
    by_cases eh : g1 = g2
    · rw [decide_eq_true (show V.int (((M.Way.mk g1 s1).head : Nat) : Int) = V.int (((M.Way.mk g2 s2).head : Nat) : Int) from congrArg (fun n : Nat => V.int (n : Int)) eh)]
      refine iteT ⟨_, rfl, x, C, dc, fc, _, rfl, c1, T.cl, T.nS, c2, _, rfl, y, C, de, fe, _, rfl, e1, T.cl, T.nS, e2, ?_⟩
      unfold M.Way.depth at hd
      refine ⟨_, ⟨t1, t2, xs, ys, _, rfl, rfl, SqT.of c3, SqT.of e3, steps_b (by omega) c4 e4, rfl⟩, fun H' x => ?_⟩
      have := kk H' x
      rw [CP.weq_mk, decide_eq_true eh, Bool.true_and] at this
      rw [hl, hm]
      exact this
    · rw [decide_eq_false (show ¬ V.int (((M.Way.mk g1 s1).head : Nat) : Int) = V.int (((M.Way.mk g2 s2).head : Nat) : Int) from fun q => eh (Int.ofNat.inj (V.int.inj q)))]
      refine iteF ?_
      have := kk H Ext.rfl'
      rw [CP.weq_mk, decide_eq_false eh, Bool.false_and] at this
      exact this
theorem df_weqB {f : Addr} {fd : FuncData} (F : Fun K "__eq__" "Way.__eq__" sWEq f fd) (B : Bn mg) (T : Wt K mg C) (O : WO.Own K C f "__eq__") (b : Binds K fd ["self", "other"] []) : ∀ n, FnOk P w K mg base CX0 (1 + 3 * n) f fd ["self", "other"] (spWEB C n)
  | 0 => F.ok scWEq (fun vs H Q E h => by
      obtain ⟨a, b, w1, w2, rfl, _⟩ := h
      rfl) (fun cdv A outer s H vs Q E hr h => by
      exfalso
      obtain ⟨a, b, w1, w2, _, _, _, hd, _⟩ := h
      have := M.depth_pos w1
      omega)
  | n + 1 => ok_weqB F B T (df_weqB F B T O b n) O b
end
end EB

end
section
set_option autoImplicit false
set_option Elab.async false
set_option linter.all false
set_option maxRecDepth 100000
set_option maxHeartbeats 4000000
/-! ## the law's draws of ways -/
namespace WP
open PySem L2 G
abbrev sLMost : Stmt := top 34
/-- all but the source at p stays -/
def Bt (p : Addr) (H H' : Hp) : Prop := (∀ a o, a ≠ p → H a = some o → H' a = some o) ∧ S.At H' p
theorem Bt.trans {p : Addr} {H H1 H2 : Hp} (a : Bt p H H1) (b : Bt p H1 H2) : Bt p H H2 := ⟨fun x o n e => b.1 x o n (a.1 x o n e), b.2⟩
theorem Bt.same {p : Addr} {H H' : Hp} (s : Same H H') (h : S.At H p) : Bt p H H' := by
  obtain ⟨r, m, e, f⟩ := h
  exact ⟨fun a o _ e2 => s _ _ e2, r, m, s _ _ e, f⟩
theorem Bt.put {p : Addr} {H : Hp} {r m : Int} (f : S.Fine r m) : Bt p H (upd H p (.lst (S.Two r m))) := ⟨fun a o n e => by rw [upd_ne n]; exact e, r, m, upd_same, f⟩
section
variable {P : Program} {w : World} {K : PySem.W.Frag} {mg : Str → Option Value} {base : Heap} {C : Addr}
def spLMost : Sp := fun vs H Q _ => ∃ p, vs = [.ref p] ∧ S.At H p ∧ ∀ (m : Nat) H', 1 ≤ m → m ≤ 1000000000000 → Bt p H H' → Q (.int (m : Int)) H'
theorem scLM : FnScope ["source"] ["source"] (defScope sLMost) := ⟨rfl, rfl, rfl, by decide +kernel, rfl, by decide +kernel, by decide +kernel⟩
theorem ok_lmost {f : Addr} {fd : FuncData} (F : Fun K "_law_most" "_law_most" sLMost f fd) (D : Df P w K mg base 1 "_law_draw" ["source", "span"] S.spDraw) (PK : Df P w K mg base 2 "_law_pick" ["source", "items"] (S.spPick K)) : FnOk P w K mg base CX0 3 f fd ["source"] spLMost := by
  obtain ⟨fD, fdD, GD, gD, kD, bD⟩ := D.ex
  obtain ⟨fP, fdP, GP, gP, kP, bP⟩ := PK.ex
  refine F.ok scLM (fun vs H Q E h => ?_) (fun cdv A outer s H vs Q E hr h => ?_)
  · obtain ⟨p, rfl, _⟩ := h
    rfl
  · obtain ⟨p, rfl, ⟨r, m, hp, hf⟩, kk⟩ := h
    refine ⟨_, pss_one (ps_ret (pe_call GP hr rfl gP kP bP .nil pass0 (pa_cons (pv 0) (pa_cons (pe_lst (pa_cons pe_int (pa_cons pe_int (pa_cons pe_int (pa_cons pe_int (pa_cons pe_int (pa_cons pe_int (pa_cons (pe_op op_powN pe_int pe_int) (pa_cons (pe_op op_add pe_int (pe_call GD (hr.mono (by decide)) rfl gD kD bD .nil pass0 (pa_cons (pv 0) (pa_cons pe_int pa_nil)))) pa_nil))))))))) pa_nil)))), ?_⟩
    refine ⟨_, rfl, 10, 12, rfl, rfl, ⟨by decide, by decide +kernel⟩, _, rfl, p, r, m, 30, rfl, hp, hf, by decide, by decide +kernel, fun j r1 m1 hf1 j0 j1 => ⟨_, _, rfl, rfl, (by show 8 ≤ sizeLine; decide), fun l hl => ?_⟩⟩
    have lp : l ≠ p := fun z => by
      rw [z, upd_same] at hl
      cases hl
    refine ⟨p, l, r1, m1, _, rfl, by rw [upd_ne lp.symm]; exact upd_same, hf1, lp, SqL.of upd_same, (by show 1 ≤ 8; decide), (by show 8 ≤ 1000; decide), fun i x r2 m2 hf2 hx => ?_⟩
    have bt : Bt p H (upd (upd (upd H p (.lst (S.Two r1 m1))) l (.lst [V.int 1, V.int 2, V.int 3, V.int 4, V.int 5, V.int 8, V.int (10 ^ (12 : Int).toNat), V.int (1 + j)])) p (.lst (S.Two r2 m2))) := (Bt.put hf1).trans ((Bt.same (Same.of_upd hl) ⟨r1, m1, upd_same, hf1⟩).trans (Bt.put hf2))
    have hi : i < 8 := (List.getElem?_eq_some_iff.mp hx).1
    have fin : ∀ n : Nat, x = .int (n : Int) → 1 ≤ n → n ≤ 1000000000000 → Q x _ := fun n e a b => by
      subst e
      exact kk n _ a b bt
    match i, hi, hx with
    | 0, _, hx => exact fin 1 (by cases hx; rfl) (by decide) (by decide)
    | 1, _, hx => exact fin 2 (by cases hx; rfl) (by decide) (by decide)
    | 2, _, hx => exact fin 3 (by cases hx; rfl) (by decide) (by decide)
    | 3, _, hx => exact fin 4 (by cases hx; rfl) (by decide) (by decide)
    | 4, _, hx => exact fin 5 (by cases hx; rfl) (by decide) (by decide)
    | 5, _, hx => exact fin 8 (by cases hx; rfl) (by decide) (by decide)
    | 6, _, hx => exact fin 1000000000000 (by cases hx; rfl) (by decide) (by decide)
    | 7, _, hx => exact fin (1 + j).toNat (by cases hx; exact congrArg V.int (by omega)) (by omega) (by omega)
    | i + 8, h, _ => exact absurd h (by omega)
end
end WP

end
section
set_option autoImplicit false
set_option Elab.async false
set_option linter.all false
set_option maxRecDepth 100000
set_option maxHeartbeats 4000000
namespace WP
open PySem L2 G
abbrev sLRoad : Stmt := top 35
section
variable {P : Program} {w : World} {K : PySem.W.Frag} {mg : Str → Option Value} {base : Heap} {C : Addr}
/-- 1 + a draw below n, as an item of a list -/
theorem draw_of {σ : St} {H : Hp} {Q : VK} {p : Addr} {E : XK} {i : Nat} {c n : Int} (hσ : σ[i]? = some (some (.ref p))) (h : S.At H p) (n1 : 1 ≤ n) (n2 : n.natAbs.log2 < 9000) (k : ∀ j H', 0 ≤ j → j < n → Bt p H H' → Q (.int (c + j)) H') :
    tOp (rI0 fun i j => .int (i + j)) (tC (.int c)) (tCall S.spDraw [] E (tCons (tVar i) (tCons (tC (.int n)) tNil))) σ H Q := by
  obtain ⟨r, m, hp, hf⟩ := h
  exact ⟨_, hσ, p, r, m, n, rfl, hp, hf, n1, n2, fun j r1 m1 f1 j0 j1 => ⟨_, _, rfl, rfl, k j _ j0 j1 (Bt.put f1)⟩⟩
/-- a pick from a list just made -/
theorem pick_at {H : Hp} {Q : VK} {p l : Addr} {E : XK} {xs : List V} (h : S.At H p) (hl : H l = none) (h1 : 1 ≤ xs.length) (h2 : xs.length ≤ 1000) (k : ∀ x H', x ∈ xs → Bt p H H' → Q x H') : S.spPick K [.ref p, .ref l] (upd H l (.lst xs)) Q E := by
  obtain ⟨r, m, hp, hf⟩ := h
  have lp : l ≠ p := fun z => by
    rw [z, hp] at hl
    cases hl
  exact ⟨p, l, r, m, xs, rfl, by rw [upd_ne lp.symm]; exact hp, hf, lp, SqL.of upd_same, h1, h2, fun j x r2 m2 f2 hx => k x _ (List.mem_of_getElem? hx) ((Bt.same (Same.of_upd hl) ⟨r, m, hp, hf⟩).trans (Bt.put f2))⟩
theorem pick_of {σ : St} {H : Hp} {Q : VK} {p : Addr} {E : XK} {i : Nat} {xs : List V} {ta : TA} (hσ : σ[i]? = some (some (.ref p))) (h : S.At H p) (h1 : 1 ≤ xs.length) (h2 : xs.length ≤ 1000) (ha : ∀ Q2 : List V → Hp → Prop, Q2 xs H → ta σ H Q2) (k : ∀ x H', x ∈ xs → Bt p H H' → Q x H') :
    tCall (S.spPick K) [] E (tCons (tVar i) (tCons (tLst ta) tNil)) σ H Q := ⟨_, hσ, ha _ ⟨Nat.le_trans h2 (by decide), fun l hl => pick_at (E := E) h hl h1 h2 k⟩⟩
theorem sd_of {x : V} (h : x ∈ [V.str "tell", V.str "drop"]) : ∃ ts, x = .str (sdS ts) := by
  rcases List.mem_cons.mp h with e | h
  · exact ⟨true, e⟩
  · have e : x = V.str "drop" := by simpa using h
    exact ⟨false, e⟩
theorem lw_of {x : V} (h : x ∈ [V.str "cut", V.str "cut", V.str "cut", V.str "tell", V.str "drop"]) : ∃ lw, x = .str (lwS lw) := by
  rcases List.mem_cons.mp h with e | h
  · exact ⟨.cut, e⟩
  rcases List.mem_cons.mp h with e | h
  · exact ⟨.cut, e⟩
  rcases List.mem_cons.mp h with e | h
  · exact ⟨.cut, e⟩
  rcases List.mem_cons.mp h with e | h
  · exact ⟨.tell, e⟩
  · have e : x = V.str "drop" := by simpa using h
    exact ⟨.drop, e⟩
def spLRoad : Sp := fun vs H Q _ => ∃ (p : Addr) (h : Nat), vs = [.ref p, .int (h : Int)] ∧ S.At H p ∧ ∀ t H' (c : Nat) (ts : Bool) (lw : M.LW), 1 ≤ c → c ≤ 70 → Bt p H H' → H' t = some (.tup [.str "road", .int ((h + c : Nat) : Int), .str (sdS ts), .str (lwS lw)]) → Q (.ref t) H'
theorem scLR : FnScope ["source", "head", "cut", "words"] ["source", "head"] (defScope sLRoad) := ⟨rfl, rfl, rfl, by decide +kernel, rfl, by decide +kernel, by decide +kernel⟩
theorem ok_lroad {f : Addr} {fd : FuncData} (F : Fun K "_law_road" "_law_road" sLRoad f fd) (D : Df P w K mg base 1 "_law_draw" ["source", "span"] S.spDraw) (PK : Df P w K mg base 2 "_law_pick" ["source", "items"] (S.spPick K)) : FnOk P w K mg base CX0 3 f fd ["source", "head"] spLRoad := by
  obtain ⟨fD, fdD, GD, gD, kD, bD⟩ := D.ex
  obtain ⟨fP, fdP, GP, gP, kP, bP⟩ := PK.ex
  refine F.ok scLR (fun vs H Q E h => ?_) (fun cdv A outer s H vs Q E hr h => ?_)
  · obtain ⟨p, h, rfl, _⟩ := h
    rfl
  · obtain ⟨p, h, rfl, hp, kk⟩ := h
    have r1 := hr.mono (by decide : 1 ≤ 2)
    refine ⟨_, pss_cons (ps_set (i := 2) scLR.nd rfl (Or.inl rfl) (pe_call GP hr rfl gP kP bP .nil pass0 (pa_cons (pv 0) (pa_cons (pe_lst (pa_cons (pe_op op_add pe_int (pe_call GD r1 rfl gD kD bD .nil pass0 (pa_cons (pv 0) (pa_cons pe_int pa_nil)))) (pa_cons (pe_op op_add pe_int (pe_call GD r1 rfl gD kD bD .nil pass0 (pa_cons (pv 0) (pa_cons pe_int pa_nil)))) (pa_cons (pe_op op_add pe_int (pe_call GD r1 rfl gD kD bD .nil pass0 (pa_cons (pv 0) (pa_cons pe_int pa_nil)))) pa_nil)))) pa_nil))))
      (pss_cons (ps_set (i := 3) scLR.nd rfl (Or.inl rfl) (pe_tup (pa_cons (pe_call GP hr rfl gP kP bP .nil pass0 (pa_cons (pv 0) (pa_cons (pe_lst (pa_cons pe_str (pa_cons pe_str pa_nil))) pa_nil))) (pa_cons (pe_call GP hr rfl gP kP bP .nil pass0 (pa_cons (pv 0) (pa_cons (pe_lst (pa_cons pe_str (pa_cons pe_str (pa_cons pe_str (pa_cons pe_str (pa_cons pe_str pa_nil)))))) pa_nil))) pa_nil))))
      (pss_one (ps_ret (pe_op op_catT (pe_tup (pa_cons pe_str (pa_cons (pe_op op_add (pv 1) (pv 2)) pa_nil))) (pv 3))))), ?_⟩
    refine ⟨_, rfl, draw_of rfl hp (by decide) (by decide +kernel) fun j1 H1 a0 a1 b1 => draw_of rfl b1.2 (by decide) (by decide +kernel) fun j2 H2 c0 c1 b2 => draw_of rfl b2.2 (by decide) (by decide +kernel) fun j3 H3 d0 d1 b3 => ⟨line2.2.1, fun l hl => pick_at (E := E) b3.2 hl (by show 1 ≤ 3; decide) (by show 3 ≤ 1000; decide) fun x H4 hx b4 => ?_⟩⟩
    obtain ⟨c, rfl, n1, n2⟩ : ∃ c : Nat, x = .int (c : Int) ∧ 1 ≤ c ∧ c ≤ 70 := by
      rcases List.mem_cons.mp hx with e | hx
      · exact ⟨(1 + j1).toNat, e.trans (congrArg V.int (by omega)), by omega, by omega⟩
      rcases List.mem_cons.mp hx with e | hx
      · exact ⟨(3 + j2).toNat, e.trans (congrArg V.int (by omega)), by omega, by omega⟩
      · have e : x = .int (10 + j3) := by simpa using hx
        exact ⟨(10 + j3).toNat, e.trans (congrArg V.int (by omega)), by omega, by omega⟩
    refine pick_of rfl b4.2 (by decide) (by decide) (fun Q2 q => q) fun y H5 hy b5 => pick_of rfl b5.2 (by decide) (by decide) (fun Q2 q => q) fun z H6 hz b6 => ⟨line2.1, fun u hu => ?_⟩
    obtain ⟨ts, rfl⟩ := sd_of hy
    obtain ⟨lw, rfl⟩ := lw_of hz
    refine ⟨_, rfl, _, rfl, _, _, rfl, rfl, line2.1, fun v hv => ⟨_, rfl, catT_of upd_same (Same.of_upd hv _ _ upd_same) (by simp) (by show 4 ≤ sizeLine; decide) fun t G sG hG => ?_⟩⟩
    have bt := b1.trans (b2.trans (b3.trans (b4.trans (b5.trans (b6.trans (Bt.same ((Same.of_upd hu).trans ((Same.of_upd hv).trans sG)) b6.2))))))
    refine kk t G c ts lw n1 n2 bt ?_
    rw [hG, Int.natCast_add]
    rfl
end
end WP

end
section
set_option autoImplicit false
set_option Elab.async false
set_option linter.all false
set_option maxRecDepth 100000
set_option maxHeartbeats 4000000
/-! ## rows of ways, as the law draws them -/
namespace WP
open PySem L2 G
mutual
/-- rows of a way: a head, a list of its steps; ways in tunnels are rows, too -/
def RowsAt (H : Hp) : M.Way → V → Prop
  | .mk h s, v => ∃ t L xs, v = .ref t ∧ H t = some (.tup [.int (h : Int), .ref L]) ∧ H L = some (.lst xs) ∧ RowAll H s xs
def RowAll (H : Hp) : List M.Step → List V → Prop
  | [], xs => xs = []
  | s :: r, xs => ∃ x ys, xs = x :: ys ∧ RowAt H s x ∧ RowAll H r ys
def RowAt (H : Hp) : M.Step → V → Prop
  | .road size ts lw, x => ∃ t, x = .ref t ∧ H t = some (.tup [.str "road", .int (size : Int), .str (sdS ts), .str (lwS lw)])
  | .join most, x => ∃ t, x = .ref t ∧ H t = some (.tup [.str "join", .int (most : Int)])
  | .tunnel w most tw, x => ∃ t v, x = .ref t ∧ H t = some (.tup [.str "tunnel", v, .int (most : Int), .str (twS tw)]) ∧ RowsAt H w v
end
theorem RowAt.ref {H : Hp} : ∀ {s : M.Step} {x : V}, RowAt H s x → ∃ t, x = .ref t
  | .road _ _ _, x, h => by unfold RowAt at h; obtain ⟨t, e, _⟩ := h; exact ⟨t, e⟩
  | .join _, x, h => by unfold RowAt at h; obtain ⟨t, e, _⟩ := h; exact ⟨t, e⟩
  | .tunnel _ _ _, x, h => by unfold RowAt at h; obtain ⟨t, v, e, _⟩ := h; exact ⟨t, e⟩
theorem RowAll.not_two {H : Hp} {s : List M.Step} {xs : List V} {r m : Int} (h : RowAll H s xs) : xs ≠ S.Two r m := fun e => by
  subst e
  cases s with
  | nil => unfold RowAll at h; cases h
  | cons a l =>
    unfold RowAll at h
    obtain ⟨x, ys, e, h1, _⟩ := h
    obtain ⟨t, rfl⟩ := h1.ref
    unfold S.Two at e
    injection e with e1 _
    cases e1
theorem bt_tup {p t : Addr} {H H' : Hp} {xs : List V} (b : Bt p H H') (hp : S.At H p) (h : H t = some (.tup xs)) : H' t = some (.tup xs) := by
  refine b.1 t _ (fun e => ?_) h
  obtain ⟨r, m, e2, _⟩ := hp
  rw [e, e2] at h
  cases h
theorem bt_rows {p L : Addr} {H H' : Hp} {s : List M.Step} {xs : List V} (b : Bt p H H') (hp : S.At H p) (h : H L = some (.lst xs)) (hr : RowAll H s xs) : H' L = some (.lst xs) := by
  refine b.1 L _ (fun e => ?_) h
  obtain ⟨r, m, e2, _⟩ := hp
  rw [e, e2] at h
  injection h with h
  injection h with h
  exact hr.not_two h.symm
mutual
theorem RowsAt.bt {p : Addr} {H H' : Hp} (b : Bt p H H') (hp : S.At H p) : ∀ {w : M.Way} {v : V}, RowsAt H w v → RowsAt H' w v
  | .mk h s, v, x => by
    unfold RowsAt at x ⊢
    obtain ⟨t, L, xs, e, h1, h2, h3⟩ := x
    exact ⟨t, L, xs, e, bt_tup b hp h1, bt_rows b hp h2 h3, RowAll.bt b hp h3⟩
theorem RowAll.bt {p : Addr} {H H' : Hp} (b : Bt p H H') (hp : S.At H p) : ∀ {s : List M.Step} {xs : List V}, RowAll H s xs → RowAll H' s xs
  | [], xs, x => by
    unfold RowAll at x ⊢
    exact x
  | y :: r, xs, x => by
    unfold RowAll at x ⊢
    obtain ⟨u, ys, e, h1, h2⟩ := x
    exact ⟨u, ys, e, RowAt.bt b hp h1, RowAll.bt b hp h2⟩
theorem RowAt.bt {p : Addr} {H H' : Hp} (b : Bt p H H') (hp : S.At H p) : ∀ {s : M.Step} {x : V}, RowAt H s x → RowAt H' s x
  | .road size ts lw, v, x => by
    unfold RowAt at x ⊢
    obtain ⟨t, e, h⟩ := x
    exact ⟨t, e, bt_tup b hp h⟩
  | .join most, v, x => by
    unfold RowAt at x ⊢
    obtain ⟨t, e, h⟩ := x
    exact ⟨t, e, bt_tup b hp h⟩
  | .tunnel w most tw, v, x => by
    unfold RowAt at x ⊢
    obtain ⟨t, u, e, h, h2⟩ := x
    exact ⟨t, u, e, bt_tup b hp h, RowsAt.bt b hp h2⟩
end
theorem RowAll.snoc {H : Hp} : ∀ {s : List M.Step} {xs : List V} {y : M.Step} {x : V}, RowAll H s xs → RowAt H y x → RowAll H (s ++ [y]) (xs ++ [x])
  | [], xs, y, x, a, b => by
    unfold RowAll at a
    subst a
    show RowAll H [y] [x]
    unfold RowAll
    exact ⟨x, [], rfl, b, by unfold RowAll; rfl⟩
  | z :: s, xs, y, x, a, b => by
    unfold RowAll at a
    obtain ⟨u, us, rfl, h1, h2⟩ := a
    show RowAll H (z :: (s ++ [y])) (u :: (us ++ [x]))
    unfold RowAll
    exact ⟨u, us ++ [x], rfl, h1, h2.snoc b⟩
theorem RowAll.len {H : Hp} : ∀ {s : List M.Step} {xs : List V}, RowAll H s xs → xs.length = s.length
  | [], xs, h => by
    unfold RowAll at h
    subst h
    rfl
  | y :: r, xs, h => by
    unfold RowAll at h
    obtain ⟨u, ys, rfl, _, h2⟩ := h
    exact congrArg Nat.succ h2.len
theorem RowAll.get {H : Hp} : ∀ {s : List M.Step} {xs : List V} {i : Nat} {x : V}, RowAll H s xs → xs[i]? = some x → ∃ y, s[i]? = some y ∧ RowAt H y x
  | [], xs, i, x, h, e => by
    unfold RowAll at h
    subst h
    cases e
  | y :: r, xs, 0, x, h, e => by
    unfold RowAll at h
    obtain ⟨u, ys, rfl, h1, _⟩ := h
    cases e
    exact ⟨y, rfl, h1⟩
  | y :: r, xs, i + 1, x, h, e => by
    unfold RowAll at h
    obtain ⟨u, ys, rfl, _, h2⟩ := h
    obtain ⟨s, a, b⟩ := RowAll.get (i := i) h2 e
    exact ⟨s, a, b⟩
/-- roads alone -/
def Roads (h : Nat) (s : List M.Step) : Prop := ∀ y ∈ s, ∃ size ts lw, y = .road size ts lw ∧ h < size ∧ size ≤ 1000
theorem RowAll.roads {H H' : Hp} {h : Nat} (k : ∀ a ys, H a = some (.tup ys) → H' a = some (.tup ys)) : ∀ {s : List M.Step} {xs : List V}, Roads h s → RowAll H s xs → RowAll H' s xs
  | [], xs, _, x => by
    unfold RowAll at x ⊢
    exact x
  | y :: r, xs, q, x => by
    unfold RowAll at x ⊢
    obtain ⟨u, ys, e, h1, h2⟩ := x
    refine ⟨u, ys, e, ?_, RowAll.roads k (fun z hz => q z (List.mem_cons_of_mem _ hz)) h2⟩
    obtain ⟨size, ts, lw, rfl, _⟩ := q y List.mem_cons_self
    unfold RowAt at h1 ⊢
    obtain ⟨t, e, h3⟩ := h1
    exact ⟨t, e, k _ _ h3⟩
theorem add_tup {G : Hp} {L : Addr} {xs zs : List V} (hL : G L = some (.lst xs)) : ∀ a ys, G a = some (.tup ys) → (upd G L (.lst zs)) a = some (.tup ys) := fun a ys h => by
  rw [upd_ne (fun e => by rw [e, hL] at h; cases h)]
  exact h
/-- the heap with a new object: what is known of it -/
theorem Bt.new {p u : Addr} {H : Hp} (o : HO) (h : S.At H p) (hu : H u = none) : Bt p H (upd H u o) := Bt.same (Same.of_upd hu) h
theorem draw_at {H : Hp} {Q : VK} {E : XK} {p : Addr} {n : Int} (h : S.At H p) (n1 : 1 ≤ n) (n2 : n.natAbs.log2 < 9000) (k : ∀ j H', 0 ≤ j → j < n → Bt p H H' → Q (.int j) H') : S.spDraw [.ref p, .int n] H Q E := by
  obtain ⟨r, m, hp, hf⟩ := h
  exact ⟨p, r, m, n, rfl, hp, hf, n1, n2, fun j r1 m1 f1 j0 j1 => k j _ j0 j1 (Bt.put f1)⟩
/-- a draw as it stands in an expression -/
theorem draw_vv {σ : St} {H : Hp} {Q : VK} {E : XK} {p : Addr} {i : Nat} {n : Int} (hσ : σ[i]? = some (some (.ref p))) (h : S.At H p) (n1 : 1 ≤ n) (n2 : n.natAbs.log2 < 9000) (k : ∀ j H', 0 ≤ j → j < n → Bt p H H' → Q (.int j) H') : tCall S.spDraw [] E (tCons (tVar i) (tCons (tC (.int n)) tNil)) σ H Q := ⟨_, hσ, draw_at (E := E) h n1 n2 k⟩
/-- all but the list at L stays -/
def Kp (L : Addr) (H H' : Hp) : Prop := ∀ a o, a ≠ L → H a = some o → H' a = some o
theorem Kp.put {L : Addr} {H : Hp} {o : HO} : Kp L H (upd H L o) := fun a u ne e => by rw [upd_ne ne]; exact e
theorem Kp.tup {L : Addr} {H H' : Hp} {xs : List V} (k : Kp L H H') (hL : H L = some (.lst xs)) : ∀ a ys, H a = some (.tup ys) → H' a = some (.tup ys) := fun a ys h => k a _ (fun e => by rw [e, hL] at h; cases h) h
theorem Kp.at {p L : Addr} {H H' : Hp} (k : Kp L H H') (ne : L ≠ p) (h : S.At H p) : S.At H' p := by
  obtain ⟨r, m, e, f⟩ := h
  exact ⟨r, m, k p _ ne.symm e, f⟩
theorem Kp.bt {p L : Addr} {H0 H H' : Hp} (k : Kp L H H') (ne : L ≠ p) (hL : H0 L = none) (b : Bt p H0 H) : Bt p H0 H' := ⟨fun a o n e => k a o (fun z => by rw [z, hL] at e; cases e) (b.1 a o n e), k.at ne b.2⟩
theorem at_ne {H : Hp} {p L : Addr} (h : S.At H p) (hL : H L = none) : L ≠ p := fun e => by
  obtain ⟨r, m, e2, _⟩ := h
  rw [e, e2] at hL
  cases hL
theorem bt_lst {p L : Addr} {H H' : Hp} {xs : List V} (b : Bt p H H') (ne : L ≠ p) (h : H L = some (.lst xs)) : H' L = some (.lst xs) := b.1 L _ ne h
section
variable {P : Program} {w : World} {K : PySem.W.Frag} {mg : Str → Option Value} {base : Heap} {C : Addr}
end
end WP

end
section
set_option autoImplicit false
set_option Elab.async false
set_option linter.all false
set_option maxRecDepth 100000
set_option maxHeartbeats 4000000
/-! ## the law's fitting rows -/
namespace M
def FitStep (h : Nat) (y : Step) : Prop := Step.fine h y ∧ Step.dep y ≤ 2 ∧ isz y ≤ 4
theorem fit_all {h : Nat} : ∀ {s : List Step}, (∀ y ∈ s, FitStep h y) → Step.fineAll h s ∧ Step.deepest s ≤ 2 ∧ Step.inner s ≤ 4 * s.length
  | [], _ => ⟨by unfold Step.fineAll; trivial, by unfold Step.deepest; omega, by unfold Step.inner; omega⟩
  | y :: r, q => by
    obtain ⟨a, b, c⟩ := q y List.mem_cons_self
    obtain ⟨d, e, f⟩ := fit_all (s := r) fun z hz => q z (List.mem_cons_of_mem _ hz)
    refine ⟨by unfold Step.fineAll; exact ⟨a, d⟩, by rw [deep_cons]; omega, ?_⟩
    rw [inner_cons, List.length_cons]
    omega
theorem fit_way {h : Nat} {s : List Step} (h1 : 1 ≤ h) (h2 : h ≤ 8) (l1 : 1 ≤ s.length) (l2 : s.length ≤ 7) (q : ∀ y ∈ s, FitStep h y) : (Way.mk h s).fine := by
  obtain ⟨a, b, c⟩ := fit_all q
  unfold Way.fine
  exact ⟨by omega, by omega, a, by omega, by omega⟩
theorem flat_all : ∀ {s : List Step}, (∀ y ∈ s, Step.dep y = 0 ∧ isz y = 0) → Step.deepest s = 0 ∧ Step.inner s = 0
  | [], _ => ⟨by unfold Step.deepest; rfl, by unfold Step.inner; rfl⟩
  | y :: r, q => by
    obtain ⟨a, b⟩ := q y List.mem_cons_self
    obtain ⟨c, d⟩ := flat_all (s := r) fun z hz => q z (List.mem_cons_of_mem _ hz)
    rw [deep_cons, inner_cons, a, b, c, d]
    exact ⟨rfl, rfl⟩
/-- a way of one or two roads -/
theorem roads_flat {h : Nat} {s : List Step} (q : ∀ y ∈ s, ∃ size ts lw, y = .road size ts lw ∧ h < size ∧ size ≤ 1000) : ∀ y ∈ s, Step.fine h y ∧ Step.dep y = 0 ∧ isz y = 0 := by
  intro y hy
  obtain ⟨size, ts, lw, rfl, a, b⟩ := q y hy
  exact ⟨by unfold Step.fine; exact ⟨a, b⟩, rfl, rfl⟩
/-- roads, and a way of roads behind them -/
theorem deep_way {h : Nat} {s : List Step} {w : Way} {m : Nat} {tw : TW} (h1 : 1 ≤ h) (h2 : h ≤ 8) (l2 : s.length ≤ 1) (q : ∀ y ∈ s, ∃ size ts lw, y = .road size ts lw ∧ h < size ∧ size ≤ 1000) (wf : w.fine) (wd : w.depth = 1) (ws : w.size ≤ 2) (m1 : 1 ≤ m) (m2 : m ≤ 1000000000000) :
    Way.fine (.mk h (s ++ [.tunnel w m tw])) ∧ Way.depth (.mk h (s ++ [.tunnel w m tw])) ≤ 2 ∧ Way.size (.mk h (s ++ [.tunnel w m tw])) ≤ 4 := by
  have all : ∀ y ∈ s ++ [Step.tunnel w m tw], Step.fine h y ∧ Step.dep y ≤ 1 ∧ isz y ≤ 2 := by
    intro y hy
    rcases List.mem_append.mp hy with e | e
    · obtain ⟨a, b, c⟩ := roads_flat q y e
      exact ⟨a, by omega, by omega⟩
    · rw [List.mem_singleton.mp e]
      refine ⟨by unfold Step.fine; exact ⟨wf, m1, m2⟩, ?_, ws⟩
      show w.depth ≤ 1
      omega
  have inn : Step.inner (s ++ [.tunnel w m tw]) ≤ 2 := by
    match s, l2, q with
    | [], _, _ =>
      show Step.inner [Step.tunnel w m tw] ≤ 2
      rw [inner_cons]
      have e : isz (.tunnel w m tw) = w.size := rfl
      have e2 : Step.inner [] = 0 := by unfold Step.inner; rfl
      omega
    | [y], _, q =>
      show Step.inner [y, Step.tunnel w m tw] ≤ 2
      rw [inner_cons, inner_cons]
      have e : isz (.tunnel w m tw) = w.size := rfl
      have e2 : Step.inner [] = 0 := by unfold Step.inner; rfl
      have e3 := (roads_flat q y List.mem_cons_self).2.2
      omega
    | _ :: _ :: _, l2, _ => simp at l2
  have fa : ∀ {l : List Step}, (∀ y ∈ l, Step.fine h y ∧ Step.dep y ≤ 1 ∧ isz y ≤ 2) → Step.fineAll h l ∧ Step.deepest l ≤ 1 := by
    intro l
    induction l with
    | nil => exact fun _ => ⟨by unfold Step.fineAll; trivial, by unfold Step.deepest; omega⟩
    | cons y r ih =>
      intro q
      obtain ⟨a, b⟩ := ih fun z hz => q z (List.mem_cons_of_mem _ hz)
      obtain ⟨c, d, _⟩ := q y List.mem_cons_self
      exact ⟨by unfold Step.fineAll; exact ⟨c, a⟩, by rw [deep_cons]; omega⟩
  obtain ⟨f1, f2⟩ := fa all
  have ll : (s ++ [Step.tunnel w m tw]).length = s.length + 1 := by rw [List.length_append, List.length_singleton]
  refine ⟨?_, by unfold Way.depth; omega, by unfold Way.size; omega⟩
  unfold Way.fine
  exact ⟨by omega, by omega, f1, by omega, by omega⟩
theorem roads_way {h : Nat} {s : List Step} (h1 : 1 ≤ h) (h2 : h ≤ 8) (l1 : 1 ≤ s.length) (l2 : s.length ≤ 3) (q : ∀ y ∈ s, ∃ size ts lw, y = .road size ts lw ∧ h < size ∧ size ≤ 1000) : Way.fine (.mk h s) ∧ Way.depth (.mk h s) = 1 ∧ Way.size (.mk h s) = s.length := by
  have q2 := roads_flat q
  obtain ⟨a, _, _⟩ := fit_all fun y hy => (⟨(q2 y hy).1, by have := (q2 y hy).2.1; omega, by have := (q2 y hy).2.2; omega⟩ : FitStep h y)
  obtain ⟨c, d⟩ := flat_all fun y hy => (q2 y hy).2
  refine ⟨?_, by unfold Way.depth; rw [c], by unfold Way.size; rw [d]; rfl⟩
  unfold Way.fine
  rw [c, d]
  exact ⟨by omega, by omega, a, by omega, by omega⟩
end M
namespace WP
open PySem L2 G
/-- the heap without what stands at L -/
def hid (G : Hp) (L : Addr) : Hp := fun a => if a = L then none else G a
theorem hid_at {G : Hp} {L a : Addr} (n : a ≠ L) : hid G L a = G a := if_neg n
theorem hid_put {G : Hp} {L : Addr} {o : HO} : hid (upd G L o) L = hid G L := by
  funext a
  unfold hid
  by_cases e : a = L
  · rw [if_pos e, if_pos e]
  · rw [if_neg e, if_neg e, upd_ne e]
theorem hid_same {G : Hp} {L : Addr} : Same (hid G L) G := fun a o e => by
  unfold hid at e
  by_cases q : a = L
  · rw [if_pos q] at e
    cases e
  · rwa [if_neg q] at e
theorem hid_bt {p L : Addr} {G G2 : Hp} (ne : L ≠ p) (b : Bt p G G2) : Bt p (hid G L) (hid G2 L) := by
  refine ⟨fun a o n e => ?_, ?_⟩
  · by_cases q : a = L
    · unfold hid at e
      rw [if_pos q] at e
      cases e
    · rw [hid_at q] at e ⊢
      exact b.1 a o n e
  · obtain ⟨r, m, e, f⟩ := b.2
    exact ⟨r, m, by rw [hid_at ne.symm]; exact e, f⟩
theorem hid_S {p L : Addr} {G : Hp} (ne : L ≠ p) (h : S.At G p) : S.At (hid G L) p := by
  obtain ⟨r, m, e, f⟩ := h
  exact ⟨r, m, by rw [hid_at ne.symm]; exact e, f⟩
theorem hid_tup {G : Hp} {L a : Addr} {xs ys : List V} (hL : G L = some (.lst xs)) (h : G a = some (.tup ys)) : hid G L a = some (.tup ys) := by
  rw [hid_at (fun e => by rw [e, hL] at h; cases h)]
  exact h
theorem fit_next {p L t : Addr} {H G G2 : Hp} {s : List M.Step} {xs : List V} {y : M.Step} (ne : L ≠ p) (hL : H L = none) (bG : Bt p H G) (b : Bt p G G2) (hR : RowAll (hid G L) s xs) (hy : RowAt (hid G2 L) y (.ref t)) :
    Bt p H (upd G2 L (.lst (xs ++ [.ref t]))) ∧ RowAll (hid (upd G2 L (.lst (xs ++ [.ref t]))) L) (s ++ [y]) (xs ++ [.ref t]) := by
  refine ⟨Kp.bt Kp.put ne hL (bG.trans b), ?_⟩
  rw [hid_put]
  exact (hR.bt (hid_bt ne b) (hid_S ne bG.2)).snoc hy
theorem inner_hid {p L L2 t : Addr} {G0 G1 G2 : Hp} {s : List M.Step} {xs ys : List V} {h : Nat} (hp : S.At G0 p) (b1 : Bt p G0 G1) (b2 : Bt p G1 G2) (hL : G0 L = some (.lst ys)) (ne : L ≠ p) (n2 : G0 L2 = none) (ht : G1 t = some (.tup [.int (h : Int), .ref L2])) (h2 : G1 L2 = some (.lst xs)) (hR : RowAll G1 s xs) (hr : Roads h s) : RowsAt (hid G2 L) (.mk h s) (.ref t) := by
  have hL2 := bt_lst (b1.trans b2) ne hL
  unfold RowsAt
  refine ⟨t, L2, xs, rfl, hid_tup hL2 (bt_tup b2 b1.2 ht), ?_, hR.roads (fun a zs e => hid_tup hL2 (bt_tup b2 b1.2 e)) hr⟩
  rw [hid_at (fun e => by rw [e, hL] at n2; cases n2)]
  exact bt_lst b2 (at_ne hp n2) h2
theorem draw_w {σ : St} {H : Hp} {Q : VK} {E : XK} {p : Addr} {i j : Nat} {c n : Int} (hσ : σ[i]? = some (some (.ref p))) (hj : σ[j]? = some (some (.int n))) (h : S.At H p) (n1 : 1 ≤ n) (n2 : n.natAbs.log2 < 9000) (k : ∀ x H', 0 ≤ x → x < n → Bt p H H' → Q (.int (c + x)) H') :
    tOp (rI0 fun i j => .int (i + j)) (tC (.int c)) (tCall S.spDraw [] E (tCons (tVar i) (tCons (tVar j) tNil))) σ H Q := by
  obtain ⟨r, m, hp, hf⟩ := h
  exact ⟨_, hσ, _, hj, p, r, m, n, rfl, hp, hf, n1, n2, fun x r1 m1 f1 j0 j1 => ⟨_, _, rfl, rfl, k x _ j0 j1 (Bt.put f1)⟩⟩
theorem tw_of {x : V} (h : x ∈ [V.str "turn", V.str "turn", V.str "keep", V.str "lose"]) : ∃ tw, x = .str (twS tw) := by
  rcases List.mem_cons.mp h with e | h
  · exact ⟨.turn, e⟩
  rcases List.mem_cons.mp h with e | h
  · exact ⟨.turn, e⟩
  rcases List.mem_cons.mp h with e | h
  · exact ⟨.keep, e⟩
  · have e : x = V.str "lose" := by simpa using h
    exact ⟨.lose, e⟩
section
variable {P : Program} {w : World} {K : PySem.W.Frag} {mg : Str → Option Value} {base : Heap} {C : Addr}
theorem tw_of3 {x : V} (h : x ∈ [V.str "turn", V.str "keep", V.str "lose"]) : ∃ tw, x = .str (twS tw) := tw_of (List.mem_cons_of_mem _ h)
theorem RowAll.take {H : Hp} : ∀ {s : List M.Step} {xs : List V} (i : Nat), RowAll H s xs → RowAll H (s.take i) (xs.take i)
  | s, xs, 0, _ => by
    rw [List.take_zero, List.take_zero]
    unfold RowAll
    rfl
  | [], xs, i + 1, h => by
    unfold RowAll at h
    subst h
    unfold RowAll
    rfl
  | y :: s, xs, i + 1, h => by
    unfold RowAll at h
    obtain ⟨u, us, rfl, h1, h2⟩ := h
    rw [List.take_succ_cons, List.take_succ_cons]
    unfold RowAll
    exact ⟨u, us.take i, rfl, h1, h2.take i⟩
/-- an inner way of rows: what the outer one may hold -/
def InAt (G : Hp) (L : Addr) (v : V) : Prop := ∃ wy, RowsAt (hid G L) wy v ∧ wy.fine ∧ wy.depth ≤ 2 ∧ wy.size ≤ 4
theorem InAt.bt {p L : Addr} {G G2 : Hp} {v : V} (ne : L ≠ p) (hp : S.At G p) (b : Bt p G G2) (h : InAt G L v) : InAt G2 L v := by
  obtain ⟨wy, h1, h2⟩ := h
  exact ⟨wy, h1.bt (hid_bt ne b) (hid_S ne hp), h2⟩
end
end WP

end
section
set_option autoImplicit false
set_option Elab.async false
set_option linter.all false
set_option maxRecDepth 100000
set_option maxHeartbeats 4000000
/-! ## ways made of rows -/
namespace WP
open PySem L2 G
abbrev sLMade : Stmt := top 37
open CP (KeepT)
theorem Kp.keepT {L : Addr} {H H' : Hp} {xs : List V} (k : Kp L H H') (hL : H L = some (.lst xs)) : KeepT H H' := fun a o n e => k a o (fun z => by rw [z, hL] at e; cases e; exact n _ rfl) e
theorem Same.keepT {H H' : Hp} (s : Same H H') : KeepT H H' := fun a o _ e => s a o e
mutual
theorem RowsAt.mono {H H' : Hp} (s : Same H H') : ∀ {w : M.Way} {v : V}, RowsAt H w v → RowsAt H' w v
  | .mk h st, v, x => by
    unfold RowsAt at x ⊢
    obtain ⟨t, L, xs, e, h1, h2, h3⟩ := x
    exact ⟨t, L, xs, e, s _ _ h1, s _ _ h2, RowAll.mono s h3⟩
theorem RowAll.mono {H H' : Hp} (s : Same H H') : ∀ {st : List M.Step} {xs : List V}, RowAll H st xs → RowAll H' st xs
  | [], xs, x => by
    unfold RowAll at x ⊢
    exact x
  | y :: r, xs, x => by
    unfold RowAll at x ⊢
    obtain ⟨u, ys, e, h1, h2⟩ := x
    exact ⟨u, ys, e, RowAt.mono s h1, RowAll.mono s h2⟩
theorem RowAt.mono {H H' : Hp} (s : Same H H') : ∀ {st : M.Step} {x : V}, RowAt H st x → RowAt H' st x
  | .road size ts lw, v, x => by
    unfold RowAt at x ⊢
    obtain ⟨t, e, h⟩ := x
    exact ⟨t, e, s _ _ h⟩
  | .join most, v, x => by
    unfold RowAt at x ⊢
    obtain ⟨t, e, h⟩ := x
    exact ⟨t, e, s _ _ h⟩
  | .tunnel w most tw, v, x => by
    unfold RowAt at x ⊢
    obtain ⟨t, u, e, h, h2⟩ := x
    exact ⟨t, u, e, s _ _ h, RowsAt.mono s h2⟩
end
theorem at0 {y0 : V} {ys : List V} : atI (y0 :: ys) (0 : Int) = some y0 := by exact atI_nat (xs := y0 :: ys) (j := 0) rfl
theorem at1 {y0 y1 : V} {ys : List V} : atI (y0 :: y1 :: ys) (1 : Int) = some y1 := by exact atI_nat (xs := y0 :: y1 :: ys) (j := 1) rfl
theorem at2 {y0 y1 y2 : V} {ys : List V} : atI (y0 :: y1 :: y2 :: ys) (2 : Int) = some y2 := by exact atI_nat (xs := y0 :: y1 :: y2 :: ys) (j := 2) rfl
theorem at3 {y0 y1 y2 y3 : V} {ys : List V} : atI (y0 :: y1 :: y2 :: y3 :: ys) (3 : Int) = some y3 := by exact atI_nat (xs := y0 :: y1 :: y2 :: y3 :: ys) (j := 3) rfl
theorem yesS {a : Str} : decide (V.str a = V.str a) = true := decide_eq_true rfl
theorem noS {a b : Str} (h : a ≠ b) : decide (V.str a = V.str b) = false := decide_eq_false fun z => h (V.str.inj z)
/-- s[0] == kind, of a step's row -/
def kindOf : M.Step → Str
  | .road _ _ _ => "road"
  | .join _ => "join"
  | .tunnel _ _ _ => "tunnel"
theorem RowAt.kind {H : Hp} : ∀ {s : M.Step} {x : V}, RowAt H s x → ∃ t y ys, x = .ref t ∧ H t = some (.tup (.str (kindOf s) :: y :: ys))
  | .road _ _ _, x, h => by unfold RowAt at h; obtain ⟨t, e, h⟩ := h; exact ⟨t, _, _, e, h⟩
  | .join _, x, h => by unfold RowAt at h; obtain ⟨t, e, h⟩ := h; exact ⟨t, _, _, e, h⟩
  | .tunnel _ _ _, x, h => by unfold RowAt at h; obtain ⟨t, v, e, h, _⟩ := h; exact ⟨t, _, _, e, h⟩
section
variable {P : Program} {w : World} {K : PySem.W.Frag} {mg : Str → Option Value} {base : Heap} {C : Addr}
def spLMade (C : Addr) (n : Nat) : Sp := fun vs H Q _ => ∃ v wy, vs = [v] ∧ RowsAt H wy v ∧ M.Way.fine wy ∧ wy.depth ≤ n ∧ ∀ a H', Same H H' → WayAt C H' wy a → Q (.ref a) H'
theorem scMd : FnScope ["rows", "head", "steps", "found", "step"] ["rows"] (defScope sLMade) := ⟨rfl, rfl, rfl, by decide +kernel, rfl, by decide +kernel, by decide +kernel⟩
theorem ok_lmade {k n : Nat} {f : Addr} {fd : FuncData} (F : Fun K "_law_made" "_law_made" sLMade f fd) (T : Wt K mg C) (MW : Mw P w K mg base C) (hk : 7 ≤ k) (W : Df P w K mg base k "_law_made" ["rows"] (spLMade C n)) : FnOk P w K mg base CX0 (k + 1) f fd ["rows"] (spLMade C (n + 1)) := by
  obtain ⟨fI, fdI, GI, MK, bI⟩ := MW.ex
  obtain ⟨fW, fdW, GW, gW, kW, bW⟩ := W.ex
  refine F.ok scMd (fun vs H Q E h => ?_) (fun cdv A outer s H vs Q E hr h => ?_)
  · obtain ⟨v, wy, rfl, _⟩ := h
    rfl
  · obtain ⟨v, wy, rfl, hR, hf, hd, kk⟩ := h
    refine ⟨_, pss_cons (ps_asg (pv 0) (pg_tup (by rfl) (pgs_cons (pg_name (i := 1) scMd.nd rfl (.inl rfl)) (pgs_cons (pg_name (i := 2) scMd.nd rfl (.inl rfl)) pgs_nil))))
      (pss_cons (ps_set (i := 3) scMd.nd rfl (Or.inl rfl) (pe_lst pa_nil))
      (pss_cons (ps_for PassesOwn.never rfl (pi_list (pv 2)) (pg_name (i := 4) scMd.nd rfl (Or.inl rfl))
        (pss_one (ps_expr (pe_bm PySem.F.plainAttrs_list PySem.F.slot_list_append PySem.F.type_list_append mt_append (pv 3) (pa_cons (pe_ifExp (pt_cmpR op_eq (pe_ix ix_tup (pv 4) pe_int (fun _ _ => rfl)) pe_str (nomark _))
          (pe_tup (pa_cons pe_str (pa_cons (pe_call GW hr rfl gW kW bW .nil pass0 (pa_cons (pe_ix ix_tup (pv 4) pe_int (fun _ _ => rfl)) pa_nil)) (pa_cons (pe_ix ix_tup (pv 4) pe_int (fun _ _ => rfl)) (pa_cons (pe_ix ix_tup (pv 4) pe_int (fun _ _ => rfl)) pa_nil))))) (pv 4)) pa_nil)))))
      (pss_one (ps_ret (pe_make MK GI (hr.mono hk) rfl T.g bI .nil pass0 (pa_cons (pv 1) (pa_cons (pv 3) pa_nil))))))), ?_⟩
    obtain ⟨h, st⟩ := wy
    unfold RowsAt at hR
    obtain ⟨t, L, xs, rfl, ht, hL, hA⟩ := hR
    have hf0 := hf
    unfold M.Way.fine at hf
    obtain ⟨hh, hl, hall, hdd, hzz⟩ := hf
    unfold M.Way.depth at hd
    have lx := hA.len
    refine ⟨_, rfl, t, _, rfl, SqT.of ht, rfl, _, _, rfl, _, _, rfl, rfl, ?_⟩
    refine ⟨line2.2.2.2, fun D hD => ?_⟩
    have s0 : Same H (upd H D (.lst [])) := Same.of_upd hD
    refine ⟨_, rfl, L, rfl, ⟨_, SqL.of (s0 _ _ hL)⟩, for_list (K := K) (a := L) (xs := xs) (fun i σ G => Same H G ∧ ∃ acc q, σ = [some (.ref t), some (.int (h : Int)), some (.ref L), some (.ref D), q] ∧ G D = some (.lst acc) ∧ StepsAt C G (st.take i) acc)
      ⟨s0, [], _, rfl, upd_same, by unfold StepsAt; rfl⟩ (fun i σ G _ z => SqL.of (z.1 _ _ hL)) ?_ ?_⟩
    · rintro i x σ G hx ⟨s1, acc, q, rfl, hAc, hSt⟩
      obtain ⟨y, hy, hat⟩ := hA.get hx
      have la := hSt.len
      have et := take_snoc hy
      have lt : acc.length < sizeLine := small1000 (by rw [la, List.length_take]; omega)
      have fin : ∀ (G2 : Hp) (u : V), Same G G2 → StepAt C G2 y u → Same H (upd G2 D (.lst (acc ++ [u]))) ∧ ∃ acc2 q, [some (V.ref t), some (.int (h : Int)), some (.ref L), some (.ref D), some x] = [some (.ref t), some (.int (h : Int)), some (.ref L), some (.ref D), q] ∧ (upd G2 D (.lst (acc ++ [u]))) D = some (.lst acc2) ∧ StepsAt C (upd G2 D (.lst (acc ++ [u]))) (st.take (i + 1)) acc2 := fun G2 u s2 hu => by
        refine ⟨fun a o e => ?_, _, _, rfl, upd_same, ?_⟩
        · rw [upd_ne (fun z => by rw [z, hD] at e; cases e)]
          exact s2 _ _ (s1 _ _ e)
        · rw [et]
          have kp : KeepT G2 (upd G2 D (.lst (acc ++ [u]))) := Kp.keepT Kp.put (s2 _ _ hAc)
          exact ((hSt.keep (Same.keepT s2)).keep kp).snoc (hu.keep kp)
      dsimp only
      refine ⟨_, rfl, .inl ⟨rfl, _, SqL.of hAc⟩, ?_⟩
      obtain ⟨tx, y0, ys0, rfl, hk0⟩ := hat.kind
      refine ⟨_, rfl, tx, _, _, _, rfl, rfl, SqT.of (s1 _ _ hk0), at0, rfl, _, rfl, ?_⟩
      cases y with
      | road size ts lw =>
        rw [show decide (V.str (kindOf (.road size ts lw)) = V.str "tunnel") = false from noS kinds.2.1]
        refine iteF ⟨_, rfl, D, acc, _, rfl, rfl, hAc, lt, fin G _ (Same.refl _) ?_⟩
        unfold RowAt at hat
        unfold StepAt
        obtain ⟨t2, e2, h2⟩ := hat
        exact ⟨t2, e2, s1 _ _ h2⟩
      | join most =>
        rw [show decide (V.str (kindOf (.join most)) = V.str "tunnel") = false from noS kinds.2.2.1]
        refine iteF ⟨_, rfl, D, acc, _, rfl, rfl, hAc, lt, fin G _ (Same.refl _) ?_⟩
        unfold RowAt at hat
        unfold StepAt
        obtain ⟨t2, e2, h2⟩ := hat
        exact ⟨t2, e2, s1 _ _ h2⟩
      | tunnel wi most tw =>
        rw [show decide (V.str (kindOf (.tunnel wi most tw)) = V.str "tunnel") = true from yesS]
        unfold RowAt at hat
        obtain ⟨t2, v2, e2, h2, hin⟩ := hat
        cases e2
        have fi := fine_get hall hy
        unfold M.Step.fine at fi
        have di := M.dep_le hy
        have h3 := SqT.of (K := K) (s1 _ _ h2)
        refine iteT ⟨_, rfl, tx, _, _, _, rfl, rfl, h3, at1, v2, wi, rfl, hin.mono s1, fi.1, ?_, fun a G2 s2 hwa => ?_⟩
        · have e : M.Step.dep (.tunnel wi most tw) = wi.depth := rfl
          omega
        have h4 := SqT.of (K := K) (s2 _ _ (s1 _ _ h2))
        refine ⟨_, rfl, tx, _, _, _, rfl, rfl, h4, at2, _, rfl, tx, _, _, _, rfl, rfl, h4, at3, (by show 4 ≤ sizeLine; decide), fun u hu => ?_⟩
        have s3 : Same G2 (upd G2 u (.tup [.str "tunnel", .ref a, .int (most : Int), .str (twS tw)])) := Same.of_upd hu
        refine ⟨D, acc, _, rfl, rfl, s3 _ _ (s2 _ _ hAc), lt, fin _ _ (s2.trans s3) ?_⟩
        unfold StepAt
        exact ⟨u, a, rfl, upd_same, hwa.mono s3⟩
    · rintro σ G ⟨s1, acc, q, rfl, hAc, hSt⟩
      have e : st.take xs.length = st := by rw [lx]; exact List.take_length
      rw [e] at hSt
      refine ⟨_, rfl, _, rfl, ?_⟩
      exact made_way (.inl hAc) hSt hf0 fun x H' s2 wa => kk x H' (s1.trans s2) wa
/-- a def as it stands behind the top -/
structure Fd (K : PySem.W.Frag) (mg : Str → Option Value) (x : Str) (st : Stmt) (ps : List Str) : Prop where
  ex : ∃ (f : Addr) (fd : FuncData), Fun K x x st f fd ∧ mg x = some (.ref f) ∧ PySem.W.keepIn K (.ref f) = true ∧ Binds K fd ps []
theorem Fd.df {x : Str} {st : Stmt} {ps : List Str} {k : Nat} {sp : Sp} (h : Fd K mg x st ps) (ok : ∀ f fd, Fun K x x st f fd → FnOk P w K mg base CX0 k f fd ps sp) : Df P w K mg base k x ps sp := by
  obtain ⟨f, fd, h1, h2, h3, h4⟩ := h.ex
  exact ⟨f, fd, ok f fd h1, h2, h3, h4⟩
theorem df_made (T : Wt K mg C) (MW : Mw P w K mg base C) (Z : Fd K mg "_law_made" sLMade ["rows"]) : ∀ n, Df P w K mg base (8 + n) "_law_made" ["rows"] (spLMade C n)
  | 0 => Z.df fun f fd F => F.ok scMd (fun vs H Q E h => by
      obtain ⟨v, wy, rfl, _⟩ := h
      rfl) (fun cdv A outer s H vs Q E hr h => by
      exfalso
      obtain ⟨v, wy, _, _, _, hd, _⟩ := h
      have := depth_pos wy
      omega)
  | n + 1 => Z.df fun f fd F => ok_lmade F T MW (by show 7 ≤ 8 + n; omega) (df_made T MW Z n)
end
end WP

end
section
set_option autoImplicit false
set_option Elab.async false
set_option linter.all false
set_option maxRecDepth 100000
set_option maxHeartbeats 4000000
/-! ## is_integer, is_within of any value; promises joined -/
namespace L2
open PySem PySem.Spec PyProof.Rows
section
variable {P : Program} {w : World} {K : PySem.W.Frag} {mg : Str → Option Value} {base : Heap} {CX : CXT} {k : Nat} {f : Addr} {fd : FuncData} {ps : List Str} {a b sp : Sp}
def orSp (a b : Sp) : Sp := fun vs H Q E => a vs H Q E ∨ b vs H Q E
theorem FnOk.or (F : FnOk P w K mg base CX k f fd ps a) (G : FnOk P w K mg base CX k f fd ps b) : FnOk P w K mg base CX k f fd ps (orSp a b) :=
  ⟨fun vs H Q E h => h.elim (F.len vs H Q E) (G.len vs H Q E), fun A outer s H args us vs Q E hr he hb hv h => h.elim (F.run A outer s H args us vs Q E hr he hb hv) (G.run A outer s H args us vs Q E hr he hb hv)⟩
/-- what lets nothing out keeps its promise wherever something may be let out -/
theorem FnOk.lift (F : FnOk P w K mg base CX0 k f fd ps sp) : FnOk P w K mg base CX k f fd ps sp :=
  ⟨F.len, fun A outer s H args us vs Q E hr he hb hv h => codeAny_mono (F.run A outer s H args us vs Q E hr he hb hv h) fun r s' z => by
    cases r with
    | error e => exact (z : False).elim
    | ok fl => cases fl <;> exact z⟩
end
end L2
namespace G
open PySem PySem.Spec PyProof.Rows L2
section
variable {X : Cx} {CX : CXT} {k : Nat} {f C : Addr} {fd : FuncData} {ps : List Str} {sp : Sp} {E : L2.St → XK} {x : Str} {p pos : Pos} {e : Expr} {es : List Expr} {t : TA} {ds : List Value} {dvs : List V}
/-- C(e, ..), what its __init__ may let out told at the slots -/
def tMakeS (C : Addr) (sp : Sp) (dvs : List V) (E : L2.St → XK) (t : TA) : TE := fun σ H Q => t σ H fun vs H1 => ∀ x dx, H1 x = none → H1 dx = none → dx ≠ x → sp (.ref x :: (vs ++ dvs)) (upd (upd H1 dx (.own x)) x (.ins C dx [])) (fun v H2 => v = .non ∧ Q (.ref x) H2) (E σ)
theorem pe_makeS (M : L2.Mk X.K C f) (F : FnOk X.prog X.w X.K X.mg X.base CX k f fd ps sp) (hr : Room (k + 1) X.A) (hg : Gl X x) (hm : X.mg x = some (.ref C)) (hb : Binds X.K fd ps ds) (hd : Vals dvs ds) (hx : ∀ σ, PassesAt CX X σ (E σ)) (ha : PA X (e :: es) t) (hdb : (x == ("__debug__" : Str)) = false := by decide)
    (he : starEach (e :: es) X.env = (false, eval e X.env) :: starEach es X.env := by rfl) (hpl : (backTo pos (starEach es X.env)).any (·.1) = false := by rfl) : PE X (.Call (.Name x p) (e :: es) [] pos) (tMakeS C sp dvs E t) := by
  refine ⟨fun pins s σ H Q I h => wpAny_Call_Name_kw (ld_glob I hg hm ?_ hdb)⟩
  refine PySem.W.callWith_K (h₀ := X.base) I.ok.mod.kin M.kp (thn (ha.run pos pins s σ H _ I h) fun us s1 hh => ?_) he hpl
  obtain ⟨vs, H1, I1, r, q⟩ := hh
  refine ⟨I1.kIn, ?_⟩
  have hq := q (s1.heap.objs.size + 1) s1.heap.objs.size (I1.hok.fresh (Nat.le_succ _)) (I1.hok.fresh (Nat.le_refl _)) (Nat.ne_of_lt (Nat.lt_succ_self _))
  have I2 := Inv.made (C := C) I1
  have r2 : Vals (V.ref (s1.heap.objs.size + 1) :: (vs ++ dvs)) (Value.ref (s1.heap.objs.size + 1) :: (us ++ ds)) := .cons rfl (r.append hd)
  have hl : (Value.ref (s1.heap.objs.size + 1) :: us ++ ds).length = ps.length := by
    have e := r2.length
    rw [F.len _ _ _ _ hq] at e
    exact e.symm
  refine wpAny_call (make_map (f := f) I1.kIn M.makes M.init (beq_iff_eq.mp M.fn) (codeAny_mono (F.run _ X.stack _ _ ⟨Value.ref (s1.heap.objs.size + 1) :: us, []⟩ (Value.ref (s1.heap.objs.size + 1) :: (us ++ ds)) _ _ (E σ) (hr.make C us [])
    (I2.env0.make C us []) (hb _ (Value.ref (s1.heap.objs.size + 1) :: us) I2.kIn hl) r2 hq) fun rr s' hq' => ?_))
  match rr, hq' with
  | .error er, z => exact hx σ pins _ _ er s' I2 z
  | .ok (.ret u), z =>
    obtain ⟨v, H', I3, rv, ev, q3⟩ := I2.after z
    subst ev
    exact ⟨rv, ⟨V.ref (s1.heap.objs.size + 1), H', I3, rfl, q3⟩⟩
  | .ok .next, z => exact z.elim
  | .ok .brk, z => exact z.elim
  | .ok .cont, z => exact z.elim
end
end G
namespace CP
open PySem L2 G Y
abbrev sInteger : Stmt := S.top 2
abbrev sWithin : Stmt := S.top 3
theorem scIn : FnScope ["value"] ["value"] (defScope sInteger) := ⟨rfl, rfl, rfl, by decide +kernel, rfl, by decide +kernel, by decide +kernel⟩
theorem sc3 : FnScope ["value", "least", "greatest"] ["value", "least", "greatest"] (defScope sWithin) := ⟨rfl, rfl, rfl, by decide +kernel, rfl, by decide +kernel, by decide +kernel⟩
/-- a value that is no integer: a bool, or of another kind -/
def NI (K : PySem.W.Frag) (H : Hp) (v : V) : Prop := (∃ b, v = .bl b) ∨ ∃ t, TyX K H v t ∧ PySem.W.kitOne K t (.type "int") = some false
theorem tyX_mono {K : PySem.W.Frag} {H H' : Hp} (s : Same H H') {v : V} {t : Value} (h : TyX K H v t) : TyX K H' v t := by
  cases h with
  | base b =>
    refine .base ?_
    cases b with
    | non => exact .non
    | bl x => exact .bl x
    | int i => exact .int i
    | str x => exact .str x
    | flt x => exact .flt x
    | lst e => exact .lst (s _ _ e)
    | frz e => exact .frz (s _ _ e)
    | tup e => exact .tup (s _ _ e)
    | dK e => exact .dK (s _ _ e)
    | dT e => exact .dT (s _ _ e)
    | ins e cl ha hn htk hm => exact .ins (s _ _ e) cl ha hn htk hm
  | byt b => exact .byt b
  | set e => exact .set (s _ _ e)
  | kList e c => exact .kList e c
  | kTuple e c => exact .kTuple e c
  | kDict e c => exact .kDict e c
  | fTuple e => exact .fTuple (s _ _ e)
  | fDict e => exact .fDict (s _ _ e)
theorem NI.mono {K : PySem.W.Frag} {H H' : Hp} (s : Same H H') {v : V} (h : NI K H v) : NI K H' v := by
  rcases h with h | ⟨t, ty, e⟩
  · exact .inl h
  · exact .inr ⟨t, tyX_mono s ty, e⟩
section
variable {P : Program} {w : World} {K : PySem.W.Frag} {mg : Str → Option Value} {base : Heap} {C CW CB : Addr}
def spInt2 (K : PySem.W.Frag) : Sp := fun vs H Q _ => ∃ v, vs = [v] ∧ ((∃ i, v = .int i ∧ Q (.bl true) H) ∨ (NI K H v ∧ Q (.bl false) H))
theorem ok_int2 {f : Addr} {fd : FuncData} (F : Fun K "is_integer" "is_integer" sInteger f fd) (B : Bn mg) : FnOk P w K mg base CX0 1 f fd ["value"] (spInt2 K) := by
  refine F.ok scIn (fun vs H Q E h => ?_) (fun cdv A outer s H vs Q E hr h => ?_)
  · obtain ⟨v, rfl, _⟩ := h
    rfl
  · obtain ⟨v, rfl, h⟩ := h
    refine ⟨_, pss_one (ps_ret (pe_and (pe_callB call_isi (by rfl) B.isi (by decide +kernel) (pa_cons (pv 0) (pa_cons (pe_bltn (v := .ty "int") (by rfl) B.int (by decide +kernel) rfl) pa_nil)))
      (pe_one (pe_not (pe_callB call_isi (by rfl) B.isi (by decide +kernel) (pa_cons (pv 0) (pa_cons (pe_bltn (v := .ty "bool") (by rfl) B.bool (by decide +kernel) rfl) pa_nil))))))), ?_⟩
    rcases h with ⟨i, rfl, k⟩ | ⟨⟨b, rfl⟩ | ⟨t, ty, e⟩, k⟩
    · exact ⟨_, rfl, _, _, _, _, _, rfl, .ty _, .base (.int _), kit_ty (r := true) (by decide +kernel), _, rfl, iteT ⟨_, rfl, _, _, _, _, _, rfl, .ty _, .base (.int _), kit_ty (r := false) (by decide +kernel), _, rfl, k⟩⟩
    · exact ⟨_, rfl, _, _, _, _, _, rfl, .ty _, .base (.bl _), kit_ty (r := true) (by decide +kernel), _, rfl, iteT ⟨_, rfl, _, _, _, _, _, rfl, .ty _, .base (.bl _), kit_ty (r := true) (by decide +kernel), _, rfl, k⟩⟩
    · exact ⟨_, rfl, _, _, _, _, _, rfl, .ty _, ty, e, _, rfl, iteF k⟩
def spWithin2 (K : PySem.W.Frag) : Sp := fun vs H Q _ => ∃ (v : V) (a b : Int), vs = [v, .int a, .int b] ∧ ((∃ i, v = .int i ∧ Q (.bl (decide (a ≤ i ∧ i ≤ b))) H) ∨ (NI K H v ∧ Q (.bl false) H))
theorem ok_within2 {f : Addr} {fd : FuncData} (F : Fun K "is_within" "is_within" sWithin f fd) (DI : Df P w K mg base 1 "is_integer" ["value"] (spInt2 K)) : FnOk P w K mg base CX0 2 f fd ["value", "least", "greatest"] (spWithin2 K) := by
  obtain ⟨fI, fdI, GI, gI, kI, bI⟩ := DI.ex
  refine F.ok sc3 (fun vs H Q E h => ?_) (fun cdv A outer s H vs Q E hr h => ?_)
  · obtain ⟨v, a, b, rfl, _⟩ := h
    rfl
  · obtain ⟨v, a, b, rfl, h⟩ := h
    refine ⟨_, pss_one (ps_ret (pe_and (pe_call GI hr rfl gI kI bI .nil pass0 (pa_cons (pv 0) pa_nil)) (pe_one (pe_chain op_le op_le (pv 1) (pv 0) (pv 2))))), ?_⟩
    rcases h with ⟨v, rfl, k⟩ | ⟨ni, k⟩
    · refine ⟨_, rfl, _, rfl, .inl ⟨v, rfl, _, rfl, iteT ⟨_, rfl, _, rfl, _, _, rfl, rfl, _, rfl, ?_⟩⟩⟩
      refine ite2 (fun h1 => ⟨_, rfl, _, _, rfl, rfl, ?_⟩) (fun h1 => ?_)
      · have e1 : a ≤ v := of_decide_eq_true h1
        rw [show decide (a ≤ v ∧ v ≤ b) = decide (v ≤ b) from decide_eq_decide.mpr ⟨fun z => z.2, fun z => ⟨e1, z⟩⟩] at k
        exact k
      · rw [show decide (a ≤ v ∧ v ≤ b) = false from decide_eq_false fun q => h1 (decide_eq_true q.1)] at k
        exact k
    · exact ⟨_, rfl, v, rfl, .inr ⟨ni, _, rfl, iteF k⟩⟩
end
end CP

end
section
set_option autoImplicit false
set_option Elab.async false
set_option linter.all false
set_option maxRecDepth 100000
set_option maxHeartbeats 4000000
set_option pp.maxSteps 900
/-! ## values of any kind in the place of a step: what is told of them -/
namespace L2
open PySem PySem.Spec PyProof.Rows
section
variable {X : Cx}
/-- x in a tuple, both data -/
def rInDT (K : PySem.W.Frag) : R2 := fun x y H Q => ∃ d ds, Dp K H x d ∧ Dp K H y (.tuple ds) ∧ SeqAt.shaped d = true ∧ SeqAt.shaped (.list ds) = true ∧ Q (.bl (ds.any fun z => PyData.eqv z d)) H
theorem op_inDT (hu : X.A.units + 65 < cLine) : OpR X (compareOp .In) (rInDT X.K) := by
  intro pins s σ H x y v u Q I rx ry h
  obtain ⟨d, ds, hd, he, sd, se, q⟩ := h
  obtain ⟨as, r1⟩ := Dp.reads I d x v hd rx
  obtain ⟨bs, r2⟩ := Dp.reads I (.tuple ds) y u he ry
  exact SeqAt.in_tuple_reads r2 r1 (SeqAt.canLay_of_shaped se) (SeqAt.canLay_of_shaped sd) (room_in_shaped sd hu) ⟨.bl _, H, I, rfl, q⟩
end
end L2
namespace WP
open PySem L2 G
/-- a number's place: whether a whole number within bounds stands there -/
def Nm (K : PySem.W.Frag) (H : Hp) (v : V) (lo hi : Int) (b : Bool) : Prop := (∃ i, v = .int i ∧ b = decide (lo ≤ i ∧ i ≤ hi)) ∨ (CP.NI K H v ∧ b = false)
abbrev dS : List PyData := [.str "tell", .str "drop"]
abbrev dL : List PyData := [.str "cut", .str "tell", .str "drop"]
abbrev dT : List PyData := [.str "turn", .str "keep", .str "lose"]
def has (ds : List PyData) (d : PyData) : Bool := ds.any fun z => PyData.eqv z d
/-- flat, or an object -/
def IdW (v : V) : Prop := flatV v = true ∨ ∃ a, v = .ref a
/-- a value in the place of a step, and whether it is one -/
inductive StB (K : PySem.W.Frag) (C : Addr) (H : Hp) (h : Nat) : V → Bool → Prop
  | no {v : V} {t : Value} (a : TyX K H v t) (b : PySem.W.kitOne K t (.type "tuple") = some false) (i : IdW v := by first | exact Or.inl rfl | exact Or.inr ⟨_, rfl⟩) : StB K C H h v false
  | nil {a : Addr} : H a = some (.tup []) → StB K C H h (.ref a) false
  | odd {a : Addr} {x : V} {xs : List V} : H a = some (.tup (x :: xs)) → xs.length ≤ 100 → flatV x = true → x ≠ .str "road" → x ≠ .str "join" → x ≠ .str "tunnel" → StB K C H h (.ref a) false
  | road0 {a : Addr} {xs : List V} : H a = some (.tup (.str "road" :: xs)) → xs.length ≤ 100 → xs.length ≠ 3 → StB K C H h (.ref a) false
  | road {a : Addr} {n x y : V} {b : Bool} {d e : PyData} : H a = some (.tup [.str "road", n, x, y]) → Nm K H n ((h + 1 : Nat) : Int) 1000 b → Dp K H x d → SeqAt.shaped d = true → Dp K H y e → SeqAt.shaped e = true → StB K C H h (.ref a) (b && (has dS d && has dL e))
  | join0 {a : Addr} {xs : List V} : H a = some (.tup (.str "join" :: xs)) → xs.length ≤ 100 → xs.length ≠ 1 → StB K C H h (.ref a) false
  | join {a : Addr} {n : V} {b : Bool} : H a = some (.tup [.str "join", n]) → Nm K H n 1 1000000000000 b → StB K C H h (.ref a) b
  | tun0 {a : Addr} {xs : List V} : H a = some (.tup (.str "tunnel" :: xs)) → xs.length ≤ 100 → xs.length ≠ 3 → StB K C H h (.ref a) false
  | tunN {a : Addr} {x m t : V} {ty : Value} : H a = some (.tup [.str "tunnel", x, m, t]) → TyX K H x ty → PySem.W.kitOne K ty (.ref C) = some false → StB K C H h (.ref a) false
  | tun {a c : Addr} {wy : M.Way} {m t : V} {b : Bool} {d : PyData} : H a = some (.tup [.str "tunnel", .ref c, m, t]) → WayAt C H wy c → wy.fine → Nm K H m 1 1000000000000 b → Dp K H t d → SeqAt.shaped d = true → StB K C H h (.ref a) (b && has dT d)
section
variable {K : PySem.W.Frag} {C : Addr} {H H' : Hp} {h : Nat}
theorem Nm.mono (s : Same H H') {v : V} {lo hi : Int} {b : Bool} (q : Nm K H v lo hi b) : Nm K H' v lo hi b := q.imp id fun q => ⟨q.1.mono s, q.2⟩
mutual
theorem dp_mono (s : Same H H') : ∀ {v : V} {d : PyData}, Dp K H v d → Dp K H' v d
  | _, _, .non => .non
  | _, _, .bl b => .bl b
  | _, _, .int i => .int i
  | _, _, .str x => .str x
  | _, _, .lst a b => .lst (s.seq a) (dpAll_mono s b)
  | _, _, .tup a b => .tup (a.ext s) (dpAll_mono s b)
theorem dpAll_mono (s : Same H H') : ∀ {v : List V} {d : List PyData}, DpAll K H v d → DpAll K H' v d
  | _, _, .nil => .nil
  | _, _, .cons a b => .cons (dp_mono s a) (dpAll_mono s b)
end
theorem StB.idw {v : V} {b : Bool} (q : StB K C H h v b) : IdW v := by
  cases q with
  | no _ _ i => exact i
  | _ => exact .inr ⟨_, rfl⟩
theorem StB.mono (s : Same H H') {v : V} {b : Bool} (q : StB K C H h v b) : StB K C H' h v b := by
  cases q with
  | no a b i => exact .no (CP.tyX_mono s a) b i
  | nil a => exact .nil (s _ _ a)
  | odd a l b c d e => exact .odd (s _ _ a) l b c d e
  | road0 a l b => exact .road0 (s _ _ a) l b
  | road a b c d e f => exact .road (s _ _ a) (b.mono s) (dp_mono s c) d (dp_mono s e) f
  | join0 a l b => exact .join0 (s _ _ a) l b
  | join a b => exact .join (s _ _ a) (b.mono s)
  | tun0 a l b => exact .tun0 (s _ _ a) l b
  | tunN a b c => exact .tunN (s _ _ a) (CP.tyX_mono s b) c
  | tun a b c d e f => exact .tun (s _ _ a) (b.mono s) c (d.mono s) (dp_mono s e) f
end
end WP

end
section
set_option autoImplicit false
set_option Elab.async false
set_option linter.all false
set_option maxRecDepth 100000
set_option maxHeartbeats 4000000
set_option pp.maxSteps 900
/-! ## is_head, is_most, is_road, is_tells, is_step_list, _is_step of any value -/
namespace WP
open PySem L2 G
theorem hr65 {k : Nat} {A : Around} (r : Room k A) : A.units + 65 < cLine := by
  have := r.un
  omega
theorem ands (a b c : Bool) : (if a = true then (if b = true then c else false) else false) = (a && (b && c)) := by cases a <;> cases b <;> rfl
section
variable {P : Program} {w : World} {K : PySem.W.Frag} {mg : Str → Option Value} {base : Heap} {C : Addr}
theorem within_nm {H : Hp} {v : V} {lo hi : Int} {b : Bool} {Q : VK} {E : XK} (h : Nm K H v lo hi b) (k : Q (.bl b) H) : CP.spWithin2 K [v, .int lo, .int hi] H Q E := by
  refine ⟨v, lo, hi, rfl, ?_⟩
  rcases h with ⟨i, rfl, rfl⟩ | ⟨n, rfl⟩
  · exact .inl ⟨i, rfl, k⟩
  · exact .inr ⟨n, k⟩
def spNm (K : PySem.W.Frag) (lo hi : Int) : Sp := fun vs H Q _ => ∃ v b, vs = [v] ∧ Nm K H v lo hi b ∧ Q (.bl b) H
theorem ok_headA {f : Addr} {fd : FuncData} (F : Fun K "is_head" "is_head" sHead f fd) (T : Wt K mg C) (W : Y.Df P w K mg base 2 "is_within" ["value", "least", "greatest"] (CP.spWithin2 K)) : FnOk P w K mg base CX0 3 f fd ["value"] (spNm K 1 40) := by
  obtain ⟨fW, fdW, GW, gW, kW, bW⟩ := W.ex
  obtain ⟨t1, g1⟩ := T.gHead
  have sc : FnScope ["value"] ["value"] (defScope sHead) := ⟨rfl, rfl, rfl, by decide +kernel, rfl, by decide +kernel, by decide +kernel⟩
  refine F.ok sc (fun vs H Q E h => ?_) (fun cdv A outer s H vs Q E hr h => ?_)
  · obtain ⟨v, b, rfl, _⟩ := h
    rfl
  · obtain ⟨v, b, rfl, hn, k⟩ := h
    exact ⟨_, pss_one (ps_ret (pe_call GW hr rfl gW kW bW .nil pass0 (pa_cons (pv 0) (pa_cons pe_int (pa_cons (pe_glob (v := .int 40) rfl g1 ⟨_, rfl⟩) pa_nil))))), _, rfl, within_nm (E := E0) hn k⟩
theorem ok_mostA {f : Addr} {fd : FuncData} (F : Fun K "is_most" "is_most" sMost f fd) (T : Wt K mg C) (W : Y.Df P w K mg base 2 "is_within" ["value", "least", "greatest"] (CP.spWithin2 K)) : FnOk P w K mg base CX0 3 f fd ["value"] (spNm K 1 1000000000000) := by
  obtain ⟨fW, fdW, GW, gW, kW, bW⟩ := W.ex
  obtain ⟨t1, g1⟩ := T.gMost
  have sc : FnScope ["value"] ["value"] (defScope sMost) := ⟨rfl, rfl, rfl, by decide +kernel, rfl, by decide +kernel, by decide +kernel⟩
  refine F.ok sc (fun vs H Q E h => ?_) (fun cdv A outer s H vs Q E hr h => ?_)
  · obtain ⟨v, b, rfl, _⟩ := h
    rfl
  · obtain ⟨v, b, rfl, hn, k⟩ := h
    exact ⟨_, pss_one (ps_ret (pe_call GW hr rfl gW kW bW .nil pass0 (pa_cons (pv 0) (pa_cons pe_int (pa_cons (pe_glob (v := .int 1000000000000) rfl g1 ⟨_, rfl⟩) pa_nil))))), _, rfl, within_nm (E := E0) hn k⟩
def spRoadA (K : PySem.W.Frag) : Sp := fun vs H Q _ => ∃ (n x y : V) (lo : Int) (b : Bool) (d e : PyData), vs = [n, x, y, .int lo] ∧ Nm K H n lo 1000 b ∧ Dp K H x d ∧ SeqAt.shaped d = true ∧ Dp K H y e ∧ SeqAt.shaped e = true ∧ Q (.bl (b && (has dS d && has dL e))) H
theorem dp_words {H : Hp} {a : Addr} {l : List Str} (h : SqT K H a (l.map V.str)) : Dp K H (.ref a) (.tuple (l.map PyData.str)) := .tup h (by
  clear h
  induction l with
  | nil => exact .nil
  | cons x r ih => exact .cons (.str x) ih)
theorem ok_roadA {f : Addr} {fd : FuncData} (F : Fun K "is_road" "is_road" sRoad f fd) (T : Wt K mg C) (W : Y.Df P w K mg base 2 "is_within" ["value", "least", "greatest"] (CP.spWithin2 K)) : FnOk P w K mg base CX0 3 f fd ["size", "sealed", "loose", "least"] (spRoadA K) := by
  obtain ⟨fW, fdW, GW, gW, kW, bW⟩ := W.ex
  obtain ⟨t1, g1⟩ := T.gRoad
  obtain ⟨aS, g2, q2⟩ := T.wS
  obtain ⟨aL, g3, q3⟩ := T.wL
  refine F.ok scR (fun vs H Q E h => ?_) (fun cdv A outer s H vs Q E hr h => ?_)
  · obtain ⟨n, x, y, lo, b, d, e, rfl, _⟩ := h
    rfl
  · obtain ⟨n, x, y, lo, b, d, e, rfl, hn, hx, sx, hy, sy, k⟩ := h
    refine ⟨_, pss_one (ps_ret (pe_and (pe_call GW hr rfl gW kW bW .nil pass0 (pa_cons (pv 0) (pa_cons (pv 3) (pa_cons (pe_glob (v := .int 1000) rfl g1 ⟨_, rfl⟩) pa_nil)))) (pe_and (pe_cmpR (op_inDT (hr65 hr)) (pv 1) (pe_glob (v := .ref aS) rfl g2 rfl) (by rfl)) (pe_one (pe_cmpR (op_inDT (hr65 hr)) (pv 2) (pe_glob (v := .ref aL) rfl g3 rfl) (by rfl)))))), ?_⟩
    have go : ∀ Q' : VK, (Q' (.bl (b && (has dS d && has dL e))) H) → (if b = true then tAndV (tOp (rInDT K) (tVar 1) (tC (.ref aS))) (tOp (rInDT K) (tVar 2) (tC (.ref aL))) [some n, some x, some y, some (.int lo)] H Q' else Q' (.bl false) H) := fun Q' k => by
      cases b with
      | false => exact iteF k
      | true =>
        refine iteT ⟨_, rfl, d, dS, hx, dp_words (l := ["tell", "drop"]) (q2 _), sx, by decide +kernel, _, rfl, ?_⟩
        show if has dS d = true then _ else _
        cases e1 : has dS d with
        | false =>
          rw [e1] at k
          exact iteF k
        | true =>
          rw [e1] at k
          refine iteT ⟨_, rfl, e, dL, hy, dp_words (l := ["cut", "tell", "drop"]) (q3 _), sy, by decide +kernel, ?_⟩
          exact k
    rcases hn with ⟨i, rfl, rfl⟩ | ⟨ni, rfl⟩
    · exact ⟨_, rfl, _, rfl, _, _, _, rfl, .inl ⟨i, rfl, _, rfl, go _ k⟩⟩
    · exact ⟨_, rfl, _, rfl, _, _, _, rfl, .inr ⟨ni, _, rfl, go _ k⟩⟩
def spTellsA (K : PySem.W.Frag) : Sp := fun vs H Q _ => ∃ (x : V) (d : PyData), vs = [x] ∧ Dp K H x d ∧ SeqAt.shaped d = true ∧ Q (.bl (has dT d)) H
theorem ok_tellsA {f : Addr} {fd : FuncData} (F : Fun K "is_tells" "is_tells" sTells f fd) (T : Wt K mg C) : FnOk P w K mg base CX0 1 f fd ["value"] (spTellsA K) := by
  obtain ⟨aT, g2, q2⟩ := T.wT
  refine F.ok scT (fun vs H Q E h => ?_) (fun cdv A outer s H vs Q E hr h => ?_)
  · obtain ⟨x, d, rfl, _⟩ := h
    rfl
  · obtain ⟨x, d, rfl, hx, sx, k⟩ := h
    exact ⟨_, pss_one (ps_ret (pe_cmpR (op_inDT (hr65 hr)) (pv 0) (pe_glob (v := .ref aT) rfl g2 rfl) (by rfl))), _, rfl, d, dT, hx, dp_words (l := ["turn", "keep", "lose"]) (q2 _), sx, by decide +kernel, k⟩
end
end WP

end
section
set_option autoImplicit false
set_option Elab.async false
set_option linter.all false
set_option maxRecDepth 100000
set_option maxHeartbeats 4000000
set_option pp.maxSteps 900
/-! ## is_step_list, _is_step of any value -/
namespace WP
open PySem L2 G
section
variable {P : Program} {w : World} {K : PySem.W.Frag} {mg : Str → Option Value} {base : Heap} {C : Addr}
/-- of any value: a list or tuple, or of another kind -/
def LiA (K : PySem.W.Frag) (H : Hp) (v : V) (n : Option Nat) : Prop := (∃ l xs, v = .ref l ∧ SAt H l xs ∧ n = some xs.length) ∨ (∃ t, TyX K H v t ∧ PySem.W.kitAny K t [.type "list", .type "tuple"] = some false ∧ n = none)
def okLen : Option Nat → Bool
  | none => false
  | some n => decide (1 ≤ n ∧ n ≤ 12)
def spListA (K : PySem.W.Frag) : Sp := fun vs H Q _ => ∃ v n, vs = [v] ∧ LiA K H v n ∧ ∀ H', Same H H' → Q (.bl (okLen n)) H'
theorem ok_listA {f : Addr} {fd : FuncData} (F : Fun K "is_step_list" "is_step_list" sList f fd) (B : Bn mg) (T : Wt K mg C) : FnOk P w K mg base CX0 1 f fd ["value"] (spListA K) := by
  obtain ⟨t1, g1⟩ := T.gSteps
  refine F.ok scLi (fun vs H Q E h => ?_) (fun cdv A outer s H vs Q E hr h => ?_)
  · obtain ⟨v, n, rfl, _⟩ := h
    rfl
  · obtain ⟨v, n, rfl, hv, k⟩ := h
    refine ⟨_, pss_one (ps_ret (pe_and (pe_callB call_isiT (by rfl) B.isi (by decide +kernel) (pa_cons (pv 0) (pa_cons (pe_tup (pa_cons (pe_bltn (v := .ty "list") (by rfl) B.list (by decide +kernel) rfl) (pa_cons (pe_bltn (v := .ty "tuple") (by rfl) B.tuple (by decide +kernel) rfl) pa_nil))) pa_nil)))
      (pe_one (pe_chain op_le op_le pe_int (pe_callB call_len_seq (by rfl) B.len PySem.boot_len (pa_cons (pv 0) pa_nil)) (pe_glob (v := .int 12) rfl g1 ⟨_, rfl⟩))))), ?_⟩
    refine ⟨_, rfl, by show 2 ≤ sizeLine; decide, fun p np => ?_⟩
    have sp : Same H (upd H p (.tup [.ty "list", .ty "tuple"])) := Same.of_upd np
    have fin : ∀ (n : Nat) (Q' : VK), (∀ H', Same H H' → Q' (.bl (decide (1 ≤ n ∧ n ≤ 12))) H') → (∃ i j, V.int 1 = .int i ∧ V.int (n : Int) = .int j ∧ ∃ k, V.bl (decide (i ≤ j)) = .bl k ∧ if k = true then ∃ i2 j2, V.int (n : Int) = .int i2 ∧ V.int 12 = .int j2 ∧ Q' (.bl (decide (i2 ≤ j2))) (upd H p (.tup [.ty "list", .ty "tuple"])) else Q' (.bl false) (upd H p (.tup [.ty "list", .ty "tuple"]))) := by
      intro n Q' k'
      refine ⟨_, _, rfl, rfl, _, rfl, ?_⟩
      have k2 := k' _ sp
      by_cases h1 : 1 ≤ n
      · rw [decide_eq_true (show (1 : Int) ≤ (n : Int) by omega)]
        refine iteT ⟨_, _, rfl, rfl, ?_⟩
        rw [show decide (1 ≤ n ∧ n ≤ 12) = decide ((n : Int) ≤ 12) from decide_eq_decide.mpr ⟨fun q => by omega, fun q => by omega⟩] at k2
        exact k2
      · rw [decide_eq_false (show ¬ (1 : Int) ≤ (n : Int) by omega)]
        rw [decide_eq_false (fun q => h1 q.1)] at k2
        exact iteF k2
    have kl : PySem.W.kitAny K (.type "list") [.type "list", .type "tuple"] = some true := by
      unfold PySem.W.kitAny
      rw [kit_ty (r := true) (by decide +kernel)]
    have kt : PySem.W.kitAny K (.type "tuple") [.type "list", .type "tuple"] = some true := by
      unfold PySem.W.kitAny
      rw [kit_ty (r := false) (by decide +kernel)]
      unfold PySem.W.kitAny
      rw [kit_ty (r := true) (by decide +kernel)]
    rcases hv with ⟨l, xs, rfl, hl | hl, rfl⟩ | ⟨t, ty, e, rfl⟩
    · exact ⟨_, p, _, _, _, _, rfl, upd_same, .cons (.ty _) (.cons (.ty _) .nil), .base (.lst (sp _ _ hl)), kl, _, rfl, iteT ⟨_, rfl, l, xs, rfl, .inl (SqL.of (sp _ _ hl)), fin _ _ k⟩⟩
    · exact ⟨_, p, _, _, _, _, rfl, upd_same, .cons (.ty _) (.cons (.ty _) .nil), .base (.tup (sp _ _ hl)), kt, _, rfl, iteT ⟨_, rfl, l, xs, rfl, .inr (SqT.of (sp _ _ hl)), fin _ _ k⟩⟩
    · exact ⟨_, p, _, _, _, _, rfl, upd_same, .cons (.ty _) (.cons (.ty _) .nil), CP.tyX_mono sp ty, e, _, rfl, iteF (k _ sp)⟩
theorem scal_str {y : V} {s : Str} (h : flatV y = true) : scal y (.str s) = true := by cases y <;> first | rfl | cases h
/-- _is_step of any value -/
def spStepA (K : PySem.W.Frag) (C : Addr) : Sp := fun vs H Q _ => ∃ (x : V) (h : Nat) (b : Bool), vs = [x, .int (h : Int)] ∧ StB K C H h x b ∧ Q (.bl b) H
theorem ok_stepA {f : Addr} {fd : FuncData} (F : Fun K "_is_step" "_is_step" sStep f fd) (B : Bn mg) (T : Wt K mg C) (WR : Df P w K mg base 3 "is_road" ["size", "sealed", "loose", "least"] (spRoadA K)) (WM : Df P w K mg base 3 "is_most" ["value"] (spNm K 1 1000000000000)) (WT : Df P w K mg base 1 "is_tells" ["value"] (spTellsA K)) :
    FnOk P w K mg base CX0 5 f fd ["value", "head"] (spStepA K C) := by
  obtain ⟨fR, fdR, GR, gR, kR, bR⟩ := WR.ex
  obtain ⟨fM, fdM, GM, gM, kM, bM⟩ := WM.ex
  obtain ⟨fT, fdT, GT, gT, kT, bT⟩ := WT.ex
  refine F.ok scSt (fun vs H Q E h => ?_) (fun cdv A outer s H vs Q E hr h => ?_)
  · obtain ⟨x, h, b, rfl, _⟩ := h
    rfl
  · obtain ⟨x, h, b, rfl, hx, k⟩ := h
    refine ⟨_, pss_cons (ps_if (PW.pt (pw_or (pt_not (pt_val (pe_callB call_isi (by rfl) B.isi (by decide +kernel) (pa_cons (pv 0) (pa_cons (pe_bltn (v := .ty "tuple") (by rfl) B.tuple (by decide +kernel) rfl) pa_nil))))) (pw_or1 (pt_cmpR (op_eq) (pe_callB call_len_seq (by rfl) B.len PySem.boot_len (pa_cons (pv 0) pa_nil)) (pe_int) (nomark _))))) (pss_one (ps_ret (pe_bl))) (pss_nil))
      (pss_cons (ps_set (i := 2) scSt.nd rfl (Or.inl rfl) (pe_ix ix_tup (pv 0) (pe_int) (fun _ _ => rfl)))
      (pss_cons (ps_if (pt_cmpR (op_eq) (pv 2) (pe_str) (nomark _)) (pss_one (ps_ret (pe_and (pe_cmpR (op_eq) (pe_callB call_len_seq (by rfl) B.len PySem.boot_len (pa_cons (pv 0) pa_nil)) (pe_int) (nomark _)) (pe_one (pe_call GR (hr.mono (by decide)) rfl gR kR bR .nil pass0 (pa_cons (pe_ix ix_tup (pv 0) (pe_int) (fun _ _ => rfl)) (pa_cons (pe_ix ix_tup (pv 0) (pe_int) (fun _ _ => rfl)) (pa_cons (pe_ix ix_tup (pv 0) (pe_int) (fun _ _ => rfl)) (pa_cons (pe_op (op_add) (pv 1) (pe_int)) pa_nil))))))))) (pss_nil))
      (pss_cons (ps_if (pt_cmpR (op_eq) (pv 2) (pe_str) (nomark _)) (pss_one (ps_ret (pe_and (pe_cmpR (op_eq) (pe_callB call_len_seq (by rfl) B.len PySem.boot_len (pa_cons (pv 0) pa_nil)) (pe_int) (nomark _)) (pe_one (pe_call GM (hr.mono (by decide)) rfl gM kM bM .nil pass0 (pa_cons (pe_ix ix_tup (pv 0) (pe_int) (fun _ _ => rfl)) pa_nil)))))) (pss_nil))
      (pss_cons (ps_if (pt_cmpR (op_eq) (pv 2) (pe_str) (nomark _)) (pss_one (ps_ret (pe_and (pe_cmpR (op_eq) (pe_callB call_len_seq (by rfl) B.len PySem.boot_len (pa_cons (pv 0) pa_nil)) (pe_int) (nomark _)) (pe_and (pe_callB call_isi (by rfl) B.isi (by decide +kernel) (pa_cons (pe_ix ix_tup (pv 0) (pe_int) (fun _ _ => rfl)) (pa_cons (pe_glob (v := .ref C) rfl T.g rfl) pa_nil))) (pe_and (pe_call GM (hr.mono (by decide)) rfl gM kM bM .nil pass0 (pa_cons (pe_ix ix_tup (pv 0) (pe_int) (fun _ _ => rfl)) pa_nil)) (pe_one (pe_call GT (hr.mono (by decide)) rfl gT kT bT .nil pass0 (pa_cons (pe_ix ix_tup (pv 0) (pe_int) (fun _ _ => rfl)) pa_nil)))))))) (pss_nil))
      (pss_one (ps_ret (pe_bl))))))), ?_⟩
    have pre : ∀ (t : Addr) (y : V) (ys : List V), x = .ref t → H t = some (.tup (y :: ys)) → ∀ (D : Ends) (rest : TS), rest D [some x, some (.int (h : Int)), some y] H →
        tSeq (tIfS (tOr (tNot (tB (tCB (rIsi K) (tCons (tVar 0) (tCons (tC (.ty "tuple")) tNil))))) (tTest (tOp rEq (tCB (fun xs H Q => ∃ p ys, xs = [.ref p] ∧ (SqL K H p ys ∨ SqT K H p ys) ∧ Q (.int ys.length) H) (tCons (tVar 0) tNil)) (tC (.int 0))))) (tRet (tC (.bl false))) tNext)
          (tSeq (tAsg (tOp (rIxT K) (tVar 0) (tC (.int 0))) (gName 2)) rest) D [some x, some (.int (h : Int)), none] H := by
      intro t y ys ex ht D rest q
      subst ex
      refine ⟨_, rfl, _, _, _, _, _, rfl, .ty _, .base (.tup ht), kit_ty (r := true) (by decide +kernel), _, rfl, iteF ⟨_, rfl, t, _, rfl, .inr (SqT.of ht), rfl, _, rfl, ?_⟩⟩
      have e : decide (V.int ((y :: ys).length : Int) = V.int 0) = false := decide_eq_false (by
        intro z
        injection z with z
        simp at z
        omega)
      rw [e]
      exact iteF ⟨_, rfl, t, _, _, y, rfl, rfl, SqT.of ht, (by exact atI_nat (xs := y :: ys) (j := 0) rfl), q⟩
    have yes : ∀ {a : Str}, decide (V.str a = V.str a) = true := decide_eq_true rfl
    have no : ∀ {a b : Str}, a ≠ b → decide (V.str a = V.str b) = false := fun h => decide_eq_false fun z => h (V.str.inj z)
    have len : ∀ {n m : Nat}, n ≠ m → decide (V.int (n : Int) = V.int (m : Int)) = false := fun h => decide_eq_false fun z => h (Int.ofNat.inj (V.int.inj z))
    cases hx with
    | no ty e _ => exact ⟨_, rfl, _, _, _, _, _, rfl, .ty _, ty, e, _, rfl, iteT k⟩
    | @nil a ha => exact ⟨_, rfl, _, _, _, _, _, rfl, .ty _, .base (.tup ha), kit_ty (r := true) (by decide +kernel), _, rfl, iteF ⟨_, rfl, a, _, rfl, .inr (SqT.of ha), rfl, _, rfl, iteT k⟩⟩
    | @odd a y ys ha hl hf n1 n2 n3 =>
      refine pre a _ _ rfl ha _ _ ⟨_, rfl, scal_str hf, _, rfl, ?_⟩
      rw [decide_eq_false n1]
      refine iteF ⟨_, rfl, scal_str hf, _, rfl, ?_⟩
      rw [decide_eq_false n2]
      refine iteF ⟨_, rfl, scal_str hf, _, rfl, ?_⟩
      rw [decide_eq_false n3]
      exact iteF k
    | @road0 a ys ha hl h3 =>
      refine pre a _ _ rfl ha _ _ ⟨_, rfl, rfl, _, rfl, ?_⟩
      rw [yes]
      refine iteT ⟨_, rfl, a, _, rfl, .inr (SqT.of ha), rfl, _, rfl, ?_⟩
      rw [show decide (V.int ((V.str "road" :: ys).length : Int) = V.int 4) = false from len (n := (V.str "road" :: ys).length) (m := 4) (by rw [List.length_cons]; omega)]
      exact iteF k
    | @road a n x y b d e ha hn hx sx hy sy =>
      refine pre a _ _ rfl ha _ _ ⟨_, rfl, rfl, _, rfl, ?_⟩
      rw [yes]
      exact iteT ⟨_, rfl, a, _, rfl, .inr (SqT.of ha), rfl, _, rfl, iteT ⟨_, rfl, a, _, _, _, rfl, rfl, SqT.of ha, at1, _, rfl, a, _, _, _, rfl, rfl, SqT.of ha, at2, _, rfl, a, _, _, _, rfl, rfl, SqT.of ha, at3, _, rfl, _, _, rfl, rfl, n, x, y, _, b, d, e, rfl, hn, hx, sx, hy, sy, k⟩⟩
    | @join0 a ys ha hl h3 =>
      refine pre a _ _ rfl ha _ _ ⟨_, rfl, rfl, _, rfl, ?_⟩
      rw [no kinds.2.2.2.1]
      refine iteF ⟨_, rfl, rfl, _, rfl, ?_⟩
      rw [yes]
      refine iteT ⟨_, rfl, a, _, rfl, .inr (SqT.of ha), rfl, _, rfl, ?_⟩
      rw [show decide (V.int ((V.str "join" :: ys).length : Int) = V.int 2) = false from len (n := (V.str "join" :: ys).length) (m := 2) (by rw [List.length_cons]; omega)]
      exact iteF k
    | @join a n b ha hn =>
      refine pre a _ _ rfl ha _ _ ⟨_, rfl, rfl, _, rfl, ?_⟩
      rw [no kinds.2.2.2.1]
      refine iteF ⟨_, rfl, rfl, _, rfl, ?_⟩
      rw [yes]
      exact iteT ⟨_, rfl, a, _, rfl, .inr (SqT.of ha), rfl, _, rfl, iteT ⟨_, rfl, a, _, _, _, rfl, rfl, SqT.of ha, at1, n, _, rfl, hn, k⟩⟩
    | @tun0 a ys ha hl h3 =>
      refine pre a _ _ rfl ha _ _ ⟨_, rfl, rfl, _, rfl, ?_⟩
      rw [no kinds.2.2.2.2.1]
      refine iteF ⟨_, rfl, rfl, _, rfl, ?_⟩
      rw [no kinds.2.2.2.2.2]
      refine iteF ⟨_, rfl, rfl, _, rfl, ?_⟩
      rw [yes]
      refine iteT ⟨_, rfl, a, _, rfl, .inr (SqT.of ha), rfl, _, rfl, ?_⟩
      rw [show decide (V.int ((V.str "tunnel" :: ys).length : Int) = V.int 4) = false from len (n := (V.str "tunnel" :: ys).length) (m := 4) (by rw [List.length_cons]; omega)]
      exact iteF k
    | @tunN a x m t ty ha hx e =>
      refine pre a _ _ rfl ha _ _ ⟨_, rfl, rfl, _, rfl, ?_⟩
      rw [no kinds.2.2.2.2.1]
      refine iteF ⟨_, rfl, rfl, _, rfl, ?_⟩
      rw [no kinds.2.2.2.2.2]
      refine iteF ⟨_, rfl, rfl, _, rfl, ?_⟩
      rw [yes]
      exact iteT ⟨_, rfl, a, _, rfl, .inr (SqT.of ha), rfl, _, rfl, iteT ⟨_, rfl, a, _, _, _, rfl, rfl, SqT.of ha, at1, _, _, _, _, false, rfl, .own C, hx, e, _, rfl, iteF k⟩⟩
    | @tun a c wy m t b d ha hc hf hm ht st =>
      refine pre a _ _ rfl ha _ _ ⟨_, rfl, rfl, _, rfl, ?_⟩
      rw [no kinds.2.2.2.2.1]
      refine iteF ⟨_, rfl, rfl, _, rfl, ?_⟩
      rw [no kinds.2.2.2.2.2]
      refine iteF ⟨_, rfl, rfl, _, rfl, ?_⟩
      rw [yes]
      obtain ⟨dx, fx, h1, _⟩ := head_fld hc
      have kit : PySem.W.kitOne K (.ref C) (.ref C) = some true := by
        unfold PySem.W.kitOne
        rw [if_pos (by simp)]
      refine iteT ⟨_, rfl, a, _, rfl, .inr (SqT.of ha), rfl, _, rfl, iteT ⟨_, rfl, a, _, _, _, rfl, rfl, SqT.of ha, at1, _, _, _, _, true, rfl, .own C, .base (.ins h1 T.cl T.iA T.iN T.iT T.iM), kit, _, rfl, iteT ⟨_, rfl, a, _, _, _, rfl, rfl, SqT.of ha, at2, m, b, rfl, hm, b, rfl, ?_⟩⟩⟩
      cases b with
      | false => exact iteF k
      | true => exact iteT ⟨_, rfl, a, _, _, _, rfl, rfl, SqT.of ha, at3, t, d, rfl, ht, st, k⟩
end
end WP

end
section
set_option autoImplicit false
set_option Elab.async false
set_option linter.all false
set_option maxRecDepth 100000
set_option maxHeartbeats 4000000
set_option pp.maxSteps 900
/-! ## Way.__init__ of any values -/
namespace WP
open PySem L2 G
theorem eqv_word {a : Str} {d : PyData} (h : PyData.eqv (.str a) d = true) : d = .str a := by
  cases d <;> simp [PyData.eqv] at h
  rw [h]
theorem has_S {d : PyData} (h : has dS d = true) : ∃ b, d = .str (sdS b) := by
  simp only [has, List.any_cons, List.any_nil, Bool.or_eq_true, Bool.or_false] at h
  rcases h with h | h
  · exact ⟨true, eqv_word h⟩
  · exact ⟨false, eqv_word h⟩
theorem has_L {d : PyData} (h : has dL d = true) : ∃ b, d = .str (lwS b) := by
  simp only [has, List.any_cons, List.any_nil, Bool.or_eq_true, Bool.or_false] at h
  rcases h with h | h | h
  · exact ⟨.cut, eqv_word h⟩
  · exact ⟨.tell, eqv_word h⟩
  · exact ⟨.drop, eqv_word h⟩
theorem has_T {d : PyData} (h : has dT d = true) : ∃ b, d = .str (twS b) := by
  simp only [has, List.any_cons, List.any_nil, Bool.or_eq_true, Bool.or_false] at h
  rcases h with h | h | h
  · exact ⟨.turn, eqv_word h⟩
  · exact ⟨.keep, eqv_word h⟩
  · exact ⟨.lose, eqv_word h⟩
theorem dp_str {K : PySem.W.Frag} {H : Hp} {v : V} {a : Str} (h : Dp K H v (.str a)) : v = .str a := by
  cases h
  rfl
theorem nm_true {K : PySem.W.Frag} {H : Hp} {v : V} {lo hi : Int} (h : Nm K H v lo hi true) : ∃ i, v = .int i ∧ lo ≤ i ∧ i ≤ hi := by
  rcases h with ⟨i, rfl, e⟩ | ⟨_, e⟩
  · exact ⟨i, rfl, (of_decide_eq_true e.symm).1, (of_decide_eq_true e.symm).2⟩
  · cases e
theorem nm_int {K : PySem.W.Frag} {H : Hp} {i lo hi : Int} (a : lo ≤ i) (b : i ≤ hi) : Nm K H (.int i) lo hi true := .inl ⟨i, rfl, (decide_eq_true ⟨a, b⟩).symm⟩
theorem StB.good {K : PySem.W.Frag} {C : Addr} {H : Hp} {h : Nat} {v : V} {b : Bool} (q : StB K C H h v b) (e : b = true) : ∃ st, StepAt C H st v ∧ M.Step.fine h st := by
  cases q with
  | no _ _ _ => cases e
  | nil _ => cases e
  | odd _ _ _ _ _ _ => cases e
  | road0 _ _ _ => cases e
  | join0 _ _ _ => cases e
  | tun0 _ _ _ => cases e
  | tunN _ _ _ => cases e
  | road ha hn hx _ hy _ =>
    simp only [Bool.and_eq_true] at e
    obtain ⟨rfl, e1, e2⟩ := e
    obtain ⟨i, rfl, i1, i2⟩ := nm_true hn
    obtain ⟨ts, rfl⟩ := has_S e1
    obtain ⟨lw, rfl⟩ := has_L e2
    obtain ⟨n, rfl⟩ := Int.eq_ofNat_of_zero_le (show 0 ≤ i by omega)
    cases dp_str hx
    cases dp_str hy
    refine ⟨.road n ts lw, ?_, ?_⟩
    · unfold StepAt
      exact ⟨_, rfl, ha⟩
    · unfold M.Step.fine
      omega
  | join ha hn =>
    subst e
    obtain ⟨i, rfl, i1, i2⟩ := nm_true hn
    obtain ⟨n, rfl⟩ := Int.eq_ofNat_of_zero_le (show 0 ≤ i by omega)
    refine ⟨.join n, ?_, ?_⟩
    · unfold StepAt
      exact ⟨_, rfl, ha⟩
    · unfold M.Step.fine
      omega
  | @tun a c wy m t b d ha hc hf hm ht _ =>
    simp only [Bool.and_eq_true] at e
    obtain ⟨rfl, e1⟩ := e
    obtain ⟨i, rfl, i1, i2⟩ := nm_true hm
    obtain ⟨tw, rfl⟩ := has_T e1
    obtain ⟨n, rfl⟩ := Int.eq_ofNat_of_zero_le (show 0 ≤ i by omega)
    cases dp_str ht
    refine ⟨.tunnel wy n tw, ?_, ?_⟩
    · unfold StepAt
      exact ⟨_, _, rfl, ha, hc⟩
    · unfold M.Step.fine
      exact ⟨hf, by omega, by omega⟩
theorem sd_has (b : Bool) : has dS (.str (sdS b)) = true := by cases b <;> decide +kernel
theorem lw_has (b : M.LW) : has dL (.str (lwS b)) = true := by cases b <;> decide +kernel
theorem tw_has (b : M.TW) : has dT (.str (twS b)) = true := by cases b <;> decide +kernel
theorem sd_shp (b : Bool) : SeqAt.shaped (.str (sdS b)) = true := by cases b <;> decide +kernel
theorem lw_shp (b : M.LW) : SeqAt.shaped (.str (lwS b)) = true := by cases b <;> decide +kernel
theorem tw_shp (b : M.TW) : SeqAt.shaped (.str (twS b)) = true := by cases b <;> decide +kernel
theorem StB.of {K : PySem.W.Frag} {C : Addr} {H : Hp} {h : Nat} {v : V} : ∀ {st : M.Step}, StepAt C H st v → M.Step.fine h st → StB K C H h v true
  | .road n ts lw, a, f => by
    unfold StepAt at a
    unfold M.Step.fine at f
    obtain ⟨t, rfl, ha⟩ := a
    have := StB.road (K := K) (C := C) (h := h) ha (nm_int (by omega) (by omega)) (.str _) (sd_shp ts) (.str _) (lw_shp lw)
    rw [sd_has, lw_has] at this
    exact this
  | .join n, a, f => by
    unfold StepAt at a
    unfold M.Step.fine at f
    obtain ⟨t, rfl, ha⟩ := a
    exact .join ha (nm_int (by omega) (by omega))
  | .tunnel w n tw, a, f => by
    unfold StepAt at a
    unfold M.Step.fine at f
    obtain ⟨t, c, rfl, ha, hc⟩ := a
    have := StB.tun (K := K) (C := C) (h := h) ha hc f.1 (nm_int (by omega) (by omega)) (.str _) (tw_shp tw)
    rw [tw_has] at this
    exact this
/-- the raise of an own error with the very value -/
def RaiV (CB : Addr) (f : Str) (v : V) (H : Hp) (E : XK) : Prop := ∀ H' d, Same H H' → H' d = none → E (.ref CB) (some d) (upd H' d (.xd [(f, v)]))
theorem RaiV.mono {CB : Addr} {f : Str} {v : V} {H H1 : Hp} {E : XK} (s : Same H H1) (h : RaiV CB f v H E) : RaiV CB f v H1 E := fun H' d s2 => h H' d (s.trans s2)
section
variable {P : Program} {w : World} {K : PySem.W.Frag} {mg : Str → Option Value} {base : Heap} {C D1 D2 D3 D4 D5 : Addr}
/-- Way.__init__ at a new instance: what is refused and what is made -/
def spInitA (K : PySem.W.Frag) (C D1 D2 D3 D4 D5 : Addr) : Sp := fun vs H Q E => ∃ (x dx : Addr) (hd sv : V) (H0 : Hp), vs = [.ref x, hd, sv] ∧ H x = some (.ins C dx []) ∧ H0 x = none ∧ Same H0 H ∧
  ((Nm K H0 hd 1 40 false ∧ RaiV D1 "value" hd H E) ∨
  ∃ h : Nat, hd = .int (h : Int) ∧ 1 ≤ h ∧ h ≤ 40 ∧
   ((∃ n, LiA K H0 sv n ∧ okLen n = false ∧ RaiV D2 "value" sv H E) ∨
   ∃ l xs, sv = .ref l ∧ SAt H0 l xs ∧ 1 ≤ xs.length ∧ xs.length ≤ 12 ∧
    ((∃ (i : Nat) (y : V), xs[i]? = some y ∧ StB K C H0 h y false ∧ (∀ (j : Nat) (z : V), j < i → xs[j]? = some z → StB K C H0 h z true) ∧ RaiV D3 "position" (.int (i : Int)) H E) ∨
    ∃ st, StepsAt C H0 st xs ∧ M.Step.fineAll h st ∧
     ((¬ 1 + M.Step.deepest st ≤ 3 ∧ RaiV D4 "depth" (.int ((1 + M.Step.deepest st : Nat) : Int)) H E) ∨
      (1 + M.Step.deepest st ≤ 3 ∧ ¬ st.length + M.Step.inner st ≤ 40 ∧ RaiV D5 "size" (.int ((st.length + M.Step.inner st : Nat) : Int)) H E) ∨
      (M.Way.fine (.mk h st) ∧ ∀ H', Same H0 H' → WayAt C H' (.mk h st) x → Q .non H')))))
theorem ok_initA {f : Addr} {fd : FuncData} (F : Fun K "__init__" "Way.__init__" sInit f fd) (B : Bn mg) (T : Wt K mg C) (M1 : G.Mk P w K mg base D1 "value") (g1 : mg "BadHead" = some (.ref D1)) (M2 : G.Mk P w K mg base D2 "value") (g2' : mg "BadSteps" = some (.ref D2)) (M3 : G.Mk P w K mg base D3 "position") (g3' : mg "BadStep" = some (.ref D3)) (M4 : G.Mk P w K mg base D4 "depth") (g4 : mg "TooDeep" = some (.ref D4)) (M5 : G.Mk P w K mg base D5 "size") (g5 : mg "TooGreat" = some (.ref D5))
    (W : Df P w K mg base 3 "is_head" ["value"] (spNm K 1 40)) (WL : Df P w K mg base 1 "is_step_list" ["value"] (spListA K)) (WS : Df P w K mg base 5 "_is_step" ["value", "head"] (spStepA K C)) :
    FnOk P w K mg base (L2.CX P w) 6 f fd ["self", "head", "steps"] (spInitA K C D1 D2 D3 D4 D5) := by
  obtain ⟨fW, fdW, GW, gW, kW, bW⟩ := W.ex
  obtain ⟨fL, fdL, GL, gL, kL, bL⟩ := WL.ex
  obtain ⟨fS, fdS, GS, gS, kS, bS⟩ := WS.ex
  obtain ⟨t2, g2⟩ := T.gDepth
  obtain ⟨t3, g3⟩ := T.gSize
  refine F.okX scI (fun vs H Q E h => ?_) (fun cdv A outer s H vs Q E hr h => ?_)
  · obtain ⟨x, dx, hd, sv, H0, rfl, _⟩ := h
    rfl
  · obtain ⟨x, dx, hd, sv, H0, rfl, hx, hx0, s0, hh⟩ := h
    have r1 := hr.mono (by decide : 1 ≤ 5)
    have r0 := hr.mono (by decide : 3 ≤ 5)
    have rz := hr.mono (by decide : 2 ≤ 5)
    refine ⟨_, pss_cons (ps_if (pt_not (pt_val (pe_call GW r0 rfl gW kW bW .nil pass0 (pa_cons (pv 1) pa_nil)))) (pss_one (ps_raiseE rfl M1 rz (takes_of rfl rfl rfl rfl) rfl g1 (pa_cons (pv 1) pa_nil))) pss_nil)
      (pss_cons (ps_if (pt_not (pt_val (pe_call GL r1 rfl gL kL bL .nil pass0 (pa_cons (pv 2) pa_nil)))) (pss_one (ps_raiseE rfl M2 rz (takes_of rfl rfl rfl rfl) rfl g2' (pa_cons (pv 2) pa_nil))) pss_nil)
      (pss_cons (ps_for (passes_of rfl) rfl (pi_or (pi_enum (by rfl) B.enum (pa_cons (pv 2) pa_nil)) (pi_et (by rfl) B.enum (pa_cons (pv 2) pa_nil))) (pg_tup (by rfl) (pgs_cons (pg_name (i := 3) scI.nd rfl (Or.inl rfl)) (pgs_cons (pg_name (i := 4) scI.nd rfl (Or.inl rfl)) pgs_nil)))
        (pss_one (ps_if (pt_not (pt_val (pe_call GS hr rfl gS kS bS .nil pass0 (pa_cons (pv 4) (pa_cons (pv 1) pa_nil))))) (pss_one (ps_raiseE rfl M3 rz (takes_of rfl rfl rfl rfl) rfl g3' (pa_cons (pv 3) pa_nil))) pss_nil)))
      (pss_cons (ps_setLc (i := 5) (own := [("step", 4)]) (g := gName 4) (tt := tTest (tOp rEq (tOp (rIxT K) (tVar 4) (tC (.int 0))) (tC (.str "tunnel")))) (te := tOp (rIxT K) (tVar 4) (tC (.int 1))) rfl scI.nd rfl rfl (sw_true rfl rfl rfl (by decide +kernel)) (pi_or (pi_list (pv 2)) (pi_tup (pv 2))) (blkOk_by (N := NI) (sc := defScope sInit) (by decide +kernel))
          (fun _ _ _ _ _ => pg_name (i := 4) scI.nd rfl (Or.inl rfl)) (fun _ _ _ _ _ => pts_one (by exact pt_cmpR op_eq (pe_ix ix_tup (pv 4) pe_int (fun _ _ => rfl)) pe_str (nomark _))) (fun _ _ _ _ _ => by exact pe_ix ix_tup (pv 4) pe_int (fun _ _ => rfl)))
      (pss_cons (ps_set (i := 6) scI.nd rfl (Or.inl rfl) (pe_op op_add pe_int (pe_callBK (G.call_maxID rfl hr.units) (by rfl) B.max (by decide +kernel) (pa_cons (pe_lc (own := [("inner", 8)]) (g := gName 8) (tt := tYes) (te := tFld K (tVar 8) "depth") rfl scI.nd (pi_list (pv 5)) (blkOk_by (N := NI) (sc := defScope sInit) (by decide +kernel))
          (fun _ _ _ _ _ => pg_name (i := 8) scI.nd rfl (Or.inl rfl)) (fun _ _ _ _ _ => pts_nil) (fun _ _ _ _ _ => by exact pe_fld (pv 8) rfl)) pa_nil) (pk_cons pe_int pk_nil))))
      (pss_cons (ps_if (pt_cmpR op_gt (pv 6) (pe_glob (v := .int 3) rfl g2 ⟨_, rfl⟩) (nomark _)) (pss_one (ps_raiseE rfl M4 rz (takes_of rfl rfl rfl rfl) rfl g4 (pa_cons (pv 6) pa_nil))) pss_nil)
      (pss_cons (ps_set (i := 7) scI.nd rfl (Or.inl rfl) (pe_op op_add (pe_callB call_len_seq (by rfl) B.len PySem.boot_len (pa_cons (pv 2) pa_nil)) (pe_callB (cr_sum rfl) (by rfl) B.sum (by decide +kernel) (pa_cons (pe_lc (own := [("inner", 8)]) (g := gName 8) (tt := tYes) (te := tFld K (tVar 8) "size") rfl scI.nd (pi_list (pv 5)) (blkOk_by (N := NI) (sc := defScope sInit) (by decide +kernel))
          (fun _ _ _ _ _ => pg_name (i := 8) scI.nd rfl (Or.inl rfl)) (fun _ _ _ _ _ => pts_nil) (fun _ _ _ _ _ => by exact pe_fld (pv 8) rfl)) pa_nil))))
      (pss_cons (ps_if (pt_cmpR op_gt (pv 7) (pe_glob (v := .int 40) rfl g3 ⟨_, rfl⟩) (nomark _)) (pss_one (ps_raiseE rfl M5 rz (takes_of rfl rfl rfl rfl) rfl g5 (pa_cons (pv 7) pa_nil))) pss_nil)
      (pss_cons (ps_fld (pv 0) (pv 1) rfl)
      (pss_cons (ps_fld (pv 0) (pe_callTy call_tuple_of (by rfl) B.tuple (by decide +kernel) (pa_cons (pv 2) pa_nil)) rfl)
      (pss_cons (ps_fld (pv 0) (pv 6) rfl)
      (pss_one (ps_fld (pv 0) (pv 7) rfl)))))))))))), ?_⟩
    rcases hh with ⟨n1, ke⟩ | ⟨h, rfl, h1, h2, hh⟩
    · exact ⟨_, rfl, hd, false, rfl, n1.mono s0, _, rfl, iteT ⟨_, rfl, mkO_of fun d hd => ke H d (Same.refl _) hd⟩⟩
    refine ⟨_, rfl, _, true, rfl, nm_int (by omega) (by omega), _, rfl, iteF ?_⟩
    rcases hh with ⟨n, hl, e, ke⟩ | ⟨l, xs, rfl, hl, n1, n2, hh⟩
    · refine ⟨_, rfl, sv, n, rfl, ?_, fun H1 s1 => ?_⟩
      · rcases hl with ⟨l, xs, rfl, a, b⟩ | ⟨t, a, b, c⟩
        · exact .inl ⟨l, xs, rfl, a.mono s0, b⟩
        · exact .inr ⟨t, CP.tyX_mono s0 a, b, c⟩
      rw [e]
      exact ⟨_, rfl, iteT ⟨_, rfl, mkO_of fun d hd => ke H1 d s1 hd⟩⟩
    refine ⟨_, rfl, _, some xs.length, rfl, .inl ⟨l, xs, rfl, hl.mono s0, rfl⟩, fun H1 s1 => ?_⟩
    rw [show okLen (some xs.length) = true from decide_eq_true ⟨n1, n2⟩]
    refine ⟨_, rfl, iteF ?_⟩
    have S1 := s0.trans s1
    have hx1 : H1 x = some (.ins C dx []) := s1 _ _ hx
    have kx : ∀ {D : Addr} {f : Str} {v : V}, RaiV D f v H E → RaiV D f v H1 E := fun q => q.mono s1
    have hg : ∀ G, Same H1 G → Same H G := fun G s => s1.trans s
    refine or_enum (fun Q h => ⟨_, rfl, h⟩) (hl.mono S1) fun J Gd hG wk => ?_
    have key : ∃ lim, (∀ (j : Nat) (z : V), j < lim → xs[j]? = some z → StB K C H0 h z true) ∧ ((∃ y, xs[lim]? = some y ∧ StB K C H0 h y false ∧ RaiV D3 "position" (.int (lim : Int)) H E) ∨ (lim = xs.length ∧ ∃ st, StepsAt C H0 st xs ∧ M.Step.fineAll h st ∧
     ((¬ 1 + M.Step.deepest st ≤ 3 ∧ RaiV D4 "depth" (.int ((1 + M.Step.deepest st : Nat) : Int)) H E) ∨
      (1 + M.Step.deepest st ≤ 3 ∧ ¬ st.length + M.Step.inner st ≤ 40 ∧ RaiV D5 "size" (.int ((st.length + M.Step.inner st : Nat) : Int)) H E) ∨
      (M.Way.fine (.mk h st) ∧ ∀ H', Same H0 H' → WayAt C H' (.mk h st) x → Q .non H')))) := by
      rcases hh with ⟨i0, y, hy, hs, hal, ke⟩ | ⟨st, hs, hall, h3⟩
      · exact ⟨i0, hal, .inl ⟨y, hy, hs, ke⟩⟩
      · refine ⟨xs.length, fun j z hj hz => ?_, .inr ⟨rfl, st, hs, hall, h3⟩⟩
        obtain ⟨sp, hsp, hst⟩ := hs.get hz
        exact StB.of hst (fine_get hall hsp)
    clear hh
    obtain ⟨lim, hal, hh⟩ := key
    refine for_it wk (fun i σ G => i ≤ lim ∧ Same H1 G ∧ ∃ p q, σ = [some (.ref x), some (.int (h : Int)), some (.ref l), p, q, none, none, none, none]) ⟨Nat.zero_le _, Same.refl _, _, _, rfl⟩ (fun i σ G _ z => hG G z.2.1) ?_ ?_
    · rintro i v σ G G' hi ⟨il, s, p, q, rfl⟩ ⟨t, a, b, rfl, nt, rfl, e1, hb⟩
      cases e1
      have hb : xs[i]? = some b := hb
      have s2 : Same H1 (upd G t (.tup [V.int (i : Nat), b])) := s.trans (Same.of_upd nt)
      refine ⟨t, _, rfl, SqT.of upd_same, rfl, _, _, rfl, _, _, rfl, rfl, ?_⟩
      by_cases e : i < lim
      · exact ⟨_, rfl, _, rfl, b, h, true, rfl, (hal i b e hb).mono (S1.trans s2), _, rfl, iteF ⟨e, s2, _, _, rfl⟩⟩
      · have e : i = lim := by omega
        subst e
        rcases hh with ⟨y, hy, hs, ke⟩ | ⟨e, _⟩
        · rw [hb] at hy
          cases hy
          refine ⟨_, rfl, _, rfl, b, h, false, rfl, hs.mono (S1.trans s2), _, rfl, iteT ?_⟩
          exact ⟨_, rfl, mkO_of fun d hd => ke _ d (hg _ s2) hd⟩
        · have := (List.getElem?_eq_some_iff.mp hb).1
          omega
    · rintro σ G ⟨il, s, p, q, rfl⟩
      rcases hh with ⟨y, hy, _⟩ | ⟨_, st, hs, hall, hh⟩
      · have := (List.getElem?_eq_some_iff.mp hy).1
        omega
      have S2 := S1.trans s
      have ln := hs.len
      dsimp only
      refine set_then (te := tTuns K) (i := 5) ?_
      refine tuns_run (st := st) (xs := xs) rfl (hl.mono S2) (hs.mono S2) (by omega) fun D0 vs H2 s3 hD0 hW => ?_
      have lw : vs.length ≤ 1000 := by
        have e1 := hW.len
        have e2 := M.tuns_len st
        omega
      refine set_then (i := 6) ?_
      refine add_of (i := 1) (maxD_of (tl := tFlds K "depth") ?_)
      refine flds_run (f := "depth") (g := fun w => ((w.depth : Nat) : Int)) T T.nD (fun H wy a => depth_fld H wy a) rfl hD0 (hW.mono s3) lw fun D1' H3 s4 hD1 => ?_
      refine maxID_at (M.deep_max _) (SqL.of hD1) ⟨_, _, rfl, rfl, ?_⟩
      rw [← M.deepest_eq]
      have e1 : (1 : Int) + ((M.Step.deepest st : Nat) : Int) = ((1 + M.Step.deepest st : Nat) : Int) := by omega
      have s5 := s3.trans s4
      refine ⟨_, rfl, _, _, rfl, rfl, _, rfl, ?_⟩
      rcases hh with ⟨hd, ke⟩ | hh
      · rw [decide_eq_true (by omega), e1]
        exact iteT ⟨_, rfl, mkO_of fun d hd => ke H3 d (hg _ (s.trans s5)) hd⟩
      have hd : 1 + M.Step.deepest st ≤ 3 := by
        rcases hh with ⟨hd, _⟩ | ⟨hf, _⟩
        · exact hd
        · unfold M.Way.fine at hf
          exact hf.2.2.2.1
      rw [decide_eq_false (by omega)]
      refine iteF ?_
      unfold tNext
      dsimp only
      refine set_then (i := 7) (len_add (l := l) (xs := xs) (tl := tFlds K "size") rfl (hl.mono (S2.trans s5)) ?_)
      refine flds_run (f := "size") (g := fun w => ((w.size : Nat) : Int)) T T.nZ (fun H wy a => size_fld H wy a) rfl (s4 _ _ hD0) (hW.mono s5) lw fun D2' H4 s6 hD2 => ?_
      refine ⟨D2', _, rfl, SqL.of hD2, _, _, rfl, rfl, ?_⟩
      rw [M.sum_cast, ← M.inner_eq]
      have e2 : ((xs.length : Nat) : Int) + ((M.Step.inner st : Nat) : Int) = ((st.length + M.Step.inner st : Nat) : Int) := by omega
      refine ⟨_, rfl, _, _, rfl, rfl, _, rfl, ?_⟩
      rcases hh with ⟨_, hz, ke⟩ | ⟨hf, k⟩
      · rw [decide_eq_true (by omega), e2]
        exact iteT ⟨_, rfl, mkO_of fun d hd => ke H4 d (hg _ (s.trans (s5.trans s6))) hd⟩
      have hz : st.length + M.Step.inner st ≤ 40 := by
        unfold M.Way.fine at hf
        exact hf.2.2.2.2
      rw [decide_eq_false (by omega)]
      refine iteF ?_
      dsimp only
      have hx4 : H4 x = some (.ins C dx []) := s6 _ _ (s5 _ _ (s _ _ hx1))
      have S4 : Same H0 H4 := S2.trans (s5.trans s6)
      refine ⟨_, rfl, _, rfl, x, C, dx, [], rfl, hx4, T.cl, T.nH, by decide, ?_⟩
      have S5 : Same H0 (upd H4 x (.ins C dx (putF "head" (.int (h : Int)) []))) := add_upd hx0 S4
      have fin : ∀ (t : Addr) (G2 : Hp), Same (upd H4 x (.ins C dx (putF "head" (.int (h : Int)) []))) G2 → G2 t = some (.tup xs) → tSeq (sFld K (tVar 0) (tC (.ref t)) "steps") (tSeq (sFld K (tVar 0) (tVar 6) "depth") (sFld K (tVar 0) (tVar 7) "size")) { nx := fun _ H' => Q V.non H', rt := Q } [some (.ref x), some (.int (h : Int)), some (.ref l), p, q, some (.ref D0), some (.int (1 + ((M.Step.deepest st : Nat) : Int))), some (.int ((xs.length : Int) + ((M.Step.inner st : Nat) : Int))), none] G2 := fun t G2 sG ht => by
        have hx5 : G2 x = some (.ins C dx (putF "head" (.int (h : Int)) [])) := sG _ _ upd_same
        have tx : t ≠ x := fun z => by
          rw [z, hx5] at ht
          cases ht
        have S6 := S5.trans sG
        rw [e1, e2]
        refine ⟨_, rfl, x, C, dx, _, rfl, hx5, T.cl, T.nS, len_put (by decide), ?_⟩
        refine ⟨_, rfl, _, rfl, x, C, dx, _, rfl, upd_same, T.cl, T.nD, len_put (len_put (by decide)), ?_⟩
        refine ⟨_, rfl, _, rfl, x, C, dx, _, rfl, upd_same, T.cl, T.nZ, len_put (len_put (len_put (by decide))), ?_⟩
        have S7 := add_upd (o := .ins C dx (flds (h : Int) t ((1 + M.Step.deepest st : Nat) : Int) ((st.length + M.Step.inner st : Nat) : Int))) hx0 (add_upd (o := .ins C dx (putF "depth" (.int ((1 + M.Step.deepest st : Nat) : Int)) (putF "steps" (.ref t) (putF "head" (.int (h : Int)) [])))) hx0 (add_upd (o := .ins C dx (putF "steps" (.ref t) (putF "head" (.int (h : Int)) []))) hx0 S6))
        refine k _ S7 ?_
        unfold WayAt
        exact ⟨dx, t, xs, upd_same, by rw [upd_ne tx, upd_ne tx, upd_ne tx]; exact ht, hs.mono S7⟩
      rcases hl.mono S5 with e | e
      · exact ⟨_, rfl, l, xs, rfl, .inl ⟨SqL.of e, fun t nt => fin t _ (Same.of_upd nt) upd_same⟩⟩
      · exact ⟨_, rfl, l, xs, rfl, .inr ⟨SqT.of e, fin l _ (Same.refl _) e⟩⟩
end
end WP

end
section
set_option autoImplicit false
set_option Elab.async false
set_option linter.all false
set_option maxRecDepth 100000
set_option maxHeartbeats 4000000
set_option pp.maxSteps 900
/-! ## the law's own reading of a step -/
namespace WP
open PySem L2 G
abbrev sLNum : Stmt := top 38
abbrev sLIsS : Stmt := top 39
theorem scNu : FnScope ["thing", "least", "most"] ["thing", "least", "most"] (defScope sLNum) := ⟨rfl, rfl, rfl, by decide +kernel, rfl, by decide +kernel, by decide +kernel⟩
theorem scLs : FnScope ["thing", "head"] ["thing", "head"] (defScope sLIsS) := ⟨rfl, rfl, rfl, by decide +kernel, rfl, by decide +kernel, by decide +kernel⟩
section
variable {P : Program} {w : World} {K : PySem.W.Frag} {mg : Str → Option Value} {base : Heap} {C : Addr}
def spNum (K : PySem.W.Frag) : Sp := fun vs H Q _ => ∃ (v : V) (a b : Int) (r : Bool), vs = [v, .int a, .int b] ∧ Nm K H v a b r ∧ Q (.bl r) H
theorem ok_lnum {f : Addr} {fd : FuncData} (F : Fun K "_law_is_number" "_law_is_number" sLNum f fd) (B : Bn mg) : FnOk P w K mg base CX0 1 f fd ["thing", "least", "most"] (spNum K) := by
  refine F.ok scNu (fun vs H Q E h => ?_) (fun cdv A outer s H vs Q E hr h => ?_)
  · obtain ⟨v, a, b, r, rfl, _⟩ := h
    rfl
  · obtain ⟨v, a, b, r, rfl, hn, k⟩ := h
    refine ⟨_, pss_one (ps_ret (pe_and (pe_callB call_isi (by rfl) B.isi (by decide +kernel) (pa_cons (pv 0) (pa_cons (pe_bltn (v := .ty "int") (by rfl) B.int (by decide +kernel) rfl) pa_nil))) (pe_and (pe_not (pe_callB call_isi (by rfl) B.isi (by decide +kernel) (pa_cons (pv 0) (pa_cons (pe_bltn (v := .ty "bool") (by rfl) B.bool (by decide +kernel) rfl) pa_nil)))) (pe_one (pe_chain op_le op_le (pv 1) (pv 0) (pv 2)))))), ?_⟩
    rcases hn with ⟨i, rfl, rfl⟩ | ⟨⟨b', rfl⟩ | ⟨t, ty, e⟩, rfl⟩
    · refine ⟨_, rfl, _, _, _, _, _, rfl, .ty _, .base (.int _), kit_ty (r := true) (by decide +kernel), _, rfl, iteT ⟨_, rfl, _, _, _, _, _, rfl, .ty _, .base (.int _), kit_ty (r := false) (by decide +kernel), _, rfl, _, rfl, iteT ?_⟩⟩
      refine ⟨_, rfl, _, rfl, _, _, rfl, rfl, _, rfl, ?_⟩
      refine ite2 (fun h1 => ⟨_, rfl, _, _, rfl, rfl, ?_⟩) (fun h1 => ?_)
      · have e1 : a ≤ i := of_decide_eq_true h1
        rw [show decide (a ≤ i ∧ i ≤ b) = decide (i ≤ b) from decide_eq_decide.mpr ⟨fun z => z.2, fun z => ⟨e1, z⟩⟩] at k
        exact k
      · rw [show decide (a ≤ i ∧ i ≤ b) = false from decide_eq_false fun q => h1 (decide_eq_true q.1)] at k
        exact k
    · exact ⟨_, rfl, _, _, _, _, _, rfl, .ty _, .base (.bl _), kit_ty (r := true) (by decide +kernel), _, rfl, iteT ⟨_, rfl, _, _, _, _, _, rfl, .ty _, .base (.bl _), kit_ty (r := true) (by decide +kernel), _, rfl, _, rfl, iteF k⟩⟩
    · exact ⟨_, rfl, _, _, _, _, _, rfl, .ty _, ty, e, _, rfl, iteF k⟩
/-- _law_is_step -/
def spLIsS (K : PySem.W.Frag) (C : Addr) : Sp := fun vs H Q _ => ∃ (x : V) (h : Nat) (b : Bool), vs = [x, .int (h : Int)] ∧ StB K C H h x b ∧ ∀ H', Same H H' → Q (.bl b) H'
theorem ok_liss {f : Addr} {fd : FuncData} (F : Fun K "_law_is_step" "_law_is_step" sLIsS f fd) (B : Bn mg) (T : Wt K mg C) (DN : Df P w K mg base 1 "_law_is_number" ["thing", "least", "most"] (spNum K)) : FnOk P w K mg base CX0 4 f fd ["thing", "head"] (spLIsS K C) := by
  obtain ⟨fN, fdN, GN, gN, kN, bN⟩ := DN.ex
  refine F.ok scLs (fun vs H Q E h => ?_) (fun cdv A outer s H vs Q E hr h => ?_)
  · obtain ⟨x, h, b, rfl, _⟩ := h
    rfl
  · obtain ⟨x, h, b, rfl, hx, k⟩ := h
    refine ⟨_, pss_cons (ps_if (PW.pt (pw_or (pt_not (pt_val (pe_callB call_isi (by rfl) B.isi (by decide +kernel) (pa_cons (pv 0) (pa_cons (pe_bltn (v := .ty "tuple") (by rfl) B.tuple (by decide +kernel) rfl) pa_nil))))) (pw_or1 (pt_cmpR (EB.op_eqB (EB.rcB_tup EB.mon_flat EB.eqB_flat) (hr.mono (by decide))) (pv 0) (pe_tup pa_nil) (nomark _))))) (pss_one (ps_ret (pe_bl))) (pss_nil))
      (pss_cons (ps_if (PW.pt (pw_and (pt_cmpR (op_eq) (pe_ix ix_tup (pv 0) (pe_int) (fun _ _ => rfl)) (pe_str) (nomark _)) (pw_and (pt_cmpR (op_eq) (pe_callB call_len_seq (by rfl) B.len PySem.boot_len (pa_cons (pv 0) pa_nil)) (pe_int) (nomark _)) (pw_and1 (pt_val (pe_call GN (hr.mono (by decide)) rfl gN kN bN .nil pass0 (pa_cons (pe_ix ix_tup (pv 0) (pe_int) (fun _ _ => rfl)) (pa_cons (pe_op (op_add) (pv 1) (pe_int)) (pa_cons (pe_int) pa_nil))))))))) (pss_one (ps_ret (pe_and (pe_cmpR (op_inD (hr65 hr)) (pe_ix ix_tup (pv 0) (pe_int) (fun _ _ => rfl)) (pe_lst (pa_cons (pe_str) (pa_cons (pe_str) pa_nil))) (by rfl)) (pe_one (pe_cmpR (op_inD (hr65 hr)) (pe_ix ix_tup (pv 0) (pe_int) (fun _ _ => rfl)) (pe_lst (pa_cons (pe_str) (pa_cons (pe_str) (pa_cons (pe_str) pa_nil)))) (by rfl)))))) (pss_nil))
      (pss_cons (ps_if (pt_cmpR (op_eq) (pe_ix ix_tup (pv 0) (pe_int) (fun _ _ => rfl)) (pe_str) (nomark _)) (pss_one (ps_ret (pe_and (pe_cmpR (op_eq) (pe_callB call_len_seq (by rfl) B.len PySem.boot_len (pa_cons (pv 0) pa_nil)) (pe_int) (nomark _)) (pe_one (pe_call GN (hr.mono (by decide)) rfl gN kN bN .nil pass0 (pa_cons (pe_ix ix_tup (pv 0) (pe_int) (fun _ _ => rfl)) (pa_cons (pe_int) (pa_cons (pe_op (op_powN) (pe_int) (pe_int)) pa_nil)))))))) (pss_nil))
      (pss_cons (ps_if (PW.pt (pw_and (pt_cmpR (op_eq) (pe_ix ix_tup (pv 0) (pe_int) (fun _ _ => rfl)) (pe_str) (nomark _)) (pw_and (pt_cmpR (op_eq) (pe_callB call_len_seq (by rfl) B.len PySem.boot_len (pa_cons (pv 0) pa_nil)) (pe_int) (nomark _)) (pw_and1 (pt_val (pe_callB call_isi (by rfl) B.isi (by decide +kernel) (pa_cons (pe_ix ix_tup (pv 0) (pe_int) (fun _ _ => rfl)) (pa_cons (pe_glob (v := .ref C) rfl T.g rfl) pa_nil)))))))) (pss_one (ps_ret (pe_and (pe_call GN (hr.mono (by decide)) rfl gN kN bN .nil pass0 (pa_cons (pe_ix ix_tup (pv 0) (pe_int) (fun _ _ => rfl)) (pa_cons (pe_int) (pa_cons (pe_op (op_powN) (pe_int) (pe_int)) pa_nil)))) (pe_one (pe_cmpR (op_inD (hr65 hr)) (pe_ix ix_tup (pv 0) (pe_int) (fun _ _ => rfl)) (pe_lst (pa_cons (pe_str) (pa_cons (pe_str) (pa_cons (pe_str) pa_nil)))) (by rfl)))))) (pss_nil))
      (pss_one (ps_ret (pe_bl)))))), ?_⟩
    have one : PySem.W.kitOne K (.type "tuple") (.type "tuple") = some true := kit_ty (r := true) (by decide +kernel)
    have pre : ∀ (a : Addr) (y : V) (ys : List V), x = .ref a → H a = some (.tup (y :: ys)) → ∀ (D : Ends) (rest : TS), (∀ H', Same H H' → rest D [some x, some (.int (h : Int))] H') →
        tSeq (tIfS (tOr (tNot (tB (tCB (rIsi K) (tCons (tVar 0) (tCons (tC (.ty "tuple")) tNil))))) (tTest (tOp (EB.rEqB (EB.BTup K EB.BFlat)) (tVar 0) (tTup tNil)))) (tRet (tC (.bl false))) tNext) rest D [some x, some (.int (h : Int))] H := by
      intro a y ys ex ha D rest q
      subst ex
      refine ⟨_, rfl, _, _, _, _, _, rfl, .ty _, .base (.tup ha), one, _, rfl, iteF ⟨_, rfl, Nat.zero_le _, fun p np => ?_⟩⟩
      have s1 : ∀ o, Same H (upd H p o) := fun o => Same.of_upd np
      refine ⟨false, ⟨a, p, y :: ys, [], [], rfl, rfl, SqT.of (s1 _ _ _ ha), SqT.of upd_same, ⟨by simp, fun i _ _ _ _ _ _ e => by cases e⟩, by simp⟩, fun H' e => ⟨_, rfl, iteF ?_⟩⟩
      exact q H' ((s1 _).trans e)
    have yes : ∀ {a : Str}, decide (V.str a = V.str a) = true := decide_eq_true rfl
    have no : ∀ {a b : Str}, a ≠ b → decide (V.str a = V.str b) = false := fun h => decide_eq_false fun z => h (V.str.inj z)
    have len : ∀ {n m : Nat}, n ≠ m → decide (V.int (n : Int) = V.int (m : Int)) = false := fun h => decide_eq_false fun z => h (Int.ofNat.inj (V.int.inj z))
    have fin : ∀ {o : HO} {H' : Hp} {p : Addr}, Same H H' → H' p = none → Same H (upd H' p o) := fun s n => s.trans (Same.of_upd n)
    cases hx with
    | no ty e _ => exact ⟨_, rfl, _, _, _, _, _, rfl, .ty _, ty, e, _, rfl, iteT (k H (Same.refl _))⟩
    | @nil a ha =>
      refine ⟨_, rfl, _, _, _, _, _, rfl, .ty _, .base (.tup ha), one, _, rfl, iteF ⟨_, rfl, Nat.zero_le _, fun p np => ?_⟩⟩
      have s1 : ∀ o, Same H (upd H p o) := fun o => Same.of_upd np
      exact ⟨true, ⟨a, p, [], [], [], rfl, rfl, SqT.of (s1 _ _ _ ha), SqT.of upd_same, ⟨by simp, fun i _ _ _ _ _ _ e => by cases e⟩, by simp⟩, fun H' e => ⟨_, rfl, iteT (k H' ((s1 _).trans e))⟩⟩
    | @odd a y ys ha hl hf n1 n2 n3 =>
      refine pre a _ _ rfl ha _ _ fun H' s => ?_
      have ha := s _ _ ha
      refine ⟨_, rfl, a, _, _, _, rfl, rfl, SqT.of ha, at0, scal_str hf, _, rfl, ?_⟩
      rw [decide_eq_false n1]
      refine iteF (iteF ⟨_, rfl, a, _, _, _, rfl, rfl, SqT.of ha, at0, scal_str hf, _, rfl, ?_⟩)
      rw [decide_eq_false n2]
      refine iteF ⟨_, rfl, a, _, _, _, rfl, rfl, SqT.of ha, at0, scal_str hf, _, rfl, ?_⟩
      rw [decide_eq_false n3]
      exact iteF (iteF (k H' s))
    | @road0 a ys ha hl h3 =>
      refine pre a _ _ rfl ha _ _ fun H' s => ?_
      have ha := s _ _ ha
      refine ⟨_, rfl, a, _, _, _, rfl, rfl, SqT.of ha, at0, rfl, _, rfl, ?_⟩
      rw [yes]
      refine iteT ⟨_, rfl, a, _, rfl, .inr (SqT.of ha), rfl, _, rfl, ?_⟩
      rw [show decide (V.int ((V.str "road" :: ys).length : Int) = V.int 4) = false from len (n := (V.str "road" :: ys).length) (m := 4) (by rw [List.length_cons]; omega)]
      refine iteF (iteF ⟨_, rfl, a, _, _, _, rfl, rfl, SqT.of ha, at0, rfl, _, rfl, ?_⟩)
      rw [no kinds.1]
      refine iteF ⟨_, rfl, a, _, _, _, rfl, rfl, SqT.of ha, at0, rfl, _, rfl, ?_⟩
      rw [no kinds.2.1]
      exact iteF (iteF (k H' s))
    | @road a n x y b d e ha hn hx sx hy sy =>
      refine pre a _ _ rfl ha _ _ fun H' s => ?_
      have ha := s _ _ ha
      refine ⟨_, rfl, a, _, _, _, rfl, rfl, SqT.of ha, at0, rfl, _, rfl, ?_⟩
      rw [yes]
      refine iteT ⟨_, rfl, a, _, rfl, .inr (SqT.of ha), rfl, _, rfl, iteT ⟨_, rfl, a, _, _, _, rfl, rfl, SqT.of ha, at1, _, rfl, _, _, rfl, rfl, n, _, 1000, b, rfl, hn.mono s, b, rfl, ?_⟩⟩
      cases b with
      | false =>
        refine iteF ⟨_, rfl, a, _, _, _, rfl, rfl, SqT.of ha, at0, rfl, _, rfl, ?_⟩
        rw [no kinds.1]
        refine iteF ⟨_, rfl, a, _, _, _, rfl, rfl, SqT.of ha, at0, rfl, _, rfl, ?_⟩
        rw [no kinds.2.1]
        exact iteF (iteF (k H' s))
      | true =>
        refine iteT ⟨_, rfl, a, _, _, _, rfl, rfl, SqT.of ha, at2, line2.1, fun p np => ?_⟩
        have s1 := fin (o := .lst [V.str "tell", V.str "drop"]) s np
        refine ⟨d, dS, dp_mono s1 hx, .lst (SqL.of upd_same) (.cons (.str _) (.cons (.str _) .nil)), sx, by decide +kernel, _, rfl, ?_⟩
        show if has dS d = true then _ else _
        cases e1 : has dS d with
        | false =>
          rw [e1] at k
          exact iteF (k _ s1)
        | true =>
          rw [e1] at k
          refine iteT ⟨_, rfl, a, _, _, _, rfl, rfl, SqT.of (Same.of_upd np _ _ ha), at3, (by show 3 ≤ sizeLine; decide), fun p2 np2 => ?_⟩
          have s2 := fin (o := .lst [V.str "cut", V.str "tell", V.str "drop"]) s1 np2
          exact ⟨e, dL, dp_mono s2 hy, .lst (SqL.of upd_same) (.cons (.str _) (.cons (.str _) (.cons (.str _) .nil))), sy, by decide +kernel, k _ s2⟩
    | @join0 a ys ha hl h3 =>
      refine pre a _ _ rfl ha _ _ fun H' s => ?_
      have ha := s _ _ ha
      refine ⟨_, rfl, a, _, _, _, rfl, rfl, SqT.of ha, at0, rfl, _, rfl, ?_⟩
      rw [no kinds.2.2.2.1]
      refine iteF (iteF ⟨_, rfl, a, _, _, _, rfl, rfl, SqT.of ha, at0, rfl, _, rfl, ?_⟩)
      rw [yes]
      refine iteT ⟨_, rfl, a, _, rfl, .inr (SqT.of ha), rfl, _, rfl, ?_⟩
      rw [show decide (V.int ((V.str "join" :: ys).length : Int) = V.int 2) = false from len (n := (V.str "join" :: ys).length) (m := 2) (by rw [List.length_cons]; omega)]
      exact iteF (k H' s)
    | @join a n b ha hn =>
      refine pre a _ _ rfl ha _ _ fun H' s => ?_
      have ha := s _ _ ha
      refine ⟨_, rfl, a, _, _, _, rfl, rfl, SqT.of ha, at0, rfl, _, rfl, ?_⟩
      rw [no kinds.2.2.2.1]
      refine iteF (iteF ⟨_, rfl, a, _, _, _, rfl, rfl, SqT.of ha, at0, rfl, _, rfl, ?_⟩)
      rw [yes]
      exact iteT ⟨_, rfl, a, _, rfl, .inr (SqT.of ha), rfl, _, rfl, iteT ⟨_, rfl, a, _, _, _, rfl, rfl, SqT.of ha, at1, _, _, rfl, rfl, ⟨by decide, by decide⟩, n, 1, _, b, rfl, hn.mono s, k H' s⟩⟩
    | @tun0 a ys ha hl h3 =>
      refine pre a _ _ rfl ha _ _ fun H' s => ?_
      have ha := s _ _ ha
      refine ⟨_, rfl, a, _, _, _, rfl, rfl, SqT.of ha, at0, rfl, _, rfl, ?_⟩
      rw [no kinds.2.2.2.2.1]
      refine iteF (iteF ⟨_, rfl, a, _, _, _, rfl, rfl, SqT.of ha, at0, rfl, _, rfl, ?_⟩)
      rw [no kinds.2.2.2.2.2]
      refine iteF ⟨_, rfl, a, _, _, _, rfl, rfl, SqT.of ha, at0, rfl, _, rfl, ?_⟩
      rw [yes]
      refine iteT ⟨_, rfl, a, _, rfl, .inr (SqT.of ha), rfl, _, rfl, ?_⟩
      rw [show decide (V.int ((V.str "tunnel" :: ys).length : Int) = V.int 4) = false from len (n := (V.str "tunnel" :: ys).length) (m := 4) (by rw [List.length_cons]; omega)]
      exact iteF (iteF (k H' s))
    | @tunN a x m t ty ha hx e =>
      refine pre a _ _ rfl ha _ _ fun H' s => ?_
      have ha := s _ _ ha
      refine ⟨_, rfl, a, _, _, _, rfl, rfl, SqT.of ha, at0, rfl, _, rfl, ?_⟩
      rw [no kinds.2.2.2.2.1]
      refine iteF (iteF ⟨_, rfl, a, _, _, _, rfl, rfl, SqT.of ha, at0, rfl, _, rfl, ?_⟩)
      rw [no kinds.2.2.2.2.2]
      refine iteF ⟨_, rfl, a, _, _, _, rfl, rfl, SqT.of ha, at0, rfl, _, rfl, ?_⟩
      rw [yes]
      exact iteT ⟨_, rfl, a, _, rfl, .inr (SqT.of ha), rfl, _, rfl, iteT ⟨_, rfl, a, _, _, _, rfl, rfl, SqT.of ha, at1, _, _, _, _, false, rfl, .own C, CP.tyX_mono s hx, e, _, rfl, iteF (k H' s)⟩⟩
    | @tun a c wy m t b d ha hc hf hm ht st =>
      refine pre a _ _ rfl ha _ _ fun H' s => ?_
      have ha := s _ _ ha
      refine ⟨_, rfl, a, _, _, _, rfl, rfl, SqT.of ha, at0, rfl, _, rfl, ?_⟩
      rw [no kinds.2.2.2.2.1]
      refine iteF (iteF ⟨_, rfl, a, _, _, _, rfl, rfl, SqT.of ha, at0, rfl, _, rfl, ?_⟩)
      rw [no kinds.2.2.2.2.2]
      refine iteF ⟨_, rfl, a, _, _, _, rfl, rfl, SqT.of ha, at0, rfl, _, rfl, ?_⟩
      rw [yes]
      obtain ⟨dx, fx, h1, _⟩ := head_fld (hc.mono s)
      have kit : PySem.W.kitOne K (.ref C) (.ref C) = some true := by
        unfold PySem.W.kitOne
        rw [if_pos (by simp)]
      refine iteT ⟨_, rfl, a, _, rfl, .inr (SqT.of ha), rfl, _, rfl, iteT ⟨_, rfl, a, _, _, _, rfl, rfl, SqT.of ha, at1, _, _, _, _, true, rfl, .own C, .base (.ins h1 T.cl T.iA T.iN T.iT T.iM), kit, _, rfl, iteT ⟨_, rfl, a, _, _, _, rfl, rfl, SqT.of ha, at2, _, _, rfl, rfl, ⟨by decide, by decide⟩, m, 1, _, b, rfl, hm.mono s, b, rfl, ?_⟩⟩⟩
      cases b with
      | false => exact iteF (k H' s)
      | true =>
        refine iteT ⟨_, rfl, a, _, _, _, rfl, rfl, SqT.of ha, at3, (by show 3 ≤ sizeLine; decide), fun p np => ?_⟩
        have s1 := fin (o := .lst [V.str "turn", V.str "keep", V.str "lose"]) s np
        exact ⟨d, dT, dp_mono s1 ht, .lst (SqL.of upd_same) (.cons (.str _) (.cons (.str _) (.cons (.str _) .nil))), st, by decide +kernel, k _ s1⟩
end
end WP

end
section
set_option autoImplicit false
set_option Elab.async false
set_option linter.all false
set_option maxRecDepth 100000
set_option maxHeartbeats 4000000
set_option pp.maxSteps 900
/-! ## what is due of a head and steps -/
namespace LN
open PySem PySem.Spec PyProof.Rows L2 G
def rNeNil (K : PySem.W.Frag) : R2 := fun x y H Q => ∃ (a b : Addr) (xs : List V), x = .ref a ∧ y = .ref b ∧ SqL K H a xs ∧ SqL K H b [] ∧ Q (.bl (!xs.isEmpty)) H
theorem op_neNil {X : Cx} (hu : X.A.units + 64 < cLine) : OpR X (compareOp .NotEq) (rNeNil X.K) := by
  intro pins s σ H x y v u Q I rx ry h
  obtain ⟨a, b, xs, rfl, rfl, ha, hb, q⟩ := h
  cases (show v = Value.ref a from rx)
  cases (show u = Value.ref b from ry)
  obtain ⟨ia, ra, la, _⟩ := I.list ha
  obtain ⟨ib, rb, lb, _⟩ := I.list hb
  cases rb
  have pa := la.isList
  have pb := lb.isList
  cases ra with
  | nil => exact SeqAt.RcNeAt.lists (e := fun _ => true) pa pb rfl (by omega) (fun j h1 => absurd h1 (by simp)) _ _ _ _ ⟨.bl false, H, I, rfl, q⟩
  | cons r rr => exact SeqAt.RcNeAt.lists_lengths pa pb (by simp) (by omega) _ _ _ _ ⟨.bl true, H, I, rfl, q⟩
end LN
namespace WP
open PySem L2 G
abbrev sLDueW : Stmt := top 40
abbrev NDu : List Str := ["head", "steps", "wrong", "inner", "depth", "total", "at", "step", "way"]
theorem scDu : FnScope NDu ["head", "steps"] (defScope sLDueW) := ⟨rfl, rfl, rfl, by decide +kernel, rfl, by decide +kernel, by decide +kernel⟩
inductive Out
  | head | steps
  | step (i : Nat)
  | deep (n : Nat)
  | great (n : Nat)
  | made (h : Nat) (st : List M.Step)
/-- what becomes of a head and steps -/
inductive Cse (K : PySem.W.Frag) (C : Addr) (H : Hp) (hd sv : V) : Out → Prop
  | head : Nm K H hd 1 40 false → Cse K C H hd sv .head
  | steps {h : Nat} {n : Option Nat} : hd = .int (h : Int) → 1 ≤ h → h ≤ 40 → LiA K H sv n → okLen n = false → Cse K C H hd sv .steps
  | step {h : Nat} {l : Addr} {xs : List V} {i : Nat} {y : V} : hd = .int (h : Int) → 1 ≤ h → h ≤ 40 → sv = .ref l → SAt H l xs → 1 ≤ xs.length → xs.length ≤ 12 → xs[i]? = some y → StB K C H h y false → (∀ (j : Nat) (z : V), j < i → xs[j]? = some z → StB K C H h z true) → (∀ (j : Nat) (z : V), xs[j]? = some z → ∃ b, StB K C H h z b) → Cse K C H hd sv (.step i)
  | deep {h : Nat} {l : Addr} {xs : List V} {st : List M.Step} : hd = .int (h : Int) → 1 ≤ h → h ≤ 40 → sv = .ref l → SAt H l xs → 1 ≤ xs.length → xs.length ≤ 12 → StepsAt C H st xs → M.Step.fineAll h st → ¬ 1 + M.Step.deepest st ≤ 3 → Cse K C H hd sv (.deep (1 + M.Step.deepest st))
  | great {h : Nat} {l : Addr} {xs : List V} {st : List M.Step} : hd = .int (h : Int) → 1 ≤ h → h ≤ 40 → sv = .ref l → SAt H l xs → 1 ≤ xs.length → xs.length ≤ 12 → StepsAt C H st xs → M.Step.fineAll h st → 1 + M.Step.deepest st ≤ 3 → ¬ st.length + M.Step.inner st ≤ 40 → Cse K C H hd sv (.great (st.length + M.Step.inner st))
  | made {h : Nat} {l : Addr} {xs : List V} {st : List M.Step} : hd = .int (h : Int) → sv = .ref l → SAt H l xs → StepsAt C H st xs → M.Way.fine (.mk h st) → Cse K C H hd sv (.made h st)
/-- the tuple that tells it -/
def dueT (hd sv : V) : Out → List V
  | .head => [.str "head", hd]
  | .steps => [.str "steps", sv]
  | .step i => [.str "step", .int (i : Int)]
  | .deep n => [.str "deep", .int (n : Int)]
  | .great n => [.str "great", .int (n : Int)]
  | .made h st => [.str "made", .int ((1 + M.Step.deepest st : Nat) : Int), .int ((st.length + M.Step.inner st : Nat) : Int)]
section
variable {P : Program} {w : World} {K : PySem.W.Frag} {mg : Str → Option Value} {base : Heap} {C : Addr}
theorem any_false {t a b : Value} (h : PySem.W.kitAny K t [a, b] = some false) : PySem.W.kitOne K t a = some false ∧ PySem.W.kitOne K t b = some false := by
  unfold PySem.W.kitAny at h
  cases e : PySem.W.kitOne K t a with
  | none => rw [e] at h; cases h
  | some r =>
    rw [e] at h
    cases r with
    | true => cases h
    | false =>
      refine ⟨rfl, ?_⟩
      unfold PySem.W.kitAny at h
      cases e2 : PySem.W.kitOne K t b with
      | none => rw [e2] at h; cases h
      | some r =>
        rw [e2] at h
        cases r with
        | true => cases h
        | false => rfl
def tTunsD (K : PySem.W.Frag) : TE := tLc (fun σ H R => iList K (tVar 1) σ H R ∨ iTup K (tVar 1) σ H R) (gName 7) (tTest (tOp rEq (tOp (rIxT K) (tVar 7) (tC (.int 0))) (tC (.str "tunnel")))) (tOp (rIxT K) (tVar 7) (tC (.int 1))) [7]
theorem tuns_runD {σ : St} {H : Hp} {a0 a1 p q a5 a6 a7 a8 : Option V} {l : Addr} {xs : List V} {st : List M.Step} {Q : VK} (hσ : σ = [a0, some (.ref l), a1, p, q, a5, a6, a7, a8]) (hl : SAt H l xs) (hs : StepsAt C H st xs) (hn : xs.length ≤ 1000)
    (k : ∀ D vs H', Same H H' → H' D = some (.lst vs) → WaysAt C H (M.tuns st) vs → Q (.ref D) H') : tTunsD K σ H Q := by
  subst hσ
  have yes : ∀ {a : Str}, decide (V.str a = V.str a) = true := decide_eq_true rfl
  have no : ∀ {a b : Str}, a ≠ b → decide (V.str a = V.str b) = false := fun h => decide_eq_false fun z => h (V.str.inj z)
  refine or_seq (fun Q h => ⟨_, rfl, h⟩) hl fun J Gd hG wk D nD => ?_
  refine lc_it wk (fun i G => Same H G ∧ ∃ acc, acc.length ≤ i ∧ G D = some (.lst acc) ∧ WaysAt C H (M.tuns (st.take i)) acc) ⟨Same.of_upd nD, [], Nat.le_refl _, upd_same, .nil⟩ (fun i G _ p => hG G p.1) ?_ ?_
  · rintro i v G G' hi ⟨s, acc, hA, hD, hw⟩ ⟨rfl, hx⟩
    obtain ⟨sp, hsp, hst⟩ := hs.get hx
    have et := take_snoc hsp
    have la : acc.length < sizeLine := Nat.lt_of_lt_of_le (Nat.lt_of_le_of_lt hA hi) (Nat.le_trans hn (by decide))
    have z1 : ∀ {y0 : V} {ys : List V}, atI (y0 :: ys) (0 : Int) = some y0 := fun {y0 ys} => by exact atI_nat (xs := y0 :: ys) (j := 0) rfl
    refine ⟨rfl, ?_⟩
    have hst2 := hst
    cases sp with
    | road size ts lw =>
      unfold StepAt at hst
      obtain ⟨t, rfl, ht⟩ := hst
      refine ⟨_, rfl, t, _, _, _, rfl, rfl, SqT.of (s _ _ ht), z1, rfl, _, rfl, ?_⟩
      rw [no kinds.2.1]
      refine iteF ⟨s, acc, Nat.le_succ_of_le hA, hD, ?_⟩
      rw [et, M.tuns_app]
      exact (List.append_nil _).symm ▸ hw
    | join most =>
      unfold StepAt at hst
      obtain ⟨t, rfl, ht⟩ := hst
      refine ⟨_, rfl, t, _, _, _, rfl, rfl, SqT.of (s _ _ ht), z1, rfl, _, rfl, ?_⟩
      rw [no kinds.2.2.1]
      refine iteF ⟨s, acc, Nat.le_succ_of_le hA, hD, ?_⟩
      rw [et, M.tuns_app]
      exact (List.append_nil _).symm ▸ hw
    | tunnel wy most tw =>
      unfold StepAt at hst
      obtain ⟨t, a, rfl, ht, hway⟩ := hst
      refine ⟨_, rfl, t, _, _, _, rfl, rfl, SqT.of (s _ _ ht), z1, rfl, _, rfl, ?_⟩
      rw [yes]
      refine iteT ⟨_, rfl, t, _, _, _, rfl, rfl, SqT.of (s _ _ ht), (by exact atI_nat (xs := [V.str "tunnel", V.ref a, V.int (most : Int), V.str (twS tw)]) (j := 1) rfl), acc, hD, la, add_upd nD s, _, by simp; exact hA, upd_same, ?_⟩
      rw [et, M.tuns_app]
      exact hw.snoc hway
  · rintro G ⟨s, acc, hA, hD, hw⟩
    have e : st.take xs.length = st := by rw [hs.len]; exact List.take_length
    rw [e] at hw
    exact k D acc G s hD hw
def tFldsD (K : PySem.W.Frag) (f : Str) : TE := tLc (iList K (tVar 3)) (gName 8) tYes (tFld K (tVar 8) f) [8]
theorem flds_runD {f : Str} {g : M.Way → Int} {σ : St} {H : Hp} {a0 a1 a2 p q a6 a7 a8 : Option V} {D0 : Addr} {vs : List V} {ws : List M.Way} {Q : VK} (T : Wt K mg C) (nf : NoAttr K C f) (hg : ∀ H wy a, WayAt C H wy a → ∃ dx fs, H a = some (.ins C dx fs) ∧ fs.lookup f = some (.int (g wy)))
    (hσ : σ = [a0, a1, a2, some (.ref D0), p, q, a6, a7, a8]) (hl : H D0 = some (.lst vs)) (hw : WaysAt C H ws vs) (hn : vs.length ≤ 1000) (k : ∀ D H', Same H H' → H' D = some (.lst ((ws.map g).map V.int)) → Q (.ref D) H') : tFldsD K f σ H Q := by
  subst hσ
  refine ⟨_, rfl, D0, rfl, ⟨vs, SqL.of hl⟩, fun D nD => ?_⟩
  refine lc_it walk_list (fun i G => Same H G ∧ G D = some (.lst ((((ws.take i).map g)).map V.int))) ⟨Same.of_upd nD, upd_same⟩ (fun i G _ p => SqL.of (p.1 _ _ hl)) ?_ ?_
  · rintro i v G G' hi ⟨s, hD⟩ ⟨rfl, hx⟩
    obtain ⟨wy, a, hwi, rfl, hat⟩ := hw.get hx
    obtain ⟨dx, fs, h1, h2⟩ := hg H wy a hat
    refine ⟨rfl, _, rfl, a, C, dx, fs, _, rfl, s _ _ h1, T.cl, nf, h2, _, hD, ?_, add_upd nD s, ?_⟩
    · rw [List.length_map, List.length_map, List.length_take]
      exact Nat.lt_of_le_of_lt (Nat.le_trans (Nat.min_le_left _ _) (Nat.le_of_lt (Nat.lt_of_lt_of_le hi hn))) (by decide)
    · rw [take_snoc hwi, List.map_append, List.map_append, upd_same]
      rfl
  · rintro G ⟨s, hD⟩
    have e : ws.take vs.length = ws := by rw [hw.len]; exact List.take_length
    rw [e] at hD
    exact k D G s hD
theorem max_cat {tl : TE} {σ : St} {H : Hp} {Q : VK} (h : tl σ H fun x H1 => tLst (tCons (tC (.int 0)) tNil) σ H1 fun y H2 => rCat x y H2 fun z H3 => rMax K [z] H3 fun y H4 => ∃ a b, V.int 1 = .int a ∧ y = .int b ∧ Q (.int (a + b)) H4) : tOp (rI0 fun i j => .int (i + j)) (tC (.int 1)) (tCB (rMax K) (tCons (tOp rCat tl (tLst (tCons (tC (.int 0)) tNil))) tNil)) σ H Q := h
theorem len_addD {K : PySem.W.Frag} {tl : TE} {σ : St} {H : Hp} {Q : VK} {l : Addr} {xs : List V} (hσ : σ[1]? = some (some (.ref l))) (hl : SAt H l xs) (h : tl σ H fun x H1 => rSum K [x] H1 fun y H2 => ∃ a b, V.int (xs.length : Int) = .int a ∧ y = .int b ∧ Q (.int (a + b)) H2) :
    tOp (rI0 fun i j => .int (i + j)) (tCB (fun zs H Q => ∃ p ys, zs = [.ref p] ∧ (SqL K H p ys ∨ SqT K H p ys) ∧ Q (.int ys.length) H) (tCons (tVar 1) tNil)) (tCB (rSum K) (tCons tl tNil)) σ H Q :=
  ⟨_, hσ, l, xs, rfl, hl.elim (fun e => .inl (SqL.of e)) (fun e => .inr (SqT.of e)), h⟩
theorem fold_le : ∀ (ws : List M.Way) (w : M.Way), w ∈ ws → w.depth ≤ ws.foldr (fun w d => max w.depth d) 0
  | [], w, h => by cases h
  | x :: r, w, h => by
    rw [List.foldr_cons]
    rcases List.mem_cons.mp h with rfl | h
    · exact Nat.le_max_left _ _
    · exact Nat.le_trans (fold_le r w h) (Nat.le_max_right _ _)
theorem fold_in : ∀ ws : List M.Way, ws.foldr (fun w d => max w.depth d) 0 = 0 ∨ ∃ w ∈ ws, ws.foldr (fun w d => max w.depth d) 0 = w.depth
  | [] => .inl rfl
  | x :: r => by
    rw [List.foldr_cons]
    rcases Nat.le_total x.depth (r.foldr (fun w d => max w.depth d) 0) with h | h
    · rw [Nat.max_eq_right h]
      exact (fold_in r).imp id fun ⟨w, hw, e⟩ => ⟨w, List.mem_cons_of_mem _ hw, e⟩
    · rw [Nat.max_eq_left h]
      exact .inr ⟨x, List.mem_cons_self, rfl⟩
theorem max_is {ws : List M.Way} {m : Int} (h : m ∈ ws.map (fun w => ((w.depth : Nat) : Int)) ++ [0]) (u : ∀ y ∈ ws.map (fun w => ((w.depth : Nat) : Int)) ++ [0], y ≤ m) : m = ((ws.foldr (fun w d => max w.depth d) 0 : Nat) : Int) := by
  refine Int.le_antisymm ?_ ?_
  · rcases List.mem_append.mp h with h | h
    · obtain ⟨w, hw, rfl⟩ := List.mem_map.mp h
      exact Int.ofNat_le.mpr (fold_le ws w hw)
    · rw [List.mem_singleton.mp h]
      exact Int.natCast_nonneg _
  · rcases fold_in ws with e | ⟨w, hw, e⟩
    · rw [e]
      exact u 0 (List.mem_append_right _ List.mem_cons_self)
    · rw [e]
      exact u _ (List.mem_append_left _ (List.mem_map.mpr ⟨w, hw, rfl⟩))
theorem Cse.split {H : Hp} {hd sv : V} {o : Out} (c : Cse K C H hd sv o) : (o = .head ∧ Nm K H hd 1 40 false) ∨ ∃ h : Nat, hd = .int (h : Int) ∧ 1 ≤ h ∧ h ≤ 40 ∧ ((o = .steps ∧ ∃ n, LiA K H sv n ∧ okLen n = false) ∨
    ∃ l xs lim, sv = .ref l ∧ SAt H l xs ∧ 1 ≤ xs.length ∧ xs.length ≤ 12 ∧ (∀ (j : Nat) (z : V), j < lim → xs[j]? = some z → StB K C H h z true) ∧ (∀ (j : Nat) (z : V), xs[j]? = some z → ∃ b, StB K C H h z b) ∧
      ((∃ y, xs[lim]? = some y ∧ StB K C H h y false ∧ o = .step lim) ∨ (lim = xs.length ∧ ∃ st, StepsAt C H st xs ∧ M.Step.fineAll h st ∧ ((¬ 1 + M.Step.deepest st ≤ 3 ∧ o = .deep (1 + M.Step.deepest st)) ∨ (1 + M.Step.deepest st ≤ 3 ∧ ¬ st.length + M.Step.inner st ≤ 40 ∧ o = .great (st.length + M.Step.inner st)) ∨ (M.Way.fine (.mk h st) ∧ o = .made h st))))) := by
  have all : ∀ {h : Nat} {xs : List V} {st : List M.Step}, StepsAt C H st xs → M.Step.fineAll h st → ∀ (j : Nat) (z : V), xs[j]? = some z → StB K C H h z true := fun hs hf j z hz => by
    obtain ⟨sp, hsp, hst⟩ := hs.get hz
    exact StB.of hst (fine_get hf hsp)
  cases c with
  | head hn => exact .inl ⟨rfl, hn⟩
  | @steps h n e h1 h2 hl hf => exact .inr ⟨h, e, h1, h2, .inl ⟨rfl, n, hl, hf⟩⟩
  | @step h l xs i y e h1 h2 es hl n1 n2 hy hb hal hany => exact .inr ⟨h, e, h1, h2, .inr ⟨l, xs, i, es, hl, n1, n2, hal, hany, .inl ⟨y, hy, hb, rfl⟩⟩⟩
  | @deep h l xs st e h1 h2 es hl n1 n2 hs hf hd => exact .inr ⟨h, e, h1, h2, .inr ⟨l, xs, _, es, hl, n1, n2, fun j z _ => all hs hf j z, fun j z hz => ⟨true, all hs hf j z hz⟩, .inr ⟨rfl, st, hs, hf, .inl ⟨hd, rfl⟩⟩⟩⟩
  | @great h l xs st e h1 h2 es hl n1 n2 hs hf hd hz => exact .inr ⟨h, e, h1, h2, .inr ⟨l, xs, _, es, hl, n1, n2, fun j z _ => all hs hf j z, fun j z hz => ⟨true, all hs hf j z hz⟩, .inr ⟨rfl, st, hs, hf, .inr (.inl ⟨hd, hz, rfl⟩)⟩⟩⟩
  | @made h l xs st e es hl hs hf =>
    have f := hf
    unfold M.Way.fine at f
    obtain ⟨⟨f1, f2⟩, ⟨f3, f4⟩, f5, _⟩ := f
    have ln := hs.len
    exact .inr ⟨h, e, f1, f2, .inr ⟨l, xs, _, es, hl, by omega, by omega, fun j z _ => all hs f5 j z, fun j z hz => ⟨true, all hs f5 j z hz⟩, .inr ⟨rfl, st, hs, f5, .inr (.inr ⟨hf, rfl⟩)⟩⟩⟩
def spLDue (K : PySem.W.Frag) (C : Addr) : Sp := fun vs H Q _ => ∃ (hd sv : V) (o : Out), vs = [hd, sv] ∧ Cse K C H hd sv o ∧ ∀ t H', Same H H' → H' t = some (.tup (dueT hd sv o)) → Q (.ref t) H'
theorem ok_ldue {f : Addr} {fd : FuncData} (F : Fun K "_law_due" "_law_due" sLDueW f fd) (B : Bn mg) (T : Wt K mg C) (DN : Df P w K mg base 1 "_law_is_number" ["thing", "least", "most"] (spNum K)) (DS : Df P w K mg base 4 "_law_is_step" ["thing", "head"] (spLIsS K C)) : FnOk P w K mg base CX0 5 f fd ["head", "steps"] (spLDue K C) := by
  obtain ⟨fN, fdN, GN, gN, kN, bN⟩ := DN.ex
  obtain ⟨fS, fdS, GS, gS, kS, bS⟩ := DS.ex
  refine F.ok scDu (fun vs H Q E h => ?_) (fun cdv A outer s H vs Q E hr h => ?_)
  · obtain ⟨hd, sv, o, rfl, _⟩ := h
    rfl
  · obtain ⟨hd, sv, o, rfl, hc, k⟩ := h
    refine ⟨_, pss_cons (ps_if (pt_not (pt_val (pe_call GN (hr.mono (by decide)) rfl gN kN bN .nil pass0 (pa_cons (pv 0) (pa_cons (pe_int) (pa_cons (pe_int) pa_nil)))))) (pss_one (ps_ret (pe_tup (pa_cons (pe_str) (pa_cons (pv 0) pa_nil))))) (pss_nil))
      (pss_cons (ps_if (PW.pt (pw_or (PW.pt (pw_and (pt_not (pt_val (pe_callB call_isi (by rfl) B.isi (by decide +kernel) (pa_cons (pv 1) (pa_cons (pe_bltn (v := .ty "list") (by rfl) B.list (by decide +kernel) rfl) pa_nil))))) (pw_and1 (pt_not (pt_val (pe_callB call_isi (by rfl) B.isi (by decide +kernel) (pa_cons (pv 1) (pa_cons (pe_bltn (v := .ty "tuple") (by rfl) B.tuple (by decide +kernel) rfl) pa_nil)))))))) (pw_or1 (pt_not (pt_chain op_le op_le (pe_int) (pe_callB call_len_seq (by rfl) B.len PySem.boot_len (pa_cons (pv 1) pa_nil)) (pe_int)))))) (pss_one (ps_ret (pe_tup (pa_cons (pe_str) (pa_cons (pv 1) pa_nil))))) (pss_nil))
      (pss_cons (ps_setLc (i := 2) (own := [("at", 6), ("step", 7)]) (g := (gTup K 2 (gCons (gName 6) (gCons (gName 7) gNil)))) (tt := tNot (tB (tCall (spLIsS K C) [] E0 (tCons (tVar 7) (tCons (tVar 0) tNil))))) (te := tVar 6) rfl scDu.nd rfl rfl (sw_true rfl rfl rfl (by decide +kernel)) (pi_or (pi_enum (by rfl) B.enum (pa_cons (pv 1) pa_nil)) (pi_et (by rfl) B.enum (pa_cons (pv 1) pa_nil))) (blkOk_by (N := NDu) (sc := defScope sLDueW) (by decide +kernel))
          (fun _ _ _ _ _ => by exact pg_tup (by rfl) (pgs_cons (pg_name (i := 6) scDu.nd rfl (Or.inl rfl)) (pgs_cons (pg_name (i := 7) scDu.nd rfl (Or.inl rfl)) pgs_nil))) (fun _ _ _ _ _ => pts_one (by exact pt_not (pt_val (pe_call GS (hr.mono (by decide)) rfl gS kS bS .nil pass0 (pa_cons (pv 7) (pa_cons (pv 0) pa_nil)))))) (fun _ _ _ _ _ => by exact pv 6))
      (pss_cons (ps_if (pt_cmpR (LN.op_neNil hr.units) (pv 2) (pe_lst pa_nil) (nomark _)) (pss_one (ps_ret (pe_tup (pa_cons (pe_str) (pa_cons (pe_ix ix_list (pv 2) (pe_int) (fun _ _ => rfl)) pa_nil))))) (pss_nil))
      (pss_cons (ps_setLc (i := 3) (own := [("step", 7)]) (g := gName 7) (tt := tTest (tOp rEq (tOp (rIxT K) (tVar 7) (tC (.int 0))) (tC (.str "tunnel")))) (te := tOp (rIxT K) (tVar 7) (tC (.int 1))) rfl scDu.nd rfl rfl (sw_true rfl rfl rfl (by decide +kernel)) (pi_or (pi_list (pv 1)) (pi_tup (pv 1))) (blkOk_by (N := NDu) (sc := defScope sLDueW) (by decide +kernel))
          (fun _ _ _ _ _ => by exact pg_name (i := 7) scDu.nd rfl (Or.inl rfl)) (fun _ _ _ _ _ => pts_one (by exact pt_cmpR (op_eq) (pe_ix ix_tup (pv 7) (pe_int) (fun _ _ => rfl)) (pe_str) (nomark _))) (fun _ _ _ _ _ => by exact pe_ix ix_tup (pv 7) (pe_int) (fun _ _ => rfl)))
      (pss_cons (ps_set (i := 4) scDu.nd rfl (Or.inl rfl) (pe_op (op_add) (pe_int) (pe_callB (cr_max rfl) (by rfl) B.max (by decide +kernel) (pa_cons (pe_op (op_cat) (pe_lc (own := [("way", 8)]) (g := gName 8) (tt := tYes) (te := tFld K (tVar 8) "depth") rfl scDu.nd (pi_list (pv 3)) (blkOk_by (N := NDu) (sc := defScope sLDueW) (by decide +kernel))
          (fun _ _ _ _ _ => by exact pg_name (i := 8) scDu.nd rfl (Or.inl rfl)) (fun _ _ _ _ _ => pts_nil) (fun _ _ _ _ _ => by exact pe_fld (pv 8) rfl)) (pe_lst (pa_cons (pe_int) pa_nil))) pa_nil))))
      (pss_cons (ps_set (i := 5) scDu.nd rfl (Or.inl rfl) (pe_op (op_add) (pe_callB call_len_seq (by rfl) B.len PySem.boot_len (pa_cons (pv 1) pa_nil)) (pe_callB (cr_sum rfl) (by rfl) B.sum (by decide +kernel) (pa_cons (pe_lc (own := [("way", 8)]) (g := gName 8) (tt := tYes) (te := tFld K (tVar 8) "size") rfl scDu.nd (pi_list (pv 3)) (blkOk_by (N := NDu) (sc := defScope sLDueW) (by decide +kernel))
          (fun _ _ _ _ _ => by exact pg_name (i := 8) scDu.nd rfl (Or.inl rfl)) (fun _ _ _ _ _ => pts_nil) (fun _ _ _ _ _ => by exact pe_fld (pv 8) rfl)) pa_nil))))
      (pss_cons (ps_if (pt_cmpR (op_gt) (pv 4) (pe_int) (nomark _)) (pss_one (ps_ret (pe_tup (pa_cons (pe_str) (pa_cons (pv 4) pa_nil))))) (pss_nil))
      (pss_one (ps_ret (pe_ifExp (pt_cmpR (op_gt) (pv 5) (pe_int) (nomark _)) (pe_tup (pa_cons (pe_str) (pa_cons (pv 5) pa_nil))) (pe_tup (pa_cons (pe_str) (pa_cons (pv 4) (pa_cons (pv 5) pa_nil)))))))))))))), ?_⟩
    have ret : ∀ (xs : List V) (H1 : Hp), Same H H1 → xs = dueT hd sv o → ∀ t, H1 t = none → Q (.ref t) (upd H1 t (.tup xs)) := fun xs H1 s e t ht => k t _ (s.trans (Same.of_upd ht)) (by rw [upd_same, e])
    have kl : PySem.W.kitOne K (.type "list") (.type "list") = some true := kit_ty (r := true) (by decide +kernel)
    have kt : PySem.W.kitOne K (.type "tuple") (.type "list") = some false := kit_ty (r := false) (by decide +kernel)
    have ku : PySem.W.kitOne K (.type "tuple") (.type "tuple") = some true := kit_ty (r := true) (by decide +kernel)
    rcases hc.split with ⟨rfl, hn⟩ | ⟨h, rfl, h1, h2, hh⟩
    · exact ⟨_, rfl, hd, 1, 40, false, rfl, hn, _, rfl, iteT ⟨_, rfl, line2.1, ret _ _ (Same.refl _) rfl⟩⟩
    refine ⟨_, rfl, _, 1, 40, true, rfl, nm_int (by omega) (by omega), _, rfl, iteF ?_⟩
    try unfold tNext
    dsimp only
    have ch : ∀ (n : Nat) (X : Bool → Prop), X (decide (1 ≤ n ∧ n ≤ 12)) → (∃ i j, V.int 1 = .int i ∧ V.int (n : Int) = .int j ∧ ∃ k, V.bl (decide (i ≤ j)) = .bl k ∧ if k = true then ∃ i2 j2, V.int (n : Int) = .int i2 ∧ V.int 12 = .int j2 ∧ ∃ b, V.bl (decide (i2 ≤ j2)) = .bl b ∧ X b else ∃ b, V.bl false = .bl b ∧ X b) := fun n X q => by
      refine ⟨_, _, rfl, rfl, _, rfl, ?_⟩
      by_cases h1 : 1 ≤ n
      · rw [decide_eq_true (show (1 : Int) ≤ (n : Int) by omega)]
        refine iteT ⟨_, _, rfl, rfl, _, rfl, ?_⟩
        rw [show decide (1 ≤ n ∧ n ≤ 12) = decide ((n : Int) ≤ 12) from decide_eq_decide.mpr ⟨fun q => by omega, fun q => by omega⟩] at q
        exact q
      · rw [decide_eq_false (show ¬ (1 : Int) ≤ (n : Int) by omega)]
        rw [decide_eq_false (fun q => h1 q.1)] at q
        exact iteF ⟨_, rfl, q⟩
    rcases hh with ⟨rfl, n, hl, hf⟩ | ⟨l, xs, lim, rfl, hl, n1, n2, hal, hany, hh⟩
    · rcases hl with ⟨l, xs, rfl, hl | hl, rfl⟩ | ⟨t, ty, e, rfl⟩
      · refine ⟨_, rfl, _, _, _, _, _, rfl, .ty _, .base (.lst hl), kl, _, rfl, iteF ⟨_, rfl, l, xs, rfl, .inl (SqL.of hl), ch _ _ ?_⟩⟩
        have hf : decide (1 ≤ xs.length ∧ xs.length ≤ 12) = false := hf
        rw [hf]
        exact iteT ⟨_, rfl, line2.1, ret _ _ (Same.refl _) rfl⟩
      · refine ⟨_, rfl, _, _, _, _, _, rfl, .ty _, .base (.tup hl), kt, _, rfl, iteT ⟨_, rfl, _, _, _, _, _, rfl, .ty _, .base (.tup hl), ku, _, rfl, iteF ⟨_, rfl, l, xs, rfl, .inr (SqT.of hl), ch _ _ ?_⟩⟩⟩
        have hf : decide (1 ≤ xs.length ∧ xs.length ≤ 12) = false := hf
        rw [hf]
        exact iteT ⟨_, rfl, line2.1, ret _ _ (Same.refl _) rfl⟩
      · obtain ⟨e1, e2⟩ := any_false e
        exact ⟨_, rfl, _, _, _, _, _, rfl, .ty _, ty, e1, _, rfl, iteT ⟨_, rfl, _, _, _, _, _, rfl, .ty _, ty, e2, _, rfl, iteT (iteT ⟨_, rfl, line2.1, ret _ _ (Same.refl _) rfl⟩)⟩⟩
    have pre2 : ∀ (D : Ends) (t1 rest : TS), rest D [some (.int (h : Int)), some (.ref l), none, none, none, none, none, none, none] H → tSeq (tIfS (tOr (tAnd (tNot (tB (tCB (rIsi K) (tCons (tVar 1) (tCons (tC (V.ty "list")) tNil))))) (tNot (tB (tCB (rIsi K) (tCons (tVar 1) (tCons (tC (V.ty "tuple")) tNil))))))
        (tNot (tTest (tChain (rI0 fun i j => V.bl (decide (i ≤ j))) (rI0 fun i j => V.bl (decide (i ≤ j))) (tC (V.int 1)) (tCB (fun xs H Q => ∃ p ys, xs = [V.ref p] ∧ (SqL K H p ys ∨ SqT K H p ys) ∧ Q (V.int ys.length) H) (tCons (tVar 1) tNil)) (tC (V.int 12)))))) t1 tNext) rest D [some (.int (h : Int)), some (.ref l), none, none, none, none, none, none, none] H := fun D t1 rest q => by
      have yes : decide (1 ≤ xs.length ∧ xs.length ≤ 12) = true := decide_eq_true ⟨n1, n2⟩
      rcases hl with hl | hl
      · refine ⟨_, rfl, _, _, _, _, _, rfl, .ty _, .base (.lst hl), kl, _, rfl, iteF ⟨_, rfl, l, xs, rfl, .inl (SqL.of hl), ch _ _ ?_⟩⟩
        rw [yes]
        exact iteF q
      · refine ⟨_, rfl, _, _, _, _, _, rfl, .ty _, .base (.tup hl), kt, _, rfl, iteT ⟨_, rfl, _, _, _, _, _, rfl, .ty _, .base (.tup hl), ku, _, rfl, iteF ⟨_, rfl, l, xs, rfl, .inr (SqT.of hl), ch _ _ ?_⟩⟩⟩
        rw [yes]
        exact iteF q
    refine pre2 _ _ _ ?_
    -- wrong
    refine set_then (i := 2) ?_
    refine or_enum (fun Q h => ⟨_, rfl, h⟩) hl fun J Gd hG wk D nD => ?_
    have limF : lim < xs.length → ∃ y, xs[lim]? = some y ∧ StB K C H h y false := fun q => by
      rcases hh with ⟨y, hy, hb, _⟩ | ⟨e, _⟩
      · exact ⟨y, hy, hb⟩
      · omega
    refine lc_it wk (fun i G => Same H G ∧ ∃ ws : List Int, G D = some (.lst (ws.map V.int)) ∧ ws.length ≤ i ∧ (i ≤ lim → ws = []) ∧ (lim < i → ∃ r, ws = (lim : Int) :: r)) ⟨Same.of_upd nD, [], upd_same, Nat.le_refl _, fun _ => rfl, fun q => by omega⟩ (fun i G _ p => hG G p.1) ?_ ?_
    · rintro i v G G' hi ⟨s, ws, hD, lw, a1, a2⟩ ⟨t, a, b, rfl, nt, rfl, e1, hb⟩
      cases e1
      have hb : xs[i]? = some b := hb
      have s2 : Same H (upd G t (.tup [V.int (i : Nat), b])) := s.trans (Same.of_upd nt)
      have D2 : ∀ {o : HO}, (upd G t o) D = some (.lst (ws.map V.int)) := fun {o} => Same.of_upd nt _ _ hD
      obtain ⟨bb, hbb⟩ := hany i b hb
      have bT : i < lim → StB K C H h b true := fun q => hal i b q hb
      refine ⟨t, _, rfl, SqT.of upd_same, rfl, _, _, rfl, _, _, rfl, rfl, rfl, ?_⟩
      by_cases e : i < lim
      · refine ⟨_, rfl, _, rfl, b, h, true, rfl, (bT e).mono s2, fun H1 s3 => ⟨_, rfl, iteF ⟨s2.trans s3, ws, s3 _ _ D2, by omega, fun _ => a1 (by omega), fun q => by omega⟩⟩⟩
      · by_cases e2 : i = lim
        · subst e2
          obtain ⟨y, hy, hf⟩ := limF hi
          rw [hb] at hy
          cases hy
          have w0 := a1 (Nat.le_refl _)
          subst w0
          refine ⟨_, rfl, _, rfl, b, h, false, rfl, hf.mono s2, fun H1 s3 => ⟨_, rfl, iteT ⟨_, rfl, _, s3 _ _ D2, (by show 0 < sizeLine; decide), ?_, [(i : Int)], upd_same, by simp, fun q => by omega, fun _ => ⟨[], rfl⟩⟩⟩⟩
          exact add_upd nD (s2.trans s3)
        · obtain ⟨r, rfl⟩ := a2 (by omega)
          refine ⟨_, rfl, _, rfl, b, h, bb, rfl, hbb.mono s2, fun H1 s3 => ⟨_, rfl, ?_⟩⟩
          cases bb with
          | true => exact iteF ⟨s2.trans s3, _, s3 _ _ D2, by omega, fun q => by omega, fun _ => ⟨r, rfl⟩⟩
          | false =>
            refine iteT ⟨_, rfl, _, s3 _ _ D2, ?_, ?_, (lim : Int) :: r ++ [(i : Int)], ?_, ?_, fun q => by omega, fun _ => ⟨r ++ [(i : Int)], rfl⟩⟩
            · rw [List.length_map]
              exact Nat.lt_of_le_of_lt (Nat.le_trans lw (show i ≤ 12 by omega)) (by decide)
            · exact add_upd nD (s2.trans s3)
            · rw [upd_same, List.map_append]
              rfl
            · rw [List.length_append]
              show _ + 1 ≤ i + 1
              omega
    rintro G ⟨s, ws, hD, lw, a1, a2⟩
    try dsimp only
    refine ⟨_, rfl, Nat.zero_le _, fun p np => ?_⟩
    have s2 : ∀ o, Same G (upd G p o) := fun o => Same.of_upd np
    refine ⟨D, p, _, rfl, rfl, SqL.of (s2 _ _ _ hD), SqL.of upd_same, _, rfl, ?_⟩
    rcases hh with ⟨y, hy, hb, rfl⟩ | ⟨el, st, hs, hall, hh⟩
    · have lt := (List.getElem?_eq_some_iff.mp hy).1
      obtain ⟨r, rfl⟩ := a2 lt
      exact iteT ⟨_, rfl, D, _, _, _, rfl, rfl, SqL.of (s2 _ _ _ hD), at0, line2.1, ret _ _ (s.trans (s2 _)) rfl⟩
    have w0 := a1 (by omega)
    subst w0
    refine iteF ?_
    try unfold tNext
    dsimp only
    have s3 := s.trans (s2 (.lst []))
    have ln := hs.len
    refine set_then (te := tTunsD K) (i := 3) ?_
    refine tuns_runD (st := st) (xs := xs) rfl (hl.mono s3) (hs.mono s3) (by omega) fun D0 vs H2 s4 hD0 hW => ?_
    have lv : vs.length ≤ 1000 := by
      have e1 := hW.len
      have e2 := M.tuns_len st
      omega
    refine set_then (i := 4) ?_
    refine max_cat (tl := tFldsD K "depth") ?_
    refine flds_runD (f := "depth") (g := fun w => ((w.depth : Nat) : Int)) T T.nD (fun H wy a => depth_fld H wy a) rfl hD0 (hW.mono s4) lv fun D1 H3 s5 hD1 => ?_
    refine ⟨(by show 1 ≤ sizeLine; decide), fun p2 n2 => ?_⟩
    have s6 : ∀ o, Same H3 (upd H3 p2 o) := fun o => Same.of_upd n2
    refine ⟨D1, p2, _, _, rfl, rfl, s6 _ _ _ hD1, upd_same, ?_, fun p3 n3 => ?_⟩
    · rw [List.length_map, List.length_map]
      have e2 := M.tuns_len st
      exact Nat.le_trans (show _ ≤ 20 by show (M.tuns st).length + 1 ≤ 20; omega) (by decide)
    have s7 : ∀ o, Same _ (upd _ p3 o) := fun o => Same.of_upd n3
    refine ⟨p3, (M.tuns st).map (fun w => ((w.depth : Nat) : Int)) ++ [0], rfl, SqL.of (by rw [upd_same, List.map_append]; rfl), by simp, fun m hm hu => ?_⟩
    rw [max_is hm hu, ← M.deepest_eq]
    clear hm hu
    refine ⟨_, _, rfl, rfl, ?_⟩
    have s8 := (s5.trans (s6 (.lst [V.int 0]))).trans (s7 (.lst (((M.tuns st).map (fun w => ((w.depth : Nat) : Int))).map V.int ++ [V.int 0])))
    have s9 := s3.trans (s4.trans s8)
    refine set_then (i := 5) ?_
    refine len_addD (l := l) (xs := xs) (tl := tFldsD K "size") rfl (hl.mono s9) ?_
    refine flds_runD (f := "size") (g := fun w => ((w.size : Nat) : Int)) T T.nZ (fun H wy a => size_fld H wy a) rfl (s8 _ _ hD0) ((hW.mono s4).mono s8) lv fun D2 H4 t1 hD2 => ?_
    refine ⟨D2, _, rfl, SqL.of hD2, _, _, rfl, rfl, ?_⟩
    rw [M.sum_cast, ← M.inner_eq]
    have e1 : (1 : Int) + ((M.Step.deepest st : Nat) : Int) = ((1 + M.Step.deepest st : Nat) : Int) := by omega
    have e2 : ((xs.length : Nat) : Int) + ((M.Step.inner st : Nat) : Int) = ((st.length + M.Step.inner st : Nat) : Int) := by omega
    rw [e1, e2]
    have s10 := s9.trans t1
    refine ⟨_, rfl, _, _, rfl, rfl, _, rfl, ?_⟩
    rcases hh with ⟨hd, rfl⟩ | hh
    · rw [decide_eq_true (by omega)]
      exact iteT ⟨_, rfl, line2.1, ret _ _ s10 rfl⟩
    have hd : 1 + M.Step.deepest st ≤ 3 := by
      rcases hh with ⟨hd, _⟩ | ⟨hf, _⟩
      · exact hd
      · unfold M.Way.fine at hf
        exact hf.2.2.2.1
    rw [decide_eq_false (by omega)]
    refine iteF ?_
    refine ⟨_, rfl, _, _, rfl, rfl, _, rfl, ?_⟩
    rcases hh with ⟨_, hz, rfl⟩ | ⟨hf, rfl⟩
    · rw [decide_eq_true (by omega)]
      exact iteT ⟨_, rfl, line2.1, ret _ _ s10 rfl⟩
    have hz : st.length + M.Step.inner st ≤ 40 := by
      unfold M.Way.fine at hf
      exact hf.2.2.2.2
    rw [decide_eq_false (by omega)]
    exact iteF ⟨_, rfl, _, rfl, (by show 3 ≤ sizeLine; decide), ret _ _ s10 rfl⟩
end
end WP

end
section
set_option autoImplicit false
set_option Elab.async false
set_option linter.all false
set_option maxRecDepth 100000
set_option maxHeartbeats 4000000
set_option pp.maxSteps 900
/-! ## _law_told: a way tried -/
namespace WP
open PySem L2 G
abbrev sLTold : Stmt := top 41
/-- return (word, error.f) -/
def tEr (K : PySem.W.Frag) (i : Nat) (wd : Str) (D : Addr) (f : Str) : Suit := fun a k d => tRet (tTup (tCons (tC (.str wd)) (tCons (tXf a k d D f (tVar i)) tNil)))
theorem er_of {K : PySem.W.Frag} {i : Nat} {wd f : Str} {CE : Addr} {a d : Addr} {v : V} {D : Ends} {σ : L2.St} {G : Hp} (hi : i < σ.length) (hd : G d = some (.xd [(f, v)])) (k : ∀ t G', Same G G' → G' t = some (.tup [.str wd, v]) → D.rt (.ref t) G') : tEr K i wd CE f a (.ref CE) (some d) (gone i D) (σ.set i (some (.ref a))) G := by
  refine ⟨.ref a, by rw [List.getElem?_set_self hi], rfl, rfl, d, _, v, rfl, hd, look_one, line2.1, fun t ht => k t _ (Same.of_upd ht) upd_same⟩
/-- the five classes of errors -/
structure Ex5 (K : PySem.W.Frag) (mg : Str → Option Value) (D1 D2 D3 D4 D5 : Addr) : Prop where
  g1 : mg "BadHead" = some (.ref D1)
  l1 : G.Cl K D1 "value"
  g2 : mg "BadSteps" = some (.ref D2)
  l2 : G.Cl K D2 "value"
  g3 : mg "BadStep" = some (.ref D3)
  l3 : G.Cl K D3 "position"
  g4 : mg "TooDeep" = some (.ref D4)
  l4 : G.Cl K D4 "depth"
  g5 : mg "TooGreat" = some (.ref D5)
  l5 : G.Cl K D5 "size"
  x11 : PySem.W.exmOne K (.ref D1) (.ref D1) = some true
  x21 : PySem.W.exmOne K (.ref D2) (.ref D1) = some false
  x22 : PySem.W.exmOne K (.ref D2) (.ref D2) = some true
  x31 : PySem.W.exmOne K (.ref D3) (.ref D1) = some false
  x32 : PySem.W.exmOne K (.ref D3) (.ref D2) = some false
  x33 : PySem.W.exmOne K (.ref D3) (.ref D3) = some true
  x41 : PySem.W.exmOne K (.ref D4) (.ref D1) = some false
  x42 : PySem.W.exmOne K (.ref D4) (.ref D2) = some false
  x43 : PySem.W.exmOne K (.ref D4) (.ref D3) = some false
  x44 : PySem.W.exmOne K (.ref D4) (.ref D4) = some true
  x51 : PySem.W.exmOne K (.ref D5) (.ref D1) = some false
  x52 : PySem.W.exmOne K (.ref D5) (.ref D2) = some false
  x53 : PySem.W.exmOne K (.ref D5) (.ref D3) = some false
  x54 : PySem.W.exmOne K (.ref D5) (.ref D4) = some false
  x55 : PySem.W.exmOne K (.ref D5) (.ref D5) = some true
section
variable {P : Program} {w : World} {K : PySem.W.Frag} {mg : Str → Option Value} {base : Heap} {C D1 D2 D3 D4 D5 : Addr}
structure MA (P : Program) (w : World) (K : PySem.W.Frag) (mg : Str → Option Value) (base : Heap) (C D1 D2 D3 D4 D5 : Addr) : Prop where
  ex : ∃ (f : Addr) (fd : FuncData), FnOk P w K mg base (L2.CX P w) 6 f fd ["self", "head", "steps"] (spInitA K C D1 D2 D3 D4 D5) ∧ L2.Mk K C f ∧ Binds K fd ["self", "head", "steps"] []
/-- what is let out, or made -/
def OutK (C D1 D2 D3 D4 D5 : Addr) (H : Hp) (hd sv : V) (x : Addr) (Z : VK) (E : XK) : Out → Prop
  | .head => RaiV D1 "value" hd H E
  | .steps => RaiV D2 "value" sv H E
  | .step i => RaiV D3 "position" (.int (i : Int)) H E
  | .deep n => RaiV D4 "depth" (.int (n : Int)) H E
  | .great n => RaiV D5 "size" (.int (n : Int)) H E
  | .made h st => ∀ H', Same H H' → WayAt C H' (.mk h st) x → Z .non H'
theorem init_of {H : Hp} {Z : VK} {E : XK} {hd sv : V} {o : Out} {x dx : Addr} (c : Cse K C H hd sv o) (hx : H x = none) (hdx : H dx = none) (ne : dx ≠ x) (k : OutK C D1 D2 D3 D4 D5 H hd sv x Z E o) :
    spInitA K C D1 D2 D3 D4 D5 (.ref x :: ([hd, sv] ++ [])) (upd (upd H dx (.own x)) x (.ins C dx [])) Z E := by
  have s : Same H (upd (upd H dx (.own x)) x (.ins C dx [])) := (Same.of_upd hdx).trans (Same.of_upd (by rw [upd_ne ne.symm]; exact hx))
  refine ⟨x, dx, hd, sv, H, rfl, upd_same, hx, s, ?_⟩
  rcases c.split with ⟨rfl, hn⟩ | ⟨h, rfl, h1, h2, ⟨rfl, n, hl, hf⟩ | ⟨l, xs, lim, rfl, hl, n1, n2, hal, hany, ⟨y, hy, hb, rfl⟩ | ⟨el, st, hs, hall, ⟨hd, rfl⟩ | ⟨hd, hz, rfl⟩ | ⟨hf, rfl⟩⟩⟩⟩
  · exact .inl ⟨hn, RaiV.mono s k⟩
  · exact .inr ⟨h, rfl, h1, h2, .inl ⟨n, hl, hf, RaiV.mono s k⟩⟩
  · exact .inr ⟨h, rfl, h1, h2, .inr ⟨l, xs, rfl, hl, n1, n2, .inl ⟨lim, y, hy, hb, hal, RaiV.mono s k⟩⟩⟩
  · exact .inr ⟨h, rfl, h1, h2, .inr ⟨l, xs, rfl, hl, n1, n2, .inr ⟨st, hs, hall, .inl ⟨hd, RaiV.mono s k⟩⟩⟩⟩
  · exact .inr ⟨h, rfl, h1, h2, .inr ⟨l, xs, rfl, hl, n1, n2, .inr ⟨st, hs, hall, .inr (.inl ⟨hd, hz, RaiV.mono s k⟩)⟩⟩⟩
  · exact .inr ⟨h, rfl, h1, h2, .inr ⟨l, xs, rfl, hl, n1, n2, .inr ⟨st, hs, hall, .inr (.inr ⟨hf, k⟩)⟩⟩⟩
/-- what is told -/
def ToldAt (C : Addr) (H : Hp) (hd sv : V) (t : Addr) : Out → Prop
  | .made h st => ∃ c, H t = some (.tup [.str "made", .ref c]) ∧ WayAt C H (.mk h st) c
  | o => H t = some (.tup (dueT hd sv o))
def spLTold (K : PySem.W.Frag) (C : Addr) : Sp := fun vs H Q _ => ∃ (hd sv : V) (o : Out), vs = [hd, sv] ∧ Cse K C H hd sv o ∧ ∀ t H', Same H H' → ToldAt C H' hd sv t o → Q (.ref t) H'
theorem scTo : FnScope ["head", "steps", "error"] ["head", "steps"] (defScope sLTold) := ⟨rfl, rfl, rfl, by decide +kernel, rfl, by decide +kernel, by decide +kernel⟩
theorem ok_ltold {f : Addr} {fd : FuncData} (F : Fun K "_law_told" "_law_told" sLTold f fd) (T : Wt K mg C) (X : Ex5 K mg D1 D2 D3 D4 D5) (M : MA P w K mg base C D1 D2 D3 D4 D5) : FnOk P w K mg base CX0 8 f fd ["head", "steps"] (spLTold K C) := by
  obtain ⟨fI, fdI, GI, MI, bI⟩ := M.ex
  refine F.ok scTo (fun vs H Q E h => ?_) (fun cdv A outer s H vs Q E hr h => ?_)
  · obtain ⟨hd, sv, o, rfl, _⟩ := h
    rfl
  · obtain ⟨hd, sv, o, rfl, hc, kk⟩ := h
    refine ⟨_, pss_one (ps_try_all (i := 2) (tq := fun W => tRet (tTup (tCons (tC (.str "made")) (tCons (G.tMakeS C (spInitA K C D1 D2 D3 D4 D5) [] (WE W) (tCons (tVar 0) (tCons (tVar 1) tNil))) tNil)))) (l := [(.ref D1, tEr K 2 "head" D1 "value"), (.ref D2, tEr K 2 "steps" D2 "value"), (.ref D3, tEr K 2 "step" D3 "position"), (.ref D4, tEr K 2 "deep" D4 "depth"), (.ref D5, tEr K 2 "great" D5 "size")]) (W0 := fun _ _ _ _ => False) rfl rfl scTo.nd rfl rfl takes0
      (fun W pz xz tk _ => pss_one (ps_ret (by exact pe_tup (pa_cons pe_str (pa_cons (pe_makeS MI GI hr rfl T.g bI .nil (fun σ => passAt tk σ) (pa_cons (pv 0) (pa_cons (pv 1) pa_nil))) pa_nil)))))
      (.cons ⟨rfl, by decide, Or.inl X.g1⟩ (fun a oz k d pz hz hf => pss_one (ps_ret (by exact pe_tup (pa_cons pe_str (pa_cons (pe_xf (xf_of X.l1) X.l1.no hz hf (pv 2)) pa_nil)))))
      (.cons ⟨rfl, by decide, Or.inl X.g2⟩ (fun a oz k d pz hz hf => pss_one (ps_ret (by exact pe_tup (pa_cons pe_str (pa_cons (pe_xf (xf_of X.l2) X.l2.no hz hf (pv 2)) pa_nil)))))
      (.cons ⟨rfl, by decide, Or.inl X.g3⟩ (fun a oz k d pz hz hf => pss_one (ps_ret (by exact pe_tup (pa_cons pe_str (pa_cons (pe_xf (xf_of X.l3) X.l3.no hz hf (pv 2)) pa_nil)))))
      (.cons ⟨rfl, by decide, Or.inl X.g4⟩ (fun a oz k d pz hz hf => pss_one (ps_ret (by exact pe_tup (pa_cons pe_str (pa_cons (pe_xf (xf_of X.l4) X.l4.no hz hf (pv 2)) pa_nil)))))
      (.cons ⟨rfl, by decide, Or.inl X.g5⟩ (fun a oz k d pz hz hf => pss_one (ps_ret (by exact pe_tup (pa_cons pe_str (pa_cons (pe_xf (xf_of X.l5) X.l5.no hz hf (pv 2)) pa_nil)))))
      .nil)))))), ?_⟩
    refine ⟨_, rfl, _, rfl, fun x dx hx hdx ne => init_of hc hx hdx ne ?_⟩
    cases o with
    | head => exact fun H' d s hd => ⟨true, X.x11, fun _ a0 _ => er_of (K := K) (by show 2 < 3; decide) upd_same fun t G s1 ht => kk t G ((s.trans (Same.of_upd hd)).trans s1) ht, fun q => Bool.noConfusion q⟩
    | steps => exact fun H' d s hd => ⟨false, X.x21, fun q => Bool.noConfusion q, fun _ => ⟨true, X.x22, fun _ a0 _ => er_of (K := K) (by show 2 < 3; decide) upd_same fun t G s1 ht => kk t G ((s.trans (Same.of_upd hd)).trans s1) ht, fun q => Bool.noConfusion q⟩⟩
    | step i => exact fun H' d s hd => ⟨false, X.x31, fun q => Bool.noConfusion q, fun _ => ⟨false, X.x32, fun q => Bool.noConfusion q, fun _ => ⟨true, X.x33, fun _ a0 _ => er_of (K := K) (by show 2 < 3; decide) upd_same fun t G s1 ht => kk t G ((s.trans (Same.of_upd hd)).trans s1) ht, fun q => Bool.noConfusion q⟩⟩⟩
    | deep n => exact fun H' d s hd => ⟨false, X.x41, fun q => Bool.noConfusion q, fun _ => ⟨false, X.x42, fun q => Bool.noConfusion q, fun _ => ⟨false, X.x43, fun q => Bool.noConfusion q, fun _ => ⟨true, X.x44, fun _ a0 _ => er_of (K := K) (by show 2 < 3; decide) upd_same fun t G s1 ht => kk t G ((s.trans (Same.of_upd hd)).trans s1) ht, fun q => Bool.noConfusion q⟩⟩⟩⟩
    | great n => exact fun H' d s hd => ⟨false, X.x51, fun q => Bool.noConfusion q, fun _ => ⟨false, X.x52, fun q => Bool.noConfusion q, fun _ => ⟨false, X.x53, fun q => Bool.noConfusion q, fun _ => ⟨false, X.x54, fun q => Bool.noConfusion q, fun _ => ⟨true, X.x55, fun _ a0 _ => er_of (K := K) (by show 2 < 3; decide) upd_same fun t G s1 ht => kk t G ((s.trans (Same.of_upd hd)).trans s1) ht, fun q => Bool.noConfusion q⟩⟩⟩⟩⟩
    | made h st => exact fun H' s wa => ⟨rfl, line2.1, fun t ht => kk t _ (s.trans (Same.of_upd ht)) ⟨x, upd_same, wa.mono (Same.of_upd ht)⟩⟩
end
end WP

end
section
set_option autoImplicit false
set_option Elab.async false
set_option linter.all false
set_option maxRecDepth 100000
set_option maxHeartbeats 4000000
set_option pp.maxSteps 900
/-! ## _law_rows: rows of ways, ways in ways -/
namespace WP
open PySem L2 G
abbrev sLRows : Stmt := top 36
abbrev NRo : List Str := ["source", "depth", "many", "head", "steps", "turn", "kind", "inner"]
theorem scRo : FnScope NRo ["source", "depth", "many"] (defScope sLRows) := ⟨rfl, rfl, rfl, by decide +kernel, rfl, by decide +kernel, by decide +kernel⟩
/-- a heap without some of its lists -/
def hidS (Z : List Addr) (G : Hp) : Hp := fun a => if a ∈ Z then none else G a
def Ls (p : Addr) (Z : List Addr) (H : Hp) : Prop := ∀ M ∈ Z, M ≠ p ∧ ∃ ys, H M = some (.lst ys)
theorem hidS_at {Z : List Addr} {G : Hp} {a : Addr} (n : a ∉ Z) : hidS Z G a = G a := if_neg n
theorem hidS_same {Z : List Addr} {G : Hp} : Same (hidS Z G) G := fun a o e => by
  unfold hidS at e
  by_cases q : a ∈ Z
  · rw [if_pos q] at e
    cases e
  · rwa [if_neg q] at e
theorem hidS_le {Z Z2 : List Addr} {G : Hp} (h : ∀ a ∈ Z, a ∈ Z2) : Same (hidS Z2 G) (hidS Z G) := fun a o e => by
  unfold hidS at e ⊢
  by_cases q : a ∈ Z2
  · rw [if_pos q] at e
    cases e
  · rw [if_neg q] at e
    rw [if_neg (fun z => q (h a z))]
    exact e
theorem hidS_put {Z : List Addr} {G : Hp} {L : Addr} {o : HO} (h : L ∈ Z) : hidS Z (upd G L o) = hidS Z G := by
  funext a
  unfold hidS
  by_cases e : a ∈ Z
  · rw [if_pos e, if_pos e]
  · rw [if_neg e, if_neg e, upd_ne (fun z => e (by rw [z]; exact h))]
theorem hidS_mono {Z : List Addr} {G G2 : Hp} (s : Same G G2) : Same (hidS Z G) (hidS Z G2) := fun a o e => by
  unfold hidS at e ⊢
  by_cases q : a ∈ Z
  · rw [if_pos q] at e
    cases e
  · rw [if_neg q] at e ⊢
    exact s _ _ e
theorem hidS_bt {p : Addr} {Z : List Addr} {G G2 : Hp} (n : p ∉ Z) (b : Bt p G G2) : Bt p (hidS Z G) (hidS Z G2) := by
  refine ⟨fun a o na e => ?_, ?_⟩
  · unfold hidS at e ⊢
    by_cases q : a ∈ Z
    · rw [if_pos q] at e
      cases e
    · rw [if_neg q] at e ⊢
      exact b.1 a o na e
  · obtain ⟨r, m, e, f⟩ := b.2
    exact ⟨r, m, by rw [hidS_at n]; exact e, f⟩
theorem hidS_S {p : Addr} {Z : List Addr} {G : Hp} (n : p ∉ Z) (h : S.At G p) : S.At (hidS Z G) p := by
  obtain ⟨r, m, e, f⟩ := h
  exact ⟨r, m, by rw [hidS_at n]; exact e, f⟩
theorem Ls.np {p : Addr} {Z : List Addr} {H : Hp} (h : Ls p Z H) : p ∉ Z := fun q => (h p q).1 rfl
theorem Ls.bt {p : Addr} {Z : List Addr} {H G : Hp} (h : Ls p Z H) (b : Bt p H G) : Ls p Z G := fun M hM => by
  obtain ⟨n, ys, e⟩ := h M hM
  exact ⟨n, ys, bt_lst b n e⟩
theorem Ls.cons {p L : Addr} {Z : List Addr} {H : Hp} {ys : List V} (h : Ls p Z H) (n : L ≠ p) (e : H L = some (.lst ys)) : Ls p (L :: Z) H := fun M hM => by
  rcases List.mem_cons.mp hM with rfl | q
  · exact ⟨n, ys, e⟩
  · exact h M q
theorem Ls.tup {p t : Addr} {Z : List Addr} {G : Hp} {ys : List V} (h : Ls p Z G) (e : G t = some (.tup ys)) : hidS Z G t = some (.tup ys) := by
  rw [hidS_at fun q => by
    obtain ⟨_, zs, e2⟩ := h t q
    rw [e] at e2
    cases e2]
  exact e
theorem Ls.new {p t : Addr} {Z : List Addr} {G : Hp} (h : Ls p Z G) (e : G t = none) : t ∉ Z := fun q => by
  obtain ⟨_, zs, e2⟩ := h t q
  rw [e] at e2
  cases e2
theorem bt_updF {p C1 : Addr} {H G : Hp} {o : HO} (b : Bt p H G) (n : H C1 = none) (ne : C1 ≠ p) : Bt p H (upd G C1 o) := by
  refine ⟨fun x z nx ex => ?_, ?_⟩
  · rw [upd_ne (fun e => by rw [e, n] at ex; cases ex)]
    exact b.1 x z nx ex
  · obtain ⟨r, m, e1, f1⟩ := b.2
    exact ⟨r, m, by rw [upd_ne ne.symm]; exact e1, f1⟩
def SZ : Nat → Nat
  | 0 => 0
  | n + 1 => 3 + 3 * SZ n
theorem sz3 : SZ 1 = 3 ∧ SZ 2 = 12 ∧ SZ 3 = 39 := ⟨rfl, rfl, rfl⟩
theorem sz_le : ∀ n, n ≤ 3 → SZ n ≤ 39
  | 0, _ => by decide
  | 1, _ => by decide
  | 2, _ => by decide
  | 3, _ => by decide
  | n + 4, h => by omega
/-- a way as the law draws it -/
structure Drw (n : Nat) (wy : M.Way) : Prop where
  f : wy.fine
  d : wy.depth ≤ n
  z : wy.size ≤ SZ n
def Dst (n h : Nat) (y : M.Step) : Prop := M.Step.fine h y ∧ M.Step.dep y ≤ n ∧ M.isz y ≤ SZ n
theorem dst_all {n h : Nat} : ∀ {s : List M.Step}, (∀ y ∈ s, Dst n h y) → M.Step.fineAll h s ∧ M.Step.deepest s ≤ n ∧ M.Step.inner s ≤ SZ n * s.length
  | [], _ => ⟨by unfold M.Step.fineAll; trivial, by unfold M.Step.deepest; omega, by unfold M.Step.inner; omega⟩
  | y :: r, q => by
    obtain ⟨a, b, c⟩ := q y List.mem_cons_self
    obtain ⟨d, e, f⟩ := dst_all (s := r) fun z hz => q z (List.mem_cons_of_mem _ hz)
    refine ⟨by unfold M.Step.fineAll; exact ⟨a, d⟩, by rw [M.deep_cons]; omega, ?_⟩
    rw [M.inner_cons, List.length_cons, Nat.mul_succ]
    omega
theorem drw_way {n h : Nat} {s : List M.Step} (hn : n + 1 ≤ 3) (h1 : 1 ≤ h) (h2 : h ≤ 40) (l1 : 1 ≤ s.length) (l2 : s.length ≤ 3) (q : ∀ y ∈ s, Dst n h y) : Drw (n + 1) (.mk h s) := by
  obtain ⟨a, b, c⟩ := dst_all q
  have e : SZ n * s.length ≤ SZ n * 3 := Nat.mul_le_mul_left _ l2
  have z : s.length + M.Step.inner s ≤ SZ (n + 1) := by
    show _ ≤ 3 + 3 * SZ n
    omega
  have z3 := sz_le (n + 1) hn
  refine ⟨?_, ?_, ?_⟩
  · unfold M.Way.fine
    exact ⟨by omega, by omega, a, by omega, by omega⟩
  · unfold M.Way.depth
    omega
  · unfold M.Way.size
    exact z
section
variable {P : Program} {w : World} {K : PySem.W.Frag} {mg : Str → Option Value} {base : Heap} {C : Addr}
def spLRows (n : Nat) : Sp := fun vs H Q _ => ∃ p : Addr, vs = [.ref p, .int (n : Int), .int 3] ∧ 1 ≤ n ∧ n ≤ 3 ∧ S.At H p ∧ ∀ wy v H', Bt p H H' → (∀ Z, Ls p Z H → RowsAt (hidS Z H') wy v) → Drw n wy → Q v H'
theorem ok_lrows {k n : Nat} {f : Addr} {fd : FuncData} (F : Fun K "_law_rows" "_law_rows" sLRows f fd) (hk : 3 ≤ k) (B : Y.Bn mg) (DD : Df P w K mg base 1 "_law_draw" ["source", "span"] S.spDraw) (PK : Df P w K mg base 2 "_law_pick" ["source", "items"] (S.spPick K))
    (DM : Df P w K mg base 3 "_law_most" ["source"] spLMost) (DR : Df P w K mg base 3 "_law_road" ["source", "head"] spLRoad) (DW : Df P w K mg base k "_law_rows" ["source", "depth", "many"] (spLRows n)) : FnOk P w K mg base CX0 (k + 1) f fd ["source", "depth", "many"] (spLRows (n + 1)) := by
  obtain ⟨fD, fdD, GD, gD, kD, bD⟩ := DD.ex
  obtain ⟨fP, fdP, GP, gP, kP, bP⟩ := PK.ex
  obtain ⟨fM, fdM, GM, gM, kM, bM⟩ := DM.ex
  obtain ⟨fR, fdR, GR, gR, kR, bR⟩ := DR.ex
  obtain ⟨fW, fdW, GW, gW, kW, bW⟩ := DW.ex
  refine F.ok scRo (fun vs H Q E h => ?_) (fun cdv A outer s H vs Q E hr h => ?_)
  · obtain ⟨p, rfl, _⟩ := h
    rfl
  · obtain ⟨p, rfl, n1, n3, hp, kk⟩ := h
    refine ⟨_, pss_cons (ps_set (i := 3) scRo.nd rfl (Or.inl rfl) (pe_op (op_add) (pe_int) (pe_call GD (hr.mono (by omega)) rfl gD kD bD .nil pass0 (pa_cons (pv 0) (pa_cons (pe_call GP (hr.mono (by omega)) rfl gP kP bP .nil pass0 (pa_cons (pv 0) (pa_cons (pe_lst (pa_cons (pe_int) (pa_cons (pe_int) (pa_cons (pe_int) pa_nil)))) pa_nil))) pa_nil)))))
      (pss_cons (ps_set (i := 4) scRo.nd rfl (Or.inl rfl) (pe_lst pa_nil))
      (pss_cons (ps_for PassesOwn.never rfl (pi_range1 (by rfl) B.range (pa_cons (pe_op (op_add) (pe_int) (pe_call GD (hr.mono (by omega)) rfl gD kD bD .nil pass0 (pa_cons (pv 0) (pa_cons (pv 2) pa_nil)))) pa_nil)) (pg_name (i := 5) scRo.nd rfl (Or.inl rfl)) (pss_cons (ps_set (i := 6) scRo.nd rfl (Or.inl rfl) (pe_call GD (hr.mono (by omega)) rfl gD kD bD .nil pass0 (pa_cons (pv 0) (pa_cons (pe_int) pa_nil))))
      (pss_one (ps_if (pt_cmpR (op_eq) (pv 6) (pe_int) (nomark _)) (pss_one (ps_expr (pe_bm PySem.F.plainAttrs_list PySem.F.slot_list_append PySem.F.type_list_append mt_append (pv 4) (pa_cons (pe_tup (pa_cons (pe_str) (pa_cons (pe_call GM (hr.mono (by omega)) rfl gM kM bM .nil pass0 (pa_cons (pv 0) pa_nil)) pa_nil))) pa_nil)))) (pss_one (ps_if (PW.pt (pw_and (pt_cmpR (op_eq) (pv 6) (pe_int) (nomark _)) (pw_and1 (pt_cmpR (op_gt) (pv 1) (pe_int) (nomark _))))) (pss_cons (ps_set (i := 7) scRo.nd rfl (Or.inl rfl) (pe_call GW (hr.mono (by omega)) rfl gW kW bW .nil pass0 (pa_cons (pv 0) (pa_cons (pe_op (op_sub) (pv 1) (pe_int)) (pa_cons (pe_int) pa_nil)))))
      (pss_one (ps_expr (pe_bm PySem.F.plainAttrs_list PySem.F.slot_list_append PySem.F.type_list_append mt_append (pv 4) (pa_cons (pe_tup (pa_cons (pe_str) (pa_cons (pv 7) (pa_cons (pe_call GM (hr.mono (by omega)) rfl gM kM bM .nil pass0 (pa_cons (pv 0) pa_nil)) (pa_cons (pe_call GP (hr.mono (by omega)) rfl gP kP bP .nil pass0 (pa_cons (pv 0) (pa_cons (pe_lst (pa_cons (pe_str) (pa_cons (pe_str) (pa_cons (pe_str) (pa_cons (pe_str) pa_nil))))) pa_nil))) pa_nil))))) pa_nil))))) (pss_one (ps_expr (pe_bm PySem.F.plainAttrs_list PySem.F.slot_list_append PySem.F.type_list_append mt_append (pv 4) (pa_cons (pe_call GR (hr.mono (by omega)) rfl gR kR bR .nil pass0 (pa_cons (pv 0) (pa_cons (pv 3) pa_nil))) pa_nil))))))))))
      (pss_one (ps_ret (pe_tup (pa_cons (pv 3) (pa_cons (pv 4) pa_nil))))))), ?_⟩
    refine set_then (i := 3) ⟨_, rfl, pick_of rfl hp (by decide) (by decide) (fun Q2 q => q) fun z G1 hz b1 => ?_⟩
    obtain ⟨n0, rfl, m1, m2⟩ : ∃ n0 : Int, z = .int n0 ∧ 1 ≤ n0 ∧ n0 ≤ 40 := by
      simp only [List.mem_cons, List.not_mem_nil, or_false] at hz
      rcases hz with rfl | rfl | rfl
      · exact ⟨_, rfl, by decide, by decide⟩
      · exact ⟨_, rfl, by decide, by decide⟩
      · exact ⟨_, rfl, by decide, by decide⟩
    have lg : ∀ m : Int, 1 ≤ m → m ≤ 40 → m.natAbs.log2 < 9000 := fun m a b => PySem.Flt.log2_lt_of (k := 9000) (by decide) (Nat.lt_of_lt_of_le (by omega : _ < 64) (Nat.le_trans (by decide : 64 ≤ 2 ^ 6) (Nat.pow_le_pow_right (by decide) (by decide))))
    obtain ⟨r0, w0, hp1, hf1⟩ := b1.2
    refine ⟨p, r0, w0, n0, rfl, hp1, hf1, m1, lg _ m1 m2, fun j0 r1 w1 f1 a0 a1 => ⟨_, _, rfl, rfl, ?_⟩⟩
    have b2 : Bt p G1 (upd G1 p (.lst (S.Two r1 w1))) := Bt.put f1
    generalize upd G1 p (.lst (S.Two r1 w1)) = G2 at b2 ⊢
    obtain ⟨h, eh, h1, h2⟩ : ∃ h : Nat, 1 + j0 = (h : Int) ∧ 1 ≤ h ∧ h ≤ 40 := ⟨(1 + j0).toNat, by omega, by omega, by omega⟩
    dsimp only
    rw [eh]
    have b0 := b1.trans b2
    clear b1 b2 hz a0 a1
    refine set_then (i := 4) ⟨line2.2.2.2, fun L hL => ?_⟩
    have ne := at_ne b0.2 hL
    have hL0 : H L = none := by
      cases q : H L with
      | none => rfl
      | some o => rw [b0.1 L o ne q] at hL; cases hL
    have bL := b0.trans (Bt.new (.lst []) b0.2 hL)
    have eL : (upd G2 L (.lst [])) L = some (.lst []) := upd_same
    generalize upd G2 L (.lst []) = G3 at bL eL ⊢
    dsimp only
    refine draw_w rfl rfl bL.2 (by decide) (by decide +kernel) fun j H1 c0 c1 b1 => ⟨_, rfl, by omega, by omega, ?_⟩
    refine for_range (n := (1 + j).toNat) (fun i σ G => Bt p H G ∧ ∃ xs s q1 q2 q3, σ = [some (.ref p), some (.int ((n + 1 : Nat) : Int)), some (.int 3), some (.int (h : Int)), some (.ref L), q1, q2, q3] ∧ G L = some (.lst xs) ∧ (∀ Z, Ls p Z H → RowAll (hidS (L :: Z) G) s xs) ∧ s.length = i ∧ ∀ y ∈ s, Dst n h y)
      ⟨bL.trans b1, [], [], _, _, _, rfl, bt_lst b1 ne eL, fun Z _ => by unfold RowAll; rfl, rfl, fun y hy => by cases hy⟩ ?_ ?_
    · rintro i σ G hi ⟨bG, xs, s, q1, q2, q3, rfl, hLG, hR, hs, hSm⟩
      have lx := (hR [] (fun M hM => by cases hM)).len
      have hlt : xs.length < sizeLine := small1000 (by omega)
      have hall : ∀ y, Dst n h y → ∀ z ∈ s ++ [y], Dst n h z := fun y hy z hz => (List.mem_append.mp hz).elim (hSm z) fun e => by rw [List.mem_singleton.mp e]; exact hy
      have LsG : ∀ {G' : Hp} {Z : List Addr}, Bt p G G' → Ls p Z H → Ls p (L :: Z) G' := fun b l => ((l.bt bG).cons ne hLG).bt b
      have next : ∀ (y : M.Step) (t : Addr) (G' : Hp), Bt p G G' → (∀ Z, Ls p Z H → RowAt (hidS (L :: Z) G') y (.ref t)) → Dst n h y →
          Bt p H (upd G' L (.lst (xs ++ [.ref t]))) ∧ (∀ Z, Ls p Z H → RowAll (hidS (L :: Z) (upd G' L (.lst (xs ++ [.ref t])))) (s ++ [y]) (xs ++ [.ref t])) ∧ (s ++ [y]).length = i + 1 ∧ ∀ z ∈ s ++ [y], Dst n h z := fun y t G' b hy hd => by
        refine ⟨bt_updF (bG.trans b) hL0 ne, fun Z lz => ?_, by simp; exact hs, hall y hd⟩
        rw [hidS_put List.mem_cons_self]
        exact ((hR Z lz).bt (hidS_bt (LsG (Bt.same (Same.refl _) bG.2) lz).np b) (hidS_S (LsG (Bt.same (Same.refl _) bG.2) lz).np bG.2)).snoc (hy Z lz)
      dsimp only
      refine set_then (i := 6) (draw_vv rfl bG.2 (by decide) (by decide +kernel) fun d G1 d0 d1 b2 => ?_)
      refine ⟨_, rfl, rfl, _, rfl, ite2 (fun e0 => ?_) (fun e0 => ?_)⟩
      · refine ⟨_, rfl, .inl ⟨rfl, _, SqL.of (bt_lst b2 ne hLG)⟩, _, rfl, p, rfl, b2.2, fun m G2 m1 m2 b3 => ⟨line2.1, fun t ht => ?_⟩⟩
        have b5 := b2.trans (b3.trans (Bt.new (.tup [.str "join", .int (m : Int)]) b3.2 ht))
        refine ⟨L, xs, _, rfl, rfl, bt_lst b5 ne hLG, hlt, ?_⟩
        obtain ⟨f1, f2, f3, f4⟩ := next (.join m) t _ b5 (fun Z lz => by unfold RowAt; exact ⟨t, rfl, (LsG b5 lz).tup upd_same⟩) ⟨by unfold M.Step.fine; exact ⟨m1, m2⟩, Nat.zero_le _, Nat.zero_le _⟩
        exact ⟨f1, _, _, _, _, _, rfl, upd_same, f2, f3, f4⟩
      · have road : tDrop (tBM K "list" rAppend (tVar 4) (tCons (tCall spLRoad [] E0 (tCons (tVar 0) (tCons (tVar 3) tNil))) tNil)) { nx := fun σ G => Bt p H G ∧ ∃ xs s q1 q2 q3, σ = [some (.ref p), some (.int ((n + 1 : Nat) : Int)), some (.int 3), some (.int (h : Int)), some (.ref L), q1, q2, q3] ∧ G L = some (.lst xs) ∧ (∀ Z, Ls p Z H → RowAll (hidS (L :: Z) G) s xs) ∧ s.length = i + 1 ∧ ∀ y ∈ s, Dst n h y, rt := Q } [some (.ref p), some (.int ((n + 1 : Nat) : Int)), some (.int 3), some (.int (h : Int)), some (.ref L), some (.int (0 + (i : Int))), some (.int d), q3] G1 := by
          refine ⟨_, rfl, .inl ⟨rfl, _, SqL.of (bt_lst b2 ne hLG)⟩, _, rfl, _, rfl, p, h, rfl, b2.2, fun t G2 c ts lw c1 c2 b3 ht => ?_⟩
          have b5 := b2.trans b3
          refine ⟨L, xs, _, rfl, rfl, bt_lst b5 ne hLG, hlt, ?_⟩
          obtain ⟨f1, f2, f3, f4⟩ := next (.road (h + c) ts lw) t _ b5 (fun Z lz => by unfold RowAt; exact ⟨t, rfl, (LsG b5 lz).tup ht⟩) ⟨by unfold M.Step.fine; omega, Nat.zero_le _, Nat.zero_le _⟩
          exact ⟨f1, _, _, _, _, _, rfl, upd_same, f2, f3, f4⟩
        refine ⟨_, rfl, rfl, _, rfl, ite2 (fun e1 => ?_) (fun e1 => ?_)⟩
        · refine ⟨_, rfl, _, _, rfl, rfl, _, rfl, ite2 (fun e2 => ?_) (fun e2 => road)⟩
          have hn : 1 ≤ n := by
            have := of_decide_eq_true e2
            omega
          refine set_then (i := 7) ⟨_, rfl, _, rfl, _, _, rfl, rfl, p, ?_, hn, by omega, b2.2, fun wy v G2 b3 hv hd => ?_⟩
          · show [V.ref p, V.int (((n + 1 : Nat) : Int) - 1), V.int 3] = _
            rw [show ((n + 1 : Nat) : Int) - 1 = (n : Int) by omega]
          have b23 := b2.trans b3
          refine ⟨_, rfl, .inl ⟨rfl, _, SqL.of (bt_lst b23 ne hLG)⟩, _, rfl, _, rfl, p, rfl, b3.2, fun m G4 m1 m2 b5 => ?_⟩
          refine pick_of rfl b5.2 (by decide) (by decide) (fun Q2 q => q) fun z G5 hz b6 => ⟨(by show 4 ≤ sizeLine; decide), fun t ht => ?_⟩
          obtain ⟨tw, rfl⟩ := tw_of hz
          have b7 := Bt.new (.tup [.str "tunnel", v, .int (m : Int), .str (twS tw)]) b6.2 ht
          have b8 := (b5.trans b6).trans b7
          have b9 := b23.trans b8
          refine ⟨L, xs, _, rfl, rfl, bt_lst b9 ne hLG, hlt, ?_⟩
          obtain ⟨f1, f2, f3, f4⟩ := next (.tunnel wy m tw) t _ b9 (fun Z lz => by
            unfold RowAt
            have np := (LsG b23 lz).np
            exact ⟨t, v, rfl, (LsG b9 lz).tup upd_same, (hv (L :: Z) (LsG b2 lz)).bt (hidS_bt np b8) (hidS_S np b3.2)⟩) ⟨by unfold M.Step.fine; exact ⟨hd.f, m1, m2⟩, hd.d, hd.z⟩
          exact ⟨f1, _, _, _, _, _, rfl, upd_same, f2, f3, f4⟩
        · exact road
    · rintro σ G ⟨bG, xs, s, q1, q2, q3, rfl, hLG, hR, hs, hSm⟩
      refine ⟨_, rfl, _, rfl, line2.1, fun t ht => ?_⟩
      have b2 := Bt.new (.tup [.int (h : Int), .ref L]) bG.2 ht
      refine kk (.mk h s) _ _ (bG.trans b2) (fun Z lz => ?_) (drw_way (by omega) h1 h2 (by omega) (by omega) hSm)
      have lz2 := (lz.bt bG).bt b2
      unfold RowsAt
      refine ⟨t, L, xs, rfl, lz2.tup upd_same, ?_, ((hR Z lz).bt (hidS_bt (((lz.bt bG).cons ne hLG).np) b2) (hidS_S (((lz.bt bG).cons ne hLG).np) bG.2)).mono (hidS_le fun a ha => List.mem_cons_of_mem _ ha)⟩
      rw [hidS_at (lz.new hL0)]
      exact bt_lst b2 ne hLG
end
end WP

end
section
set_option autoImplicit false
set_option Elab.async false
set_option linter.all false
set_option maxRecDepth 100000
set_option maxHeartbeats 4000000
set_option pp.maxSteps 900
/-! ## entries written out, term by term -/
namespace WP
open PySem L2 G
def SE (K : PySem.W.Frag) (C : Addr) (H : Hp) (v : V) : Prop := ∀ h, ∃ b, StB K C H h v b
theorem SE.mono {K : PySem.W.Frag} {C : Addr} {H H' : Hp} {v : V} (s : Same H H') (q : SE K C H v) : SE K C H' v := fun h => let ⟨b, q⟩ := q h; ⟨b, q.mono s⟩
def NmV (K : PySem.W.Frag) (H : Hp) (v : V) : Prop := (∃ i, v = .int i) ∨ CP.NI K H v
theorem NmV.mono {K : PySem.W.Frag} {H H' : Hp} {v : V} (s : Same H H') (q : NmV K H v) : NmV K H' v := q.imp id fun q => q.mono s
theorem NmV.nm {K : PySem.W.Frag} {H : Hp} {v : V} (q : NmV K H v) (lo hi : Int) : ∃ b, Nm K H v lo hi b := q.elim (fun ⟨i, e⟩ => ⟨_, .inl ⟨i, e, rfl⟩⟩) fun q => ⟨_, .inr ⟨q, rfl⟩⟩
def WdV (K : PySem.W.Frag) (H : Hp) (v : V) : Prop := ∃ d, Dp K H v d ∧ SeqAt.shaped d = true
theorem WdV.mono {K : PySem.W.Frag} {H H' : Hp} {v : V} (s : Same H H') (q : WdV K H v) : WdV K H' v := let ⟨d, a, b⟩ := q; ⟨d, dp_mono s a, b⟩
def WyV (C : Addr) (H : Hp) (v : V) : Prop := ∃ c wy, v = .ref c ∧ WayAt C H wy c ∧ wy.fine
theorem WyV.mono {C : Addr} {H H' : Hp} {v : V} (s : Same H H') (q : WyV C H v) : WyV C H' v := let ⟨c, wy, a, b, d⟩ := q; ⟨c, wy, a, b.mono s, d⟩
/-- a value that is no way -/
def NwV (K : PySem.W.Frag) (C : Addr) (H : Hp) (v : V) : Prop := ∃ t, TyX K H v t ∧ PySem.W.kitOne K t (.ref C) = some false
theorem NwV.mono {K : PySem.W.Frag} {C : Addr} {H H' : Hp} {v : V} (s : Same H H') (q : NwV K C H v) : NwV K C H' v := let ⟨t, a, b⟩ := q; ⟨t, CP.tyX_mono s a, b⟩
def Old (Z : List Addr) (H : Hp) : Prop := ∀ M ∈ Z, ∃ o, H M = some o
theorem Old.mono {Z : List Addr} {H H' : Hp} (h : Old Z H) (s : Same H H') : Old Z H' := fun M hM => let ⟨o, e⟩ := h M hM; ⟨o, s _ _ e⟩
theorem Old.new {Z : List Addr} {H : Hp} {a : Addr} (h : Old Z H) (n : H a = none) : a ∉ Z := fun q => by
  obtain ⟨o, e⟩ := h a q
  rw [n] at e
  cases e
theorem Old.put {Z : List Addr} {H : Hp} {a : Addr} {o : HO} (h : Old Z H) (n : H a = none) : hidS Z (upd H a o) a = some o := by
  rw [hidS_at (h.new n), upd_same]
/-- a term that makes new objects only, and a value of a kind (told of the heap without Z) -/
def Ev (Z : List Addr) (σ : St) (H0 : Hp) (t : TE) (R : Hp → V → Prop) : Prop := ∀ (H : Hp) (Q : VK), Same H0 H → (∀ v H', Same H H' → R (hidS Z H') v → Q v H') → t σ H Q
def EvA (Z : List Addr) (σ : St) (H0 : Hp) (ta : TA) (R : Hp → List V → Prop) : Prop := ∀ (H : Hp) (Q : List V → Hp → Prop), Same H0 H → (∀ vs H', Same H H' → R (hidS Z H') vs → Q vs H') → ta σ H Q
section
variable {K : PySem.W.Frag} {C : Addr} {h : Nat} {Z : List Addr} {σ : St} {H0 : Hp} {R R1 R2 R3 R4 : Hp → V → Prop} {t t1 t2 t3 : TE} {ta : TA} {n : Nat}
def MonR (R : Hp → V → Prop) : Prop := ∀ {H H' : Hp} {v : V}, Same H H' → R H v → R H' v
theorem nm_mon : MonR (NmV K) := fun s q => NmV.mono s q
theorem wd_mon : MonR (WdV K) := fun s q => WdV.mono s q
theorem wy_mon : MonR (WyV C) := fun s q => WyV.mono s q
theorem nw_mon : MonR (NwV K C) := fun s q => NwV.mono s q
theorem se_mon : MonR (fun H v => SE K C H v) := fun s q => SE.mono s q
theorem ev_c {v : V} (k : ∀ H, R H v) : Ev Z σ H0 (tC v) R := fun H Q _ q => q v H (Same.refl _) (k _)
theorem ev_var {i : Nat} {v : V} (hσ : σ[i]? = some (some v)) (m : MonR R) (k : R (hidS Z H0) v) : Ev Z σ H0 (tVar i) R := fun H Q s q => ⟨v, hσ, q v H (Same.refl _) (m (hidS_mono s) k)⟩
theorem ev_imp (h : Ev Z σ H0 t R) (k : ∀ H v, R H v → R1 H v) : Ev Z σ H0 t R1 := fun H Q s q => h H Q s fun v H' s' r => q v H' s' (k _ _ r)
/-- lists of so many values of a kind -/
def AllR (R : Hp → V → Prop) (n : Nat) : Hp → List V → Prop := fun H vs => vs.length = n ∧ ∀ v ∈ vs, R H v
theorem eva_nil : EvA Z σ H0 tNil (AllR R 0) := fun H Q _ q => q [] H (Same.refl _) ⟨rfl, fun v h => by cases h⟩
theorem eva_cons (m : MonR R) (a : Ev Z σ H0 t R) (b : EvA Z σ H0 ta (AllR R n)) : EvA Z σ H0 (tCons t ta) (AllR R (n + 1)) := fun H Q s q => a H _ s fun v H1 s1 r1 => b H1 _ (s.trans s1) fun vs H2 s2 r2 => q (v :: vs) H2 (s1.trans s2) ⟨by rw [List.length_cons, r2.1], fun x hx => by
  rcases List.mem_cons.mp hx with rfl | hx
  · exact m (hidS_mono s2) r1
  · exact r2.2 x hx⟩
/-- anything -/
def Any : Hp → V → Prop := fun _ _ => True
theorem any_mon : MonR Any := fun _ _ => trivial
theorem ev_any (h : Ev Z σ H0 t R) : Ev Z σ H0 t Any := ev_imp h fun _ _ _ => trivial
theorem small {n : Nat} (h : n ≤ 1000) : n ≤ sizeLine := Nat.le_trans h (by decide)
theorem ev_tup {P : Hp → List V → Prop} (o : Old Z H0) (a : EvA Z σ H0 ta P) (l : ∀ H vs, P H vs → vs.length ≤ 1000) (k : ∀ H H' vs a, P H vs → Same H H' → H' a = some (.tup vs) → R H' (.ref a)) : Ev Z σ H0 (tTup ta) R := fun H Q s q => a H _ s fun vs H1 s1 r => ⟨small (l _ _ r), fun p np =>
  q (.ref p) _ (s1.trans (Same.of_upd np)) (k _ _ vs p r (hidS_mono (Same.of_upd np)) ((o.mono (s.trans s1)).put np))⟩
theorem ev_lst {P : Hp → List V → Prop} (o : Old Z H0) (a : EvA Z σ H0 ta P) (l : ∀ H vs, P H vs → vs.length ≤ 1000) (k : ∀ H H' vs a, P H vs → Same H H' → H' a = some (.lst vs) → R H' (.ref a)) : Ev Z σ H0 (tLst ta) R := fun H Q s q => a H _ s fun vs H1 s1 r => ⟨small (l _ _ r), fun p np =>
  q (.ref p) _ (s1.trans (Same.of_upd np)) (k _ _ vs p r (hidS_mono (Same.of_upd np)) ((o.mono (s.trans s1)).put np))⟩
theorem ev_dic (o : Old Z H0) (k : ∀ H a, H a = some (.dK []) → R H (.ref a)) : Ev Z σ H0 tDNewK R := fun H Q s q p np => q (.ref p) _ (Same.of_upd np) (k _ p ((o.mono s).put np))
/-- one, two, three behind a word -/
theorem eva1 {w : V} (a : Ev Z σ H0 t1 R1) : EvA Z σ H0 (tCons (tC w) (tCons t1 tNil)) fun H vs => ∃ x, vs = [w, x] ∧ R1 H x := fun H Q s q => a H _ s fun v H1 s1 r1 => q _ H1 s1 ⟨v, rfl, r1⟩
theorem eva3 {w : V} (m1 : MonR R1) (m2 : MonR R2) (a : Ev Z σ H0 t1 R1) (b : Ev Z σ H0 t2 R2) (c : Ev Z σ H0 t3 R3) : EvA Z σ H0 (tCons (tC w) (tCons t1 (tCons t2 (tCons t3 tNil)))) fun H vs => ∃ x y z, vs = [w, x, y, z] ∧ R1 H x ∧ R2 H y ∧ R3 H z := fun H Q s q =>
  a H _ s fun v H1 s1 r1 => b H1 _ (s.trans s1) fun u H2 s2 r2 => c H2 _ ((s.trans s1).trans s2) fun x H3 s3 r3 => q _ H3 ((s1.trans s2).trans s3) ⟨v, u, x, rfl, m1 (hidS_mono (s2.trans s3)) r1, m2 (hidS_mono s3) r2, r3⟩
theorem evan {w : V} (b : EvA Z σ H0 ta (AllR Any n)) : EvA Z σ H0 (tCons (tC w) ta) fun H vs => ∃ r, vs = w :: r ∧ r.length = n := fun H Q s q => b H _ s fun vs H1 s1 r => q _ H1 s1 ⟨vs, rfl, r.1⟩
theorem e_road (o : Old Z H0) (a : Ev Z σ H0 t1 (NmV K)) (b : Ev Z σ H0 t2 (WdV K)) (c : Ev Z σ H0 t3 (WdV K)) : Ev Z σ H0 (tTup (tCons (tC (.str "road")) (tCons t1 (tCons t2 (tCons t3 tNil))))) (fun H v => SE K C H v) :=
  ev_tup o (eva3 (R1 := NmV K) (R2 := WdV K) (R3 := WdV K) nm_mon wd_mon a b c) (fun _ _ q => by obtain ⟨_, _, _, e, _⟩ := q; rw [e]; exact (by decide : 4 ≤ 1000)) fun H H' vs p q s e2 => by
    obtain ⟨x, y, z, e, r1, r2, r3⟩ := q
    subst e
    intro h
    obtain ⟨b, hb⟩ := (r1.mono s).nm ((h + 1 : Nat) : Int) 1000
    obtain ⟨d, d1, d2⟩ := r2.mono s
    obtain ⟨g, g1, g2⟩ := r3.mono s
    exact ⟨_, .road e2 hb d1 d2 g1 g2⟩
theorem e_join (o : Old Z H0) (a : Ev Z σ H0 t1 (NmV K)) : Ev Z σ H0 (tTup (tCons (tC (.str "join")) (tCons t1 tNil))) (fun H v => SE K C H v) :=
  ev_tup o (eva1 a) (fun _ _ q => by obtain ⟨_, e, _⟩ := q; rw [e]; exact (by decide : 2 ≤ 1000)) fun H H' vs p q s e2 => by
    obtain ⟨x, e, r1⟩ := q
    subst e
    intro h
    obtain ⟨b, hb⟩ := (r1.mono s).nm 1 1000000000000
    exact ⟨_, .join e2 hb⟩
theorem e_tun (o : Old Z H0) (a : Ev Z σ H0 t1 (WyV C)) (b : Ev Z σ H0 t2 (NmV K)) (c : Ev Z σ H0 t3 (WdV K)) : Ev Z σ H0 (tTup (tCons (tC (.str "tunnel")) (tCons t1 (tCons t2 (tCons t3 tNil))))) (fun H v => SE K C H v) :=
  ev_tup o (eva3 (R1 := WyV C) (R2 := NmV K) (R3 := WdV K) wy_mon nm_mon a b c) (fun _ _ q => by obtain ⟨_, _, _, e, _⟩ := q; rw [e]; exact (by decide : 4 ≤ 1000)) fun H H' vs p q s e2 => by
    obtain ⟨x, y, z, e, r1, r2, r3⟩ := q
    subst e
    intro h
    obtain ⟨c, wy, rfl, wa, wf⟩ := r1.mono s
    obtain ⟨b, hb⟩ := (r2.mono s).nm 1 1000000000000
    obtain ⟨g, g1, g2⟩ := r3.mono s
    exact ⟨_, .tun e2 wa wf hb g1 g2⟩
theorem e_tunN (o : Old Z H0) (a : Ev Z σ H0 t1 (NwV K C)) (b : Ev Z σ H0 t2 R2) (m2 : MonR R2) (c : Ev Z σ H0 t3 R3) : Ev Z σ H0 (tTup (tCons (tC (.str "tunnel")) (tCons t1 (tCons t2 (tCons t3 tNil))))) (fun H v => SE K C H v) :=
  ev_tup o (eva3 (R1 := NwV K C) (R2 := R2) (R3 := R3) nw_mon m2 a b c) (fun _ _ q => by obtain ⟨_, _, _, e, _⟩ := q; rw [e]; exact (by decide : 4 ≤ 1000)) fun H H' vs p q s e2 => by
    obtain ⟨x, y, z, e, r1, r2, r3⟩ := q
    subst e
    intro h
    obtain ⟨t, a, b⟩ := r1.mono s
    exact ⟨_, .tunN e2 a b⟩
theorem e_roadN (o : Old Z H0) (a : EvA Z σ H0 ta (AllR Any n)) (l : n ≤ 100) (e : n ≠ 3) : Ev Z σ H0 (tTup (tCons (tC (.str "road")) ta)) (fun H v => SE K C H v) :=
  ev_tup o (evan a) (fun _ _ q => by obtain ⟨r, e, q⟩ := q; rw [e, List.length_cons]; omega) fun H H' vs p q s e2 => by
    obtain ⟨r, e1, q⟩ := q
    subst e1
    intro h
    exact ⟨_, .road0 e2 (by omega) (by omega)⟩
theorem e_joinN (o : Old Z H0) (a : EvA Z σ H0 ta (AllR Any n)) (l : n ≤ 100) (e : n ≠ 1) : Ev Z σ H0 (tTup (tCons (tC (.str "join")) ta)) (fun H v => SE K C H v) :=
  ev_tup o (evan a) (fun _ _ q => by obtain ⟨r, e, q⟩ := q; rw [e, List.length_cons]; omega) fun H H' vs p q s e2 => by
    obtain ⟨r, e1, q⟩ := q
    subst e1
    intro h
    exact ⟨_, .join0 e2 (by omega) (by omega)⟩
theorem e_tunL (o : Old Z H0) (a : EvA Z σ H0 ta (AllR Any n)) (l : n ≤ 100) (e : n ≠ 3) : Ev Z σ H0 (tTup (tCons (tC (.str "tunnel")) ta)) (fun H v => SE K C H v) :=
  ev_tup o (evan a) (fun _ _ q => by obtain ⟨r, e, q⟩ := q; rw [e, List.length_cons]; omega) fun H H' vs p q s e2 => by
    obtain ⟨r, e1, q⟩ := q
    subst e1
    intro h
    exact ⟨_, .tun0 e2 (by omega) (by omega)⟩
theorem e_odd {v : V} (o : Old Z H0) (f : flatV v = true) (n1 : v ≠ .str "road") (n2 : v ≠ .str "join") (n3 : v ≠ .str "tunnel") (a : EvA Z σ H0 ta (AllR Any n)) (l : n ≤ 100) : Ev Z σ H0 (tTup (tCons (tC v) ta)) (fun H v => SE K C H v) :=
  ev_tup o (evan a) (fun _ _ q => by obtain ⟨r, e, q⟩ := q; rw [e, List.length_cons]; omega) fun H H' vs p q s e2 => by
    obtain ⟨r, e1, q⟩ := q
    subst e1
    intro h
    exact ⟨_, .odd e2 (by omega) f n1 n2 n3⟩
theorem e_nil (o : Old Z H0) : Ev Z σ H0 (tTup tNil) (fun H v => SE K C H v) := ev_tup o (eva_nil (R := Any)) (fun _ vs e => by rw [e.1]; exact Nat.zero_le _) fun H H' vs p e s e2 => by
  have : vs = [] := List.length_eq_zero_iff.mp e.1
  subst this
  intro h
  exact ⟨_, .nil e2⟩
theorem e_lst (o : Old Z H0) (a : EvA Z σ H0 ta (AllR Any n)) (l : n ≤ 100) : Ev Z σ H0 (tLst ta) (fun H v => SE K C H v) := ev_lst o a (fun _ vs e => by rw [e.1]; omega) fun H H' vs p e s e2 h => ⟨_, .no (.base (.lst e2)) (kit_ty (r := false) (by decide +kernel))⟩
theorem e_dic (o : Old Z H0) : Ev Z σ H0 tDNewK (fun H v => SE K C H v) := ev_dic o fun H a e h => ⟨_, .no (.base (.dK e)) (kit_ty (r := false) (by decide +kernel))⟩
theorem e_str {s : Str} : Ev Z σ H0 (tC (.str s)) (fun H v => SE K C H v) := ev_c fun H h => ⟨_, .no (.base (.str s)) (kit_ty (r := false) (by decide +kernel))⟩
theorem e_non : Ev Z σ H0 (tC .non) (fun H v => SE K C H v) := ev_c fun H h => ⟨_, .no (.base .non) (kit_ty (r := false) (by decide +kernel))⟩
/-- numbers -/
def InV : Hp → V → Prop := fun _ v => ∃ i, v = .int i
theorem in_int {i : Int} : Ev Z σ H0 (tC (.int i)) InV := ev_c fun _ => ⟨i, rfl⟩
theorem in_var {i : Nat} {z : Int} (hσ : σ[i]? = some (some (.int z))) : Ev Z σ H0 (tVar i) InV := ev_var hσ (fun _ q => q) ⟨z, rfl⟩
theorem in_add (a : Ev Z σ H0 t1 InV) (b : Ev Z σ H0 t2 InV) : Ev Z σ H0 (tOp (rI0 fun i j => .int (i + j)) t1 t2) InV := fun H Q s q => a H _ s fun v H1 s1 ⟨i, e1⟩ => b H1 _ (s.trans s1) fun u H2 s2 ⟨j, e2⟩ => ⟨i, j, e1, e2, q _ H2 (s1.trans s2) ⟨_, rfl⟩⟩
theorem in_sub (a : Ev Z σ H0 t1 InV) (b : Ev Z σ H0 t2 InV) : Ev Z σ H0 (tOp (rI0 fun i j => .int (i - j)) t1 t2) InV := fun H Q s q => a H _ s fun v H1 s1 ⟨i, e1⟩ => b H1 _ (s.trans s1) fun u H2 s2 ⟨j, e2⟩ => ⟨i, j, e1, e2, q _ H2 (s1.trans s2) ⟨_, rfl⟩⟩
theorem in_pow {i j : Int} {P : Int → Int → Prop} {g : Int → Int → V} (c : P i j) (e : ∃ z, g i j = .int z) : Ev Z σ H0 (tOp (rI P g) (tC (.int i)) (tC (.int j))) InV := fun H Q s q => ⟨i, j, rfl, rfl, c, q _ H (Same.refl _) e⟩
theorem nm_in (h : Ev Z σ H0 t InV) : Ev Z σ H0 t (NmV K) := ev_imp h fun _ _ e => .inl e
theorem nm_bl {b : Bool} : Ev Z σ H0 (tC (.bl b)) (NmV K) := ev_c fun _ => .inr (.inl ⟨b, rfl⟩)
theorem nm_non : Ev Z σ H0 (tC .non) (NmV K) := ev_c fun _ => .inr (.inr ⟨_, .base .non, kit_ty (r := false) (by decide +kernel)⟩)
theorem nm_str {s : Str} : Ev Z σ H0 (tC (.str s)) (NmV K) := ev_c fun _ => .inr (.inr ⟨_, .base (.str s), kit_ty (r := false) (by decide +kernel)⟩)
theorem nm_lst (o : Old Z H0) (a : EvA Z σ H0 ta (AllR Any n)) (l : n ≤ 100) : Ev Z σ H0 (tLst ta) (NmV K) := ev_lst o a (fun _ vs e => by rw [e.1]; omega) fun H H' vs p e s e2 => .inr (.inr ⟨_, .base (.lst e2), kit_ty (r := false) (by decide +kernel)⟩)
theorem nm_tup (o : Old Z H0) (a : EvA Z σ H0 ta (AllR Any n)) (l : n ≤ 100) : Ev Z σ H0 (tTup ta) (NmV K) := ev_tup o a (fun _ vs e => by rw [e.1]; omega) fun H H' vs p e s e2 => .inr (.inr ⟨_, .base (.tup e2), kit_ty (r := false) (by decide +kernel)⟩)
theorem nm_dic (o : Old Z H0) : Ev Z σ H0 tDNewK (NmV K) := ev_dic o fun H a e => .inr (.inr ⟨_, .base (.dK e), kit_ty (r := false) (by decide +kernel)⟩)
/-- words -/
theorem wd_str {s : Str} (e : SeqAt.shaped (.str s) = true) : Ev Z σ H0 (tC (.str s)) (WdV K) := ev_c fun _ => ⟨_, .str s, e⟩
theorem wd_non : Ev Z σ H0 (tC .non) (WdV K) := ev_c fun _ => ⟨_, .non, by decide +kernel⟩
theorem wd_int {i : Int} (e : SeqAt.shaped (.int i) = true) : Ev Z σ H0 (tC (.int i)) (WdV K) := ev_c fun _ => ⟨_, .int i, e⟩
theorem wd_lst1 {s : Str} (o : Old Z H0) (e : SeqAt.shaped (.list [.str s]) = true) : Ev Z σ H0 (tLst (tCons (tC (.str s)) tNil)) (WdV K) := fun H Q s' q => ⟨(by show 1 ≤ sizeLine; decide), fun p np => q _ _ (Same.of_upd np) ⟨.list [.str s], .lst (SqL.of ((o.mono s').put np)) (.cons (.str _) .nil), e⟩⟩
end
end WP

end
section
set_option autoImplicit false
set_option Elab.async false
set_option linter.all false
set_option maxRecDepth 100000
set_option maxHeartbeats 4000000
set_option pp.maxSteps 900
/-! ## _law_odd_entries -/
namespace WP
open PySem L2 G
abbrev sLOddE : Stmt := top 42
abbrev NOe : List Str := ["one", "low", "found", "thing", "word"]
theorem scOe : FnScope NOe ["one", "low"] (defScope sLOddE) := ⟨rfl, rfl, rfl, by decide +kernel, rfl, by decide +kernel, by decide +kernel⟩
theorem hid_new {Z : List Addr} {G : Hp} {D : Addr} {o : HO} (n : G D = none) : Same (hidS Z G) (hidS (D :: Z) (upd G D o)) := fun a u e => by
  unfold hidS at e
  by_cases q : a ∈ Z
  · rw [if_pos q] at e
    cases e
  · rw [if_neg q] at e
    have nd : a ≠ D := fun z => by rw [z, n] at e; cases e
    rw [hidS_at (fun m => (List.mem_cons.mp m).elim nd q), upd_ne nd]
    exact e
section
variable {P : Program} {w : World} {K : PySem.W.Frag} {mg : Str → Option Value} {base : Heap} {C : Addr}
theorem lst_then {Z : List Addr} {σ : St} {H : Hp} {ta : TA} {R : Hp → List V → Prop} {Q : VK} (e : EvA Z σ H ta R) (k : ∀ vs H', Same H H' → R (hidS Z H') vs → vs.length ≤ 1000 ∧ ∀ p, H' p = none → Q (.ref p) (upd H' p (.lst vs))) : tLst ta σ H Q :=
  e H _ (Same.refl _) fun vs H' s r => ⟨small (k vs H' s r).1, (k vs H' s r).2⟩
theorem il_then {Z : List Addr} {σ : St} {H : Hp} {ta : TA} {R : Hp → List V → Prop} {R' : It → Hp → Prop} (e : EvA Z σ H ta R) (k : ∀ vs H', Same H H' → R (hidS Z H') vs → vs.length ≤ 1000 ∧ ∀ p, H' p = none → R' (Itl K p) (upd H' p (.lst vs))) : iList K (tLst ta) σ H R' :=
  lst_then e fun vs H' s r => ⟨(k vs H' s r).1, fun p np => ⟨p, rfl, ⟨vs, SqL.of upd_same⟩, (k vs H' s r).2 p np⟩⟩
theorem for_il {Z : List Addr} {σ : St} {H : Hp} {ta : TA} {R : Hp → List V → Prop} {g : TG} {tb t2 : TS} {D D1 : Ends} (hD : D1 = { D with nx := t2 D }) (e : EvA Z σ H ta R) (k : ∀ vs H', Same H H' → R (hidS Z H') vs → vs.length ≤ 1000 ∧ ∀ p, H' p = none → ∃ W : Nat → Nat → St → Hp → Prop, (∃ m, W 0 m σ (upd H' p (.lst vs))) ∧ ∀ i m σ H, W i m σ H →
    ((Itl K p).stop i H ∧ D1.nx σ H) ∨ ((Itl K p).go i H ∧ ∃ N : St → Hp → Prop, (∀ σ' H', N σ' H' → ∃ m', m' < m ∧ W (i + 1) m' σ' H') ∧ ∀ x H', (Itl K p).yld i H x H' → g x σ H' fun σ2 H2 => tb { D1 with nx := N, ct := N, bk := D1.nx } σ2 H2)) : tSeq (tFor (iList K (tLst ta)) g tb) t2 D σ H := by
  subst hD
  exact il_then (R' := fun J H1 => ∃ W : Nat → Nat → St → Hp → Prop, (∃ m, W 0 m σ H1) ∧ ∀ i m σ H, W i m σ H → (J.stop i H ∧ t2 D σ H) ∨ (J.go i H ∧ ∃ N : St → Hp → Prop, (∀ σ' H', N σ' H' → ∃ m', m' < m ∧ W (i + 1) m' σ' H') ∧ ∀ x H', J.yld i H x H' → g x σ H' fun σ2 H2 => tb { D with nx := N, ct := N, bk := t2 D } σ2 H2)) e k
theorem cons_then {Z : List Addr} {σ : St} {H : Hp} {t : TE} {R : Hp → V → Prop} {Q : List V → Hp → Prop} (e : Ev Z σ H t R) (k : ∀ v H', Same H H' → R (hidS Z H') v → Q [v] H') : tCons t tNil σ H Q := e H _ (Same.refl _) fun v H' s r => k v H' s r
theorem hid_old {Z : List Addr} {H G : Hp} {F : Addr} (s : Same H G) (n : H F = none) : Same (hidS Z H) (hidS (F :: Z) G) := fun a u e => by
  unfold hidS at e
  by_cases q : a ∈ Z
  · rw [if_pos q] at e
    cases e
  · rw [if_neg q] at e
    have nd : a ≠ F := fun z => by rw [z, n] at e; cases e
    rw [hidS_at (fun m => (List.mem_cons.mp m).elim nd q)]
    exact s _ _ e
theorem an_c {Z : List Addr} {σ : St} {H0 : Hp} {v : V} : Ev Z σ H0 (tC v) Any := ev_c fun _ => trivial
theorem an_var {Z : List Addr} {σ : St} {H0 : Hp} {i : Nat} {v : V} (h : σ[i]? = some (some v)) : Ev Z σ H0 (tVar i) Any := ev_var h any_mon trivial
theorem an_tup {Z : List Addr} {σ : St} {H0 : Hp} {ta : TA} {n : Nat} (o : Old Z H0) (a : EvA Z σ H0 ta (AllR Any n)) (l : n ≤ 100) : Ev Z σ H0 (tTup ta) Any := ev_tup o a (fun _ vs e => by rw [e.1]; omega) fun _ _ _ _ _ _ _ => trivial
theorem an_lst {Z : List Addr} {σ : St} {H0 : Hp} {ta : TA} {n : Nat} (o : Old Z H0) (a : EvA Z σ H0 ta (AllR Any n)) (l : n ≤ 100) : Ev Z σ H0 (tLst ta) Any := ev_lst o a (fun _ vs e => by rw [e.1]; omega) fun _ _ _ _ _ _ _ => trivial
theorem an_in {Z : List Addr} {σ : St} {H0 : Hp} {t : TE} (a : Ev Z σ H0 t InV) : Ev Z σ H0 t Any := ev_any a
def spOddE (K : PySem.W.Frag) (C : Addr) : Sp := fun vs H Q _ => ∃ (c : Addr) (wy : M.Way) (h : Nat) (Z : List Addr), vs = [.ref c, .int (h : Int)] ∧ Old Z H ∧ WayAt C (hidS Z H) wy c ∧ wy.fine ∧
  ∀ D xs H', Same H H' → H' D = some (.lst xs) → H D = none → xs.length ≤ 100 → (∀ v ∈ xs, SE K C (hidS Z H') v) → Q (.ref D) H'
theorem ok_odde {f : Addr} {fd : FuncData} (F : Fun K "_law_odd_entries" "_law_odd_entries" sLOddE f fd) (T : Wt K mg C) (kW : PySem.W.kitOne K (.ref C) (.type "int") = some false) : FnOk P w K mg base CX0 1 f fd ["one", "low"] (spOddE K C) := by
  refine F.ok scOe (fun vs H Q E h => ?_) (fun cdv A outer s H vs Q E hr h => ?_)
  · obtain ⟨c, wy, h, Z, rfl, _⟩ := h
    rfl
  · obtain ⟨c, wy, h, Z, rfl, oZ, hw, hf, kk⟩ := h
    refine ⟨_, pss_cons (ps_set (i := 2) scOe.nd rfl (Or.inl rfl) (pe_lst (pa_cons (pe_tup (pa_cons (pe_str) (pa_cons (pe_op (op_add) (pv 1) (pe_int)) (pa_cons (pe_str) (pa_cons (pe_str) (pa_cons (pe_int) pa_nil)))))) (pa_cons (pe_tup (pa_cons (pe_str) (pa_cons (pe_int) (pa_cons (pe_int) pa_nil)))) (pa_cons (pe_tup (pa_cons (pe_str) (pa_cons (pv 0) (pa_cons (pe_int) (pa_cons (pe_str) (pa_cons (pe_int) pa_nil)))))) pa_nil)))))
      (pss_cons (ps_set (i := 2) scOe.nd rfl (Or.inl rfl) (pe_op (op_cat) (pv 2) (pe_lst (pa_cons (pe_lst (pa_cons (pe_str) (pa_cons (pe_op (op_add) (pv 1) (pe_int)) (pa_cons (pe_str) (pa_cons (pe_str) pa_nil))))) (pa_cons (pe_lst (pa_cons (pe_str) (pa_cons (pv 0) (pa_cons (pe_int) (pa_cons (pe_str) pa_nil))))) (pa_cons (pe_tup (pa_cons (pe_str) (pa_cons (pe_op (op_add) (pv 1) (pe_int)) (pa_cons (pe_str) (pa_cons (pe_str) pa_nil))))) pa_nil))))))
      (pss_cons (ps_for PassesOwn.never rfl (pi_list (pe_lst (pa_cons (pe_bl) (pa_cons (pe_non) (pa_cons (pe_str) (pa_cons (pe_op (op_add) (pe_op (op_powN) (pe_int) (pe_int)) (pe_int)) (pa_cons (pe_op (op_powN) (pe_int) (pe_int)) (pa_cons (pe_lst (pa_cons (pe_int) pa_nil)) (pa_cons (pe_tup (pa_cons (pe_int) pa_nil)) (pa_cons (pe_dnewK) (pa_cons (pv 0) (pa_cons (pe_op (op_sub) (pe_int) (pe_int)) (pa_cons (pe_str) pa_nil))))))))))))) (pg_name (i := 3) scOe.nd rfl (Or.inl rfl)) (pss_one (ps_set (i := 2) scOe.nd rfl (Or.inl rfl) (pe_op (op_cat) (pv 2) (pe_lst (pa_cons (pe_tup (pa_cons (pe_str) (pa_cons (pv 0) (pa_cons (pv 3) (pa_cons (pe_str) pa_nil))))) (pa_cons (pe_tup (pa_cons (pe_str) (pa_cons (pv 3) pa_nil))) (pa_cons (pe_tup (pa_cons (pe_str) (pa_cons (pv 3) (pa_cons (pe_str) (pa_cons (pe_str) pa_nil))))) pa_nil))))))))
      (pss_cons (ps_for PassesOwn.never rfl (pi_list (pe_lst (pa_cons (pe_str) (pa_cons (pe_str) (pa_cons (pe_str) (pa_cons (pe_str) (pa_cons (pe_str) (pa_cons (pe_non) (pa_cons (pe_lst (pa_cons (pe_str) pa_nil)) (pa_cons (pe_str) (pa_cons (pe_int) pa_nil))))))))))) (pg_name (i := 4) scOe.nd rfl (Or.inl rfl)) (pss_one (ps_set (i := 2) scOe.nd rfl (Or.inl rfl) (pe_op (op_cat) (pv 2) (pe_lst (pa_cons (pe_tup (pa_cons (pe_str) (pa_cons (pe_op (op_add) (pv 1) (pe_int)) (pa_cons (pv 4) (pa_cons (pe_str) pa_nil))))) (pa_cons (pe_tup (pa_cons (pe_str) (pa_cons (pe_op (op_add) (pv 1) (pe_int)) (pa_cons (pe_str) (pa_cons (pv 4) pa_nil))))) pa_nil)))))))
      (pss_cons (ps_for PassesOwn.never rfl (pi_list (pe_lst (pa_cons (pe_str) (pa_cons (pe_str) (pa_cons (pe_str) (pa_cons (pe_str) (pa_cons (pe_non) (pa_cons (pe_lst (pa_cons (pe_str) pa_nil)) (pa_cons (pe_str) (pa_cons (pe_str) pa_nil)))))))))) (pg_name (i := 4) scOe.nd rfl (Or.inl rfl)) (pss_one (ps_expr (pe_bm PySem.F.plainAttrs_list PySem.F.slot_list_append PySem.F.type_list_append mt_append (pv 2) (pa_cons (pe_tup (pa_cons (pe_str) (pa_cons (pv 0) (pa_cons (pe_int) (pa_cons (pv 4) pa_nil))))) pa_nil)))))
      (pss_one (ps_ret (pv 2))))))), ?_⟩
    have wv : ∀ {G : Hp} {σ : St}, Same H G → σ[0]? = some (some (.ref c)) → Ev Z σ G (tVar 0) (WyV C) := fun s e => ev_var e wy_mon ⟨c, wy, rfl, hw.mono (hidS_mono s), hf⟩
    have o1 := wv (σ := L2.start NOe [V.ref c, V.int (h : Int)]) (Same.refl H) rfl
    refine set_then (i := 2) (lst_then (Z := Z) (R := AllR (fun H v => SE K C H v) 3) (by (repeat' (first | exact (show Old _ _ by assumption) | exact (show flatV _ = true by rfl) | exact (show _ ≠ V.str _ by decide +kernel) | exact (show (_ : Nat) ≤ _ by decide) | exact (show (_ : Nat) ≠ _ by decide) | exact (show Ev _ _ _ _ _ by assumption) | exact eva_nil | exact in_int | exact in_var rfl | exact nm_bl | exact nm_non | exact nm_str | exact wd_non | refine wd_str (by decide +kernel) | refine wd_int (by decide +kernel) | refine wd_lst1 (by assumption) (by decide +kernel) | exact an_c | refine eva_cons se_mon ?_ ?_ | refine eva_cons nm_mon ?_ ?_ | refine eva_cons wd_mon ?_ ?_ | with_reducible apply (eva_cons any_mon) | exact e_nil (by assumption) | exact e_str | exact e_non | exact e_dic (by assumption) | refine e_road (by assumption) ?_ ?_ ?_ | refine e_join (by assumption) ?_ | refine e_tun (by assumption) (by assumption) ?_ ?_ | with_reducible apply e_roadN | with_reducible apply e_joinN | with_reducible apply e_tunL | with_reducible apply e_odd | with_reducible apply e_lst | refine in_add ?_ ?_ | refine in_sub ?_ ?_ | refine in_pow ⟨by decide, by decide⟩ ⟨_, rfl⟩ | with_reducible apply nm_lst | with_reducible apply nm_tup | exact nm_dic (by assumption) | refine nm_in ?_ | exact an_var rfl | with_reducible apply an_tup | with_reducible apply an_lst | refine an_in ?_))) fun vs H1 s1 r1 => ⟨by rw [r1.1]; decide, fun F1 n1 => ?_⟩)
    have low : ∀ {σ : St} {G : Hp}, σ[1]? = some (some (.int (h : Int))) → Ev Z σ G (tVar 1) InV := fun e => in_var e
    have catn : ∀ {G H2 : Hp} {p F D : Addr} {xs vs : List V} {o : HO}, Same G H2 → (∀ v ∈ xs, SE K C (hidS (F :: Z) G) v) → (∀ v ∈ vs, SE K C (hidS Z H2) v) → H2 p = none → (upd H2 p (.lst vs)) D = none → ∀ v ∈ xs ++ vs, SE K C (hidS (D :: Z) (upd (upd H2 p (.lst vs)) D o)) v := fun s a b np nD v hv => by
      rcases List.mem_append.mp hv with q | q
      · exact ((((a v q).mono (hidS_le fun z hz => List.mem_cons_of_mem _ hz)).mono (hidS_mono s)).mono (hidS_mono (Same.of_upd np))).mono (hid_new nD)
      · exact ((b v q).mono (hidS_mono (Same.of_upd np))).mono (hid_new nD)
    have S1 : Same H (upd H1 F1 (.lst vs)) := s1.trans (Same.of_upd n1)
    have A1 : ∀ v ∈ vs, SE K C (hidS (F1 :: Z) (upd H1 F1 (.lst vs))) v := fun v hv => (r1.2 v hv).mono (hid_new n1)
    have E1 : (upd H1 F1 (.lst vs)) F1 = some (.lst vs) := upd_same
    have l1 := r1.1
    have f1 : H F1 = none := s1.free n1
    generalize upd H1 F1 (.lst vs) = G1 at S1 A1 E1 ⊢
    clear r1 s1 n1
    dsimp only
    have o2 := wv (σ := [some (.ref c), some (.int (h : Int)), some (.ref F1), none, none]) S1 rfl
    have oZ1 := oZ.mono S1
    refine set_then (i := 2) ⟨_, rfl, lst_then (Z := Z) (R := AllR (fun H v => SE K C H v) 3) (by (repeat' (first | exact (show Old _ _ by assumption) | exact (show flatV _ = true by rfl) | exact (show _ ≠ V.str _ by decide +kernel) | exact (show (_ : Nat) ≤ _ by decide) | exact (show (_ : Nat) ≠ _ by decide) | exact (show Ev _ _ _ _ _ by assumption) | exact eva_nil | exact in_int | exact in_var rfl | exact nm_bl | exact nm_non | exact nm_str | exact wd_non | refine wd_str (by decide +kernel) | refine wd_int (by decide +kernel) | refine wd_lst1 (by assumption) (by decide +kernel) | exact an_c | refine eva_cons se_mon ?_ ?_ | refine eva_cons nm_mon ?_ ?_ | refine eva_cons wd_mon ?_ ?_ | with_reducible apply (eva_cons any_mon) | exact e_nil (by assumption) | exact e_str | exact e_non | exact e_dic (by assumption) | refine e_road (by assumption) ?_ ?_ ?_ | refine e_join (by assumption) ?_ | refine e_tun (by assumption) (by assumption) ?_ ?_ | with_reducible apply e_roadN | with_reducible apply e_joinN | with_reducible apply e_tunL | with_reducible apply e_odd | with_reducible apply e_lst | refine in_add ?_ ?_ | refine in_sub ?_ ?_ | refine in_pow ⟨by decide, by decide⟩ ⟨_, rfl⟩ | with_reducible apply nm_lst | with_reducible apply nm_tup | exact nm_dic (by assumption) | refine nm_in ?_ | exact an_var rfl | with_reducible apply an_tup | with_reducible apply an_lst | refine an_in ?_))) fun ws H2 s2 r2 => ⟨by rw [r2.1]; decide, fun p np => ⟨F1, p, vs, ws, rfl, rfl, Same.of_upd np _ _ (s2 _ _ E1), upd_same, small (by rw [l1, r2.1]; decide), fun F2 n2 => ?_⟩⟩⟩
    have S2 : Same H (upd (upd H2 p (.lst ws)) F2 (.lst (vs ++ ws))) := (S1.trans s2).trans ((Same.of_upd np).trans (Same.of_upd n2))
    have A2 := catn (o := .lst (vs ++ ws)) s2 A1 r2.2 np n2
    have E2 : (upd (upd H2 p (.lst ws)) F2 (.lst (vs ++ ws))) F2 = some (.lst (vs ++ ws)) := upd_same
    have l2 : (vs ++ ws).length = 6 := by rw [List.length_append, l1, r2.1]
    have f2 : H F2 = none := ((S1.trans s2).trans (Same.of_upd np)).free n2
    generalize upd (upd H2 p (.lst ws)) F2 (.lst (vs ++ ws)) = G2 at S2 A2 E2 ⊢
    generalize vs ++ ws = us at A2 E2 l2 ⊢
    clear r2 s2 np n2 A1 E1 l1 S1 f1 o2 oZ1
    dsimp only
    -- things
    have o3 := wv (σ := [some (.ref c), some (.int (h : Int)), some (.ref F2), none, none]) S2 rfl
    have oZ2 := oZ.mono S2
    have nw : Ev Z [some (.ref c), some (.int (h : Int)), some (.ref F2), none, none] G2 (tVar 0) (NmV K) := ev_imp o3 fun G v q => by
      obtain ⟨c', wy', rfl, wa, _⟩ := q
      obtain ⟨dx, fx, e, _⟩ := head_fld wa
      exact .inr (.inr ⟨_, .base (.ins e T.cl T.iA T.iN T.iT T.iM), kW⟩)
    refine for_il (K := K) (Z := Z) (R := AllR (NmV K) 11) rfl (by (repeat' (first | exact (show Old _ _ by assumption) | exact (show flatV _ = true by rfl) | exact (show _ ≠ V.str _ by decide +kernel) | exact (show (_ : Nat) ≤ _ by decide) | exact (show (_ : Nat) ≠ _ by decide) | exact (show Ev _ _ _ _ _ by assumption) | exact eva_nil | exact in_int | exact in_var rfl | exact nm_bl | exact nm_non | exact nm_str | exact wd_non | refine wd_str (by decide +kernel) | refine wd_int (by decide +kernel) | refine wd_lst1 (by assumption) (by decide +kernel) | exact an_c | refine eva_cons se_mon ?_ ?_ | refine eva_cons nm_mon ?_ ?_ | refine eva_cons wd_mon ?_ ?_ | with_reducible apply (eva_cons any_mon) | exact e_nil (by assumption) | exact e_str | exact e_non | exact e_dic (by assumption) | refine e_road (by assumption) ?_ ?_ ?_ | refine e_join (by assumption) ?_ | refine e_tun (by assumption) (by assumption) ?_ ?_ | with_reducible apply e_roadN | with_reducible apply e_joinN | with_reducible apply e_tunL | with_reducible apply e_odd | with_reducible apply e_lst | refine in_add ?_ ?_ | refine in_sub ?_ ?_ | refine in_pow ⟨by decide, by decide⟩ ⟨_, rfl⟩ | with_reducible apply nm_lst | with_reducible apply nm_tup | exact nm_dic (by assumption) | refine nm_in ?_ | exact an_var rfl | with_reducible apply an_tup | with_reducible apply an_lst | refine an_in ?_))) fun ts H3 s3 r3 => ⟨by rw [r3.1]; decide, fun L3 n3 => ?_⟩
    have S3 : Same G2 (upd H3 L3 (.lst ts)) := s3.trans (Same.of_upd n3)
    have nT : ∀ v ∈ ts, NmV K (hidS Z (upd H3 L3 (.lst ts))) v := fun v hv => (r3.2 v hv).mono (hidS_mono (Same.of_upd n3))
    have eT : (upd H3 L3 (.lst ts)) L3 = some (.lst ts) := upd_same
    have lT := r3.1
    generalize upd H3 L3 (.lst ts) = G3 at S3 nT eT ⊢
    clear r3 s3 n3
    refine for_list (K := K) (a := L3) (xs := ts) (fun i σ G => Same H G ∧ G L3 = some (.lst ts) ∧ (∀ v ∈ ts, NmV K (hidS Z G) v) ∧ ∃ F xs q3 q4, σ = [some (.ref c), some (.int (h : Int)), some (.ref F), q3, q4] ∧ G F = some (.lst xs) ∧ H F = none ∧ xs.length = 6 + 3 * i ∧ ∀ v ∈ xs, SE K C (hidS (F :: Z) G) v)
      ⟨S2.trans S3, eT, nT, F2, us, _, _, rfl, S3 _ _ E2, f2, l2, fun v hv => (A2 v hv).mono (hidS_mono S3)⟩ (fun i σ G _ z => SqL.of z.2.1) ?_ ?_
    · rintro i y σ G hy ⟨sG, eG, nG, F, xs, q3, q4, rfl, eF, fF, lx, aF⟩
      have ny := nG y (List.mem_of_getElem? hy)
      have hi : i < 11 := by rw [← lT]; exact (List.getElem?_eq_some_iff.mp hy).1
      dsimp only
      have o4 := wv (σ := [some (.ref c), some (.int (h : Int)), some (.ref F), some y, q4]) sG rfl
      have oZ3 := oZ.mono sG
      have n4 : Ev Z [some (.ref c), some (.int (h : Int)), some (.ref F), some y, q4] G (tVar 3) (NmV K) := ev_var rfl nm_mon ny
      refine ⟨_, rfl, lst_then (Z := Z) (R := AllR (fun H v => SE K C H v) 3) (by (repeat' (first | exact (show Old _ _ by assumption) | exact (show flatV _ = true by rfl) | exact (show _ ≠ V.str _ by decide +kernel) | exact (show (_ : Nat) ≤ _ by decide) | exact (show (_ : Nat) ≠ _ by decide) | exact (show Ev _ _ _ _ _ by assumption) | exact eva_nil | exact in_int | exact in_var rfl | exact nm_bl | exact nm_non | exact nm_str | exact wd_non | refine wd_str (by decide +kernel) | refine wd_int (by decide +kernel) | refine wd_lst1 (by assumption) (by decide +kernel) | exact an_c | refine eva_cons se_mon ?_ ?_ | refine eva_cons nm_mon ?_ ?_ | refine eva_cons wd_mon ?_ ?_ | with_reducible apply (eva_cons any_mon) | exact e_nil (by assumption) | exact e_str | exact e_non | exact e_dic (by assumption) | refine e_road (by assumption) ?_ ?_ ?_ | refine e_join (by assumption) ?_ | refine e_tun (by assumption) (by assumption) ?_ ?_ | with_reducible apply e_roadN | with_reducible apply e_joinN | with_reducible apply e_tunL | with_reducible apply e_odd | with_reducible apply e_lst | refine in_add ?_ ?_ | refine in_sub ?_ ?_ | refine in_pow ⟨by decide, by decide⟩ ⟨_, rfl⟩ | with_reducible apply nm_lst | with_reducible apply nm_tup | exact nm_dic (by assumption) | refine nm_in ?_ | exact an_var rfl | with_reducible apply an_tup | with_reducible apply an_lst | refine an_in ?_))) fun ws H4 s4 r4 => ⟨by rw [r4.1]; decide, fun p np => ⟨F, p, xs, ws, rfl, rfl, Same.of_upd np _ _ (s4 _ _ eF), upd_same, small (by rw [lx, r4.1]; omega), fun F5 n5 => ?_⟩⟩⟩
      have s5 := s4.trans ((Same.of_upd (o := .lst ws) np).trans (Same.of_upd (o := .lst (xs ++ ws)) n5))
      exact ⟨sG.trans s5, s5 _ _ eG, fun v hv => (nG v hv).mono (hidS_mono s5), F5, _, _, _, rfl, upd_same, ((sG.trans s4).trans (Same.of_upd np)).free n5, by rw [List.length_append, lx, r4.1]; omega, catn s4 aF r4.2 np n5⟩
    rintro σ G4 ⟨S4, -, -, F4, x4, q3, q4, rfl, E4, f4, l4, A4⟩
    clear nT eT S3 nw oZ2 o3 A2 E2 f2 S2
    rw [lT] at l4
    clear lT
    -- words
    have oZ4 := oZ.mono S4
    dsimp only
    refine for_il (K := K) (Z := Z) (R := AllR (WdV K) 9) rfl (by (repeat' (first | exact (show Old _ _ by assumption) | exact (show flatV _ = true by rfl) | exact (show _ ≠ V.str _ by decide +kernel) | exact (show (_ : Nat) ≤ _ by decide) | exact (show (_ : Nat) ≠ _ by decide) | exact (show Ev _ _ _ _ _ by assumption) | exact eva_nil | exact in_int | exact in_var rfl | exact nm_bl | exact nm_non | exact nm_str | exact wd_non | refine wd_str (by decide +kernel) | refine wd_int (by decide +kernel) | refine wd_lst1 (by assumption) (by decide +kernel) | exact an_c | refine eva_cons se_mon ?_ ?_ | refine eva_cons nm_mon ?_ ?_ | refine eva_cons wd_mon ?_ ?_ | with_reducible apply (eva_cons any_mon) | exact e_nil (by assumption) | exact e_str | exact e_non | exact e_dic (by assumption) | refine e_road (by assumption) ?_ ?_ ?_ | refine e_join (by assumption) ?_ | refine e_tun (by assumption) (by assumption) ?_ ?_ | with_reducible apply e_roadN | with_reducible apply e_joinN | with_reducible apply e_tunL | with_reducible apply e_odd | with_reducible apply e_lst | refine in_add ?_ ?_ | refine in_sub ?_ ?_ | refine in_pow ⟨by decide, by decide⟩ ⟨_, rfl⟩ | with_reducible apply nm_lst | with_reducible apply nm_tup | exact nm_dic (by assumption) | refine nm_in ?_ | exact an_var rfl | with_reducible apply an_tup | with_reducible apply an_lst | refine an_in ?_))) fun ts H5 s5 r5 => ⟨by rw [r5.1]; decide, fun L5 n5 => ?_⟩
    have S5 : Same G4 (upd H5 L5 (.lst ts)) := s5.trans (Same.of_upd n5)
    have nT : ∀ v ∈ ts, WdV K (hidS Z (upd H5 L5 (.lst ts))) v := fun v hv => (r5.2 v hv).mono (hidS_mono (Same.of_upd n5))
    have eT : (upd H5 L5 (.lst ts)) L5 = some (.lst ts) := upd_same
    have lT := r5.1
    generalize upd H5 L5 (.lst ts) = G5 at S5 nT eT ⊢
    clear r5 s5 n5
    refine for_list (K := K) (a := L5) (xs := ts) (fun i σ G => Same H G ∧ G L5 = some (.lst ts) ∧ (∀ v ∈ ts, WdV K (hidS Z G) v) ∧ ∃ F xs q3 q4, σ = [some (.ref c), some (.int (h : Int)), some (.ref F), q3, q4] ∧ G F = some (.lst xs) ∧ H F = none ∧ xs.length = 39 + 2 * i ∧ ∀ v ∈ xs, SE K C (hidS (F :: Z) G) v)
      ⟨S4.trans S5, eT, nT, F4, x4, _, _, rfl, S5 _ _ E4, f4, l4, fun v hv => (A4 v hv).mono (hidS_mono S5)⟩ (fun i σ G _ z => SqL.of z.2.1) ?_ ?_
    · rintro i y σ G hy ⟨sG, eG, nG, F, xs, q3, q4, rfl, eF, fF, lx, aF⟩
      have ny := nG y (List.mem_of_getElem? hy)
      have hi : i < 9 := by rw [← lT]; exact (List.getElem?_eq_some_iff.mp hy).1
      dsimp only
      have oZ5 := oZ.mono sG
      have n4 : Ev Z [some (.ref c), some (.int (h : Int)), some (.ref F), q3, some y] G (tVar 4) (WdV K) := ev_var rfl wd_mon ny
      refine ⟨_, rfl, lst_then (Z := Z) (R := AllR (fun H v => SE K C H v) 2) (by (repeat' (first | exact (show Old _ _ by assumption) | exact (show flatV _ = true by rfl) | exact (show _ ≠ V.str _ by decide +kernel) | exact (show (_ : Nat) ≤ _ by decide) | exact (show (_ : Nat) ≠ _ by decide) | exact (show Ev _ _ _ _ _ by assumption) | exact eva_nil | exact in_int | exact in_var rfl | exact nm_bl | exact nm_non | exact nm_str | exact wd_non | refine wd_str (by decide +kernel) | refine wd_int (by decide +kernel) | refine wd_lst1 (by assumption) (by decide +kernel) | exact an_c | refine eva_cons se_mon ?_ ?_ | refine eva_cons nm_mon ?_ ?_ | refine eva_cons wd_mon ?_ ?_ | with_reducible apply (eva_cons any_mon) | exact e_nil (by assumption) | exact e_str | exact e_non | exact e_dic (by assumption) | refine e_road (by assumption) ?_ ?_ ?_ | refine e_join (by assumption) ?_ | refine e_tun (by assumption) (by assumption) ?_ ?_ | with_reducible apply e_roadN | with_reducible apply e_joinN | with_reducible apply e_tunL | with_reducible apply e_odd | with_reducible apply e_lst | refine in_add ?_ ?_ | refine in_sub ?_ ?_ | refine in_pow ⟨by decide, by decide⟩ ⟨_, rfl⟩ | with_reducible apply nm_lst | with_reducible apply nm_tup | exact nm_dic (by assumption) | refine nm_in ?_ | exact an_var rfl | with_reducible apply an_tup | with_reducible apply an_lst | refine an_in ?_))) fun ws H6 s6 r6 => ⟨by rw [r6.1]; decide, fun p np => ⟨F, p, xs, ws, rfl, rfl, Same.of_upd np _ _ (s6 _ _ eF), upd_same, small (by rw [lx, r6.1]; omega), fun F6 n6 => ?_⟩⟩⟩
      have s7 := s6.trans ((Same.of_upd (o := .lst ws) np).trans (Same.of_upd (o := .lst (xs ++ ws)) n6))
      exact ⟨sG.trans s7, s7 _ _ eG, fun v hv => (nG v hv).mono (hidS_mono s7), F6, _, _, _, rfl, upd_same, ((sG.trans s6).trans (Same.of_upd np)).free n6, by rw [List.length_append, lx, r6.1]; omega, catn s6 aF r6.2 np n6⟩
    rintro σ G6 ⟨S6, -, -, F6, x6, q3', q4', rfl, E6, f6, l6, A6⟩
    clear nT eT S5 oZ4 A4 E4 f4 S4
    rw [lT] at l6
    clear lT
    -- more words
    have oZ6 : Old (F6 :: Z) G6 := fun M hM => by
      rcases List.mem_cons.mp hM with rfl | q
      · exact ⟨_, E6⟩
      · exact oZ.mono S6 M q
    dsimp only
    refine for_il (K := K) (Z := F6 :: Z) (R := AllR (WdV K) 8) rfl (by (repeat' (first | exact (show Old _ _ by assumption) | exact (show flatV _ = true by rfl) | exact (show _ ≠ V.str _ by decide +kernel) | exact (show (_ : Nat) ≤ _ by decide) | exact (show (_ : Nat) ≠ _ by decide) | exact (show Ev _ _ _ _ _ by assumption) | exact eva_nil | exact in_int | exact in_var rfl | exact nm_bl | exact nm_non | exact nm_str | exact wd_non | refine wd_str (by decide +kernel) | refine wd_int (by decide +kernel) | refine wd_lst1 (by assumption) (by decide +kernel) | exact an_c | refine eva_cons se_mon ?_ ?_ | refine eva_cons nm_mon ?_ ?_ | refine eva_cons wd_mon ?_ ?_ | with_reducible apply (eva_cons any_mon) | exact e_nil (by assumption) | exact e_str | exact e_non | exact e_dic (by assumption) | refine e_road (by assumption) ?_ ?_ ?_ | refine e_join (by assumption) ?_ | refine e_tun (by assumption) (by assumption) ?_ ?_ | with_reducible apply e_roadN | with_reducible apply e_joinN | with_reducible apply e_tunL | with_reducible apply e_odd | with_reducible apply e_lst | refine in_add ?_ ?_ | refine in_sub ?_ ?_ | refine in_pow ⟨by decide, by decide⟩ ⟨_, rfl⟩ | with_reducible apply nm_lst | with_reducible apply nm_tup | exact nm_dic (by assumption) | refine nm_in ?_ | exact an_var rfl | with_reducible apply an_tup | with_reducible apply an_lst | refine an_in ?_))) fun ts H7 s7 r7 => ⟨by rw [r7.1]; decide, fun L7 n7 => ?_⟩
    have S7 : Same G6 (upd H7 L7 (.lst ts)) := s7.trans (Same.of_upd n7)
    have n67 : L7 ≠ F6 := fun z => by
      have := s7 _ _ E6
      rw [← z, n7] at this
      cases this
    have nT : ∀ v ∈ ts, WdV K (hidS (F6 :: Z) (upd H7 L7 (.lst ts))) v := fun v hv => (r7.2 v hv).mono (hidS_mono (Same.of_upd n7))
    have eT : (upd H7 L7 (.lst ts)) L7 = some (.lst ts) := upd_same
    have lT := r7.1
    generalize upd H7 L7 (.lst ts) = G7 at S7 nT eT ⊢
    clear r7 s7 n7
    refine for_list (K := K) (a := L7) (xs := ts) (fun i σ G => Same H G ∧ G L7 = some (.lst ts) ∧ Old (F6 :: Z) G ∧ (∀ v ∈ ts, WdV K (hidS (F6 :: Z) G) v) ∧ ∃ xs q3 q4, σ = [some (.ref c), some (.int (h : Int)), some (.ref F6), q3, q4] ∧ G F6 = some (.lst xs) ∧ xs.length = 57 + i ∧ ∀ v ∈ xs, SE K C (hidS (F6 :: Z) G) v)
      ⟨S6.trans S7, eT, oZ6.mono S7, nT, x6, _, _, rfl, S7 _ _ E6, l6, fun v hv => (A6 v hv).mono (hidS_mono S7)⟩ (fun i σ G _ z => SqL.of z.2.1) ?_ ?_
    · rintro i y σ G hy ⟨sG, eG, oG, nG, xs, q3, q4, rfl, eF, lx, aF⟩
      have ny := nG y (List.mem_of_getElem? hy)
      have hi : i < 8 := by rw [← lT]; exact (List.getElem?_eq_some_iff.mp hy).1
      dsimp only
      have n4 : Ev (F6 :: Z) [some (.ref c), some (.int (h : Int)), some (.ref F6), q3, some y] G (tVar 4) (WdV K) := ev_var rfl wd_mon ny
      have o4 : Ev (F6 :: Z) [some (.ref c), some (.int (h : Int)), some (.ref F6), q3, some y] G (tVar 0) (WyV C) := ev_var rfl wy_mon ⟨c, wy, rfl, hw.mono (hid_old sG f6), hf⟩
      refine ⟨_, rfl, .inl ⟨rfl, _, SqL.of eF⟩, cons_then (R := fun H v => SE K C H v) (by (repeat' (first | exact (show Old _ _ by assumption) | exact (show flatV _ = true by rfl) | exact (show _ ≠ V.str _ by decide +kernel) | exact (show (_ : Nat) ≤ _ by decide) | exact (show (_ : Nat) ≠ _ by decide) | exact (show Ev _ _ _ _ _ by assumption) | exact eva_nil | exact in_int | exact in_var rfl | exact nm_bl | exact nm_non | exact nm_str | exact wd_non | refine wd_str (by decide +kernel) | refine wd_int (by decide +kernel) | refine wd_lst1 (by assumption) (by decide +kernel) | exact an_c | refine eva_cons se_mon ?_ ?_ | refine eva_cons nm_mon ?_ ?_ | refine eva_cons wd_mon ?_ ?_ | with_reducible apply (eva_cons any_mon) | exact e_nil (by assumption) | exact e_str | exact e_non | exact e_dic (by assumption) | refine e_road (by assumption) ?_ ?_ ?_ | refine e_join (by assumption) ?_ | refine e_tun (by assumption) (by assumption) ?_ ?_ | with_reducible apply e_roadN | with_reducible apply e_joinN | with_reducible apply e_tunL | with_reducible apply e_odd | with_reducible apply e_lst | refine in_add ?_ ?_ | refine in_sub ?_ ?_ | refine in_pow ⟨by decide, by decide⟩ ⟨_, rfl⟩ | with_reducible apply nm_lst | with_reducible apply nm_tup | exact nm_dic (by assumption) | refine nm_in ?_ | exact an_var rfl | with_reducible apply an_tup | with_reducible apply an_lst | refine an_in ?_))) fun v H8 s8 r8 => ⟨F6, xs, v, rfl, rfl, s8 _ _ eF, Nat.lt_of_lt_of_le (show xs.length < 100 by omega) (by decide), ?_⟩⟩
      have em : F6 ∈ F6 :: Z := List.mem_cons_self
      refine ⟨fun a o e => ?_, ?_, fun M hM => ?_, fun v hv => ?_, _, _, _, rfl, upd_same, by rw [List.length_append, lx]; rfl, fun v hv => ?_⟩
      · rw [upd_ne (fun z => by rw [z, f6] at e; cases e)]
        exact s8 _ _ (sG _ _ e)
      · rw [upd_ne n67]
        exact s8 _ _ eG
      · by_cases z : M = F6
        · exact ⟨_, by rw [z]; exact upd_same⟩
        · obtain ⟨o, e⟩ := oG M hM
          exact ⟨o, by rw [upd_ne z]; exact s8 _ _ e⟩
      · rw [hidS_put em]
        exact (nG v hv).mono (hidS_mono s8)
      · rw [hidS_put em]
        rcases List.mem_append.mp hv with q | q
        · exact (aF v q).mono (hidS_mono s8)
        · rw [List.mem_singleton.mp q]
          exact r8
    rintro σ G8 ⟨S8, -, -, -, xs, q3, q4, rfl, E8, l8, A8⟩
    exact ⟨_, rfl, kk F6 xs G8 S8 E8 f6 (by omega) fun v hv => (A8 v hv).mono (hidS_le fun z hz => List.mem_cons_of_mem _ hz)⟩
end
end WP

end
section
set_option autoImplicit false
set_option Elab.async false
set_option linter.all false
set_option maxRecDepth 100000
set_option maxHeartbeats 4000000
set_option pp.maxSteps 900
/-! ## _law_odd_step -/
namespace WP
open PySem L2 G
abbrev sLOddS : Stmt := top 43
abbrev NOs : List Str := ["source", "head", "low", "one", "some", "good"]
theorem scOs : FnScope NOs ["source", "head"] (defScope sLOddS) := ⟨rfl, rfl, rfl, by decide +kernel, rfl, by decide +kernel, by decide +kernel⟩
theorem hid_keep {G : Hp} {p : Addr} (h : S.At G p) : CP.KeepT G (hidS [p] G) := fun a o n e => by
  obtain ⟨r, m, e2, _⟩ := h
  rw [hidS_at (fun q => by
    rw [List.mem_singleton.mp q, e2] at e
    cases e
    exact n _ rfl)]
  exact e
theorem hid_drw {G G' : Hp} {p : Addr} (b : Bt p G G') : Same (hidS [p] G) (hidS [p] G') := fun a o e => by
  unfold hidS at e
  by_cases q : a ∈ [p]
  · rw [if_pos q] at e
    cases e
  · rw [if_neg q] at e
    rw [hidS_at q]
    exact b.1 a o (fun z => q (List.mem_singleton.mpr z)) e
theorem old_p {G : Hp} {p : Addr} (h : S.At G p) : Old [p] G := fun M hM => by
  rw [List.mem_singleton.mp hM]
  obtain ⟨r, m, e, _⟩ := h
  exact ⟨_, e⟩
section
variable {P : Program} {w : World} {K : PySem.W.Frag} {mg : Str → Option Value} {base : Heap} {C : Addr}
theorem e_tunM {Z : List Addr} {σ : St} {H0 : Hp} {t1 t2 t3 : TE} (o : Old Z H0) (a : Ev Z σ H0 t1 (NwV K C)) (b : Ev Z σ H0 t2 Any) (c : Ev Z σ H0 t3 Any) : Ev Z σ H0 (tTup (tCons (tC (.str "tunnel")) (tCons t1 (tCons t2 (tCons t3 tNil))))) (fun H v => SE K C H v) := e_tunN o a b any_mon c
theorem nw_tup {Z : List Addr} {σ : St} {H0 : Hp} {ta : TA} {n : Nat} (kR : PySem.W.kitOne K (.type "tuple") (.ref C) = some false) (o : Old Z H0) (a : EvA Z σ H0 ta (AllR Any n)) (l : n ≤ 100) : Ev Z σ H0 (tTup ta) (NwV K C) := ev_tup o a (fun _ vs e => by rw [e.1]; omega) fun H H' vs p e s e2 => ⟨_, .base (.tup e2), kR⟩
def spOddS (K : PySem.W.Frag) (C : Addr) : Sp := fun vs H Q _ => ∃ (p : Addr) (h : Nat), vs = [.ref p, .int (h : Int)] ∧ S.At H p ∧ ∀ v H', Bt p H H' → SE K C (hidS [p] H') v → Q v H'
theorem ok_odds {f : Addr} {fd : FuncData} (F : Fun K "_law_odd_step" "_law_odd_step" sLOddS f fd) (T : Wt K mg C) (kT : PySem.W.kitOne K (.ref C) (.type "tuple") = some false) (kR : PySem.W.kitOne K (.type "tuple") (.ref C) = some false) (MW : Mw P w K mg base C) (DO : Df P w K mg base 1 "_law_odd_entries" ["one", "low"] (spOddE K C)) (PK : Df P w K mg base 2 "_law_pick" ["source", "items"] (S.spPick K)) : FnOk P w K mg base CX0 8 f fd ["source", "head"] (spOddS K C) := by
  obtain ⟨fI, fdI, GI, MI, bI⟩ := MW.ex
  obtain ⟨fO, fdO, GO, gO, kO, bO⟩ := DO.ex
  obtain ⟨fP, fdP, GP, gP, kP, bP⟩ := PK.ex
  have gI := T.g
  refine F.ok scOs (fun vs H Q E h => ?_) (fun cdv A outer s H vs Q E hr h => ?_)
  · obtain ⟨p, h, rfl, _⟩ := h
    rfl
  · obtain ⟨p, h, rfl, hp, kk⟩ := h
    refine ⟨_, pss_cons (ps_par (i := 2) (j := 3) (by rfl) scOs.nd rfl rfl (by decide) rfl rfl (pa_cons (pv 1) (pa_cons (pe_make MI GI (hr.mono (by decide)) rfl gI bI .nil pass0 (pa_cons (pe_int) (pa_cons (pe_lst (pa_cons (pe_tup (pa_cons (pe_str) (pa_cons (pe_int) pa_nil))) pa_nil)) pa_nil))) pa_nil)) (by rfl))
      (pss_cons (ps_set (i := 4) scOs.nd rfl (Or.inl rfl) (pe_lst (pa_cons (pe_non) (pa_cons (pe_tup pa_nil) (pa_cons (pe_str) (pa_cons (pe_tup (pa_cons (pe_str) pa_nil)) (pa_cons (pe_lst (pa_cons (pe_str) (pa_cons (pe_int) pa_nil))) (pa_cons (pe_tup (pa_cons (pe_str) (pa_cons (pe_int) pa_nil))) (pa_cons (pe_tup (pa_cons (pe_str) (pa_cons (pe_bl) pa_nil))) (pa_cons (pe_tup (pa_cons (pe_str) (pa_cons (pe_op (op_add) (pe_op (op_powN) (pe_int) (pe_int)) (pe_int)) pa_nil))) pa_nil))))))))))
      (pss_cons (ps_set (i := 4) scOs.nd rfl (Or.inl rfl) (pe_op (op_cat) (pv 4) (pe_lst (pa_cons (pe_tup (pa_cons (pe_str) (pa_cons (pv 2) (pa_cons (pe_str) (pa_cons (pe_str) pa_nil))))) (pa_cons (pe_tup (pa_cons (pe_str) (pa_cons (pe_int) (pa_cons (pe_str) (pa_cons (pe_str) pa_nil))))) (pa_cons (pe_tup (pa_cons (pe_str) (pa_cons (pe_op (op_add) (pv 2) (pe_int)) (pa_cons (pe_str) (pa_cons (pe_str) pa_nil))))) pa_nil))))))
      (pss_cons (ps_set (i := 4) scOs.nd rfl (Or.inl rfl) (pe_op (op_cat) (pv 4) (pe_lst (pa_cons (pe_tup (pa_cons (pe_str) (pa_cons (pe_op (op_add) (pv 2) (pe_int)) (pa_cons (pe_str) (pa_cons (pe_str) pa_nil))))) (pa_cons (pe_tup (pa_cons (pe_str) (pa_cons (pe_op (op_add) (pv 2) (pe_int)) (pa_cons (pe_str) pa_nil)))) (pa_cons (pe_tup (pa_cons (pe_str) (pa_cons (pe_bl) (pa_cons (pe_str) (pa_cons (pe_str) pa_nil))))) pa_nil))))))
      (pss_cons (ps_set (i := 4) scOs.nd rfl (Or.inl rfl) (pe_op (op_cat) (pv 4) (pe_lst (pa_cons (pe_tup (pa_cons (pe_str) (pa_cons (pv 3) (pa_cons (pe_int) (pa_cons (pe_str) pa_nil))))) (pa_cons (pe_tup (pa_cons (pe_str) (pa_cons (pv 3) (pa_cons (pe_int) (pa_cons (pe_str) pa_nil))))) (pa_cons (pe_tup (pa_cons (pe_str) (pa_cons (pe_tup (pa_cons (pe_int) (pa_cons (pe_lst pa_nil) pa_nil))) (pa_cons (pe_int) (pa_cons (pe_str) pa_nil))))) pa_nil))))))
      (pss_cons (ps_set (i := 4) scOs.nd rfl (Or.inl rfl) (pe_op (op_cat) (pe_op (op_cat) (pv 4) (pe_lst (pa_cons (pe_tup (pa_cons (pe_str) (pa_cons (pv 3) pa_nil))) (pa_cons (pe_tup (pa_cons (pe_str) (pa_cons (pe_int) (pa_cons (pe_int) pa_nil)))) pa_nil)))) (pe_call GO (hr.mono (by decide)) rfl gO kO bO .nil pass0 (pa_cons (pv 3) (pa_cons (pv 2) pa_nil)))))
      (pss_cons (ps_set (i := 4) scOs.nd rfl (Or.inl rfl) (pe_op (op_cat) (pv 4) (pe_lst (pa_cons (pe_tup (pa_cons (pe_non) (pa_cons (pe_int) pa_nil))) (pa_cons (pe_tup (pa_cons (pe_str) (pa_cons (pe_int) pa_nil))) (pa_cons (pe_tup (pa_cons (pe_str) (pa_cons (pe_op (op_add) (pv 2) (pe_int)) (pa_cons (pe_str) (pa_cons (pe_lst (pa_cons (pe_str) pa_nil)) pa_nil))))) (pa_cons (pe_tup (pa_cons (pe_str) (pa_cons (pe_str) (pa_cons (pe_str) (pa_cons (pe_str) pa_nil))))) (pa_cons (pe_dnewK) (pa_cons (pv 3) pa_nil)))))))))
      (pss_cons (ps_set (i := 5) scOs.nd rfl (Or.inl rfl) (pe_lst (pa_cons (pe_tup (pa_cons (pe_str) (pa_cons (pe_op (op_add) (pv 2) (pe_int)) (pa_cons (pe_str) (pa_cons (pe_str) pa_nil))))) (pa_cons (pe_tup (pa_cons (pe_str) (pa_cons (pe_int) (pa_cons (pe_str) (pa_cons (pe_str) pa_nil))))) (pa_cons (pe_tup (pa_cons (pe_str) (pa_cons (pe_op (op_powN) (pe_int) (pe_int)) pa_nil))) pa_nil)))))
      (pss_one (ps_ret (pe_call GP (hr.mono (by decide)) rfl gP kP bP .nil pass0 (pa_cons (pv 0) (pa_cons (pe_op (op_cat) (pe_op (op_cat) (pv 4) (pv 5)) (pe_lst (pa_cons (pe_tup (pa_cons (pe_str) (pa_cons (pv 3) (pa_cons (pe_op (op_powN) (pe_int) (pe_int)) (pa_cons (pe_str) pa_nil))))) (pa_cons (pe_tup (pa_cons (pe_str) (pa_cons (pv 3) (pa_cons (pe_int) (pa_cons (pe_str) pa_nil))))) pa_nil)))) pa_nil)))))))))))), ?_⟩
    refine ⟨_, rfl, line2.1, fun t ht => ⟨(by show 1 ≤ sizeLine; decide), fun l hl => ?_⟩⟩
    have s1 := (Same.of_upd (o := .tup [V.str "join", V.int 1]) ht).trans (Same.of_upd (o := .lst [V.ref t]) hl)
    have st : StepsAt C (upd (upd H t (.tup [V.str "join", V.int 1])) l (.lst [V.ref t])) [.join 1] [V.ref t] := by
      unfold StepsAt
      refine ⟨_, _, rfl, ?_, by unfold StepsAt; rfl⟩
      unfold StepAt
      exact ⟨t, rfl, Same.of_upd hl _ _ upd_same⟩
    have f1 : M.Way.fine (.mk 1 [.join 1]) := by
      unfold M.Way.fine
      refine ⟨by decide, by decide, ?_, by decide, by decide⟩
      unfold M.Step.fineAll
      exact ⟨by unfold M.Step.fine; decide, by unfold M.Step.fineAll; trivial⟩
    refine fun c dz hz hdz nez => ⟨c, l, dz, 1, _, [.join 1], _, rfl, upd_same, hz, (Same.of_upd hdz).trans (Same.of_upd (by rw [upd_ne nez.symm]; exact hz)), .inl upd_same, st, f1, fun G1 s2 wa => ⟨rfl, ?_⟩⟩
    have S1 := s1.trans s2
    clear s1 s2 st ht hl hz hdz nez
    refine ⟨_, _, rfl, ?_⟩
    dsimp only
    have a1 : S.At G1 p := (Bt.same S1 hp).2
    have wh : WayAt C (hidS [p] G1) (.mk 1 [.join 1]) c := wa.keep (hid_keep a1)
    have wv : ∀ {G : Hp} {σ : St}, Same G1 G → σ[3]? = some (some (.ref c)) → Ev [p] σ G (tVar 3) (WyV C) := fun s e => ev_var e wy_mon ⟨c, _, rfl, wh.mono (hidS_mono s), f1⟩
    have o1 := old_p a1
    clear wa
    refine set_then (i := 4) (lst_then (Z := [p]) (R := AllR (fun H v => SE K C H v) 8) (by (repeat' (first | exact (show Old _ _ by assumption) | exact (show flatV _ = true by rfl) | exact (show _ ≠ V.str _ by decide +kernel) | exact (show (_ : Nat) ≤ _ by decide) | exact (show (_ : Nat) ≠ _ by decide) | exact (show Ev _ _ _ _ _ by assumption) | exact eva_nil | exact in_int | exact in_var rfl | exact nm_bl | exact nm_non | exact nm_str | exact wd_non | refine wd_str (by decide +kernel) | refine wd_int (by decide +kernel) | refine wd_lst1 (by assumption) (by decide +kernel) | exact an_c | refine eva_cons se_mon ?_ ?_ | refine eva_cons nm_mon ?_ ?_ | refine eva_cons wd_mon ?_ ?_ | with_reducible apply (eva_cons any_mon) | exact e_nil (by assumption) | exact e_str | exact e_non | exact e_dic (by assumption) | refine e_road (by assumption) ?_ ?_ ?_ | refine e_join (by assumption) ?_ | refine e_tun (by assumption) (by assumption) ?_ ?_ | with_reducible apply e_tunM | with_reducible apply (nw_tup kR) | with_reducible apply e_roadN | with_reducible apply e_joinN | with_reducible apply e_tunL | with_reducible apply e_odd | with_reducible apply e_lst | refine in_add ?_ ?_ | refine in_sub ?_ ?_ | refine in_pow ⟨by decide, by decide⟩ ⟨_, rfl⟩ | with_reducible apply nm_lst | with_reducible apply nm_tup | exact nm_dic (by assumption) | refine nm_in ?_ | exact an_var rfl | with_reducible apply an_tup | with_reducible apply an_lst | refine an_in ?_))) fun x1 H1 s1 r1 => ⟨by rw [r1.1]; decide, fun F1 n1 => ?_⟩)
    have t1 : Same G1 (upd H1 F1 (.lst x1)) := s1.trans (Same.of_upd n1)
    have A1 : ∀ v ∈ x1, SE K C (hidS [p] (upd H1 F1 (.lst x1))) v := fun v hv => (r1.2 v hv).mono (hidS_mono (Same.of_upd n1))
    have E1 : (upd H1 F1 (.lst x1)) F1 = some (.lst x1) := upd_same
    have l1 := r1.1
    generalize upd H1 F1 (.lst x1) = K1 at t1 A1 E1 ⊢
    clear r1 s1 n1
    have catS : ∀ {G H2 : Hp} {q D : Addr} {xs vs : List V} {o : HO}, Same G H2 → (∀ v ∈ xs, SE K C (hidS [p] G) v) → (∀ v ∈ vs, SE K C (hidS [p] H2) v) → H2 q = none → (upd H2 q (.lst vs)) D = none → ∀ v ∈ xs ++ vs, SE K C (hidS [p] (upd (upd H2 q (.lst vs)) D o)) v := fun s a b np nD v hv => by
      rcases List.mem_append.mp hv with z | z
      · exact ((((a v z).mono (hidS_mono s))).mono (hidS_mono (Same.of_upd np))).mono (hidS_mono (Same.of_upd nD))
      · exact ((b v z).mono (hidS_mono (Same.of_upd np))).mono (hidS_mono (Same.of_upd nD))
    try dsimp only
    have w2 := wv (σ := [some (.ref p), some (.int (h : Int)), some (.int (h : Int)), some (.ref c), some (.ref F1), none]) t1 rfl
    have o2 := o1.mono t1
    refine set_then (i := 4) ⟨_, rfl, lst_then (Z := [p]) (R := AllR (fun H v => SE K C H v) 3) (by (repeat' (first | exact (show Old _ _ by assumption) | exact (show flatV _ = true by rfl) | exact (show _ ≠ V.str _ by decide +kernel) | exact (show (_ : Nat) ≤ _ by decide) | exact (show (_ : Nat) ≠ _ by decide) | exact (show Ev _ _ _ _ _ by assumption) | exact eva_nil | exact in_int | exact in_var rfl | exact nm_bl | exact nm_non | exact nm_str | exact wd_non | refine wd_str (by decide +kernel) | refine wd_int (by decide +kernel) | refine wd_lst1 (by assumption) (by decide +kernel) | exact an_c | refine eva_cons se_mon ?_ ?_ | refine eva_cons nm_mon ?_ ?_ | refine eva_cons wd_mon ?_ ?_ | with_reducible apply (eva_cons any_mon) | exact e_nil (by assumption) | exact e_str | exact e_non | exact e_dic (by assumption) | refine e_road (by assumption) ?_ ?_ ?_ | refine e_join (by assumption) ?_ | refine e_tun (by assumption) (by assumption) ?_ ?_ | with_reducible apply e_tunM | with_reducible apply (nw_tup kR) | with_reducible apply e_roadN | with_reducible apply e_joinN | with_reducible apply e_tunL | with_reducible apply e_odd | with_reducible apply e_lst | refine in_add ?_ ?_ | refine in_sub ?_ ?_ | refine in_pow ⟨by decide, by decide⟩ ⟨_, rfl⟩ | with_reducible apply nm_lst | with_reducible apply nm_tup | exact nm_dic (by assumption) | refine nm_in ?_ | exact an_var rfl | with_reducible apply an_tup | with_reducible apply an_lst | refine an_in ?_))) fun ws H2 s2 r2 => ⟨by rw [r2.1]; decide, fun q nq => ⟨F1, q, x1, ws, rfl, rfl, Same.of_upd nq _ _ (s2 _ _ E1), upd_same, small (by rw [l1, r2.1]; decide), fun F2 n2 => ?_⟩⟩⟩
    have t2 : Same G1 (upd (upd H2 q (.lst ws)) F2 (.lst (x1 ++ ws))) := (t1.trans s2).trans ((Same.of_upd nq).trans (Same.of_upd n2))
    have A2 := catS (o := .lst (x1 ++ ws)) s2 A1 r2.2 nq n2
    have E2 : (upd (upd H2 q (.lst ws)) F2 (.lst (x1 ++ ws))) F2 = some (.lst (x1 ++ ws)) := upd_same
    have l2 : (x1 ++ ws).length = 11 := by rw [List.length_append, l1, r2.1]
    generalize upd (upd H2 q (.lst ws)) F2 (.lst (x1 ++ ws)) = K2 at t2 A2 E2 ⊢
    generalize x1 ++ ws = x2 at A2 E2 l2 ⊢
    clear r2 s2 nq n2 A1 E1 l1 w2 o2
    try dsimp only
    have w3 := wv (σ := [some (.ref p), some (.int (h : Int)), some (.int (h : Int)), some (.ref c), some (.ref F2), none]) t2 rfl
    have o3 := o1.mono t2
    refine set_then (i := 4) ⟨_, rfl, lst_then (Z := [p]) (R := AllR (fun H v => SE K C H v) 3) (by (repeat' (first | exact (show Old _ _ by assumption) | exact (show flatV _ = true by rfl) | exact (show _ ≠ V.str _ by decide +kernel) | exact (show (_ : Nat) ≤ _ by decide) | exact (show (_ : Nat) ≠ _ by decide) | exact (show Ev _ _ _ _ _ by assumption) | exact eva_nil | exact in_int | exact in_var rfl | exact nm_bl | exact nm_non | exact nm_str | exact wd_non | refine wd_str (by decide +kernel) | refine wd_int (by decide +kernel) | refine wd_lst1 (by assumption) (by decide +kernel) | exact an_c | refine eva_cons se_mon ?_ ?_ | refine eva_cons nm_mon ?_ ?_ | refine eva_cons wd_mon ?_ ?_ | with_reducible apply (eva_cons any_mon) | exact e_nil (by assumption) | exact e_str | exact e_non | exact e_dic (by assumption) | refine e_road (by assumption) ?_ ?_ ?_ | refine e_join (by assumption) ?_ | refine e_tun (by assumption) (by assumption) ?_ ?_ | with_reducible apply e_tunM | with_reducible apply (nw_tup kR) | with_reducible apply e_roadN | with_reducible apply e_joinN | with_reducible apply e_tunL | with_reducible apply e_odd | with_reducible apply e_lst | refine in_add ?_ ?_ | refine in_sub ?_ ?_ | refine in_pow ⟨by decide, by decide⟩ ⟨_, rfl⟩ | with_reducible apply nm_lst | with_reducible apply nm_tup | exact nm_dic (by assumption) | refine nm_in ?_ | exact an_var rfl | with_reducible apply an_tup | with_reducible apply an_lst | refine an_in ?_))) fun ws H2 s2 r2 => ⟨by rw [r2.1]; decide, fun q nq => ⟨F2, q, x2, ws, rfl, rfl, Same.of_upd nq _ _ (s2 _ _ E2), upd_same, small (by rw [l2, r2.1]; decide), fun F3 n3 => ?_⟩⟩⟩
    have t3 : Same G1 (upd (upd H2 q (.lst ws)) F3 (.lst (x2 ++ ws))) := (t2.trans s2).trans ((Same.of_upd nq).trans (Same.of_upd n3))
    have A3 := catS (o := .lst (x2 ++ ws)) s2 A2 r2.2 nq n3
    have E3 : (upd (upd H2 q (.lst ws)) F3 (.lst (x2 ++ ws))) F3 = some (.lst (x2 ++ ws)) := upd_same
    have l3 : (x2 ++ ws).length = 14 := by rw [List.length_append, l2, r2.1]
    generalize upd (upd H2 q (.lst ws)) F3 (.lst (x2 ++ ws)) = K3 at t3 A3 E3 ⊢
    generalize x2 ++ ws = x3 at A3 E3 l3 ⊢
    clear r2 s2 nq n3 A2 E2 l2 w3 o3
    try dsimp only
    have w4 := wv (σ := [some (.ref p), some (.int (h : Int)), some (.int (h : Int)), some (.ref c), some (.ref F3), none]) t3 rfl
    have o4 := o1.mono t3
    refine set_then (i := 4) ⟨_, rfl, lst_then (Z := [p]) (R := AllR (fun H v => SE K C H v) 3) (by (repeat' (first | exact (show Old _ _ by assumption) | exact (show flatV _ = true by rfl) | exact (show _ ≠ V.str _ by decide +kernel) | exact (show (_ : Nat) ≤ _ by decide) | exact (show (_ : Nat) ≠ _ by decide) | exact (show Ev _ _ _ _ _ by assumption) | exact eva_nil | exact in_int | exact in_var rfl | exact nm_bl | exact nm_non | exact nm_str | exact wd_non | refine wd_str (by decide +kernel) | refine wd_int (by decide +kernel) | refine wd_lst1 (by assumption) (by decide +kernel) | exact an_c | refine eva_cons se_mon ?_ ?_ | refine eva_cons nm_mon ?_ ?_ | refine eva_cons wd_mon ?_ ?_ | with_reducible apply (eva_cons any_mon) | exact e_nil (by assumption) | exact e_str | exact e_non | exact e_dic (by assumption) | refine e_road (by assumption) ?_ ?_ ?_ | refine e_join (by assumption) ?_ | refine e_tun (by assumption) (by assumption) ?_ ?_ | with_reducible apply e_tunM | with_reducible apply (nw_tup kR) | with_reducible apply e_roadN | with_reducible apply e_joinN | with_reducible apply e_tunL | with_reducible apply e_odd | with_reducible apply e_lst | refine in_add ?_ ?_ | refine in_sub ?_ ?_ | refine in_pow ⟨by decide, by decide⟩ ⟨_, rfl⟩ | with_reducible apply nm_lst | with_reducible apply nm_tup | exact nm_dic (by assumption) | refine nm_in ?_ | exact an_var rfl | with_reducible apply an_tup | with_reducible apply an_lst | refine an_in ?_))) fun ws H2 s2 r2 => ⟨by rw [r2.1]; decide, fun q nq => ⟨F3, q, x3, ws, rfl, rfl, Same.of_upd nq _ _ (s2 _ _ E3), upd_same, small (by rw [l3, r2.1]; decide), fun F4 n4 => ?_⟩⟩⟩
    have t4 : Same G1 (upd (upd H2 q (.lst ws)) F4 (.lst (x3 ++ ws))) := (t3.trans s2).trans ((Same.of_upd nq).trans (Same.of_upd n4))
    have A4 := catS (o := .lst (x3 ++ ws)) s2 A3 r2.2 nq n4
    have E4 : (upd (upd H2 q (.lst ws)) F4 (.lst (x3 ++ ws))) F4 = some (.lst (x3 ++ ws)) := upd_same
    have l4 : (x3 ++ ws).length = 17 := by rw [List.length_append, l3, r2.1]
    generalize upd (upd H2 q (.lst ws)) F4 (.lst (x3 ++ ws)) = K4 at t4 A4 E4 ⊢
    generalize x3 ++ ws = x4 at A4 E4 l4 ⊢
    clear r2 s2 nq n4 A3 E3 l3 w4 o4
    try dsimp only
    have w5 := wv (σ := [some (.ref p), some (.int (h : Int)), some (.int (h : Int)), some (.ref c), some (.ref F4), none]) t4 rfl
    have o5 := o1.mono t4
    refine set_then (i := 4) ⟨_, rfl, lst_then (Z := [p]) (R := AllR (fun H v => SE K C H v) 2) (by (repeat' (first | exact (show Old _ _ by assumption) | exact (show flatV _ = true by rfl) | exact (show _ ≠ V.str _ by decide +kernel) | exact (show (_ : Nat) ≤ _ by decide) | exact (show (_ : Nat) ≠ _ by decide) | exact (show Ev _ _ _ _ _ by assumption) | exact eva_nil | exact in_int | exact in_var rfl | exact nm_bl | exact nm_non | exact nm_str | exact wd_non | refine wd_str (by decide +kernel) | refine wd_int (by decide +kernel) | refine wd_lst1 (by assumption) (by decide +kernel) | exact an_c | refine eva_cons se_mon ?_ ?_ | refine eva_cons nm_mon ?_ ?_ | refine eva_cons wd_mon ?_ ?_ | with_reducible apply (eva_cons any_mon) | exact e_nil (by assumption) | exact e_str | exact e_non | exact e_dic (by assumption) | refine e_road (by assumption) ?_ ?_ ?_ | refine e_join (by assumption) ?_ | refine e_tun (by assumption) (by assumption) ?_ ?_ | with_reducible apply e_tunM | with_reducible apply (nw_tup kR) | with_reducible apply e_roadN | with_reducible apply e_joinN | with_reducible apply e_tunL | with_reducible apply e_odd | with_reducible apply e_lst | refine in_add ?_ ?_ | refine in_sub ?_ ?_ | refine in_pow ⟨by decide, by decide⟩ ⟨_, rfl⟩ | with_reducible apply nm_lst | with_reducible apply nm_tup | exact nm_dic (by assumption) | refine nm_in ?_ | exact an_var rfl | with_reducible apply an_tup | with_reducible apply an_lst | refine an_in ?_))) fun ws H2 s2 r2 => ⟨by rw [r2.1]; decide, fun q nq => ⟨F4, q, x4, ws, rfl, rfl, Same.of_upd nq _ _ (s2 _ _ E4), upd_same, small (by rw [l4, r2.1]; decide), fun F5 n5 => ?_⟩⟩⟩
    have t5 : Same G1 (upd (upd H2 q (.lst ws)) F5 (.lst (x4 ++ ws))) := (t4.trans s2).trans ((Same.of_upd nq).trans (Same.of_upd n5))
    have A5 := catS (o := .lst (x4 ++ ws)) s2 A4 r2.2 nq n5
    have E5 : (upd (upd H2 q (.lst ws)) F5 (.lst (x4 ++ ws))) F5 = some (.lst (x4 ++ ws)) := upd_same
    have l5 : (x4 ++ ws).length = 19 := by rw [List.length_append, l4, r2.1]
    generalize upd (upd H2 q (.lst ws)) F5 (.lst (x4 ++ ws)) = K5 at t5 A5 E5 ⊢
    generalize x4 ++ ws = x5 at A5 E5 l5 ⊢
    clear r2 s2 nq n5 A4 E4 l4 w5 o5
    refine ⟨_, rfl, _, rfl, c, _, h, [p], rfl, o1.mono t5, wh.mono (hidS_mono t5), f1, fun D xd H6 s6 eD nD lD aD => ⟨F5, D, x5, xd, rfl, rfl, s6 _ _ E5, eD, small (by omega), fun F6 n6 => ?_⟩⟩
    have t6 : Same G1 (upd H6 F6 (.lst (x5 ++ xd))) := (t5.trans s6).trans (Same.of_upd n6)
    have A6 : ∀ v ∈ x5 ++ xd, SE K C (hidS [p] (upd H6 F6 (.lst (x5 ++ xd)))) v := fun v hv => by
      rcases List.mem_append.mp hv with z | z
      · exact ((A5 v z).mono (hidS_mono s6)).mono (hidS_mono (Same.of_upd n6))
      · exact (aD v z).mono (hidS_mono (Same.of_upd n6))
    have E6 : (upd H6 F6 (.lst (x5 ++ xd))) F6 = some (.lst (x5 ++ xd)) := upd_same
    have l6 : (x5 ++ xd).length ≤ 119 := by rw [List.length_append]; omega
    generalize upd H6 F6 (.lst (x5 ++ xd)) = K6 at t6 A6 E6 ⊢
    generalize x5 ++ xd = x6 at A6 E6 l6 ⊢
    clear s6 eD nD lD aD n6 A5 E5 l5
    try dsimp only
    have w7 := wv (σ := [some (.ref p), some (.int (h : Int)), some (.int (h : Int)), some (.ref c), some (.ref F6), none]) t6 rfl
    have o7 := o1.mono t6
    have c7 : Ev [p] [some (.ref p), some (.int (h : Int)), some (.int (h : Int)), some (.ref c), some (.ref F6), none] K6 (tVar 3) (fun H v => SE K C H v) := ev_imp w7 fun G v q => by
      obtain ⟨c', wy', rfl, wa, _⟩ := q
      obtain ⟨dx, fx, e, _⟩ := head_fld wa
      exact fun g => ⟨_, .no (.base (.ins e T.cl T.iA T.iN T.iT T.iM)) kT⟩
    refine set_then (i := 4) ⟨_, rfl, lst_then (Z := [p]) (R := AllR (fun H v => SE K C H v) 6) (by (repeat' (first | exact (show Old _ _ by assumption) | exact (show flatV _ = true by rfl) | exact (show _ ≠ V.str _ by decide +kernel) | exact (show (_ : Nat) ≤ _ by decide) | exact (show (_ : Nat) ≠ _ by decide) | exact (show Ev _ _ _ _ _ by assumption) | exact eva_nil | exact in_int | exact in_var rfl | exact nm_bl | exact nm_non | exact nm_str | exact wd_non | refine wd_str (by decide +kernel) | refine wd_int (by decide +kernel) | refine wd_lst1 (by assumption) (by decide +kernel) | exact an_c | refine eva_cons se_mon ?_ ?_ | refine eva_cons nm_mon ?_ ?_ | refine eva_cons wd_mon ?_ ?_ | with_reducible apply (eva_cons any_mon) | exact e_nil (by assumption) | exact e_str | exact e_non | exact e_dic (by assumption) | refine e_road (by assumption) ?_ ?_ ?_ | refine e_join (by assumption) ?_ | refine e_tun (by assumption) (by assumption) ?_ ?_ | with_reducible apply e_tunM | with_reducible apply (nw_tup kR) | with_reducible apply e_roadN | with_reducible apply e_joinN | with_reducible apply e_tunL | with_reducible apply e_odd | with_reducible apply e_lst | refine in_add ?_ ?_ | refine in_sub ?_ ?_ | refine in_pow ⟨by decide, by decide⟩ ⟨_, rfl⟩ | with_reducible apply nm_lst | with_reducible apply nm_tup | exact nm_dic (by assumption) | refine nm_in ?_ | exact an_var rfl | with_reducible apply an_tup | with_reducible apply an_lst | refine an_in ?_))) fun ws H2 s2 r2 => ⟨by rw [r2.1]; decide, fun q nq => ⟨F6, q, x6, ws, rfl, rfl, Same.of_upd nq _ _ (s2 _ _ E6), upd_same, small (by rw [r2.1]; omega), fun F7 n7 => ?_⟩⟩⟩
    have t7 : Same G1 (upd (upd H2 q (.lst ws)) F7 (.lst (x6 ++ ws))) := (t6.trans s2).trans ((Same.of_upd nq).trans (Same.of_upd n7))
    have A7 := catS (o := .lst (x6 ++ ws)) s2 A6 r2.2 nq n7
    have E7 : (upd (upd H2 q (.lst ws)) F7 (.lst (x6 ++ ws))) F7 = some (.lst (x6 ++ ws)) := upd_same
    have l7 : (x6 ++ ws).length ≤ 125 := by rw [List.length_append, r2.1]; omega
    generalize upd (upd H2 q (.lst ws)) F7 (.lst (x6 ++ ws)) = K7 at t7 A7 E7 ⊢
    generalize x6 ++ ws = x7 at A7 E7 l7 ⊢
    clear r2 s2 nq n7 A6 E6 l6 w7 o7 c7
    try dsimp only
    have o8 := o1.mono t7
    refine set_then (i := 5) (lst_then (Z := [p]) (R := AllR (fun H v => SE K C H v) 3) (by (repeat' (first | exact (show Old _ _ by assumption) | exact (show flatV _ = true by rfl) | exact (show _ ≠ V.str _ by decide +kernel) | exact (show (_ : Nat) ≤ _ by decide) | exact (show (_ : Nat) ≠ _ by decide) | exact (show Ev _ _ _ _ _ by assumption) | exact eva_nil | exact in_int | exact in_var rfl | exact nm_bl | exact nm_non | exact nm_str | exact wd_non | refine wd_str (by decide +kernel) | refine wd_int (by decide +kernel) | refine wd_lst1 (by assumption) (by decide +kernel) | exact an_c | refine eva_cons se_mon ?_ ?_ | refine eva_cons nm_mon ?_ ?_ | refine eva_cons wd_mon ?_ ?_ | with_reducible apply (eva_cons any_mon) | exact e_nil (by assumption) | exact e_str | exact e_non | exact e_dic (by assumption) | refine e_road (by assumption) ?_ ?_ ?_ | refine e_join (by assumption) ?_ | refine e_tun (by assumption) (by assumption) ?_ ?_ | with_reducible apply e_tunM | with_reducible apply (nw_tup kR) | with_reducible apply e_roadN | with_reducible apply e_joinN | with_reducible apply e_tunL | with_reducible apply e_odd | with_reducible apply e_lst | refine in_add ?_ ?_ | refine in_sub ?_ ?_ | refine in_pow ⟨by decide, by decide⟩ ⟨_, rfl⟩ | with_reducible apply nm_lst | with_reducible apply nm_tup | exact nm_dic (by assumption) | refine nm_in ?_ | exact an_var rfl | with_reducible apply an_tup | with_reducible apply an_lst | refine an_in ?_))) fun x8 H8 s8 r8 => ⟨by rw [r8.1]; decide, fun F8 n8 => ?_⟩)
    have t8 : Same K7 (upd H8 F8 (.lst x8)) := s8.trans (Same.of_upd n8)
    have A8 : ∀ v ∈ x8, SE K C (hidS [p] (upd H8 F8 (.lst x8))) v := fun v hv => (r8.2 v hv).mono (hidS_mono (Same.of_upd n8))
    have E8 : (upd H8 F8 (.lst x8)) F8 = some (.lst x8) := upd_same
    have l8 := r8.1
    generalize upd H8 F8 (.lst x8) = K8 at t8 A8 E8 ⊢
    clear r8 s8 n8 o8
    try dsimp only
    refine ⟨_, rfl, _, rfl, _, rfl, F7, F8, x7, x8, rfl, rfl, t8 _ _ E7, E8, small (by omega), fun F9 n9 => ?_⟩
    have t9 : Same G1 (upd K8 F9 (.lst (x7 ++ x8))) := (t7.trans t8).trans (Same.of_upd n9)
    have A9 : ∀ v ∈ x7 ++ x8, SE K C (hidS [p] (upd K8 F9 (.lst (x7 ++ x8)))) v := fun v hv => by
      rcases List.mem_append.mp hv with z | z
      · exact ((A7 v z).mono (hidS_mono t8)).mono (hidS_mono (Same.of_upd n9))
      · exact (A8 v z).mono (hidS_mono (Same.of_upd n9))
    have E9 : (upd K8 F9 (.lst (x7 ++ x8))) F9 = some (.lst (x7 ++ x8)) := upd_same
    have l9 : (x7 ++ x8).length ≤ 128 := by rw [List.length_append]; omega
    generalize upd K8 F9 (.lst (x7 ++ x8)) = K9 at t9 A9 E9 ⊢
    generalize x7 ++ x8 = x9 at A9 E9 l9 ⊢
    clear t8 n9 A7 E7 l7 A8 E8 l8
    have wA := wv (σ := [some (.ref p), some (.int (h : Int)), some (.int (h : Int)), some (.ref c), some (.ref F7), some (.ref F8)]) t9 rfl
    have oA := o1.mono t9
    refine lst_then (Z := [p]) (R := AllR (fun H v => SE K C H v) 2) (by (repeat' (first | exact (show Old _ _ by assumption) | exact (show flatV _ = true by rfl) | exact (show _ ≠ V.str _ by decide +kernel) | exact (show (_ : Nat) ≤ _ by decide) | exact (show (_ : Nat) ≠ _ by decide) | exact (show Ev _ _ _ _ _ by assumption) | exact eva_nil | exact in_int | exact in_var rfl | exact nm_bl | exact nm_non | exact nm_str | exact wd_non | refine wd_str (by decide +kernel) | refine wd_int (by decide +kernel) | refine wd_lst1 (by assumption) (by decide +kernel) | exact an_c | refine eva_cons se_mon ?_ ?_ | refine eva_cons nm_mon ?_ ?_ | refine eva_cons wd_mon ?_ ?_ | with_reducible apply (eva_cons any_mon) | exact e_nil (by assumption) | exact e_str | exact e_non | exact e_dic (by assumption) | refine e_road (by assumption) ?_ ?_ ?_ | refine e_join (by assumption) ?_ | refine e_tun (by assumption) (by assumption) ?_ ?_ | with_reducible apply e_tunM | with_reducible apply (nw_tup kR) | with_reducible apply e_roadN | with_reducible apply e_joinN | with_reducible apply e_tunL | with_reducible apply e_odd | with_reducible apply e_lst | refine in_add ?_ ?_ | refine in_sub ?_ ?_ | refine in_pow ⟨by decide, by decide⟩ ⟨_, rfl⟩ | with_reducible apply nm_lst | with_reducible apply nm_tup | exact nm_dic (by assumption) | refine nm_in ?_ | exact an_var rfl | with_reducible apply an_tup | with_reducible apply an_lst | refine an_in ?_))) fun ws H2 s2 r2 => ⟨by rw [r2.1]; decide, fun q nq => ⟨F9, q, x9, ws, rfl, rfl, Same.of_upd nq _ _ (s2 _ _ E9), upd_same, small (by rw [r2.1]; omega), fun FB nB => ?_⟩⟩
    have tB : Same G1 (upd (upd H2 q (.lst ws)) FB (.lst (x9 ++ ws))) := (t9.trans s2).trans ((Same.of_upd nq).trans (Same.of_upd nB))
    have AB := catS (o := .lst (x9 ++ ws)) s2 A9 r2.2 nq nB
    have EB : (upd (upd H2 q (.lst ws)) FB (.lst (x9 ++ ws))) FB = some (.lst (x9 ++ ws)) := upd_same
    have lB : (x9 ++ ws).length ≤ 130 := by rw [List.length_append, r2.1]; omega
    have lC : 1 ≤ (x9 ++ ws).length := by rw [List.length_append, r2.1]; omega
    have aB : S.At (upd (upd H2 q (.lst ws)) FB (.lst (x9 ++ ws))) p := (Bt.same tB a1).2
    have nB2 : FB ≠ p := fun z => by
      obtain ⟨r, m, e, _⟩ := ((Bt.same ((t9.trans s2).trans (Same.of_upd (o := .lst ws) nq)) a1).2 : S.At (upd H2 q (.lst ws)) p)
      rw [z, e] at nB
      cases nB
    generalize upd (upd H2 q (.lst ws)) FB (.lst (x9 ++ ws)) = KB at tB AB EB aB ⊢
    generalize x9 ++ ws = xB at AB EB lB lC
    obtain ⟨r0, m0, e0, f0⟩ := aB
    refine ⟨p, FB, r0, m0, xB, rfl, e0, f0, nB2, SqL.of EB, lC, by omega, fun j x r' m' f' hx => ?_⟩
    have bf : Bt p KB (upd KB p (.lst (S.Two r' m'))) := Bt.put f'
    refine kk x _ (((Bt.same S1 hp).trans (Bt.same tB a1)).trans bf) ?_
    rw [hidS_put List.mem_cons_self]
    exact AB x (List.mem_of_getElem? hx)
end
end WP

end
section
set_option autoImplicit false
set_option Elab.async false
set_option linter.all false
set_option maxRecDepth 100000
set_option maxHeartbeats 4000000
set_option pp.maxSteps 900
/-! ## {k: v} with a tuple for a key -/
namespace DTP
open PySem PySem.Spec PyProof.Rows L2
def tDispT (tk tv : TE) : TE := fun σ H Q => ∀ p, H p = none → tPairs [(tk, tv)] σ (upd H p (.dT [])) fun ps H2 => H2 p = some (.dT []) ∧ ∃ (b : Addr) (k : List Key) (y : V), ps = [(.ref b, y)] ∧ H2 b = some (.tup (k.map kV)) ∧ Q (.ref p) (upd H2 p (.dT [(k, y)]))
theorem pe_dispT {X : Cx} {pos : Pos} {k v : Expr} {tk tv : TE} (hu : X.A.units + 1 < cLine) (hk : PE X k tk) (hv : PE X v tv) : PE X (.Dict [some k] [v] pos) (tDispT tk tv) := by
  refine ⟨fun pins s σ H Q I q => ?_⟩
  have hn := I.hok.fresh (Nat.le_refl s.heap.objs.size)
  have I1 := I.laid (a := s.heap.objs.size) (o := .dT []) (h' := s.heap.push { cls := .type "dict", data := .dict #[] }) (t' := s.toks) (fun _ _ q => Heap.get?_push_of_some _ q) (Nat.le_refl _) (dt_empty s.heap I.big)
  have hs := zip_pairTrees [some k] [v] X.env pos rfl rfl
  show wpAny (model X.prog X.w) X.A (eval (.Dict [some k] [v] pos) X.env) _ _ _
  rw [arm_eval_Dict, hs, dictDisplay_pairs (pairTrees [some k] [v] X.env pos) (by simp [pairTrees]) (by simp [pairTrees])]
  refine wpAny_bind (wpAny_standAt (wpAny_bind (wpAny_subDictH (knd := tupleKind (mixKind X.prog X.w)) (show X.A.units < cLine by omega) (by simp [pairTrees]) (thn ((pps_cons hk hv pps_nil).run pins _ σ _ _ I1 (q _ hn)) fun ws s2 ⟨ps, H2, I2, rel, e, b, ks, y, ep, eb, q2⟩ => ?_))))
  subst ep
  cases rel with
  | @cons p0 w0 ps0 ws0 h0 t0 =>
  cases t0
  obtain ⟨u, r⟩ := w0
  obtain ⟨ru, rr⟩ := h0
  cases (show u = Value.ref b from ru)
  obtain ⟨z, hd, xs, rk, dd⟩ := dt_of I2.hok e
  cases rk
  refine ⟨[(ks, b, r)], ⟨rfl, rfl, key_of I2.hok eb, trivial⟩, dd, fun h' tk dd' hs' => wpAny_pure ⟨.ref s.heap.objs.size, _, ?_, rfl, q2⟩⟩
  obtain ⟨o, es, ep, ho, h2, h3, h4, _, h5⟩ := dd'
  have nb : b ≠ s.heap.objs.size := fun z => by
    rw [z, e] at eb
    cases eb
  exact d_write I2 (by rw [e]; exact True.intro) hs' ⟨o, ho⟩ ⟨(by show 1 ≤ sizeLine; decide), hd, [(ks, b, r)], .cons ⟨rfl, by rw [upd_ne nb]; exact eb, rr⟩ .nil, o, es, ep, ho, h2, h3, h4, h5⟩
end DTP
namespace LN
open PySem PySem.Spec PyProof.Rows L2 G
/-- flat, or an object: the same value is equal to itself -/
def IdV (v : V) : Prop := flatV v = true ∨ ∃ a, v = .ref a
theorem id_eq {A : Around} {s : Shared} {x : V} {u v : Value} (h : IdV x) (rx : RelV x u) (ry : RelV x v) : SeqAt.EqAt A s u v true := by
  rcases h with f | ⟨a, rfl⟩
  · have q := eqAt_V (A := A) (s := s) rx ry f f
    have e : eqV x x = true := by cases x <;> simp [eqV, flatV] at f ⊢
    rw [e] at q
    exact q
  · cases (show u = Value.ref a from rx)
    cases (show v = Value.ref a from ry)
    exact SeqAt.EqAt.same _
/-- x != y of two lists, or two tuples, of the same values -/
def rNeI (K : PySem.W.Frag) : R2 := fun x y H Q => ∃ (a b : Addr) (xs : List V), x = .ref a ∧ y = .ref b ∧ ((SqL K H a xs ∧ SqL K H b xs) ∨ (SqT K H a xs ∧ SqT K H b xs)) ∧ (∀ v ∈ xs, IdV v) ∧ Q (.bl false) H
theorem items_id {A : Around} {s : Shared} {xs : List V} {ia ib : List Value} (ra : Vals xs ia) (rb : Vals xs ib) (h : ∀ v ∈ xs, IdV v) : ∀ j (h1 : j < ia.toArray.size) (h2 : j < ib.toArray.size), SeqAt.EqAt A s ia.toArray[j] ib.toArray[j] true := fun j h1 h2 => by
  have l1 : j < xs.length := by rw [ra.length]; simpa using h1
  obtain ⟨u, hu, ru⟩ := ra.get (List.getElem?_eq_getElem l1)
  obtain ⟨v, hv, rv⟩ := rb.get (List.getElem?_eq_getElem l1)
  have g1 : ia[j]? = some ia.toArray[j] := by simp
  have g2 : ib[j]? = some ib.toArray[j] := by simp
  rw [g1] at hu
  rw [g2] at hv
  rw [Option.some.inj hu, Option.some.inj hv]
  exact id_eq (h _ (List.getElem_mem l1)) ru rv
theorem op_neI {X : Cx} (hu : X.A.units < cLine) : OpR X (compareOp .NotEq) (rNeI X.K) := by
  intro pins s σ H x y v u Q I rx ry h
  obtain ⟨a, b, xs, rfl, rfl, hh, hi, q⟩ := h
  cases (show v = Value.ref a from rx)
  cases (show u = Value.ref b from ry)
  rcases hh with ⟨ha, hb⟩ | ⟨ha, hb⟩
  · obtain ⟨ia, ra, la, _⟩ := I.list ha
    obtain ⟨ib, rb, lb, _⟩ := I.list hb
    have hz : ia.toArray.size = ib.toArray.size := by rw [List.size_toArray, List.size_toArray, ← ra.length, ← rb.length]
    refine SeqAt.RcNeAt.lists (e := fun _ => true) la.isList lb.isList hz hu (items_id ra rb hi) _ _ _ _ ?_
    rw [show ((List.range ia.toArray.size).all fun _ => true) = true from List.all_eq_true.mpr fun _ _ => rfl]
    exact ⟨.bl false, H, I, rfl, q⟩
  · obtain ⟨ia, ra, la, _⟩ := I.tuple ha
    obtain ⟨ib, rb, lb, _⟩ := I.tuple hb
    have hz : ia.toArray.size = ib.toArray.size := by rw [List.size_toArray, List.size_toArray, ← ra.length, ← rb.length]
    refine SeqAt.RcNeAt.tuples (e := fun _ => true) la lb hu (items_id ra rb hi) _ _ _ _ ?_
    rw [show ((List.range (min ia.toArray.size ib.toArray.size)).all fun _ => true) = true from List.all_eq_true.mpr fun _ _ => rfl, hz]
    simp only [beq_self_eq_true, Bool.and_self, Bool.not_true]
    exact ⟨.bl false, H, I, rfl, q⟩
end LN

end
section
set_option autoImplicit false
set_option Elab.async false
set_option linter.all false
set_option maxRecDepth 100000
set_option maxHeartbeats 4000000
set_option pp.maxSteps 900
/-! ## {tuple: v} != itself -/
namespace DTP
open PySem PySem.W PySem.Calls PyProof.Rows PySem.Spec L2
section
variable {prog : Program} {w : World} {A : Around} {E : Value → Shared → Prop} {s : Shared} {K : Type} [DecidableEq K] {knd : HeapKind prog w K}
theorem same_one {nm : String} {d b : Addr} {k : K} {r : Value} {Q : Bool → Shared → Prop} (hd : (d == sysModules) = false) (dd : s.heap.DictOfH knd d [(k, b, r)]) (hu : knd.room A) (he : SeqAt.EqAt A s r r true) (h : Q true s) : wpAny (model prog w) A (Builtin.Dict.samePairs nm d d) Q E s := by
  obtain ⟨o, ⟨l⟩, ep, ho, hc, hda, hl, his, hn⟩ := dd
  have hl : l = [entryOfKey knd (k, b, r)] := hl
  subst hl
  have hkey := his _ List.mem_cons_self
  unfold Builtin.Dict.samePairs Builtin.Dict.showsAll
  rw [if_neg (show ¬ (d == sysModules) = true by rw [hd]; exact Bool.false_ne_true)]
  refine wpAny_bind (wpAny_pure (wpAny_bind (wpAny_pure ?_)))
  refine wpAny_bind (wpAny_dictEntries ho hda ?_)
  dsimp only
  refine wpAny_bind (wpAny_dictEntries ho hda ?_)
  rw [if_neg (by simp)]
  refine wpAny_bind (wpAny_dictEpoch ho hda ?_)
  refine wpAny_bind ?_
  rw [Std.Legacy.Range.forIn_eq_forIn_range']
  simp only [Std.Legacy.Range.size, Nat.sub_zero, Nat.add_sub_cancel, Nat.div_one]
  refine wpAny_forIn_list _ (fun rest q s' => s' = s ∧ q = (none, ()) ∧ (rest = [0] ∨ rest = [])) _ ?_ ?_ _ _ ⟨rfl, rfl, .inl rfl⟩
  · rintro x rest q s' ⟨rfl, rfl, hr | hr⟩
    · injection hr with h1 h2
      subst h1 h2
      refine wpAny_bind (wpAny_dictEntries ho hda ?_)
      show wpAny _ _ (holding [(entryOfKey knd (k, b, r)).key, (entryOfKey knd (k, b, r)).val] _ >>= _) _ _ _
      refine wpAny_bind (wpAny_holding (wpAny_bind (wpAny_dictFind_heap hu hkey ho hda rfl his hn (fun hh => absurd rfl (hh 0 (b, r))) fun j p hj => ?_)))
      have j0 : j = 0 := by
        cases j with
        | zero => rfl
        | succ j => cases hj
      subst j0
      refine wpAny_bind (wpAny_dictEntries ho hda ?_)
      refine wpAny_holding (he prog w _ _ ?_)
      rw [if_neg (by decide)]
      refine wpAny_bind (wpAny_dictEpoch ho hda ?_)
      rw [if_neg (by simp)]
      exact wpAny_pure ⟨rfl, rfl, .inr rfl⟩
    · cases hr
  · rintro q s' ⟨rfl, rfl, hr | hr⟩
    · cases hr
    · exact wpAny_pure h
theorem ne_one {d b : Addr} {k : K} {r : Value} {Q : Value → Shared → Prop} (hd : (d == sysModules) = false) (dd : s.heap.DictOfH knd d [(k, b, r)]) (hu : A.units < cLine) (hr : knd.room A.in1) (he : SeqAt.EqAt A.in1 s r r true) (h : Q (.bool false) s) : wpAny (model prog w) A (compareOp .NotEq (.ref d) (.ref d)) Q E s := by
  refine wpAny_richCompare_same_room (op := .NotEq) dd.typeIs dd.typeIs PySem.F.slot_dict_ne (wpAny_call_entry PySem.F.slot_dict_ne dd.typeIs PySem.F.entry_dict_ne ?_ (PySem.F.args_dict_ne_2 _ _)) hu
  show wpAny _ _ (Builtin.Dict.dictSlotArgs "__ne__" ⟨[.ref d, .ref d], []⟩ >>= _) _ _ s
  refine wpAny_bind ?_
  unfold Builtin.Dict.dictSlotArgs
  refine wpAny_bind (wpAny_notOrdered_dict dd.typeIs ?_)
  show wpAny _ _ (pure (Value.ref d, Value.ref d)) _ _ s
  refine wpAny_pure ?_
  refine wpAny_bind (wpAny_isInstance (T := "dict") dd.typeIs PySem.F.sub_dict_dict ?_)
  simp only [Bool.not_true, Bool.false_eq_true, if_false]
  refine wpAny_bind (wpAny_pure (wpAny_bind (wpAny_pure ?_)))
  refine wpAny_bind (same_one hd dd hr he ?_)
  refine wpAny_pure ⟨_, rfl, ?_, ?_⟩
  · exact fun x => nomatch x
  · simpa using h
end
/-- d != d, d a dict of one tuple key -/
def rNeT : R2 := fun x y H Q => ∃ (a : Addr) (k : List Key) (v : V), x = .ref a ∧ y = .ref a ∧ H a = some (.dT [(k, v)]) ∧ LN.IdV v ∧ Q (.bl false) H
theorem op_neT {X : Cx} (hu : X.A.units + 1 < cLine) : OpR X (compareOp .NotEq) rNeT := by
  intro pins s σ H x y v u Q I rx ry h
  obtain ⟨a, k, z, rfl, rfl, e, hv, q⟩ := h
  cases (show v = Value.ref a from rx)
  cases (show u = Value.ref a from ry)
  obtain ⟨_, hd, xs, rk, dd⟩ := dt_of I.hok e
  cases rk with
  | @cons p0 q0 ps qs h0 t0 =>
  cases t0
  obtain ⟨k', b, r⟩ := q0
  obtain ⟨e1, _, rr⟩ := h0
  exact ne_one (knd := tupleKind (mixKind X.prog X.w)) hd dd (by omega) (tupleKind_room_in1 hu) (LN.id_eq hv rr rr) ⟨.bl false, H, I, rfl, q⟩
end DTP

end
section
set_option autoImplicit false
set_option Elab.async false
set_option linter.all false
set_option maxRecDepth 100000
set_option maxHeartbeats 4000000
set_option pp.maxSteps 900
/-! ## _law_couple -/
namespace WP
open PySem L2 G
abbrev sLCouple : Stmt := top 44
abbrev NCp : List Str := ["source", "rows", "whole", "head", "steps", "way", "place"]
theorem scCp : FnScope NCp ["source"] (defScope sLCouple) := ⟨rfl, rfl, rfl, by decide +kernel, rfl, by decide +kernel, by decide +kernel⟩
/-- heads as the law gives them -/
inductive HdK (H0 H : Hp) : V → Prop
  | flat {v : V} : flatV v = true → HdK H0 H v
  | lst {a : Addr} : H0 a = none → H a = some (.lst [.int 3]) → HdK H0 H (.ref a)
  | tup {a : Addr} : H a = some (.tup [.int 3]) → HdK H0 H (.ref a)
  | dic {a : Addr} : H a = some (.dK []) → HdK H0 H (.ref a)
/-- steps as the law gives them -/
inductive SvK (K : PySem.W.Frag) (C p : Addr) (H0 H : Hp) : V → Prop
  | flat {v : V} : flatV v = true → SvK K C p H0 H v
  | lst {l : Addr} {xs : List V} : l ≠ p → H0 l = none → H l = some (.lst xs) → xs.length ≤ 1000 → (∀ x ∈ xs, SE K C (hidS [p] H) x) → SvK K C p H0 H (.ref l)
  | tup {l : Addr} {xs : List V} : H l = some (.tup xs) → xs.length ≤ 1000 → (∀ x ∈ xs, SE K C (hidS [p] H) x) → SvK K C p H0 H (.ref l)
  | dic {a : Addr} : H a = some (.dK []) → SvK K C p H0 H (.ref a)
  | dct {a : Addr} {k : List Key} : H a = some (.dT [(k, .int 1)]) → SvK K C p H0 H (.ref a)
  | way {c : Addr} {wy : M.Way} : WayAt C (hidS [p] H) wy c → wy.fine → SvK K C p H0 H (.ref c)
theorem HdK.mono {H0 H H' : Hp} (s : Same H H') {v : V} (h : HdK H0 H v) : HdK H0 H' v := by
  cases h with
  | flat f => exact .flat f
  | lst n e => exact .lst n (s _ _ e)
  | tup e => exact .tup (s _ _ e)
  | dic e => exact .dic (s _ _ e)
theorem SvK.mono {K : PySem.W.Frag} {C p : Addr} {H0 H H' : Hp} (s : Same H H') {v : V} (h : SvK K C p H0 H v) : SvK K C p H0 H' v := by
  cases h with
  | flat f => exact .flat f
  | lst n f e l a => exact .lst n f (s _ _ e) l fun x hx => (a x hx).mono (hidS_mono s)
  | tup e l a => exact .tup (s _ _ e) l fun x hx => (a x hx).mono (hidS_mono s)
  | dic e => exact .dic (s _ _ e)
  | dct e => exact .dct (s _ _ e)
  | way w f => exact .way (w.mono (hidS_mono s)) f
theorem HdK.drw {p : Addr} {H0 G G' : Hp} {v : V} (hp : S.At G p) (b : Bt p G G') (h : HdK H0 G v) : HdK H0 G' v := by
  obtain ⟨r, m, e0, _⟩ := hp
  cases h with
  | flat f => exact .flat f
  | lst n e => exact .lst n (b.1 _ _ (fun z => by rw [z, e0] at e; cases e) e)
  | tup e => exact .tup (b.1 _ _ (fun z => by rw [z, e0] at e; cases e) e)
  | dic e => exact .dic (b.1 _ _ (fun z => by rw [z, e0] at e; cases e) e)
theorem SvK.drw {K : PySem.W.Frag} {C p : Addr} {H0 G G' : Hp} {v : V} (hp : S.At G p) (b : Bt p G G') (h : SvK K C p H0 G v) : SvK K C p H0 G' v := by
  obtain ⟨r, m, e0, _⟩ := hp
  cases h with
  | flat f => exact .flat f
  | lst n f e l a => exact .lst n f (b.1 _ _ n e) l fun x hx => (a x hx).mono (hid_drw b)
  | tup e l a => exact .tup (b.1 _ _ (fun z => by rw [z, e0] at e; cases e) e) l fun x hx => (a x hx).mono (hid_drw b)
  | dic e => exact .dic (b.1 _ _ (fun z => by rw [z, e0] at e; cases e) e)
  | dct e => exact .dct (b.1 _ _ (fun z => by rw [z, e0] at e; cases e) e)
  | way w f => exact .way (w.mono (hid_drw b)) f
theorem hidS_un {Z : List Addr} {H : Hp} {a : Addr} {o : HO} (e : hidS Z H a = some o) : H a = some o := by
  unfold hidS at e
  by_cases q : a ∈ Z
  · rw [if_pos q] at e
    cases e
  · rw [if_neg q] at e
    exact e
theorem SvK.live {K : PySem.W.Frag} {C p a : Addr} {H0 G : Hp} (h : SvK K C p H0 G (.ref a)) (n : G a = none) : False := by
  cases h with
  | flat f => cases f
  | lst _ _ e _ _ => rw [n] at e; cases e
  | tup e _ _ => rw [n] at e; cases e
  | dic e => rw [n] at e; cases e
  | dct e => rw [n] at e; cases e
  | way w f =>
    obtain ⟨da, fa, a1, a2⟩ := head_fld w
    have := hidS_un a1
    rw [n] at this
    cases this
theorem hid0 {H : Hp} : hidS [] H = H := funext fun a => by
  unfold hidS
  rw [if_neg (fun q => by cases q)]
theorem se_step {K : PySem.W.Frag} {C : Addr} {H : Hp} {h : Nat} {v : V} : ∀ {st : M.Step}, StepAt C H st v → M.Step.fine h st → SE K C H v
  | .road n ts lw, a, f, g => by
    unfold StepAt at a
    obtain ⟨t, rfl, ha⟩ := a
    exact ⟨_, StB.road (b := decide (((g + 1 : Nat) : Int) ≤ (n : Int) ∧ (n : Int) ≤ 1000)) ha (.inl ⟨_, rfl, rfl⟩) (.str _) (sd_shp ts) (.str _) (lw_shp lw)⟩
  | .join n, a, f, g => by
    unfold StepAt at a
    unfold M.Step.fine at f
    obtain ⟨t, rfl, ha⟩ := a
    exact ⟨_, .join ha (nm_int (by omega) (by omega))⟩
  | .tunnel w n tw, a, f, g => by
    unfold StepAt at a
    unfold M.Step.fine at f
    obtain ⟨t, c, rfl, ha, hc⟩ := a
    exact ⟨_, StB.tun ha hc f.1 (nm_int (by omega) (by omega)) (.str _) (tw_shp tw)⟩
theorem jgo {X : TS} {D : Ends} {J : St → Hp → Prop} {σ : St} {G : Hp} (j : J σ G) (h : ∀ σ G, J σ G → X D σ G) : X D σ G := h _ _ j
theorem mem_cut {xs : List V} {lo hi : Option Int} {x : V} (h : x ∈ cutV xs lo hi) : x ∈ xs := by
  unfold cutV at h
  exact List.mem_of_mem_drop (List.mem_of_mem_take h)
theorem fr_of {p q : Addr} {H G : Hp} (hp : S.At H p) (b : Bt p H G) (n : G q = none) : H q = none := by
  have ne := at_ne b.2 n
  cases e : H q with
  | none => rfl
  | some o =>
    rw [b.1 q o ne e] at n
    cases n
def FH (H0 G0 : Hp) : Hp → V → Prop := fun H v => HdK H0 H v ∧ ∀ a, v = .ref a → G0 a = none
def FS (K : PySem.W.Frag) (C p : Addr) (H0 : Hp) : Hp → V → Prop := fun H v => SvK K C p H0 H v
theorem fh_mon {H0 G0 : Hp} : MonR (FH H0 G0) := fun s q => ⟨q.1.mono s, q.2⟩
theorem fs_mon {K : PySem.W.Frag} {C p : Addr} {H0 : Hp} : MonR (FS K C p H0) := fun s q => SvK.mono s q
theorem old_nil {H : Hp} : Old [] H := fun M hM => by cases hM
theorem none_of {H H' : Hp} {a : Addr} (s : Same H H') (n : H' a = none) : H a = none := by
  cases e : H a with
  | none => rfl
  | some o =>
    rw [s _ _ e] at n
    cases n
section
variable {K : PySem.W.Frag} {C p : Addr} {σ : St} {H0 G : Hp} {t : TE}
theorem fh_c {v : V} (f : flatV v = true) : Ev [] σ G (tC v) (FH H0 G) := ev_c fun _ => ⟨.flat f, fun a e => by rw [e] at f; cases f⟩
theorem fh_in (h : Ev [] σ G t InV) : Ev [] σ G t (FH H0 G) := ev_imp h fun _ _ e => by
  obtain ⟨i, rfl⟩ := e
  exact ⟨.flat rfl, fun a e => by cases e⟩
theorem fh_tup : Ev [] σ G (tTup (tCons (tC (.int 3)) tNil)) (FH H0 G) := fun H Q s q => ⟨(by show 1 ≤ sizeLine; decide), fun p np => q _ _ (Same.of_upd np) ⟨.tup (old_nil.put np), fun a e => by cases e; exact none_of s np⟩⟩
theorem fh_lst (hp : S.At H0 p) (b : Bt p H0 G) : Ev [] σ G (tLst (tCons (tC (.int 3)) tNil)) (FH H0 G) := fun H Q s q => ⟨(by show 1 ≤ sizeLine; decide), fun p np => q _ _ (Same.of_upd np) ⟨.lst (fr_of hp b (none_of s np)) (old_nil.put np), fun a e => by cases e; exact none_of s np⟩⟩
theorem fh_dic : Ev [] σ G tDNewK (FH H0 G) := fun H Q s q p np => q _ _ (Same.of_upd np) ⟨.dic (old_nil.put np), fun a e => by cases e; exact none_of s np⟩
theorem fs_c {v : V} (f : flatV v = true) : Ev [] σ G (tC v) (FS K C p H0) := ev_c fun _ => .flat f
theorem fs_lst (h0 : S.At H0 p) (b : Bt p H0 G) : Ev [] σ G (tLst tNil) (FS K C p H0) := fun H Q s q => ⟨(by show 0 ≤ sizeLine; decide), fun a np => q _ _ (Same.of_upd np) (.lst (at_ne (Bt.same s b.2).2 np) (fr_of h0 b (none_of s np)) (old_nil.put np) (by decide) fun x hx => by cases hx)⟩
theorem fs_tup : Ev [] σ G (tTup tNil) (FS K C p H0) := fun H Q s q => ⟨(by show 0 ≤ sizeLine; decide), fun a np => q _ _ (Same.of_upd np) (.tup (old_nil.put np) (by decide) fun x hx => by cases hx)⟩
theorem fs_dic : Ev [] σ G tDNewK (FS K C p H0) := fun H Q s q a np => q _ _ (Same.of_upd np) (.dic (old_nil.put np))
theorem fs_var {i : Nat} {v : V} (hσ : σ[i]? = some (some v)) (h : FS K C p H0 G v) : Ev [] σ G (tVar i) (FS K C p H0) := ev_var hσ fs_mon h
end
theorem se_tun {K : PySem.W.Frag} {C : Addr} {H : Hp} {wy : M.Way} {t c : Addr} {n : Int} {tw : M.TW} (ha : H t = some (.tup [.str "tunnel", .ref c, .int n, .str (twS tw)])) (hc : WayAt C H wy c) (f : wy.fine) (a : 1 ≤ n) (b : n ≤ 12) : SE K C H (.ref t) := fun g => ⟨_, StB.tun ha hc f (nm_int a (by omega)) (.str _) (tw_shp tw)⟩
def HS (K : PySem.W.Frag) (C p : Addr) (H0 G : Hp) (hd sv : V) : Prop := HdK H0 G hd ∧ SvK K C p H0 G sv ∧ ∀ a, hd = .ref a → sv = .ref a → False
def Jc (K : PySem.W.Frag) (C p wc L : Addr) (H : Hp) (wy : M.Way) (rv : V) (xs : List V) (d pl : Int) (k : Int) : St → Hp → Prop := fun σ G => ∃ hd sv, σ = [some (.ref p), some rv, some (.ref wc), some hd, some sv, some (.int d), some (.int pl)] ∧ Bt p H G ∧ WayAt C (hidS [p] G) wy wc ∧ HS K C p H G hd sv ∧
  (k ≤ d → hd = .int ((wy.head : Nat) : Int) ∧ sv = .ref L ∧ G L = some (.lst xs) ∧ ∀ x ∈ xs, SE K C (hidS [p] G) x)
section
variable {P : Program} {w : World} {K : PySem.W.Frag} {mg : Str → Option Value} {base : Heap} {C : Addr}
def spCouple (K : PySem.W.Frag) (C : Addr) : Sp := fun vs H Q _ => ∃ p : Addr, vs = [.ref p] ∧ S.At H p ∧ ∀ t hd sv H', Bt p H H' → H' t = some (.tup [hd, sv]) → HS K C p H H' hd sv → Q (.ref t) H'
theorem ok_lcouple {f : Addr} {fd : FuncData} (F : Fun K "_law_couple" "_law_couple" sLCouple f fd) (B : Y.Bn mg) (T : Wt K mg C) (DR : Df P w K mg base 6 "_law_rows" ["source", "depth", "many"] (spLRows 3)) (DM : Df P w K mg base 11 "_law_made" ["rows"] (spLMade C 3)) (DD : Df P w K mg base 1 "_law_draw" ["source", "span"] S.spDraw) (PK : Df P w K mg base 2 "_law_pick" ["source", "items"] (S.spPick K)) (DO : Df P w K mg base 8 "_law_odd_step" ["source", "head"] (spOddS K C)) : FnOk P w K mg base CX0 12 f fd ["source"] (spCouple K C) := by
  obtain ⟨fR, fdR, GR, gR, kR, bR⟩ := DR.ex
  obtain ⟨fM, fdM, GM, gM, kM, bM⟩ := DM.ex
  obtain ⟨fD, fdD, GD, gD, kD, bD⟩ := DD.ex
  obtain ⟨fP, fdP, GP, gP, kP, bP⟩ := PK.ex
  obtain ⟨fO, fdO, GO, gO, kO, bO⟩ := DO.ex
  refine F.ok scCp (fun vs H Q E h => ?_) (fun cdv A outer s H vs Q E hr h => ?_)
  · obtain ⟨p, rfl, _⟩ := h
    rfl
  · obtain ⟨p, rfl, hp, kk⟩ := h
    refine ⟨_, pss_cons (ps_set (i := 1) scCp.nd rfl (Or.inl rfl) (pe_call GR (hr.mono (by decide)) rfl gR kR bR .nil pass0 (pa_cons (pv 0) (pa_cons (pe_int) (pa_cons (pe_int) pa_nil)))))
      (pss_cons (ps_set (i := 2) scCp.nd rfl (Or.inl rfl) (pe_call GM (hr.mono (by decide)) rfl gM kM bM .nil pass0 (pa_cons (pv 1) pa_nil)))
      (pss_cons (ps_par3 (i := 3) (j := 4) (l := 5) rfl scCp.nd rfl rfl rfl (by decide) (by decide) (by decide) rfl rfl rfl (pa_cons (pe_fld (pv 2) rfl) (pa_cons (pe_callTy call_list_of (by rfl) B.list (by decide +kernel) (pa_cons (pe_fld (pv 2) rfl) pa_nil)) (pa_cons (pe_call GD (hr.mono (by decide)) rfl gD kD bD .nil pass0 (pa_cons (pv 0) (pa_cons (pe_int) pa_nil))) pa_nil))) (by rfl))
      (pss_cons (ps_set (i := 6) scCp.nd rfl (Or.inl rfl) (pe_call GD (hr.mono (by decide)) rfl gD kD bD .nil pass0 (pa_cons (pv 0) (pa_cons (pe_op (op_add) (pe_callB call_len_seq (by rfl) B.len PySem.boot_len (pa_cons (pv 4) pa_nil)) (pe_int)) pa_nil))))
      (pss_cons (ps_if (pt_cmpR (op_eq) (pv 5) (pe_int) (nomark _)) (pss_one (ps_set (i := 4) scCp.nd rfl (Or.inl rfl) (pe_op (op_cat) (pe_op (op_cat) (pe_slice sl_list (pv 4) po_none (po_some (pv 6))) (pe_lst (pa_cons (pe_call GO (hr.mono (by decide)) rfl gO kO bO .nil pass0 (pa_cons (pv 0) (pa_cons (pv 3) pa_nil))) pa_nil))) (pe_slice sl_list (pv 4) (po_some (pe_op (op_add) (pv 6) (pe_call GD (hr.mono (by decide)) rfl gD kD bD .nil pass0 (pa_cons (pv 0) (pa_cons (pe_int) pa_nil))))) po_none)))) (pss_nil))
      (pss_cons (ps_if (pt_cmpR (op_eq) (pv 5) (pe_int) (nomark _)) (pss_cons (ps_set (i := 4) scCp.nd rfl (Or.inl rfl) (pe_op (op_rep) (pv 4) (pe_call GP (hr.mono (by decide)) rfl gP kP bP .nil pass0 (pa_cons (pv 0) (pa_cons (pe_lst (pa_cons (pe_int) (pa_cons (pe_int) (pa_cons (pe_int) (pa_cons (pe_int) pa_nil))))) pa_nil)))))
      (pss_one (ps_if (pt_cmpR (op_eq) (pe_call GD (hr.mono (by decide)) rfl gD kD bD .nil pass0 (pa_cons (pv 0) (pa_cons (pe_int) pa_nil))) (pe_int) (nomark _)) (pss_one (ps_set (i := 4) scCp.nd rfl (Or.inl rfl) (pe_op (op_cat) (pe_op (op_cat) (pe_slice sl_list (pv 4) po_none (po_some (pv 6))) (pe_lst (pa_cons (pe_call GO (hr.mono (by decide)) rfl gO kO bO .nil pass0 (pa_cons (pv 0) (pa_cons (pv 3) pa_nil))) pa_nil))) (pe_slice sl_list (pv 4) (po_some (pv 6)) po_none)))) (pss_nil)))) (pss_nil))
      (pss_cons (ps_if (pt_cmpR (op_eq) (pv 5) (pe_int) (nomark _)) (pss_one (ps_set (i := 3) scCp.nd rfl (Or.inl rfl) (pe_call GP (hr.mono (by decide)) rfl gP kP bP .nil pass0 (pa_cons (pv 0) (pa_cons (pe_lst (pa_cons (pe_int) (pa_cons (pe_int) (pa_cons (pe_non) (pa_cons (pe_bl) (pa_cons (pe_str) (pa_cons (pe_op (op_sub) (pe_int) (pe_int)) (pa_cons (pe_int) (pa_cons (pe_op (op_powN) (pe_int) (pe_int)) (pa_cons (pe_tup (pa_cons (pe_int) pa_nil)) pa_nil)))))))))) pa_nil))))) (pss_nil))
      (pss_cons (ps_if (pt_cmpR (op_eq) (pv 5) (pe_int) (nomark _)) (pss_one (ps_set (i := 4) scCp.nd rfl (Or.inl rfl) (pe_call GP (hr.mono (by decide)) rfl gP kP bP .nil pass0 (pa_cons (pv 0) (pa_cons (pe_lst (pa_cons (pe_non) (pa_cons (pe_lst pa_nil) (pa_cons (pe_tup pa_nil) (pa_cons (pe_str) (pa_cons (pe_int) (pa_cons (pe_dnewK) (pa_cons (pe_bl) (pa_cons (pe_callTy call_tuple_of (by rfl) B.tuple (by decide +kernel) (pa_cons (pv 4) pa_nil)) (pa_cons (DTP.pe_dispT (Nat.lt_of_le_of_lt (Nat.add_le_add_left (show 1 ≤ 64 by decide) _) hr.units) (pe_tup (pa_cons pe_str (pa_cons pe_int pa_nil))) pe_int) (pa_cons (pe_str) (pa_cons (pv 2) pa_nil)))))))))))) pa_nil))))) (pss_nil))
      (pss_cons (ps_if (pt_cmpR (op_eq) (pv 5) (pe_int) (nomark _)) (pss_one (ps_set (i := 4) scCp.nd rfl (Or.inl rfl) (pe_op (op_cat) (pv 4) (pe_slice sl_list (pe_lst (pa_cons (pe_tup (pa_cons (pe_str) (pa_cons (pv 2) (pa_cons (pe_int) (pa_cons (pe_str) pa_nil))))) (pa_cons (pe_call GO (hr.mono (by decide)) rfl gO kO bO .nil pass0 (pa_cons (pv 0) (pa_cons (pv 3) pa_nil))) pa_nil))) po_none (po_some (pe_op (op_add) (pe_int) (pe_call GD (hr.mono (by decide)) rfl gD kD bD .nil pass0 (pa_cons (pv 0) (pa_cons (pe_int) pa_nil))))))))) (pss_nil))
      (pss_cons (ps_if (pt_cmpR (op_eq) (pv 5) (pe_int) (nomark _)) (pss_one (ps_set (i := 4) scCp.nd rfl (Or.inl rfl) (pe_op (op_rep) (pe_lst (pa_cons (pe_tup (pa_cons (pe_str) (pa_cons (pv 2) (pa_cons (pe_int) (pa_cons (pe_str) pa_nil))))) pa_nil)) (pe_op (op_add) (pe_int) (pe_call GD (hr.mono (by decide)) rfl gD kD bD .nil pass0 (pa_cons (pv 0) (pa_cons (pe_int) pa_nil))))))) (pss_nil))
      (pss_cons (ps_if (PW.pt (pw_and (pt_cmpR (op_ne) (pv 5) (pe_int) (nomark _)) (pw_and1 (pt_cmpR (op_eq) (pe_call GD (hr.mono (by decide)) rfl gD kD bD .nil pass0 (pa_cons (pv 0) (pa_cons (pe_int) pa_nil))) (pe_int) (nomark _))))) (pss_one (ps_set (i := 3) scCp.nd rfl (Or.inl rfl) (pe_call GP (hr.mono (by decide)) rfl gP kP bP .nil pass0 (pa_cons (pv 0) (pa_cons (pe_lst (pa_cons (pe_int) (pa_cons (pe_int) (pa_cons (pe_non) (pa_cons (pe_bl) (pa_cons (pe_str) (pa_cons (pe_lst (pa_cons (pe_int) pa_nil)) (pa_cons (pe_dnewK) (pa_cons (pe_str) pa_nil))))))))) pa_nil))))) (pss_nil))
      (pss_one (ps_ret (pe_tup (pa_cons (pv 3) (pa_cons (pv 4) pa_nil))))))))))))))), ?_⟩
    refine set_then (i := 1) ⟨_, rfl, p, rfl, by decide, by decide, hp, fun wy rv G1 b1 r1 d1 => ?_⟩
    have rw1 : RowsAt G1 wy rv := (r1 [] (fun M hM => by cases hM)).mono hidS_same
    refine set_then (i := 2) ⟨_, rfl, rv, wy, rfl, rw1, d1.f, d1.d, fun wc G2 s2 wa => ?_⟩
    have b2 := b1.trans (Bt.same s2 b1.2)
    obtain ⟨da, fa, a1, a2⟩ := head_fld wa
    obtain ⟨dc, fc, t1, xs, c1, c2, c3, c4⟩ := steps_fld wa
    obtain ⟨p1, p2, p3, p4, p5, p6, p7⟩ : 1 ≤ wy.head ∧ wy.head ≤ 40 ∧ 1 ≤ wy.steps.length ∧ wy.steps.length ≤ 12 ∧ M.Step.fineAll wy.head wy.steps ∧ 1 + M.Step.deepest wy.steps ≤ 3 ∧ wy.steps.length + M.Step.inner wy.steps ≤ 40 := by
      have f := d1.f
      obtain ⟨g, s⟩ := wy
      unfold M.Way.fine at f
      exact ⟨f.1.1, f.1.2, f.2.1.1, f.2.1.2, f.2.2.1, f.2.2.2.1, f.2.2.2.2⟩
    have lx := c4.len
    dsimp only
    refine ⟨_, rfl, wc, C, da, fa, _, rfl, a1, T.cl, T.nH, a2, _, rfl, wc, C, dc, fc, _, rfl, c1, T.cl, T.nS, c2, t1, xs, rfl, .inr (SqT.of c3), fun L nL => ?_⟩
    have s3 := Same.of_upd (o := .lst xs) nL
    have b3 := b2.trans (Bt.same s3 b2.2)
    have eL : (upd G2 L (.lst xs)) L = some (.lst xs) := upd_same
    have wa3 := wa.mono s3
    have c43 := c4.mono s3
    have neL := at_ne b2.2 nL
    have frL := fr_of hp b2 nL
    generalize upd G2 L (.lst xs) = G3 at b3 eL wa3 c43 ⊢
    refine draw_vv rfl b3.2 (by decide) (by decide +kernel) fun d G4 d0 d8 b4 => ⟨_, _, _, rfl, ?_⟩
    dsimp only
    have eL4 := bt_lst b4 neL eL
    refine set_then (i := 6) ⟨_, rfl, _, rfl, L, xs, rfl, .inl (SqL.of eL4), _, _, rfl, rfl, ?_⟩
    obtain ⟨r0, m0, hp1, hf1⟩ := b4.2
    refine ⟨p, r0, m0, _, rfl, hp1, hf1, by omega, PySem.Flt.log2_lt_of (k := 9000) (by decide) (Nat.lt_of_lt_of_le (by omega : _ < 64) (Nat.le_trans (by decide : 64 ≤ 2 ^ 6) (Nat.pow_le_pow_right (by decide) (by decide)))), fun pl r1 m1 f1 e0 e1 => ?_⟩
    have b5 : Bt p G4 (upd G4 p (.lst (S.Two r1 m1))) := Bt.put f1
    generalize upd G4 p (.lst (S.Two r1 m1)) = G5 at b5 ⊢
    have b45 := b4.trans b5
    have hpH := b3.trans b45
    have w5 : WayAt C (hidS [p] G5) wy wc := (wa3.keep (CP.bt_keepT b45 b3.2)).keep (hid_keep b5.2)
    have eL5 := bt_lst b45 neL eL
    have x5 : ∀ x ∈ xs, SE K C (hidS [p] G5) x := fun x hx => by
      obtain ⟨j, hj⟩ := List.getElem?_of_mem hx
      obtain ⟨st, h1, h2⟩ := c43.get hj
      exact se_step (StepAt.keep (hid_keep b5.2) (StepAt.keep (CP.bt_keepT b45 b3.2) h2)) (fine_get p5 h1)
    have f3 := d1.f
    clear b1 r1 rw1 s2 wa b2 a1 a2 c1 c2 c3 c4 s3 nL b3 eL wa3 c43 b4 hp1 hf1 b5 b45 eL4 f1
    have J0 : Jc K C p wc L H wy rv xs d pl 0 [some (.ref p), some rv, some (.ref wc), some (.int ((wy.head : Nat) : Int)), some (.ref L), some (.int d), some (.int pl)] G5 :=
      ⟨_, _, rfl, hpH, w5, ⟨.flat rfl, .lst neL frL eL5 (by omega) x5, fun a e => by cases e⟩, fun _ => ⟨rfl, rfl, eL5, x5⟩⟩
    clear hpH w5 eL5 x5
    have skip : ∀ {σ : St} {G : Hp} {k : Int}, Jc K C p wc L H wy rv xs d pl k σ G → Jc K C p wc L H wy rv xs d pl (k + 1) σ G := fun ⟨hd, sv, e, b, wh, hs, orig⟩ => ⟨hd, sv, e, b, wh, hs, fun q => orig (by omega)⟩
    have neS : ∀ {k : Int}, ¬ d = k → decide (V.int d = V.int k) = false := fun e => decide_eq_false fun q => e (V.int.inj q)
    show tSeq (tIfS _ _ _) _ _ [some (.ref p), some rv, some (.ref wc), some (.int ((wy.head : Nat) : Int)), some (.ref L), some (.int d), some (.int pl)] G5
    refine jgo J0 fun σ G J0 => ?_
    refine CP.if_then (Jc K C p wc L H wy rv xs d pl 1) ?_ fun nx => ?_
    rotate_left
    · obtain ⟨hd, sv, rfl, b, wh, hs, orig⟩ := J0
      refine ⟨_, rfl, rfl, _, rfl, ?_⟩
      by_cases e : d = 0
      · obtain ⟨rfl, rfl, eG, xG⟩ := orig (by omega)
        rw [decide_eq_true (congrArg V.int e)]
        refine iteT ?_
        refine ⟨_, rfl, ?_⟩
        dsimp only [tNoPart, tPart]
        refine ⟨_, rfl, pl, rfl, L, xs, rfl, SqL.of eG, fun q1 m1 => ?_⟩
        have s1 := Same.of_upd (o := .lst (cutV xs none (some pl))) m1
        have t1 := Bt.same s1 b.2
        refine ⟨_, rfl, _, rfl, p, wy.head, rfl, t1.2, fun o G1 t2 so => ⟨(by show 1 ≤ sizeLine; decide), fun q2 m2 => ?_⟩⟩
        have nq1 := at_ne b.2 m1
        have t3 := Bt.new (.lst [o]) t2.2 m2
        refine ⟨q1, q2, _, [o], rfl, rfl, bt_lst (t2.trans t3) nq1 upd_same, upd_same, ?_, fun q3 m3 => ?_⟩
        · have := cutV_length xs none (some pl)
          exact Nat.le_trans (show _ ≤ 40 by show (cutV xs none (some pl)).length + 1 ≤ 40; omega) (by decide)
        have t4 := Bt.new (.lst (cutV xs none (some pl) ++ [o])) t3.2 m3
        have nq3 := at_ne t3.2 m3
        have eQ3 : (upd (upd G1 q2 (.lst [o])) q3 (.lst (cutV xs none (some pl) ++ [o]))) q3 = some (.lst (cutV xs none (some pl) ++ [o])) := upd_same
        have tA := t1.trans (t2.trans (t3.trans t4))
        have soA := (so.mono (hid_drw t3)).mono (hid_drw t4)
        generalize upd (upd G1 q2 (.lst [o])) q3 (.lst (cutV xs none (some pl) ++ [o])) = GA at tA soA eQ3 ⊢
        refine ⟨_, rfl, _, rfl, draw_vv rfl tA.2 (by decide) (by decide +kernel) fun jj G2 j0 j1 t5 => ⟨_, _, rfl, rfl, ?_⟩⟩
        have eL2 := bt_lst (tA.trans t5) neL eG
        refine ⟨_, rfl, L, xs, rfl, SqL.of eL2, fun q4 m4 => ?_⟩
        have t6 := Bt.new (.lst (cutV xs (some (pl + jj)) none)) t5.2 m4
        refine ⟨q3, q4, _, _, rfl, rfl, bt_lst (t5.trans t6) nq3 eQ3, upd_same, ?_, fun q5 m5 => ?_⟩
        · have c1 := cutV_length xs none (some pl)
          have c2 := cutV_length xs (some (pl + jj)) none
          exact Nat.le_trans (show _ ≤ 80 by rw [List.length_append]; show (cutV xs none (some pl)).length + 1 + _ ≤ 80; omega) (by decide)
        have t7 := Bt.new (.lst (cutV xs none (some pl) ++ [o] ++ cutV xs (some (pl + jj)) none)) t6.2 m5
        have tB := tA.trans (t5.trans (t6.trans t7))
        refine nx _ _ ⟨_, _, rfl, b.trans tB, wh.mono (hid_drw tB), ⟨.flat rfl, .lst (at_ne t6.2 m5) (fr_of hp (b.trans (tA.trans (t5.trans t6))) m5) upd_same ?_ fun x hx => ?_, fun a e => by cases e⟩, fun q => by omega⟩
        · have c1 := cutV_length xs none (some pl)
          have c2 := cutV_length xs (some (pl + jj)) none
          rw [List.length_append, List.length_append]
          show (cutV xs none (some pl)).length + 1 + _ ≤ 1000
          omega
        · have xB : ∀ y ∈ xs, SE K C (hidS [p] (upd (upd G2 q4 (.lst (cutV xs (some (pl + jj)) none))) q5 (.lst (cutV xs none (some pl) ++ [o] ++ cutV xs (some (pl + jj)) none)))) y := fun y hy => (xG y hy).mono (hid_drw tB)
          rcases List.mem_append.mp hx with hx | hx
          · rcases List.mem_append.mp hx with hx | hx
            · exact xB x (mem_cut hx)
            · rw [List.mem_singleton.mp hx]
              exact soA.mono (hid_drw (t5.trans (t6.trans t7)))
          · exact xB x (mem_cut hx)
      · rw [neS e]
        exact iteF (nx _ _ (skip ⟨hd, sv, rfl, b, wh, hs, orig⟩))
    clear J0 σ G
    intro σ G J0
    refine CP.if_then (Jc K C p wc L H wy rv xs d pl 2) ?_ fun nx => ?_
    rotate_left
    · obtain ⟨hd, sv, rfl, b, wh, hs, orig⟩ := J0
      refine ⟨_, rfl, rfl, _, rfl, ?_⟩
      by_cases e : d = 1
      · obtain ⟨rfl, rfl, eG, xG⟩ := orig (by omega)
        rw [decide_eq_true (congrArg V.int e)]
        refine iteT ?_
        refine set_then (i := 4) ⟨_, rfl, pick_of rfl b.2 (by decide) (by decide) (fun Q2 q => q) fun z G1 hz b1 => ?_⟩
        obtain ⟨n, rfl, n1, n2⟩ : ∃ n : Int, z = .int n ∧ 0 ≤ n ∧ n ≤ 13 := by
          simp only [List.mem_cons, List.not_mem_nil, or_false] at hz
          rcases hz with rfl | rfl | rfl | rfl
          · exact ⟨_, rfl, by decide, by decide⟩
          · exact ⟨_, rfl, by decide, by decide⟩
          · exact ⟨_, rfl, by decide, by decide⟩
          · exact ⟨_, rfl, by decide, by decide⟩
        have ln : xs.length * n.toNat ≤ 156 := Nat.le_trans (Nat.mul_le_mul (show xs.length ≤ 12 by omega) (show n.toNat ≤ 13 by omega)) (by decide)
        refine ⟨L, n, xs, rfl, rfl, bt_lst b1 neL eG, by omega, by omega, Nat.le_trans ln (by decide), fun R mR => ?_⟩
        have eR : (upd G1 R (.lst (List.replicate n.toNat xs).flatten)) R = some (.lst (List.replicate n.toNat xs).flatten) := upd_same
        have neR := at_ne b1.2 mR
        have frR := fr_of hp (b.trans b1) mR
        have t1 := b1.trans (Bt.new (.lst (List.replicate n.toNat xs).flatten) b1.2 mR)
        have lR : (List.replicate n.toNat xs).flatten.length ≤ 156 := by rw [List.length_flatten, List.map_replicate, List.sum_replicate_nat, Nat.mul_comm]; exact ln
        have xR : ∀ x ∈ (List.replicate n.toNat xs).flatten, SE K C (hidS [p] (upd G1 R (.lst (List.replicate n.toNat xs).flatten))) x := fun x hx => by
          obtain ⟨l, hl, hx⟩ := List.mem_flatten.mp hx
          rw [(List.mem_replicate.mp hl).2] at hx
          exact (xG x hx).mono (hid_drw t1)
        have bb := b.trans t1
        have ww := wh.mono (hid_drw t1)
        generalize upd G1 R (.lst (List.replicate n.toNat xs).flatten) = G3 at eR t1 xR bb ww ⊢
        generalize (List.replicate n.toNat xs).flatten = ys at eR lR xR ⊢
        clear t1 b1 mR ln hz
        dsimp only
        refine draw_vv rfl bb.2 (by decide) (by decide +kernel) fun jj G4 j0 j1 b4 => ⟨rfl, _, rfl, ite2 (fun e0 => ?_) (fun e0 => ?_)⟩
        · have eR4 := bt_lst b4 neR eR
          refine ⟨_, rfl, ?_⟩
          dsimp only [tNoPart, tPart]
          refine ⟨_, rfl, pl, rfl, R, ys, rfl, SqL.of eR4, fun q1 m1 => ?_⟩
          have t1 := b4.trans (Bt.new (.lst (cutV ys none (some pl))) b4.2 m1)
          refine ⟨_, rfl, _, rfl, p, wy.head, rfl, t1.2, fun o G1 t2 so => ⟨(by show 1 ≤ sizeLine; decide), fun q2 m2 => ?_⟩⟩
          have nq1 := at_ne b4.2 m1
          have t3 := Bt.new (.lst [o]) t2.2 m2
          refine ⟨q1, q2, _, [o], rfl, rfl, bt_lst (t2.trans t3) nq1 upd_same, upd_same, ?_, fun q3 m3 => ?_⟩
          · have := cutV_length ys none (some pl)
            exact Nat.le_trans (show _ ≤ 400 by show (cutV ys none (some pl)).length + 1 ≤ 400; omega) (by decide)
          have t4 := Bt.new (.lst (cutV ys none (some pl) ++ [o])) t3.2 m3
          have nq3 := at_ne t3.2 m3
          have eQ3 : (upd (upd G1 q2 (.lst [o])) q3 (.lst (cutV ys none (some pl) ++ [o]))) q3 = some (.lst (cutV ys none (some pl) ++ [o])) := upd_same
          have tA := t1.trans (t2.trans (t3.trans t4))
          have soA := (so.mono (hid_drw t3)).mono (hid_drw t4)
          generalize upd (upd G1 q2 (.lst [o])) q3 (.lst (cutV ys none (some pl) ++ [o])) = GA at tA soA eQ3 ⊢
          have eL2 := bt_lst tA neR eR
          refine ⟨_, rfl, _, rfl, pl, rfl, R, ys, rfl, SqL.of eL2, fun q4 m4 => ?_⟩
          have t6 := Bt.new (.lst (cutV ys (some pl) none)) tA.2 m4
          refine ⟨q3, q4, _, _, rfl, rfl, bt_lst t6 nq3 eQ3, upd_same, ?_, fun q5 m5 => ?_⟩
          · have c1 := cutV_length ys none (some pl)
            have c2 := cutV_length ys (some pl) none
            exact Nat.le_trans (show _ ≤ 400 by rw [List.length_append]; show (cutV ys none (some pl)).length + 1 + _ ≤ 400; omega) (by decide)
          have t7 := Bt.new (.lst (cutV ys none (some pl) ++ [o] ++ cutV ys (some pl) none)) t6.2 m5
          have tB := tA.trans (t6.trans t7)
          refine nx _ _ ⟨_, _, rfl, bb.trans tB, ww.mono (hid_drw tB), ⟨.flat rfl, .lst (at_ne t6.2 m5) (fr_of hp (bb.trans (tA.trans t6)) m5) upd_same ?_ fun x hx => ?_, fun a e => by cases e⟩, fun q => by omega⟩
          · have c1 := cutV_length ys none (some pl)
            have c2 := cutV_length ys (some pl) none
            rw [List.length_append, List.length_append]
            show (cutV ys none (some pl)).length + 1 + _ ≤ 1000
            omega
          · have xB : ∀ y ∈ ys, SE K C (hidS [p] (upd (upd GA q4 (.lst (cutV ys (some pl) none))) q5 (.lst (cutV ys none (some pl) ++ [o] ++ cutV ys (some pl) none)))) y := fun y hy => (xR y hy).mono (hid_drw tB)
            rcases List.mem_append.mp hx with hx | hx
            · rcases List.mem_append.mp hx with hx | hx
              · exact xB x (mem_cut hx)
              · rw [List.mem_singleton.mp hx]
                exact soA.mono (hid_drw (t6.trans t7))
            · exact xB x (mem_cut hx)
        · exact nx _ _ ⟨_, _, rfl, bb.trans b4, ww.mono (hid_drw b4), ⟨.flat rfl, .lst neR frR (bt_lst b4 neR eR) (by omega) fun x hx => (xR x hx).mono (hid_drw b4), fun a e => by cases e⟩, fun q => by omega⟩
      · rw [neS e]
        exact iteF (nx _ _ (skip ⟨hd, sv, rfl, b, wh, hs, orig⟩))
    clear J0 σ G
    intro σ G J0
    refine CP.if_then (Jc K C p wc L H wy rv xs d pl 3) ?_ fun nx => ?_
    rotate_left
    · obtain ⟨hd, sv, rfl, b, wh, hs, orig⟩ := J0
      refine ⟨_, rfl, rfl, _, rfl, ?_⟩
      by_cases e : d = 2
      · obtain ⟨rfl, rfl, eG, xG⟩ := orig (by omega)
        rw [decide_eq_true (congrArg V.int e)]
        refine iteT ?_
        have bhd := b
        refine set_then (i := 3) ⟨_, rfl, lst_then (Z := []) (R := AllR (FH H G) 9) (by (repeat' (first | exact eva_nil | refine eva_cons fh_mon ?_ ?_ | refine eva_cons fs_mon ?_ ?_ | exact fh_tup | exact fh_lst hp bhd | exact fh_dic | exact fh_c rfl | refine fh_in (in_sub in_int in_int) | refine fh_in (in_pow ⟨by decide, by decide⟩ ⟨_, rfl⟩)))) fun vs H1 s1 r1 => ⟨by rw [r1.1]; decide, fun l hl => ?_⟩⟩
        refine pick_at (E := E0) (Bt.same s1 b.2).2 hl (by rw [r1.1]; decide) (by rw [r1.1]; decide) fun z G1 hz b1 => ?_
        have b2 := (Bt.same s1 b.2).trans b1
        have hz := r1.2 z hz
        rw [hid0] at hz
        exact nx _ _ ⟨_, _, rfl, b.trans b2, wh.mono (hid_drw b2), ⟨hz.1.drw (Bt.same s1 b.2).2 b1, .lst neL frL (bt_lst b2 neL eG) (by omega) (fun x hx => (xG x hx).mono (hid_drw b2)), fun a e1 e2 => by
          cases e2
          have := hz.2 _ e1
          rw [eG] at this
          cases this⟩, fun q => by omega⟩
      · rw [neS e]
        exact iteF (nx _ _ (skip ⟨hd, sv, rfl, b, wh, hs, orig⟩))
    clear J0 σ G
    intro σ G J0
    refine CP.if_then (Jc K C p wc L H wy rv xs d pl 4) ?_ fun nx => ?_
    rotate_left
    · obtain ⟨hd, sv, rfl, b, wh, hs, orig⟩ := J0
      refine ⟨_, rfl, rfl, _, rfl, ?_⟩
      by_cases e : d = 3
      · obtain ⟨rfl, rfl, eG, xG⟩ := orig (by omega)
        rw [decide_eq_true (congrArg V.int e)]
        refine iteT ?_
        have hpG := b.2
        have vT : Ev [] [some (.ref p), some rv, some (.ref wc), some (.int ((wy.head : Nat) : Int)), some (.ref L), some (.int d), some (.int pl)] G (tCB (fun xs H_1 Q => ∃ p ys, xs = [V.ref p] ∧ ((SqL K H_1 p ys ∧ ∀ (l : Addr), H_1 l = none → Q (V.ref l) (upd H_1 l (HO.tup ys))) ∨ SqT K H_1 p ys ∧ Q (V.ref p) H_1)) (tCons (tVar 4) tNil)) (FS K C p H) := fun H2 Q s q => ⟨_, rfl, L, xs, rfl, .inl ⟨SqL.of (s _ _ eG), fun l hl => q _ _ (Same.of_upd hl) (.tup (old_nil.put hl) (by omega) fun x hx => by
          rw [hid0]
          exact (xG x hx).mono (hidS_mono (s.trans (Same.of_upd hl))))⟩⟩
        have vD : Ev [] [some (.ref p), some rv, some (.ref wc), some (.int ((wy.head : Nat) : Int)), some (.ref L), some (.int d), some (.int pl)] G (DTP.tDispT (tTup (tCons (tC (V.str (Str.ofString "join"))) (tCons (tC (V.int 3)) tNil))) (tC (V.int 1))) (FS K C p H) := fun H2 Q s q a np => ⟨(by show 2 ≤ sizeLine; decide), fun t nt => ⟨(by
          rw [upd_ne fun z => by
            rw [← z, upd_same] at nt
            cases nt]
          exact upd_same), t, [.inr (Str.ofString "join"), .inl 3], _, rfl, upd_same, q _ _ (fun x o e => by
          have h1 : x ≠ a := fun z => by
            rw [z, np] at e
            cases e
          have h2 : x ≠ t := fun z => by
            rw [← z, upd_ne h1, e] at nt
            cases nt
          rw [upd_ne h1, upd_ne h2, upd_ne h1]
          exact e) (by
          rw [hid0]
          exact .dct upd_same)⟩⟩
        have vW : Ev [] [some (.ref p), some rv, some (.ref wc), some (.int ((wy.head : Nat) : Int)), some (.ref L), some (.int d), some (.int pl)] G (tVar 2) (FS K C p H) := fs_var rfl (.way wh f3)
        refine set_then (i := 4) ⟨_, rfl, lst_then (Z := []) (R := AllR (FS K C p H) 11) (by (repeat' (first | exact eva_nil | refine eva_cons fs_mon ?_ ?_ | exact fs_tup | exact fs_lst hp b | exact fs_dic | exact vT | exact vD | exact vW | exact fs_c rfl))) fun vs H1 s1 r1 => ⟨by rw [r1.1]; decide, fun l hl => ?_⟩⟩
        refine pick_at (E := E0) (Bt.same s1 b.2).2 hl (by rw [r1.1]; decide) (by rw [r1.1]; decide) fun z G1 hz b1 => ?_
        have b2 := (Bt.same s1 b.2).trans b1
        have hz := r1.2 z hz
        rw [hid0] at hz
        exact nx _ _ ⟨_, _, rfl, b.trans b2, wh.mono (hid_drw b2), ⟨.flat rfl, SvK.drw (Bt.same s1 b.2).2 b1 hz, fun a e1 => by cases e1⟩, fun q => by omega⟩
      · rw [neS e]
        exact iteF (nx _ _ (skip ⟨hd, sv, rfl, b, wh, hs, orig⟩))
    clear J0 σ G
    intro σ G J0
    refine CP.if_then (Jc K C p wc L H wy rv xs d pl 5) ?_ fun nx => ?_
    rotate_left
    · obtain ⟨hd, sv, rfl, b, wh, hs, orig⟩ := J0
      refine ⟨_, rfl, rfl, _, rfl, ?_⟩
      by_cases e : d = 4
      · obtain ⟨rfl, rfl, eG, xG⟩ := orig (by omega)
        rw [decide_eq_true (congrArg V.int e)]
        refine iteT ?_
        refine ⟨_, rfl, ?_⟩
        refine ⟨_, rfl, ⟨(by show 4 ≤ sizeLine; decide), fun t nt => ?_⟩⟩
        have t1 := Bt.new (.tup [V.str "tunnel", .ref wc, .int 1, .str "turn"]) b.2 nt
        have nT := at_ne b.2 nt
        refine ⟨_, rfl, _, rfl, p, wy.head, rfl, t1.2, fun o G1 t2 so => ⟨(by show 2 ≤ sizeLine; decide), fun q1 m1 => ?_⟩⟩
        have t3 := Bt.new (.lst [V.ref t, o]) t2.2 m1
        have nq1 := at_ne t2.2 m1
        have tA := t1.trans (t2.trans t3)
        have xA : ∀ x ∈ [V.ref t, o], SE K C (hidS [p] (upd G1 q1 (.lst [V.ref t, o]))) x := fun x hx => by
          rcases List.mem_cons.mp hx with rfl | hx
          · exact se_tun (tw := .turn) ((hid_drw (t2.trans t3)) _ _ ((hidS_at (fun z => nT (List.mem_singleton.mp z))).trans upd_same)) (wh.mono (hid_drw tA)) f3 (by decide) (by decide)
          · rw [List.mem_singleton.mp hx]
            exact so.mono (hid_drw t3)
        have eQ1 : (upd G1 q1 (.lst [V.ref t, o])) q1 = some (.lst [V.ref t, o]) := upd_same
        generalize upd G1 q1 (.lst [V.ref t, o]) = GA at tA xA eQ1 ⊢
        dsimp only [tNoPart, tPart]
        refine draw_vv rfl tA.2 (by decide) (by decide +kernel) fun jj G2 j0 j1 t5 => ⟨_, _, rfl, rfl, _, rfl, q1, _, rfl, SqL.of (bt_lst t5 nq1 eQ1), fun q2 m2 => ?_⟩
        have t6 := Bt.new (.lst (cutV [V.ref t, o] none (some (1 + jj)))) t5.2 m2
        have tB := tA.trans (t5.trans t6)
        refine ⟨L, q2, xs, _, rfl, rfl, bt_lst tB neL eG, upd_same, ?_, fun q3 m3 => ?_⟩
        · have c1 := cutV_length [V.ref t, o] none (some (1 + jj))
          exact Nat.le_trans (show _ ≤ 40 by rw [List.length_cons, List.length_cons, List.length_nil] at c1; omega) (by decide)
        have t7 := Bt.new (.lst (xs ++ cutV [V.ref t, o] none (some (1 + jj)))) tB.2 m3
        have tC := tB.trans t7
        refine nx _ _ ⟨_, _, rfl, b.trans tC, wh.mono (hid_drw tC), ⟨.flat rfl, .lst (at_ne tB.2 m3) (fr_of hp (b.trans tB) m3) upd_same ?_ fun x hx => ?_, fun a e => by cases e⟩, fun q => by omega⟩
        · have c1 := cutV_length [V.ref t, o] none (some (1 + jj))
          rw [List.length_append]
          rw [List.length_cons, List.length_cons, List.length_nil] at c1
          omega
        · rcases List.mem_append.mp hx with hx | hx
          · exact (xG x hx).mono (hid_drw tC)
          · exact (xA x (mem_cut hx)).mono (hid_drw (t5.trans (t6.trans t7)))
      · rw [neS e]
        exact iteF (nx _ _ (skip ⟨hd, sv, rfl, b, wh, hs, orig⟩))
    clear J0 σ G
    intro σ G J0
    refine CP.if_then (Jc K C p wc L H wy rv xs d pl 6) ?_ fun nx => ?_
    rotate_left
    · obtain ⟨hd, sv, rfl, b, wh, hs, orig⟩ := J0
      refine ⟨_, rfl, rfl, _, rfl, ?_⟩
      by_cases e : d = 5
      · obtain ⟨rfl, rfl, eG, xG⟩ := orig (by omega)
        rw [decide_eq_true (congrArg V.int e)]
        refine iteT ?_
        refine ⟨_, rfl, ⟨(by show 4 ≤ sizeLine; decide), fun t nt => ⟨(by show 1 ≤ sizeLine; decide), fun q1 m1 => ?_⟩⟩⟩
        have t1 := Bt.new (.tup [V.str "tunnel", .ref wc, .int 2, .str "keep"]) b.2 nt
        have nT := at_ne b.2 nt
        have t3 := Bt.new (.lst [V.ref t]) t1.2 m1
        have nq1 := at_ne t1.2 m1
        have tA := t1.trans t3
        have xA : SE K C (hidS [p] (upd (upd G t (.tup [V.str "tunnel", .ref wc, .int 2, .str "keep"])) q1 (.lst [V.ref t]))) (.ref t) := se_tun (tw := .keep) ((hid_drw t3) _ _ ((hidS_at (fun z => nT (List.mem_singleton.mp z))).trans upd_same)) (wh.mono (hid_drw tA)) f3 (by decide) (by decide)
        have eQ1 : (upd (upd G t (.tup [V.str "tunnel", .ref wc, .int 2, .str "keep"])) q1 (.lst [V.ref t])) q1 = some (.lst [V.ref t]) := upd_same
        generalize upd (upd G t (.tup [V.str "tunnel", .ref wc, .int 2, .str "keep"])) q1 (.lst [V.ref t]) = GA at tA xA eQ1 ⊢
        refine draw_vv rfl tA.2 (by decide) (by decide +kernel) fun jj G2 j0 j1 t5 => ⟨_, _, rfl, rfl, ?_⟩
        have ln : [V.ref t].length * (1 + jj).toNat ≤ 12 := by
          rw [List.length_cons, List.length_nil]
          omega
        refine ⟨q1, 1 + jj, [V.ref t], rfl, rfl, bt_lst t5 nq1 eQ1, by omega, by omega, Nat.le_trans ln (by decide), fun R mR => ?_⟩
        have t6 := Bt.new (.lst (List.replicate (1 + jj).toNat [V.ref t]).flatten) t5.2 mR
        have tC := tA.trans (t5.trans t6)
        refine nx _ _ ⟨_, _, rfl, b.trans tC, wh.mono (hid_drw tC), ⟨.flat rfl, .lst (at_ne t5.2 mR) (fr_of hp (b.trans (tA.trans t5)) mR) upd_same ?_ fun x hx => ?_, fun a e => by cases e⟩, fun q => by omega⟩
        · rw [List.length_flatten, List.map_replicate, List.sum_replicate_nat, Nat.mul_comm]
          omega
        · obtain ⟨l, hl, hx⟩ := List.mem_flatten.mp hx
          rw [(List.mem_replicate.mp hl).2] at hx
          rw [List.mem_singleton.mp hx]
          exact xA.mono (hid_drw (t5.trans t6))
      · rw [neS e]
        exact iteF (nx _ _ (skip ⟨hd, sv, rfl, b, wh, hs, orig⟩))
    clear J0 σ G
    intro σ G J0
    refine CP.if_then (Jc K C p wc L H wy rv xs d pl 9) ?_ fun nx => ?_
    rotate_left
    · obtain ⟨hd, sv, rfl, b, wh, hs, orig⟩ := J0
      refine ⟨_, rfl, rfl, _, rfl, ?_⟩
      have d9 : ¬ 9 ≤ d := by omega
      by_cases e : d = 2
      · rw [decide_eq_true (congrArg V.int e)]
        exact iteF (iteF (nx _ _ ⟨hd, sv, rfl, b, wh, hs, fun q => absurd q d9⟩))
      · rw [neS e]
        refine iteT ?_
        refine draw_vv rfl b.2 (by decide) (by decide +kernel) fun jj G1 j0 j1 b1 => ⟨rfl, _, rfl, ?_⟩
        have wh1 := wh.mono (hid_drw b1)
        have hs1 : HS K C p H G1 hd sv := ⟨hs.1.drw b.2 b1, hs.2.1.drw b.2 b1, hs.2.2⟩
        have bb := b.trans b1
        have bhd := bb
        generalize decide (V.int jj = V.int 0) = cc
        cases cc with
        | false => exact iteF (nx _ _ ⟨hd, sv, rfl, bb, wh1, hs1, fun q => absurd q d9⟩)
        | true =>
          refine iteT ?_
          refine set_then (i := 3) ⟨_, rfl, lst_then (Z := []) (R := AllR (FH H G1) 8) (by (repeat' (first | exact eva_nil | refine eva_cons fh_mon ?_ ?_ | refine eva_cons fs_mon ?_ ?_ | exact fh_tup | exact fh_lst hp bhd | exact fh_dic | exact fh_c rfl | refine fh_in (in_sub in_int in_int) | refine fh_in (in_pow ⟨by decide, by decide⟩ ⟨_, rfl⟩)))) fun vs H1 s1 r1 => ⟨by rw [r1.1]; decide, fun l hl => ?_⟩⟩
          refine pick_at (E := E0) (Bt.same s1 b1.2).2 hl (by rw [r1.1]; decide) (by rw [r1.1]; decide) fun z G2 hz b3 => ?_
          have b2 := (Bt.same s1 b1.2).trans b3
          have hz := r1.2 z hz
          rw [hid0] at hz
          exact nx _ _ ⟨_, _, rfl, bb.trans b2, wh1.mono (hid_drw b2), ⟨hz.1.drw (Bt.same s1 b1.2).2 b3, hs1.2.1.drw b1.2 b2, fun a e1 e2 => by
            subst e2
            exact hs1.2.1.live (hz.2 _ e1)⟩, fun q => absurd q d9⟩
    clear J0 σ G
    intro σ G J0
    obtain ⟨hd, sv, rfl, b, wh, hs, orig⟩ := J0
    refine ⟨_, rfl, _, rfl, (by show 2 ≤ sizeLine; decide), fun t nt => ?_⟩
    have t1 := Bt.new (.tup [hd, sv]) b.2 nt
    exact kk t hd sv _ (b.trans t1) upd_same ⟨hs.1.drw b.2 t1, hs.2.1.drw b.2 t1, hs.2.2⟩
end
end WP

end
section
set_option autoImplicit false
set_option Elab.async false
set_option linter.all false
set_option maxRecDepth 100000
set_option maxHeartbeats 4000000
set_option pp.maxSteps 900
/-! ## a head and steps of any kind: what becomes of them -/
namespace WP
open PySem L2 G
section
variable {P : Program} {w : World} {K : PySem.W.Frag} {mg : Str → Option Value} {base : Heap} {C p : Addr} {H : Hp}
theorem cut_any {h : Nat} : ∀ (xs : List V), (∀ x ∈ xs, ∃ b, StB K C H h x b) → (∃ (i : Nat) (y : V), xs[i]? = some y ∧ StB K C H h y false ∧ ∀ (j : Nat) (z : V), j < i → xs[j]? = some z → StB K C H h z true) ∨ ∃ st, StepsAt C H st xs ∧ M.Step.fineAll h st
  | [], _ => .inr ⟨[], by unfold StepsAt; rfl, by unfold M.Step.fineAll; trivial⟩
  | x :: xs, a => by
    obtain ⟨b, hb⟩ := a x (List.mem_cons_self ..)
    cases b with
    | false => exact .inl ⟨0, x, rfl, hb, fun j z hj => absurd hj (Nat.not_lt_zero j)⟩
    | true =>
      obtain ⟨s, h1, h2⟩ := hb.good rfl
      rcases cut_any xs (fun y hy => a y (List.mem_cons_of_mem _ hy)) with ⟨i, y, e, q, r⟩ | ⟨st, e, f⟩
      · exact .inl ⟨i + 1, y, e, q, fun j z hj ej => by
          cases j with
          | zero =>
            cases ej
            exact hb
          | succ j => exact r j z (by omega) ej⟩
      · exact .inr ⟨s :: st, by unfold StepsAt; exact ⟨x, xs, rfl, h1, e⟩, by unfold M.Step.fineAll; exact ⟨h2, f⟩⟩
theorem hd_any {v : V} {H0 : Hp} (h : HdK H0 H v) : Nm K H v 1 40 false ∨ ∃ n : Nat, v = .int (n : Int) ∧ 1 ≤ n ∧ n ≤ 40 := by
  have ni : ∀ {t : String}, TyX K H v (.type t) → kitB t "int" = some false → Nm K H v 1 40 false := fun t k => .inr ⟨.inr ⟨_, t, kit_ty (r := false) k⟩, rfl⟩
  cases h with
  | @flat v f =>
    cases v with
    | non => exact .inl (ni (.base .non) (by decide +kernel))
    | bl b => exact .inl (.inr ⟨.inl ⟨b, rfl⟩, rfl⟩)
    | str s => exact .inl (ni (.base (.str s)) (by decide +kernel))
    | int i =>
      by_cases q : 1 ≤ i ∧ i ≤ 40
      · exact .inr ⟨i.toNat, congrArg V.int (by omega), by omega, by omega⟩
      · exact .inl (.inl ⟨i, rfl, (decide_eq_false q).symm⟩)
    | _ => cases f
  | lst _ e => exact .inl (ni (.base (.lst e)) (by decide +kernel))
  | tup e => exact .inl (ni (.base (.tup e)) (by decide +kernel))
  | dic e => exact .inl (ni (.base (.dK e)) (by decide +kernel))
theorem li_no {v : V} {t : String} (h : TyX K H v (.type t)) (a : kitB t "list" = some false) (b : kitB t "tuple" = some false) : LiA K H v none := .inr ⟨_, h, by
  unfold PySem.W.kitAny
  rw [kit_ty (r := false) a]
  unfold PySem.W.kitAny
  rw [kit_ty (r := false) b]
  rfl, rfl⟩
theorem sv_any (T : Wt K mg C) (kL : PySem.W.kitOne K (.ref C) (.type "list") = some false) (kT : PySem.W.kitOne K (.ref C) (.type "tuple") = some false) {v : V} {H0 : Hp} (h : SvK K C p H0 H v) : LiA K H v none ∨ ∃ l xs, v = .ref l ∧ SAt H l xs ∧ ∀ x ∈ xs, SE K C H x := by
  cases h with
  | @flat v f =>
    cases v with
    | non => exact .inl (li_no (.base .non) (by decide +kernel) (by decide +kernel))
    | bl b => exact .inl (li_no (.base (.bl b)) (by decide +kernel) (by decide +kernel))
    | str s => exact .inl (li_no (.base (.str s)) (by decide +kernel) (by decide +kernel))
    | int i => exact .inl (li_no (.base (.int i)) (by decide +kernel) (by decide +kernel))
    | _ => cases f
  | lst _ _ e _ a => exact .inr ⟨_, _, rfl, .inl e, fun x hx => (a x hx).mono hidS_same⟩
  | tup e _ a => exact .inr ⟨_, _, rfl, .inr e, fun x hx => (a x hx).mono hidS_same⟩
  | dic e => exact .inl (li_no (.base (.dK e)) (by decide +kernel) (by decide +kernel))
  | dct e => exact .inl (li_no (.base (.dT e)) (by decide +kernel) (by decide +kernel))
  | way w f =>
    obtain ⟨da, fa, a1, a2⟩ := head_fld w
    exact .inl (.inr ⟨_, .base (.ins (hidS_un a1) T.cl T.iA T.iN T.iT T.iM), by
      unfold PySem.W.kitAny
      rw [kL]
      unfold PySem.W.kitAny
      rw [kT]
      rfl, rfl⟩)
theorem hs_cse (T : Wt K mg C) (kL : PySem.W.kitOne K (.ref C) (.type "list") = some false) (kT : PySem.W.kitOne K (.ref C) (.type "tuple") = some false) {hd sv : V} {H0 : Hp} (h : HS K C p H0 H hd sv) : ∃ o, Cse K C H hd sv o := by
  rcases hd_any (K := K) h.1 with n | ⟨n, rfl, n1, n2⟩
  · exact ⟨_, .head n⟩
  rcases sv_any T kL kT h.2.1 with e | ⟨l, xs, rfl, sl, a⟩
  · exact ⟨_, .steps rfl n1 n2 e rfl⟩
  by_cases q : 1 ≤ xs.length ∧ xs.length ≤ 12
  · rcases cut_any xs (fun x hx => a x hx n) with ⟨i, y, e, s, r⟩ | ⟨st, e, f⟩
    · exact ⟨_, .step rfl n1 n2 rfl sl q.1 q.2 e s r fun j z ez => a z (List.mem_of_getElem? ez) n⟩
    · by_cases d : 1 + M.Step.deepest st ≤ 3
      · by_cases g : st.length + M.Step.inner st ≤ 40
        · refine ⟨_, .made rfl rfl sl e ?_⟩
          have l1 := e.len
          unfold M.Way.fine
          exact ⟨⟨n1, n2⟩, ⟨by omega, by omega⟩, f, d, g⟩
        · exact ⟨_, .great rfl n1 n2 rfl sl q.1 q.2 e f d g⟩
      · exact ⟨_, .deep rfl n1 n2 rfl sl q.1 q.2 e f d⟩
  · exact ⟨_, .steps rfl n1 n2 (.inl ⟨l, xs, rfl, sl, rfl⟩) (decide_eq_false q)⟩
/-- isinstance(v, list) of such steps, and of such a head -/
theorem sv_isl (T : Wt K mg C) (kL : PySem.W.kitOne K (.ref C) (.type "list") = some false) {v : V} {H0 : Hp} (h : SvK K C p H0 H v) : (∃ l xs, v = .ref l ∧ l ≠ p ∧ H0 l = none ∧ H l = some (.lst xs) ∧ xs.length ≤ 1000 ∧ ∀ x ∈ xs, IdW x) ∨ ∃ t, TyX K H v t ∧ PySem.W.kitOne K t (.type "list") = some false := by
  have no : ∀ {t : String}, TyX K H v (.type t) → kitB t "list" = some false → ∃ t, TyX K H v t ∧ PySem.W.kitOne K t (.type "list") = some false := fun a k => ⟨_, a, kit_ty (r := false) k⟩
  cases h with
  | @flat v f =>
    cases v with
    | non => exact .inr (no (.base .non) (by decide +kernel))
    | bl b => exact .inr (no (.base (.bl b)) (by decide +kernel))
    | str s => exact .inr (no (.base (.str s)) (by decide +kernel))
    | int i => exact .inr (no (.base (.int i)) (by decide +kernel))
    | _ => cases f
  | lst n f e l a => exact .inl ⟨_, _, rfl, n, f, e, l, fun x hx => by
      obtain ⟨b, q⟩ := a x hx 1
      exact q.idw⟩
  | tup e _ a => exact .inr (no (.base (.tup e)) (by decide +kernel))
  | dic e => exact .inr (no (.base (.dK e)) (by decide +kernel))
  | dct e => exact .inr (no (.base (.dT e)) (by decide +kernel))
  | way w f =>
    obtain ⟨da, fa, a1, a2⟩ := head_fld w
    exact .inr ⟨_, .base (.ins (hidS_un a1) T.cl T.iA T.iN T.iT T.iM), kL⟩
theorem hd_isl {v : V} {H0 : Hp} (h : HdK H0 H v) : (∃ l, v = .ref l ∧ H0 l = none ∧ H l = some (.lst [.int 3])) ∨ ∃ t, TyX K H v t ∧ PySem.W.kitOne K t (.type "list") = some false := by
  have no : ∀ {t : String}, TyX K H v (.type t) → kitB t "list" = some false → ∃ t, TyX K H v t ∧ PySem.W.kitOne K t (.type "list") = some false := fun a k => ⟨_, a, kit_ty (r := false) k⟩
  cases h with
  | @flat v f =>
    cases v with
    | non => exact .inr (no (.base .non) (by decide +kernel))
    | bl b => exact .inr (no (.base (.bl b)) (by decide +kernel))
    | str s => exact .inr (no (.base (.str s)) (by decide +kernel))
    | int i => exact .inr (no (.base (.int i)) (by decide +kernel))
    | _ => cases f
  | lst n e => exact .inl ⟨_, rfl, n, e⟩
  | tup e => exact .inr (no (.base (.tup e)) (by decide +kernel))
  | dic e => exact .inr (no (.base (.dK e)) (by decide +kernel))
/-- what a change of a list that is new since H leaves -/
theorem hid_upd {l : Addr} {o : HO} {G : Hp} (s : Same (hidS [p] H) G) (n : H l = none) : Same (hidS [p] H) (upd G l o) := fun a z e => by
  rw [upd_ne fun q => by
    have := hidS_un e
    rw [q, n] at this
    cases this]
  exact s a z e
theorem hid_btP {G1 G2 G3 : Hp} (s : Same (hidS [p] G1) G2) (b : Bt p G2 G3) : Same (hidS [p] G1) G3 := fun a o e => by
  by_cases q : a ∈ [p]
  · unfold hidS at e
    rw [if_pos q] at e
    cases e
  · exact b.1 a o (fun z => q (List.mem_singleton.mpr z)) (s a o e)
theorem hid_hid {G1 G2 : Hp} (s : Same (hidS [p] G1) G2) : Same (hidS [p] G1) (hidS [p] G2) := fun a o e => by
  by_cases q : a ∈ [p]
  · unfold hidS at e
    rw [if_pos q] at e
    cases e
  · rw [hidS_at q]
    exact s a o e
theorem hid_newP {G : Hp} {o : HO} (n : G p = none) : Same G (hidS [p] (upd G p o)) := fun a z e => by
  have q : a ≠ p := fun y => by
    rw [y, n] at e
    cases e
  rw [hidS_at (fun m => q (List.mem_singleton.mp m)), upd_ne q]
  exact e
theorem LiA.mono {H' : Hp} (s : Same H H') {v : V} {n : Option Nat} (h : LiA K H v n) : LiA K H' v n := h.elim (fun ⟨l, xs, a, b, c⟩ => .inl ⟨l, xs, a, b.mono s, c⟩) fun ⟨t, a, b⟩ => .inr ⟨t, CP.tyX_mono s a, b⟩
theorem Cse.mono {H' : Hp} (s : Same H H') {hd sv : V} {o : Out} (c : Cse K C H hd sv o) : Cse K C H' hd sv o := by
  cases c with
  | head hn => exact .head (hn.mono s)
  | steps e h1 h2 hl hf => exact .steps e h1 h2 (hl.mono s) hf
  | step e h1 h2 es hl n1 n2 hy hb hal hany => exact .step e h1 h2 es (hl.mono s) n1 n2 hy (hb.mono s) (fun j z a b => (hal j z a b).mono s) fun j z a => let ⟨b, q⟩ := hany j z a; ⟨b, q.mono s⟩
  | deep e h1 h2 es hl n1 n2 hs hf hd => exact .deep e h1 h2 es (hl.mono s) n1 n2 (hs.mono s) hf hd
  | great e h1 h2 es hl n1 n2 hs hf hd hz => exact .great e h1 h2 es (hl.mono s) n1 n2 (hs.mono s) hf hd hz
  | made e es hl hs hf => exact .made e es (hl.mono s) (hs.mono s) hf
theorem due_two {hd sv : V} {o : Out} (h : ¬ ∃ h st, o = .made h st) : ∃ (wd : Str) (x : V), dueT hd sv o = [.str wd, x] ∧ decide (V.str wd = V.str "made") = false ∧ (x = hd ∨ x = sv ∨ ∃ i, x = .int i) := by
  cases o with
  | head => exact ⟨_, _, rfl, by decide +kernel, .inl rfl⟩
  | steps => exact ⟨_, _, rfl, by decide +kernel, .inr (.inl rfl)⟩
  | step i => exact ⟨_, _, rfl, by decide +kernel, .inr (.inr ⟨_, rfl⟩)⟩
  | deep n => exact ⟨_, _, rfl, by decide +kernel, .inr (.inr ⟨_, rfl⟩)⟩
  | great n => exact ⟨_, _, rfl, by decide +kernel, .inr (.inr ⟨_, rfl⟩)⟩
  | made h' st => exact absurd ⟨h', st, rfl⟩ h
end
end WP

end
section
set_option autoImplicit false
set_option Elab.async false
set_option linter.all false
set_option maxRecDepth 100000
set_option maxHeartbeats 4000000
set_option pp.maxSteps 900
/-! ## what stands behind the word, told twice -/
namespace WP
open PySem L2 G
section
variable {P : Program} {w : World} {K : PySem.W.Frag} {mg : Str → Option Value} {base : Heap} {C p : Addr} {G2 G : Hp}
/-- the same object, or the same flat value -/
def rTold (K : PySem.W.Frag) (C : Addr) : R2 := fun x y H Q => rNe x y H Q ∨ LN.rNeI K x y H Q ∨ DTP.rNeT x y H Q ∨ rNeDA x y H Q ∨ WO.rNeO C (EB.spWEB C 3) E0 x y H Q
theorem op_told {X : Cx} {f : Addr} {fd : FuncData} (G : FnOk X.prog X.w X.K X.mg X.base CX0 10 f fd ["self", "other"] (EB.spWEB C 3)) (O : WO.Own X.K C f "__eq__") (b : Binds X.K fd ["self", "other"] []) (hm : PySem.W.mroIn X.K C (.type "object") = some true) (hs : PySem.W.findIn X.K (.ref C) "__ne__" = some (some (.builtin "object.__ne__"))) (hr : Room 11 X.A) (hx : Passes CX0 X E0) : OpR X (compareOp .NotEq) (rTold X.K C) := fun pins s σ H x y v u Q I rx ry h => by
  have hu := hr.units
  rcases h with h | h | h | h | h
  · exact op_ne pins s σ H x y v u Q I rx ry h
  · exact LN.op_neI (by omega) pins s σ H x y v u Q I rx ry h
  · exact DTP.op_neT (by omega) pins s σ H x y v u Q I rx ry h
  · exact op_ne_dictA (by omega) pins s σ H x y v u Q I rx ry h
  · exact WO.op_neO G hr O hm hs b hx pins s σ H x y v u Q I rx ry h
/-- what the law's head and steps are, while its lists grow -/
inductive Th (K : PySem.W.Frag) (C p : Addr) (G2 G : Hp) (n : Nat) : V → Prop
  | flat {v : V} : flatV v = true → Th K C p G2 G n v
  | lst {l : Addr} {ys : List V} : l ≠ p → G2 l = none → G l = some (.lst ys) → ys.length ≤ n → (∀ y ∈ ys, IdW y) → Th K C p G2 G n (.ref l)
  | tup {l : Addr} {ys : List V} : G l = some (.tup ys) → (∀ y ∈ ys, IdW y) → Th K C p G2 G n (.ref l)
  | dic {a : Addr} : G a = some (.dK []) → Th K C p G2 G n (.ref a)
  | dct {a : Addr} {k : List Key} : G a = some (.dT [(k, .int 1)]) → Th K C p G2 G n (.ref a)
  | way {c : Addr} {wy : M.Way} : WayAt C G wy c → wy.fine → Th K C p G2 G n (.ref c)
theorem HdK.th {H0 : Hp} {v : V} (np : H0 p ≠ none) (h : HdK H0 G v) : Th K C p H0 G 1000 v := by
  cases h with
  | flat f => exact .flat f
  | lst n e =>
    exact .lst (fun z => by rw [z] at n; exact np n) n e (by decide) fun y hy => by
      rcases List.mem_singleton.mp hy with rfl
      exact .inl rfl
  | tup e =>
    exact .tup e fun y hy => by
      rcases List.mem_singleton.mp hy with rfl
      exact .inl rfl
  | dic e => exact .dic e
theorem SvK.th {H0 : Hp} {v : V} (h : SvK K C p H0 G v) : Th K C p H0 G 1000 v := by
  cases h with
  | flat f => exact .flat f
  | lst n f e l a =>
    exact .lst n f e l fun x hx => by
      obtain ⟨b, q⟩ := a x hx 1
      exact q.idw
  | tup e l a =>
    exact .tup e fun x hx => by
      obtain ⟨b, q⟩ := a x hx 1
      exact q.idw
  | dic e => exact .dic e
  | dct e => exact .dct e
  | way w f => exact .way (w.mono hidS_same) f
theorem Th.mono {H : Hp} {n : Nat} (s : Same G H) {v : V} (h : Th K C p G2 G n v) : Th K C p G2 H n v := by
  cases h with
  | flat f => exact .flat f
  | lst a b e c d => exact .lst a b (s _ _ e) c d
  | tup e d => exact .tup (s _ _ e) d
  | dic e => exact .dic (s _ _ e)
  | dct e => exact .dct (s _ _ e)
  | way w f => exact .way (w.mono s) f
theorem Th.more {n : Nat} {l : Addr} {xs : List V} (e : G l = some (.lst xs)) (lx : xs.length ≤ n) (ix : ∀ y ∈ xs, IdW y) {v : V} (h : Th K C p G2 G n v) : Th K C p G2 (upd G l (.lst (xs ++ [.non]))) (n + 1) v := by
  cases h with
  | flat f => exact .flat f
  | @lst l' ys a b e' c d =>
    by_cases q : l' = l
    · subst q
      refine .lst a b upd_same ?_ ?_
      · rw [List.length_append]
        exact Nat.succ_le_succ lx
      · intro y hy
        rcases List.mem_append.mp hy with m | m
        · exact ix y m
        · rcases List.mem_singleton.mp m with rfl
          exact .inl rfl
    · exact .lst a b (by rw [upd_ne q]; exact e') (Nat.le_succ_of_le c) d
  | tup e' d => exact .tup (by rw [upd_ne (fun z => by rw [z, e] at e'; cases e')]; exact e') d
  | dic e' => exact .dic (by rw [upd_ne (fun z => by rw [z, e] at e'; cases e')]; exact e')
  | dct e' => exact .dct (by rw [upd_ne (fun z => by rw [z, e] at e'; cases e')]; exact e')
  | way w f => exact .way (w.keep (CP.put_keepT e)) f
theorem Th.succ {n : Nat} {v : V} (h : Th K C p G2 G n v) : Th K C p G2 G (n + 1) v := by
  cases h with
  | flat f => exact .flat f
  | lst a b e c d => exact .lst a b e (Nat.le_succ_of_le c) d
  | tup e d => exact .tup e d
  | dic e => exact .dic e
  | dct e => exact .dct e
  | way w f => exact .way w f
theorem Th.isl (T : Wt K mg C) (kL : PySem.W.kitOne K (.ref C) (.type "list") = some false) {n : Nat} {v : V} (h : Th K C p G2 G n v) : (∃ l xs, v = .ref l ∧ l ≠ p ∧ G2 l = none ∧ G l = some (.lst xs) ∧ xs.length ≤ n ∧ ∀ x ∈ xs, IdW x) ∨ ∃ t, TyX K G v t ∧ PySem.W.kitOne K t (.type "list") = some false := by
  have no : ∀ {t : String}, TyX K G v (.type t) → kitB t "list" = some false → ∃ t, TyX K G v t ∧ PySem.W.kitOne K t (.type "list") = some false := fun a k => ⟨_, a, kit_ty (r := false) k⟩
  cases h with
  | @flat v f =>
    cases v with
    | non => exact .inr (no (.base .non) (by decide +kernel))
    | bl b => exact .inr (no (.base (.bl b)) (by decide +kernel))
    | str s => exact .inr (no (.base (.str s)) (by decide +kernel))
    | int i => exact .inr (no (.base (.int i)) (by decide +kernel))
    | _ => cases f
  | lst a b e c d => exact .inl ⟨_, _, rfl, a, b, e, c, d⟩
  | tup e d => exact .inr (no (.base (.tup e)) (by decide +kernel))
  | dic e => exact .inr (no (.base (.dK e)) (by decide +kernel))
  | dct e => exact .inr (no (.base (.dT e)) (by decide +kernel))
  | way w f =>
    obtain ⟨da, fa, a1, a2⟩ := head_fld w
    exact .inr ⟨_, .base (.ins a1 T.cl T.iA T.iN T.iT T.iM), kL⟩
theorem Th.bool (T : Wt K mg C) (kB : PySem.W.kitOne K (.ref C) (.type "bool") = some false) {n : Nat} {v : V} (h : Th K C p G2 G n v) : ∃ t b, TyX K G v t ∧ PySem.W.kitOne K t (.type "bool") = some b := by
  have no : ∀ {t : String} {b : Bool}, TyX K G v (.type t) → kitB t "bool" = some b → ∃ t b, TyX K G v t ∧ PySem.W.kitOne K t (.type "bool") = some b := fun a k => ⟨_, _, a, kit_ty k⟩
  cases h with
  | @flat v f =>
    cases v with
    | non => exact no (b := false) (.base .non) (by decide +kernel)
    | bl b => exact no (b := true) (.base (.bl b)) (by decide +kernel)
    | str s => exact no (b := false) (.base (.str s)) (by decide +kernel)
    | int i => exact no (b := false) (.base (.int i)) (by decide +kernel)
    | _ => cases f
  | lst a b e c d => exact no (b := false) (.base (.lst e)) (by decide +kernel)
  | tup e d => exact no (b := false) (.base (.tup e)) (by decide +kernel)
  | dic e => exact no (b := false) (.base (.dK e)) (by decide +kernel)
  | dct e => exact no (b := false) (.base (.dT e)) (by decide +kernel)
  | way w f =>
    obtain ⟨da, fa, a1, a2⟩ := head_fld w
    exact ⟨_, _, .base (.ins a1 T.cl T.iA T.iN T.iT T.iM), kB⟩
theorem Th.told {n : Nat} {v : V} (h : Th K C p G2 G n v) {Q : VK} (k : ∀ H', Same G H' → Q (.bl false) H') : rTold K C v v G Q := by
  have k0 := k G (Same.refl _)
  cases h with
  | @flat v f =>
    refine .inl ⟨?_, ?_⟩
    · cases v <;> simp [flatV, scal] at f ⊢
    · rw [decide_eq_true rfl]
      exact k0
  | lst a b e c d => exact .inr (.inl ⟨_, _, _, rfl, rfl, .inl ⟨SqL.of e, SqL.of e⟩, d, k0⟩)
  | tup e d => exact .inr (.inl ⟨_, _, _, rfl, rfl, .inr ⟨SqT.of e, SqT.of e⟩, d, k0⟩)
  | dic e => exact .inr (.inr (.inr (.inl ⟨_, _, _, _, rfl, rfl, e, e, rfl, (fun p hp => by cases hp), k0⟩)))
  | dct e => exact .inr (.inr (.inl ⟨_, _, _, rfl, rfl, e, .inl rfl, k0⟩))
  | @way c wy w f =>
    obtain ⟨da, fa, a1, a2⟩ := head_fld w
    refine .inr (.inr (.inr (.inr ⟨_, _, rfl, rfl, ⟨_, _, a1⟩, ⟨_, _, a1⟩, _, _, wy, wy, rfl, w, w, ?_, fun H' x => ⟨_, rfl, ?_⟩⟩)))
    · cases wy
      unfold M.Way.fine at f
      exact f.2.2.2.1
    · rw [CP.weq_iff.mpr rfl]
      exact k H' x
/-- the lists grow, and what was told is asked for once more -/
def tApp (K : PySem.W.Frag) (C : Addr) : TS := tSeq (tFor (iList K (tLst (tCons (tVar 4) (tCons (tVar 5) tNil)))) (gName 9) (tIfS (tB (tCB (rIsi K) (tCons (tVar 9) (tCons (tC (V.ty "list")) tNil)))) (tDrop (tBM K "list" rAppend (tVar 9) (tCons (tC V.non) tNil))) tNext))
  (tIfS (tOr (tTest (tOp (rTold K C) (tOp (rIxT K) (tVar 8) (tC (.int 1))) (tOp (rIxT K) (tVar 7) (tC (.int 1))))) (tTest (tOp rNe (tCB (rIsi K) (tCons (tOp (rIxT K) (tVar 8) (tC (.int 1))) (tCons (tC (.ty "bool")) tNil))) (tCB (rIsi K) (tCons (tOp (rIxT K) (tVar 7) (tC (.int 1))) (tCons (tC (.ty "bool")) tNil)))))) (tRet (tC (.bl false))) tNext)
theorem end_told (T : Wt K mg C) (kL : PySem.W.kitOne K (.ref C) (.type "list") = some false) (kB : PySem.W.kitOne K (.ref C) (.type "bool") = some false) {D : Ends} {s0 s1 s2 s3 s6 s9 s10 : Option V} {hd sv x : V} {wd : Str} {t1 t2 : Addr} (np : G2 p ≠ none)
    (e1 : G t1 = some (.tup [.str wd, x])) (e2 : G t2 = some (.tup [.str wd, x])) (hx : x = hd ∨ x = sv ∨ ∃ i, x = .int i) (h1 : Th K C p G2 G 1000 hd) (h2 : Th K C p G2 G 1000 sv) (ss : Same (hidS [p] G2) G) (ha : S.At G p)
    (k : ∀ G' q9, Same (hidS [p] G2) G' → S.At G' p → D.nx [s0, s1, s2, s3, some hd, some sv, s6, some (.ref t1), some (.ref t2), q9, s10] G') :
    tApp K C D [s0, s1, s2, s3, some hd, some sv, s6, some (.ref t1), some (.ref t2), s9, s10] G := by
  refine ⟨_, rfl, _, rfl, (by show 2 ≤ sizeLine; decide), fun LL mL => ?_⟩
  have neLL : ∀ {l : Addr} {o : HO}, G l = some o → l ≠ LL := fun e z => by
    rw [z, mL] at e
    cases e
  have sL : Same G (upd G LL (.lst [hd, sv])) := Same.of_upd mL
  have lp : LL ≠ p := fun z => by
    obtain ⟨r, m, e, _⟩ := ha
    exact neLL e z.symm
  have gL : G2 LL = none := by
    cases e : G2 LL with
    | none => rfl
    | some o =>
      have := ss LL o (by rw [hidS_at (fun m => lp (List.mem_singleton.mp m))]; exact e)
      rw [mL] at this
      cases this
  have aL : S.At (upd G LL (.lst [hd, sv])) p := by
    obtain ⟨r, m, e, f⟩ := ha
    exact ⟨r, m, sL _ _ e, f⟩
  refine ⟨LL, rfl, ⟨_, SqL.of upd_same⟩, for_list (K := K) (a := LL) (xs := [hd, sv]) (fun i σ H => ∃ q9, σ = [s0, s1, s2, s3, some hd, some sv, s6, some (.ref t1), some (.ref t2), q9, s10] ∧ H LL = some (.lst [hd, sv]) ∧ H t1 = some (.tup [.str wd, x]) ∧ H t2 = some (.tup [.str wd, x]) ∧ Th K C p G2 H (1000 + i) hd ∧ Th K C p G2 H (1000 + i) sv ∧ Same (hidS [p] G2) H ∧ S.At H p ∧ (hd ≠ .ref LL) ∧ (sv ≠ .ref LL))
    ⟨_, rfl, upd_same, sL _ _ e1, sL _ _ e2, h1.mono sL, h2.mono sL, ss.trans sL, aL, ?_, ?_⟩ (fun i σ G _ z => by
      obtain ⟨_, _, e, _⟩ := z
      exact SqL.of e) ?_ ?_⟩
  · rintro rfl
    cases h1 with
    | flat f => cases f
    | lst a b e c d => exact neLL e rfl
    | tup e d => exact neLL e rfl
    | dic e => exact neLL e rfl
    | dct e => exact neLL e rfl
    | way w f =>
      obtain ⟨da, fa, a1, a2⟩ := head_fld w
      exact neLL a1 rfl
  · rintro rfl
    cases h2 with
    | flat f => cases f
    | lst a b e c d => exact neLL e rfl
    | tup e d => exact neLL e rfl
    | dic e => exact neLL e rfl
    | dct e => exact neLL e rfl
    | way w f =>
      obtain ⟨da, fa, a1, a2⟩ := head_fld w
      exact neLL a1 rfl
  · rintro i y σ H hy ⟨q9, rfl, eL, e1, e2, h1, h2, ss, ha, n1, n2⟩
    have i1 : i < 2 := (List.getElem?_eq_some_iff.mp hy).1
    have hT : Th K C p G2 H (1000 + i) y ∧ y ≠ .ref LL := by
      match i, hy with
      | 0, hy =>
        cases hy
        exact ⟨h1, n1⟩
      | 1, hy =>
        cases hy
        exact ⟨h2, n2⟩
    dsimp only
    rcases hT.1.isl T kL with ⟨l, xs, rfl, m1, m2, m3, m4, m5⟩ | ⟨ty, a1, a2⟩
    · refine ⟨_, rfl, _, _, _, _, _, rfl, .ty _, .base (.lst m3), kit_ty (r := true) (by decide +kernel), _, rfl, iteT ⟨_, rfl, .inl ⟨rfl, _, SqL.of m3⟩, l, xs, _, rfl, rfl, m3, ?_, ?_⟩⟩
      · have : xs.length ≤ 1001 := by omega
        exact Nat.lt_of_le_of_lt this (by show 1001 < sizeLine; decide)
      · have nl : l ≠ LL := fun z => hT.2 (by rw [z])
        refine ⟨_, rfl, ?_, ?_, ?_, h1.more m3 m4 m5, h2.more m3 m4 m5, hid_upd ss m2, ?_, n1, n2⟩
        · rw [upd_ne nl.symm]
          exact eL
        · rw [upd_ne (fun z => by rw [← z, e1] at m3; cases m3)]
          exact e1
        · rw [upd_ne (fun z => by rw [← z, e2] at m3; cases m3)]
          exact e2
        · obtain ⟨r, m, e, f⟩ := ha
          exact ⟨r, m, by rw [upd_ne m1.symm]; exact e, f⟩
    · exact ⟨_, rfl, _, _, _, _, _, rfl, .ty _, a1, a2, _, rfl, iteF ⟨_, rfl, eL, e1, e2, h1.succ, h2.succ, ss, ha, n1, n2⟩⟩
  · rintro σ H ⟨q9, rfl, eL, e1, e2, h1, h2, ss, ha, n1, n2⟩
    have hX : Th K C p G2 H 1002 x := by
      rcases hx with rfl | rfl | ⟨i, rfl⟩
      · exact h1
      · exact h2
      · exact .flat rfl
    refine ⟨_, rfl, t2, _, _, _, rfl, rfl, SqT.of e2, at1, _, rfl, t1, _, _, _, rfl, rfl, SqT.of e1, at1, ?_⟩
    refine hX.told fun H' s' => ?_
    obtain ⟨ty, b, a1, a2⟩ := (hX.mono s').bool T kB
    have e1 := s' _ _ e1
    have e2 := s' _ _ e2
    refine ⟨_, rfl, iteF ⟨_, rfl, t2, _, _, _, rfl, rfl, SqT.of e2, at1, _, _, _, _, _, rfl, .ty _, a1, a2, _, rfl, t1, _, _, _, rfl, rfl, SqT.of e1, at1, _, _, _, _, _, rfl, .ty _, a1, a2, rfl, _, rfl, ?_⟩⟩
    rw [decide_eq_true (rfl : V.bl b = V.bl b)]
    refine iteF (k _ _ (ss.trans s') ?_)
    obtain ⟨r, m, e, f⟩ := ha
    exact ⟨r, m, s' _ _ e, f⟩
end
end WP

end
section
set_option autoImplicit false
set_option Elab.async false
set_option linter.all false
set_option maxRecDepth 100000
set_option maxHeartbeats 4000000
set_option pp.maxSteps 900
/-! ## a way that is made -/
namespace EB
open PySem PySem.Spec PyProof.Rows L2 WP
/-- x != y of tuples that are equal item by item -/
def rNeB (K : PySem.W.Frag) (D : Cmp) : R2 := fun x y H Q => ∃ a b xs ys, x = .ref a ∧ y = .ref b ∧ SqT K H a xs ∧ SqT K H b ys ∧ xs.length = ys.length ∧ (∀ (i : Nat) x y, xs[i]? = some x → ys[i]? = some y → D x y true H) ∧ ∀ H', Ext H H' → Q (.bl false) H'
section
variable {X : Cx} {n : Nat} {D : Cmp}
theorem op_neB (hD : MonB D) (h : EqB X n D) (hr : Room (n + 1) X.A) : OpR X (compareOp .NotEq) (rNeB X.K D) := by
  intro pins s σ H x y v u Q I rx ry hq
  obtain ⟨a, b, xs, ys, rfl, rfl, ha, hb, el, p, q⟩ := hq
  cases rx
  cases ry
  obtain ⟨ia, ra, ea, -⟩ := I.tuple ha
  obtain ⟨ib, rb, eb, -⟩ := I.tuple hb
  have za : ia.toArray.size = xs.length := by rw [List.size_toArray, ra.length]
  have zb : ib.toArray.size = ys.length := by rw [List.size_toArray, rb.length]
  have sb : Sub X (n + 1) X.A := ⟨hr, rfl⟩
  show wpAny (model X.prog X.w) X.A (richCompare .NotEq (.ref a) (.ref b)) (EP X pins σ Q) X.xe s
  refine NQ.rc_ne (by rw [za, zb, el]) hr.units0 (fun _ t => LoopI X pins σ H t) ea eb (fun k k1 k2 t j => ?_) (fun t l => ?_) ⟨H, I, Ext.rfl'⟩
  · obtain ⟨H1, I1, x1⟩ := j
    have q1 : k < xs.length := by omega
    have q2 : k < ys.length := by omega
    obtain ⟨u, hu, ru⟩ := ra.get (List.getElem?_eq_getElem q1)
    obtain ⟨v, hv, rv⟩ := rb.get (List.getElem?_eq_getElem q2)
    have g1 : ia[k]? = some ia.toArray[k] := by simp
    have g2 : ib[k]? = some ib.toArray[k] := by simp
    rw [g1] at hu
    rw [g2] at hv
    rw [Option.some.inj hu, Option.some.inj hv]
    refine wpAny_mono (h X.A.in1 pins t σ H1 _ _ u v true sb.in1 I1 ru rv (hD _ _ _ _ _ x1 (p k _ _ (List.getElem?_eq_getElem q1) (List.getElem?_eq_getElem q2)))) (fun r t2 q => ?_) fun _ _ x => x
    obtain ⟨hr, H2, I2, x2⟩ := q
    exact ⟨hr, H2, I2, x1.trans x2⟩
  · obtain ⟨H1, I1, x1⟩ := l
    exact ⟨.bl false, H1, I1, rfl, q H1 x1⟩
end
end EB
namespace WP
open PySem L2 G
section
variable {P : Program} {w : World} {K : PySem.W.Frag} {mg : Str → Option Value} {base : Heap} {C p : Addr} {G2 G : Hp}
/-- how steps compare -/
abbrev DStp (K : PySem.W.Frag) (C : Addr) : EB.Cmp := EB.BSm (EB.BTup K (EB.BIt C 3))
theorem op_neStp {X : Cx} {f : Addr} {fd : FuncData} (G : FnOk X.prog X.w X.K X.mg X.base CX0 10 f fd ["self", "other"] (EB.spWEB C 3)) (O : WO.Own X.K C f "__eq__") (b : Binds X.K fd ["self", "other"] []) (hr : Room 12 X.A) : OpR X (compareOp .NotEq) (EB.rNeB X.K (DStp X.K C)) :=
  EB.op_neB (EB.mon_sm (EB.mon_tup EB.mon_bit)) (EB.eqB_tup EB.mon_bit ((EB.eqB_flat.mono (Nat.zero_le 10)).or ((EB.rcB_wy G O b).eqB fun _ _ _ _ d => let ⟨a, b, _, _, hx, hy, _⟩ := d; ⟨a, b, hx, hy⟩))) hr
theorem steps_same {H : Hp} : ∀ {st : List M.Step} {xs ys : List V}, M.Step.deepest st ≤ 3 → StepsAt C H st xs → StepsAt C H st ys → ∀ (i : Nat) x y, xs[i]? = some x → ys[i]? = some y → DStp K C x y true H
  | [], xs, ys, d, h1, h2, i, x, y, e1, e2 => by
    unfold StepsAt at h1
    subst h1
    cases e1
  | s :: r, xs, ys, d, h1, h2, i, x, y, e1, e2 => by
    rw [M.deep_cons] at d
    unfold StepsAt at h1 h2
    obtain ⟨x0, xs, rfl, a1, a2⟩ := h1
    obtain ⟨y0, ys, rfl, b1, b2⟩ := h2
    cases i with
    | zero =>
      cases e1
      cases e2
      have := EB.step_sb (K := K) (n := 3) (by omega) a1 b1
      rw [CP.seq_iff.mpr rfl] at this
      exact this
    | succ i => exact steps_same (by omega) a2 b2 i x y e1 e2
def tTold1 (K : PySem.W.Frag) : TE := tOp (rIxT K) (tVar 8) (tC (.int 1))
/-- the way that was made is asked -/
def tMade2 (K : PySem.W.Frag) (C : Addr) : TS := tSeq (tIfS (tTest (tOp (LN.rNeI K) (tTup (tCons (tFld K (tTold1 K) "head") (tCons (tFld K (tTold1 K) "depth") (tCons (tFld K (tTold1 K) "size") tNil)))) (tTup (tCons (tVar 4) (tCons (tOp (rIxT K) (tVar 7) (tC (.int 1))) (tCons (tOp (rIxT K) (tVar 7) (tC (.int 2))) tNil)))))) (tRet (tC (.bl false))) tNext)
  (tIfS (tOr (tTest (tOp (EB.rNeB K (DStp K C)) (tFld K (tTold1 K) "steps") (tVar 10))) (tOr (tNot (tB (tCB (rIsi K) (tCons (tFld K (tTold1 K) "steps") (tCons (tC (.ty "tuple")) tNil))))) (tTest (tOp rNe (tCB (WO.rLenO C (spLenW C) E0) (tCons (tTold1 K) tNil)) (tCB (fun xs H Q => ∃ p ys, xs = [.ref p] ∧ (SqL K H p ys ∨ SqT K H p ys) ∧ Q (.int ys.length) H) (tCons (tVar 10) tNil)))))) (tRet (tC (.bl false))) tNext)
def tMade (K : PySem.W.Frag) (C : Addr) : TS := tSeq (tAsg (tCB (fun xs H Q => ∃ p ys, xs = [.ref p] ∧ ((SqL K H p ys ∧ ∀ l, H l = none → Q (.ref l) (upd H l (.tup ys))) ∨ (SqT K H p ys ∧ Q (.ref p) H))) (tCons (tVar 5) tNil)) (gName 10))
  (tSeq (tIfS (tB (tCB (rIsi K) (tCons (tVar 5) (tCons (tC (.ty "list")) tNil)))) (tDrop (tBM K "list" rAppend (tVar 5) (tCons (tC .non) tNil))) tNext) (tMade2 K C))
theorem end_made2 (T : Wt K mg C) {D : Ends} {s0 s1 s2 s3 s6 s9 : Option V} {h : Nat} {sv : V} {st : List M.Step} {xs : List V} {t1 t2 c kt : Addr} (wc : WayAt C G (.mk h st) c) (f : (M.Way.mk h st).fine)
    (e1 : G t1 = some (.tup [.str "made", .int ((1 + M.Step.deepest st : Nat) : Int), .int ((st.length + M.Step.inner st : Nat) : Int)])) (e2 : G t2 = some (.tup [.str "made", .ref c])) (ek : G kt = some (.tup xs)) (hs : StepsAt C G st xs)
    (k : ∀ G', Same G G' → D.nx [s0, s1, s2, s3, some (.int (h : Int)), some sv, s6, some (.ref t1), some (.ref t2), s9, some (.ref kt)] G') :
    tMade2 K C D [s0, s1, s2, s3, some (.int (h : Int)), some sv, s6, some (.ref t1), some (.ref t2), s9, some (.ref kt)] G := by
  have wc' := wc
  unfold WayAt at wc'
  obtain ⟨dx, t, ys, hi, ht, hy⟩ := wc'
  refine ⟨_, rfl, t2, _, _, _, rfl, rfl, SqT.of e2, at1, c, C, dx, _, _, rfl, hi, T.cl, T.nH, flds_head _ _ _ _, _, rfl, t2, _, _, _, rfl, rfl, SqT.of e2, at1, c, C, dx, _, _, rfl, hi, T.cl, T.nD, flds_depth _ _ _ _, _, rfl, t2, _, _, _, rfl, rfl, SqT.of e2, at1, c, C, dx, _, _, rfl, hi, T.cl, T.nZ, flds_size _ _ _ _, (by show 3 ≤ sizeLine; decide), fun p1 n1 => ?_⟩
  have q1 := Same.of_upd (o := .tup [.int (h : Int), .int ((1 + M.Step.deepest st : Nat) : Int), .int ((st.length + M.Step.inner st : Nat) : Int)]) n1
  refine ⟨_, rfl, _, rfl, t1, _, _, _, rfl, rfl, SqT.of (q1 _ _ e1), at1, _, rfl, t1, _, _, _, rfl, rfl, SqT.of (q1 _ _ e1), at2, (by show 3 ≤ sizeLine; decide), fun p2 n2 => ?_⟩
  have q2 := Same.of_upd (o := .tup [.int (h : Int), .int ((1 + M.Step.deepest st : Nat) : Int), .int ((st.length + M.Step.inner st : Nat) : Int)]) n2
  refine ⟨p1, p2, _, rfl, rfl, .inr ⟨SqT.of (q2 _ _ upd_same), SqT.of upd_same⟩, ?_, _, rfl, iteF ?_⟩
  · intro v hv
    simp only [List.mem_cons, List.not_mem_nil, or_false] at hv
    rcases hv with rfl | rfl | rfl <;> exact .inl rfl
  have q := q1.trans q2
  generalize upd (upd G p1 _) p2 _ = G3 at q
  clear q1 q2 n1 n2
  have fd : M.Step.deepest st ≤ 3 := by
    unfold M.Way.fine at f
    have := f.2.2.2.1
    omega
  refine ⟨_, rfl, t2, _, _, _, rfl, rfl, SqT.of (q _ _ e2), at1, c, C, dx, _, _, rfl, q _ _ hi, T.cl, T.nS, flds_steps _ _ _ _, _, rfl, t, kt, ys, xs, rfl, rfl, SqT.of (q _ _ ht), SqT.of (q _ _ ek), by rw [hy.len, hs.len], steps_same fd (hy.mono q) (hs.mono q), fun G4 q4 => ⟨_, rfl, iteF ?_⟩⟩
  have q : Same G G4 := q.trans q4
  refine ⟨_, rfl, t2, _, _, _, rfl, rfl, SqT.of (q _ _ e2), at1, c, C, dx, _, _, rfl, q _ _ hi, T.cl, T.nS, flds_steps _ _ _ _, _, _, _, _, _, rfl, .ty _, .base (.tup (q _ _ ht)), kit_ty (r := true) (by decide +kernel), _, rfl, iteF ?_⟩
  refine ⟨_, rfl, t2, _, _, _, rfl, rfl, SqT.of (q _ _ e2), at1, c, rfl, ⟨_, _, q _ _ hi⟩, ⟨c, _, rfl, wc.mono q, st.length, rfl, ?_, _, rfl, kt, xs, rfl, .inr (SqT.of (q _ _ ek)), rfl, _, rfl, ?_⟩⟩
  · unfold M.Way.fine at f
    have := f.2.1.2
    omega
  · rw [hs.len, decide_eq_true (rfl : V.int ((st.length : Nat) : Int) = V.int ((st.length : Nat) : Int))]
    exact iteF (k _ q)
theorem end_made (T : Wt K mg C) (kL : PySem.W.kitOne K (.ref C) (.type "list") = some false) {D : Ends} {s0 s1 s2 s3 s6 s9 s10 : Option V} {h : Nat} {st : List M.Step} {xs : List V} {l t1 t2 c : Addr} (wc : WayAt C G (.mk h st) c) (f : (M.Way.mk h st).fine)
    (e1 : G t1 = some (.tup [.str "made", .int ((1 + M.Step.deepest st : Nat) : Int), .int ((st.length + M.Step.inner st : Nat) : Int)])) (e2 : G t2 = some (.tup [.str "made", .ref c])) (hs : StepsAt C G st xs)
    (hl : (G l = some (.lst xs) ∧ l ≠ p ∧ G2 l = none) ∨ G l = some (.tup xs)) (ss : Same (hidS [p] G2) G) (ha : S.At G p)
    (k : ∀ G' kt, Same (hidS [p] G2) G' → S.At G' p → D.nx [s0, s1, s2, s3, some (.int (h : Int)), some (.ref l), s6, some (.ref t1), some (.ref t2), s9, some (.ref kt)] G') :
    tMade K C D [s0, s1, s2, s3, some (.int (h : Int)), some (.ref l), s6, some (.ref t1), some (.ref t2), s9, s10] G := by
  rcases hl with ⟨el, lp, gl⟩ | el
  · refine ⟨_, rfl, l, xs, rfl, .inl ⟨SqL.of el, fun kt nk => ?_⟩⟩
    have q1 := Same.of_upd (o := .tup xs) nk
    have el1 := q1 _ _ el
    have ek : (upd G kt (.tup xs)) kt = some (.tup xs) := upd_same
    dsimp only [List.set]
    generalize upd G kt (.tup xs) = G3 at q1 el1 ek
    have hl12 : xs.length ≤ 12 := by
      unfold M.Way.fine at f
      have := f.2.1.2
      rw [hs.len]
      exact this
    refine ⟨_, rfl, _, _, _, _, _, rfl, .ty _, .base (.lst el1), kit_ty (r := true) (by decide +kernel), _, rfl, iteT ⟨_, rfl, .inl ⟨rfl, _, SqL.of el1⟩, l, xs, _, rfl, rfl, el1, Nat.lt_of_le_of_lt hl12 (by show 12 < sizeLine; decide), ?_⟩⟩
    have kp := CP.put_keepT (o := .lst (xs ++ [.non])) el1
    have kp2 : CP.KeepT G (upd G3 l (.lst (xs ++ [.non]))) := fun a o n e => kp a o n (q1 _ _ e)
    refine end_made2 T (wc.keep kp2) f (kp2 _ _ (fun _ z => by cases z) e1) (kp2 _ _ (fun _ z => by cases z) e2) (kp _ _ (fun _ z => by cases z) ek) (hs.keep kp2) fun G' s' => k G' kt ((hid_upd (ss.trans q1) gl).trans s') ?_
    obtain ⟨r, m, e, f⟩ := ha
    exact ⟨r, m, s' _ _ (by rw [upd_ne lp.symm]; exact q1 _ _ e), f⟩
  · refine ⟨_, rfl, l, xs, rfl, .inr ⟨SqT.of el, ?_⟩⟩
    dsimp only [List.set]
    refine ⟨_, rfl, _, _, _, _, _, rfl, .ty _, .base (.tup el), kit_ty (r := false) (by decide +kernel), _, rfl, iteF ?_⟩
    refine end_made2 T wc f e1 e2 el hs fun G' s' => k G' l (ss.trans s') ?_
    obtain ⟨r, m, e, f⟩ := ha
    exact ⟨r, m, s' _ _ e, f⟩
end
end WP

end
section
set_option autoImplicit false
set_option Elab.async false
set_option linter.all false
set_option maxRecDepth 100000
set_option maxHeartbeats 4000000
set_option pp.maxSteps 900
/-! ## the law -/
namespace WP
open PySem L2 G
abbrev sLaw : Stmt := top 45
section
variable {P : Program} {w : World} {K : PySem.W.Frag} {mg : Str → Option Value} {base : Heap} {C : Addr}
theorem df_lrows (B : Y.Bn mg) (Z : Fd K mg "_law_rows" sLRows ["source", "depth", "many"]) (DD : Df P w K mg base 1 "_law_draw" ["source", "span"] S.spDraw) (PK : Df P w K mg base 2 "_law_pick" ["source", "items"] (S.spPick K)) (DM : Df P w K mg base 3 "_law_most" ["source"] spLMost) (DR : Df P w K mg base 3 "_law_road" ["source", "head"] spLRoad) : ∀ n, Df P w K mg base (3 + n) "_law_rows" ["source", "depth", "many"] (spLRows n)
  | 0 => Z.df fun f fd F => F.ok scRo (fun vs H Q E h => by
      obtain ⟨p, rfl, _⟩ := h
      rfl) (fun cdv A outer s H vs Q E hr h => by
      exfalso
      obtain ⟨p, _, h1, _⟩ := h
      omega)
  | n + 1 => Z.df fun f fd F => ok_lrows (k := 3 + n) F (Nat.le_add_right 3 n) B DD PK DM DR (df_lrows B Z DD PK DM DR n)
theorem at_same {H H' : Hp} {p : Addr} (s : Same H H') (h : S.At H p) : S.At H' p := by
  obtain ⟨r, m, e, f⟩ := h
  exact ⟨r, m, s _ _ e, f⟩
theorem at_nn {H : Hp} {p : Addr} (h : S.At H p) : H p ≠ none := fun n => by
  obtain ⟨r, m, e, f⟩ := h
  rw [n] at e
  cases e
theorem made_of {H : Hp} {hd : V} {l : Addr} {xs : List V} {h : Nat} {st : List M.Step} (c : Cse K C H hd (.ref l) (.made h st)) (e : H l = some (.lst xs)) : (M.Way.mk h st).fine ∧ hd = .int (h : Int) ∧ StepsAt C H st xs := by
  cases c with
  | made eh es hl hs hf =>
    cases es
    rcases hl with q | q
    · rw [e] at q
      cases q
      exact ⟨hf, eh, hs⟩
    · rw [e] at q
      cases q
theorem sv_nl {p : Addr} {H0 H : Hp} {v : V} (h : SvK K C p H0 H v) : (∃ l xs, v = .ref l ∧ H l = some (.lst xs)) ∨ ∀ l xs, v = .ref l → H l ≠ some (.lst xs) := by
  cases h with
  | flat f => exact .inr fun l xs e => by rw [e] at f; cases f
  | lst _ _ e _ _ => exact .inl ⟨_, _, rfl, e⟩
  | tup e _ _ => exact .inr fun l xs z q => by cases z; rw [e] at q; cases q
  | dic e => exact .inr fun l xs z q => by cases z; rw [e] at q; cases q
  | dct e => exact .inr fun l xs z q => by cases z; rw [e] at q; cases q
  | way w f =>
    obtain ⟨da, fa, a1, a2⟩ := head_fld w
    exact .inr fun l xs z q => by cases z; rw [hidS_un a1] at q; cases q
theorem sv_isl2 {p : Addr} (T : Wt K mg C) (kL : PySem.W.kitOne K (.ref C) (.type "list") = some false) {v : V} {H0 H : Hp} (h : SvK K C p H0 H v) : (∃ l xs, v = .ref l ∧ l ≠ p ∧ H0 l = none ∧ H l = some (.lst xs) ∧ xs.length ≤ 1000 ∧ ∀ x ∈ xs, IdW x) ∨ ∃ t, TyX K H v t ∧ PySem.W.kitOne K t (.type "list") = some false ∧ ∀ l xs, v = .ref l → H l ≠ some (.lst xs) := by
  rcases sv_nl h with ⟨l, xs, rfl, e⟩ | n
  · cases h with
    | flat f => cases f
    | lst a b e' l' al =>
      exact .inl ⟨_, _, rfl, a, b, e', l', fun x hx => by
        obtain ⟨b, q⟩ := al x hx 1
        exact q.idw⟩
    | tup e' _ _ => rw [e] at e'; cases e'
    | dic e' => rw [e] at e'; cases e'
    | dct e' => rw [e] at e'; cases e'
    | way w f =>
      obtain ⟨da, fa, a1, a2⟩ := head_fld w
      have := hidS_un a1
      rw [e] at this
      cases this
  · rcases sv_isl T kL h with ⟨l, xs, e, _, _, q, _⟩ | ⟨t, a, b⟩
    · exact absurd q (n _ _ e)
    · exact .inr ⟨t, a, b, n⟩
theorem made_ofT {H : Hp} {hd sv : V} {h : Nat} {st : List M.Step} (c : Cse K C H hd sv (.made h st)) (n : ∀ l xs, sv = .ref l → H l ≠ some (.lst xs)) : ∃ l xs, sv = .ref l ∧ H l = some (.tup xs) ∧ (M.Way.mk h st).fine ∧ hd = .int (h : Int) ∧ StepsAt C H st xs := by
  cases c with
  | made eh es hl hs hf =>
    rcases hl with q | q
    · exact absurd q (n _ _ es)
    · exact ⟨_, _, es, q, hf, eh, hs⟩
def spLaw (K : PySem.W.Frag) : Sp := fun vs H Q _ => ∃ (a : Addr) (ns : List Int), vs = [.ref a] ∧ SqL K H a (ns.map V.int) ∧ ns.length ≤ 63 ∧ (∀ z ∈ ns, Builtin.Int.intBits z ≤ 1048576) ∧ ∀ H', Q (.bl true) H'
abbrev NLa : List Str := ["script", "start", "source", "turn", "head", "steps", "seen", "due", "told", "thing", "kept"]
theorem scLa : FnScope NLa ["script"] (defScope sLaw) := ⟨rfl, rfl, rfl, by decide +kernel, rfl, by decide +kernel, by decide +kernel⟩
theorem ok_law {f fQ fL : Addr} {fd dQ dL : FuncData} (F : Fun K "law" "law" sLaw f fd) (B : Y.Bn mg) (T : Wt K mg C) (kL : PySem.W.kitOne K (.ref C) (.type "list") = some false) (kT : PySem.W.kitOne K (.ref C) (.type "tuple") = some false) (kB : PySem.W.kitOne K (.ref C) (.type "bool") = some false) (ne : PySem.W.findIn K (.ref C) "__ne__" = some (some (.builtin "object.__ne__")))
    (DU : Df P w K mg base 1 "_law_source" ["script", "start"] (S.spSource K)) (DC : Df P w K mg base 12 "_law_couple" ["source"] (spCouple K C)) (DE : Df P w K mg base 5 "_law_due" ["head", "steps"] (spLDue K C)) (DT : Df P w K mg base 8 "_law_told" ["head", "steps"] (spLTold K C))
    (GQ : FnOk P w K mg base CX0 10 fQ dQ ["self", "other"] (EB.spWEB C 3)) (OQ : WO.Own K C fQ "__eq__") (bQ : Binds K dQ ["self", "other"] []) (GN : FnOk P w K mg base CX0 1 fL dL ["self"] (spLenW C)) (ON : WO.Own K C fL "__len__") (bN : Binds K dL ["self"] []) : FnOk P w K mg base CX0 13 f fd ["script"] (spLaw K) := by
  obtain ⟨fU, fdU, GU, gU, kU, bU⟩ := DU.ex
  obtain ⟨fC, fdC, GC, gC, kC, bC⟩ := DC.ex
  obtain ⟨fE, fdE, GE, gE, kE, bE⟩ := DE.ex
  obtain ⟨fO, fdO, GO, gO, kO, bO⟩ := DT.ex
  refine F.ok scLa (fun vs H Q E h => ?_) (fun cdv A outer s H vs Q E hr h => ?_)
  · obtain ⟨a, ns, rfl, _⟩ := h
    rfl
  · obtain ⟨a, ns, rfl, hS, hl, hb, k⟩ := h
    refine ⟨_, pss_cons (ps_for PassesOwn.never rfl (pi_range1 (by rfl) B.range (pa_cons (pe_callB (call_max2 rfl) (by rfl) B.max (by decide +kernel) (pa_cons (pe_int) (pa_cons (pe_callB (call_min2 rfl) (by rfl) B.min (by decide +kernel) (pa_cons (pe_int) (pa_cons (pe_callB call_len_seq (by rfl) B.len PySem.boot_len (pa_cons (pv 0) pa_nil)) pa_nil))) pa_nil))) pa_nil)) (pg_name (i := 1) scLa.nd rfl (Or.inl rfl)) (pss_cons (ps_set (i := 2) scLa.nd rfl (Or.inl rfl) (pe_call GU (hr.mono (by decide)) rfl gU kU bU .nil pass0 (pa_cons (pv 0) (pa_cons (pv 1) pa_nil))))
      (pss_one (ps_for PassesOwn.never rfl (pi_range1 (by rfl) B.range (pa_cons (pe_int) pa_nil)) (pg_name (i := 3) scLa.nd rfl (Or.inl rfl)) (pss_cons (ps_asg (pe_call GC (hr.mono (by decide)) rfl gC kC bC .nil pass0 (pa_cons (pv 2) pa_nil)) (pg_tup (by rfl) (pgs_cons (pg_name (i := 4) scLa.nd rfl (Or.inl rfl)) (pgs_cons (pg_name (i := 5) scLa.nd rfl (Or.inl rfl)) pgs_nil))))
      (pss_cons (ps_set (i := 6) scLa.nd rfl (Or.inl rfl) (pe_ifExp (pt_val (pe_callB call_isi (by rfl) B.isi (by decide +kernel) (pa_cons (pv 5) (pa_cons (pe_bltn (v := .ty "list") (by rfl) B.list (by decide +kernel) rfl) pa_nil)))) (pe_callTy call_list_of (by rfl) B.list (by decide +kernel) (pa_cons (pv 5) pa_nil)) (pe_lst pa_nil)))
      (pss_cons (ps_par (i := 7) (j := 8) (by rfl) scLa.nd rfl rfl (by decide) rfl rfl (pa_cons (pe_call GE (hr.mono (by decide)) rfl gE kE bE .nil pass0 (pa_cons (pv 4) (pa_cons (pv 5) pa_nil))) (pa_cons (pe_call GO (hr.mono (by decide)) rfl gO kO bO .nil pass0 (pa_cons (pv 4) (pa_cons (pv 5) pa_nil))) pa_nil)) (by rfl))
      (pss_cons (ps_if (PW.pt (pw_or (pt_cmpR (op_ne) (pe_ix ix_tup (pv 8) (pe_int) (fun _ _ => rfl)) (pe_ix ix_tup (pv 7) (pe_int) (fun _ _ => rfl)) (nomark _)) (pw_or1 (PW.pt (pw_and (pt_val (pe_callB call_isi (by rfl) B.isi (by decide +kernel) (pa_cons (pv 5) (pa_cons (pe_bltn (v := .ty "list") (by rfl) B.list (by decide +kernel) rfl) pa_nil)))) (pw_and1 (pt_cmpR ((LN.op_neI (Nat.lt_of_le_of_lt (Nat.le_add_right _ 64) hr.units))) (pv 5) (pv 6) (nomark _)))))))) (pss_one (ps_ret (pe_bl))) (pss_nil))
      (pss_one (ps_if (pt_cmpR (op_ne) (pe_ix ix_tup (pv 7) (pe_int) (fun _ _ => rfl)) (pe_str) (nomark _)) (pss_cons (ps_for PassesOwn.never rfl (pi_list (pe_lst (pa_cons (pv 4) (pa_cons (pv 5) pa_nil)))) (pg_name (i := 9) scLa.nd rfl (Or.inl rfl)) (pss_one (ps_if (pt_val (pe_callB call_isi (by rfl) B.isi (by decide +kernel) (pa_cons (pv 9) (pa_cons (pe_bltn (v := .ty "list") (by rfl) B.list (by decide +kernel) rfl) pa_nil)))) (pss_one (ps_expr (pe_bm PySem.F.plainAttrs_list PySem.F.slot_list_append PySem.F.type_list_append mt_append (pv 9) (pa_cons (pe_non) pa_nil)))) (pss_nil))))
      (pss_one (ps_if (PW.pt (pw_or (pt_cmpR (op_told GQ OQ bQ T.iM ne (hr.mono (by decide)) pass0) (pe_ix ix_tup (pv 8) (pe_int) (fun _ _ => rfl)) (pe_ix ix_tup (pv 7) (pe_int) (fun _ _ => rfl)) (nomark _)) (pw_or1 (pt_cmpR (op_ne) (pe_callB call_isi (by rfl) B.isi (by decide +kernel) (pa_cons (pe_ix ix_tup (pv 8) (pe_int) (fun _ _ => rfl)) (pa_cons (pe_bltn (v := .ty "bool") (by rfl) B.bool (by decide +kernel) rfl) pa_nil))) (pe_callB call_isi (by rfl) B.isi (by decide +kernel) (pa_cons (pe_ix ix_tup (pv 7) (pe_int) (fun _ _ => rfl)) (pa_cons (pe_bltn (v := .ty "bool") (by rfl) B.bool (by decide +kernel) rfl) pa_nil))) (nomark _))))) (pss_one (ps_ret (pe_bl))) (pss_nil)))) (pss_cons (ps_set (i := 10) scLa.nd rfl (Or.inl rfl) (pe_callTy call_tuple_of (by rfl) B.tuple (by decide +kernel) (pa_cons (pv 5) pa_nil)))
      (pss_cons (ps_if (pt_val (pe_callB call_isi (by rfl) B.isi (by decide +kernel) (pa_cons (pv 5) (pa_cons (pe_bltn (v := .ty "list") (by rfl) B.list (by decide +kernel) rfl) pa_nil)))) (pss_one (ps_expr (pe_bm PySem.F.plainAttrs_list PySem.F.slot_list_append PySem.F.type_list_append mt_append (pv 5) (pa_cons (pe_non) pa_nil)))) (pss_nil))
      (pss_cons (ps_if (pt_cmpR ((LN.op_neI (Nat.lt_of_le_of_lt (Nat.le_add_right _ 64) hr.units))) (pe_tup (pa_cons (pe_fld (pe_ix ix_tup (pv 8) (pe_int) (fun _ _ => rfl)) rfl) (pa_cons (pe_fld (pe_ix ix_tup (pv 8) (pe_int) (fun _ _ => rfl)) rfl) (pa_cons (pe_fld (pe_ix ix_tup (pv 8) (pe_int) (fun _ _ => rfl)) rfl) pa_nil)))) (pe_tup (pa_cons (pv 4) (pa_cons (pe_ix ix_tup (pv 7) (pe_int) (fun _ _ => rfl)) (pa_cons (pe_ix ix_tup (pv 7) (pe_int) (fun _ _ => rfl)) pa_nil)))) (nomark _)) (pss_one (ps_ret (pe_bl))) (pss_nil))
      (pss_one (ps_if (PW.pt (pw_or (pt_cmpR ((op_neStp GQ OQ bQ (hr.mono (by decide)))) (pe_fld (pe_ix ix_tup (pv 8) (pe_int) (fun _ _ => rfl)) rfl) (pv 10) (nomark _)) (pw_or (pt_not (pt_val (pe_callB call_isi (by rfl) B.isi (by decide +kernel) (pa_cons (pe_fld (pe_ix ix_tup (pv 8) (pe_int) (fun _ _ => rfl)) rfl) (pa_cons (pe_bltn (v := .ty "tuple") (by rfl) B.tuple (by decide +kernel) rfl) pa_nil))))) (pw_or1 (pt_cmpR (op_ne) (pe_callB (WO.call_lenO GN (hr.mono (by decide)) ON bN pass0) (by rfl) B.len PySem.boot_len (pa_cons (pe_ix ix_tup (pv 8) (pe_int) (fun _ _ => rfl)) pa_nil)) (pe_callB call_len_seq (by rfl) B.len PySem.boot_len (pa_cons (pv 10) pa_nil)) (nomark _)))))) (pss_one (ps_ret (pe_bl))) (pss_nil))))))))))))))))
      (pss_one (ps_ret (pe_bl))), ?_⟩
    refine ⟨_, rfl, a, _, rfl, .inl hS, _, _, rfl, _, _, rfl, _, rfl, by split <;> omega, by split <;> (try split) <;> omega, for_range (n := Int.toNat _) (fun i σ G => (SqL K G a (ns.map V.int)) ∧ ∃ q1 q2 q3 q4 q5 q6 q7 q8 q9 q10, σ = [some (.ref a), q1, q2, q3, q4, q5, q6, q7, q8, q9, q10])
      ⟨hS, _, _, _, _, _, _, _, _, _, _, rfl⟩ ?_ ?_⟩
    · rintro i σ G hi ⟨s0, q1, q2, q3, q4, q5, q6, q7, q8, q9, q10, rfl⟩
      dsimp only
      refine set_then (i := 2) ⟨_, rfl, _, rfl, a, ns, i, by show [V.ref a, V.int (0 + (i : Int))] = _; rw [Int.zero_add], ?_, s0, hl, hb, fun p r m hp hf => ?_⟩
      · split at hi <;> (try split at hi) <;> omega
      have s1 : SqL K (hidS [p] (upd G p (.lst (S.Two r m)))) a (ns.map V.int) := (hid_newP hp).seq s0
      have at1 : S.At (upd G p (.lst (S.Two r m))) p := ⟨r, m, upd_same, hf⟩
      generalize upd G p (.lst (S.Two r m)) = G1 at s1 at1 ⊢
      clear hp hf s0
      dsimp only
      refine ⟨12, rfl, by decide, by decide, for_range (n := 12) (fun i2 σ G => Same (hidS [p] G1) G ∧ S.At G p ∧ ∃ q3 q4 q5 q6 q7 q8 q9 q10, σ = [some (.ref a), some (.int (0 + (i : Int))), some (.ref p), q3, q4, q5, q6, q7, q8, q9, q10])
        ⟨hidS_same, at1, _, _, _, _, _, _, _, _, rfl⟩ ?_ ?_⟩
      · rintro i2 σ G2 hi2 ⟨s2, a2, q3, q4, q5, q6, q7, q8, q9, q10, rfl⟩
        dsimp only
        refine ⟨_, rfl, p, rfl, a2, fun t hd sv G3 b3 e3 hs => ⟨t, _, rfl, SqT.of e3, rfl, ?_⟩⟩
        obtain ⟨o, hc⟩ := hs_cse T kL kT hs
        refine ⟨_, _, rfl, _, _, rfl, rfl, ?_⟩
        dsimp only
        suffices fin : ∀ G q6 q7 q8 q9 q10, Same (hidS [p] G2) G → S.At G p → (fun (σ : L2.St) (G : Hp) => Same (hidS [p] G1) G ∧ S.At G p ∧ ∃ q3 q4 q5 q6 q7 q8 q9 q10, σ = [some (.ref a), some (.int (0 + (i : Int))), some (.ref p), q3, q4, q5, q6, q7, q8, q9, q10]) [some (.ref a), some (.int (0 + (i : Int))), some (.ref p), some (.int (0 + (i2 : Int))), some hd, some sv, q6, q7, q8, q9, q10] G by
          have a3 := b3.2
          have S3 : Same (hidS [p] G2) G3 := hid_btP hidS_same b3
          rcases sv_isl2 T kL hs.2.1 with ⟨l, xs, rfl, n1, n2, n3, n4, n5⟩ | ⟨ty, h1, h2, h3⟩
          · refine set_then (i := 6) ⟨_, rfl, _, _, _, _, _, rfl, .ty _, .base (.lst n3), kit_ty (r := true) (by decide +kernel), _, rfl, iteT ⟨_, rfl, l, xs, rfl, .inl (SqL.of n3), fun L2 m2 => ?_⟩⟩
            have q2 := Same.of_upd (o := .lst xs) m2
            refine ⟨_, rfl, _, rfl, hd, _, o, rfl, hc.mono q2, fun t1 G4 s4 e4 => ⟨_, rfl, _, rfl, hd, _, o, rfl, (hc.mono q2).mono s4, fun t2 G5 s5 e5 => ?_⟩⟩
            have S5 := S3.trans (q2.trans (s4.trans s5))
            dsimp only [List.set]
            by_cases hm : ∃ h st, o = .made h st
            · obtain ⟨h, st, rfl⟩ := hm
              obtain ⟨c, e6, wc⟩ := e5
              have e4 : G5 t1 = some (.tup [.str "made", .int ((1 + M.Step.deepest st : Nat) : Int), .int ((st.length + M.Step.inner st : Nat) : Int)]) := s5 _ _ e4
              have m4 : G5 t1 = some (.tup [.str "made", .int ((1 + M.Step.deepest st : Nat) : Int), .int ((st.length + M.Step.inner st : Nat) : Int)]) := e4
              have n35 := (q2.trans (s4.trans s5)) _ _ n3
              have ⟨hf, hh, hq⟩ := made_of hc n3
              subst hh
              refine ⟨_, _, rfl, ?_⟩
              refine ⟨_, rfl, t2, _, _, _, rfl, rfl, SqT.of e6, at0, _, rfl, t1, _, _, _, rfl, rfl, SqT.of m4, at0, rfl, _, rfl, ?_⟩
              rw [decide_eq_true (rfl : V.str "made" = V.str "made")]
              refine iteF ⟨_, rfl, _, _, _, _, _, rfl, .ty _, .base (.lst n35), kit_ty (r := true) (by decide +kernel), _, rfl, iteT ⟨_, rfl, _, rfl, l, L2, xs, rfl, rfl, .inl ⟨SqL.of n35, SqL.of ((s4.trans s5) _ _ upd_same)⟩, n5, _, rfl, iteF ?_⟩⟩
              refine ⟨_, rfl, t1, _, _, _, rfl, rfl, SqT.of m4, at0, rfl, _, rfl, ?_⟩
              rw [decide_eq_true (rfl : V.str "made" = V.str "made")]
              refine iteF ?_
              exact end_made T kL wc hf m4 e6 (hq.mono (q2.trans (s4.trans s5))) (.inl ⟨n35, n1, n2⟩) S5 (at_same (q2.trans (s4.trans s5)) a3) fun G' kt s a => fin _ _ _ _ _ _ s a
            · have e5 : G5 t2 = some (.tup (dueT hd (.ref l) o)) := by
                cases o with
                | made h st => exact absurd ⟨h, st, rfl⟩ hm
                | _ => exact e5
              obtain ⟨wd, x, ed, hw, hx⟩ := due_two (hd := hd) (sv := .ref l) hm
              have e4 := s5 _ _ e4
              rw [ed] at e4 e5
              refine ⟨_, _, rfl, ?_⟩
              refine ⟨_, rfl, t2, _, _, _, rfl, rfl, SqT.of e5, at0, _, rfl, t1, _, _, _, rfl, rfl, SqT.of e4, at0, rfl, _, rfl, ?_⟩
              rw [decide_eq_true (rfl : V.str wd = V.str wd)]
              have n35 := (q2.trans (s4.trans s5)) _ _ n3
              refine iteF ⟨_, rfl, _, _, _, _, _, rfl, .ty _, .base (.lst n35), kit_ty (r := true) (by decide +kernel), _, rfl, iteT ⟨_, rfl, _, rfl, l, L2, xs, rfl, rfl, .inl ⟨SqL.of n35, SqL.of ((s4.trans s5) _ _ upd_same)⟩, n5, _, rfl, iteF ?_⟩⟩
              refine ⟨_, rfl, t1, _, _, _, rfl, rfl, SqT.of e4, at0, rfl, _, rfl, ?_⟩
              rw [hw]
              refine iteT ?_
              have s35 := q2.trans (s4.trans s5)
              exact end_told T kL kB (at_nn a2) e4 e5 hx ((hs.1.th (at_nn a2)).mono s35) (hs.2.1.th.mono s35) S5 (at_same s35 a3) fun G' q9 s a => fin _ _ _ _ _ _ s a
          · refine set_then (i := 6) ⟨_, rfl, _, _, _, _, _, rfl, .ty _, h1, h2, _, rfl, iteF ⟨Nat.zero_le _, fun L2 m2 => ?_⟩⟩
            have q2 := Same.of_upd (o := .lst []) m2
            refine ⟨_, rfl, _, rfl, hd, _, o, rfl, hc.mono q2, fun t1 G4 s4 e4 => ⟨_, rfl, _, rfl, hd, _, o, rfl, (hc.mono q2).mono s4, fun t2 G5 s5 e5 => ?_⟩⟩
            have S5 := S3.trans (q2.trans (s4.trans s5))
            dsimp only [List.set]
            have s35 := q2.trans (s4.trans s5)
            have h1 := CP.tyX_mono s35 h1
            by_cases hm : ∃ h st, o = .made h st
            · obtain ⟨h, st, rfl⟩ := hm
              obtain ⟨c, e6, wc⟩ := e5
              have m4 : G5 t1 = some (.tup [.str "made", .int ((1 + M.Step.deepest st : Nat) : Int), .int ((st.length + M.Step.inner st : Nat) : Int)]) := s5 _ _ e4
              obtain ⟨l, xs, rfl, n3, hf, hh, hq⟩ := made_ofT hc h3
              subst hh
              refine ⟨_, _, rfl, ?_⟩
              refine ⟨_, rfl, t2, _, _, _, rfl, rfl, SqT.of e6, at0, _, rfl, t1, _, _, _, rfl, rfl, SqT.of m4, at0, rfl, _, rfl, ?_⟩
              rw [decide_eq_true (rfl : V.str "made" = V.str "made")]
              refine iteF ⟨_, rfl, _, _, _, _, _, rfl, .ty _, h1, h2, _, rfl, iteF ?_⟩
              refine ⟨_, rfl, t1, _, _, _, rfl, rfl, SqT.of m4, at0, rfl, _, rfl, ?_⟩
              rw [decide_eq_true (rfl : V.str "made" = V.str "made")]
              refine iteF ?_
              exact end_made T kL wc hf m4 e6 (hq.mono s35) (.inr (s35 _ _ n3)) S5 (at_same s35 a3) fun G' kt s a => fin _ _ _ _ _ _ s a
            · have e5 : G5 t2 = some (.tup (dueT hd sv o)) := by
                cases o with
                | made h st => exact absurd ⟨h, st, rfl⟩ hm
                | _ => exact e5
              obtain ⟨wd, x, ed, hw, hx⟩ := due_two (hd := hd) (sv := sv) hm
              have e4 := s5 _ _ e4
              rw [ed] at e4 e5
              refine ⟨_, _, rfl, ?_⟩
              refine ⟨_, rfl, t2, _, _, _, rfl, rfl, SqT.of e5, at0, _, rfl, t1, _, _, _, rfl, rfl, SqT.of e4, at0, rfl, _, rfl, ?_⟩
              rw [decide_eq_true (rfl : V.str wd = V.str wd)]
              refine iteF ⟨_, rfl, _, _, _, _, _, rfl, .ty _, h1, h2, _, rfl, iteF ?_⟩
              refine ⟨_, rfl, t1, _, _, _, rfl, rfl, SqT.of e4, at0, rfl, _, rfl, ?_⟩
              rw [hw]
              refine iteT ?_
              exact end_told T kL kB (at_nn a2) e4 e5 hx ((hs.1.th (at_nn a2)).mono s35) (hs.2.1.th.mono s35) S5 (at_same s35 a3) fun G' q9 s a => fin _ _ _ _ _ _ s a
        exact fun G q6 q7 q8 q9 q10 s a => ⟨(hid_hid s2).trans s, a, _, _, _, _, _, _, _, _, rfl⟩
      · rintro σ G2 ⟨s2, a2, q3, q4, q5, q6, q7, q8, q9, q10, rfl⟩
        exact ⟨s2.seq s1, _, _, _, _, _, _, _, _, _, _, rfl⟩
    · rintro σ G ⟨s0, q1, q2, q3, q4, q5, q6, q7, q8, q9, q10, rfl⟩
      exact k _
end
end WP

end
section
set_option autoImplicit false
set_option Elab.async false
set_option linter.all false
set_option maxRecDepth 100000
set_option maxHeartbeats 4000000
/-! ## HN: the head by one run of the kernel; what is asked of the state behind the top: named facts, defs, and looks of one's own -/
namespace HN
open PySem PySem.Spec PyProof.Rows L2
/-- addresses as numbers, one after another -/
def frc {α : Type} : List Addr → (List Addr → α) → α
  | [], k => k []
  | a :: r, k => HandSHeadRun.frNat a fun a => frc r fun r => k (a :: r)
def refV : Value → List Addr
  | .ref a => [a]
  | _ => []
def refsF (fd : FuncData) : List Addr := refV fd.code ++ refV fd.defaults ++ refV fd.kwdefaults
def vals (g : Addr → Option Obj) (a : Addr) : List Addr := match g a with
  | some ⟨_, _, .dict es _, _⟩ => es.toList.flatMap fun e => refV e.val
  | _ => []
def isC (g : Addr → Option Obj) (a : Addr) : Bool := match g a with
  | some ⟨_, _, .cls _, _⟩ => true
  | _ => false
def nsOf (g : Addr → Option Obj) (a : Addr) : List Addr := match g a with
  | some ⟨_, _, .cls cd, _⟩ => [a, cd.ns]
  | _ => []
def fnOf (g : Addr → Option Obj) (a : Addr) : List Addr := match g a with
  | some ⟨_, _, .func fd, _⟩ => a :: refsF fd
  | some ⟨_, _, .cls _, _⟩ => []
  | _ => [a]
def asY {α : Type} (g : Addr → Option Obj) (k : List Addr → α) : α := frc (vals g mainGlobals) fun l1 => frc (l1.flatMap (nsOf g)) fun cs => frc (cs.flatMap (vals g)) fun ms => frc ((ms ++ l1).flatMap (fnOf g)) fun fs => k (mainGlobals :: (cs ++ fs))
theorem frc_eq {α : Type} : ∀ (l : List Addr) (k : List Addr → α), frc l k = k l
  | [], k => rfl
  | a :: r, k => by
    show HandSHeadRun.frNat a (fun a => frc r fun r => k (a :: r)) = _
    rw [HandSHeadRun.frNat_eq, frc_eq r]
/-- the objects that are looked at: the module's names, classes with their names, defs with their code -/
def asL (g : Addr → Option Obj) : List Addr := mainGlobals :: (((vals g mainGlobals).flatMap (nsOf g)) ++ ((((vals g mainGlobals).flatMap (nsOf g)).flatMap (vals g)) ++ vals g mainGlobals).flatMap (fnOf g))
theorem asY_eq {α : Type} (g : Addr → Option Obj) (k : List Addr → α) : asY g k = k (asL g) := by
  unfold asY asL
  rw [frc_eq, frc_eq, frc_eq, frc_eq]
abbrev Ex : Type := PySem.W.Frag → Bool
abbrev AlX : Type := He.AlD × Bool
def obsX (fa : List He.Fa) (fn : List He.DefD) (ex : List Ex) (K : PySem.W.Frag) : AlX := (He.obsD fa fn K, ex.all fun f => f K)
def valX (fn : List He.DefD) : AlX := (He.valD fn, true)
def Says (fa : List He.Fa) (fn : List He.DefD) (ex : List Ex) (K : PySem.W.Frag) : Prop := obsX fa fn ex K = valX fn
def obsG (fa : List He.Fa) (fn : List He.DefD) (ex : List Ex) (g : Addr → Option Obj) : AlX := asY g fun l => obsX fa fn ex (He.frG g l)
def hookX (fa : List He.Fa) (fn : List He.DefD) (ex : List Ex) : PySem.W.Hook where
  α := AlX
  obs := fun s => obsG fa fn ex s.heap.get?
  val := fun _ => valX fn
  says := fun _ h => ∃ K : PySem.W.Frag, K.In h ∧ Says fa fn ex K
  of := fun _ s e => ⟨He.frG s.heap.get? (asL s.heap.get?), He.frG_in, by
    unfold obsG at e
    rw [asY_eq] at e
    exact e⟩
  keeps := fun _ _ _ ⟨K, hK, c⟩ k => ⟨K, PySem.W.Frag.In.keeps hK k, c⟩
theorem obsG_eq {fa : List He.Fa} {fn : List He.DefD} {ex : List Ex} {g : Addr → Option Obj} {s : Shared} (h : ∀ a, g a = s.heap.get? a) : obsG fa fn ex g = (hookX fa fn ex).obs s := by
  have e : g = s.heap.get? := funext h
  rw [e] <;> rfl
section
variable {fa : List He.Fa} {fn : List He.DefD} {ex : List Ex} {K : PySem.W.Frag}
theorem Says.sd (c : Says fa fn ex K) : He.SaysD fa fn K := congrArg (fun z : AlX => z.1) c
theorem Says.fact (c : Says fa fn ex K) (i : Nat) (f : He.Fa) (h : fa[i]? = some f) : f.ok K = true := c.sd.fact i h
theorem Says.def_ (c : Says fa fn ex K) (i : Nat) (d : He.DefD) (h : fn[i]? = some d) : ∃ fd, FunD K d.name d.qual d.params d.body d.scope (d.dvs K) (d.kws K) (He.fAd K d.at_) fd := c.sd.def_ i h
theorem Says.look (c : Says fa fn ex K) (i : Nat) (f : Ex) (h : ex[i]? = some f) : f K = true := List.all_eq_true.mp (congrArg (fun z : AlX => z.2) c) f (List.mem_of_getElem? h)
theorem Says.prop (c : Says fa fn ex K) (i : Nat) {p : PySem.W.Frag → Prop} [∀ K, Decidable (p K)] (h : ex[i]? = some fun K => decide (p K)) : p K := of_decide_eq_true (c.look i _ h)
end
/-- a def of no default by place -/
theorem funOf {K : PySem.W.Frag} {x qual : Str} {st : Stmt} {kws : List (Str × V)} {f : Addr} {fd : FuncData} (F : FunD K x qual (defArgs st) (defBody st) (defScope st) [] kws f fd) : Fun K x qual st f fd := by
  obtain ⟨oc, od, dV, kV, doc, pm, an, cdv, ct, osl, e, lk, cd, hD, hK⟩ := F.ex
  rcases hD with ⟨_, rfl⟩ | ⟨ne, _⟩
  · exact ⟨⟨oc, od, kV, doc, pm, an, cdv, ct, osl, e, lk, cd⟩, F.kp⟩
  · exact absurd rfl ne
end HN
namespace G
open PySem PySem.Spec PyProof.Rows L2
/-- G.walk, the written part told by the state behind the top -/
theorem walkE {l : PySem.W.OpenLaw} {n k : Nat} {q : Program} {loose : List Str} {XP : (Str → Option Value) → Heap → Prop} {YP : World → Heap → Prop} {d : DefRec} {x : Str}
    (hn : l.most = some n) (hn2 : n ≤ sizeLine) (hdf : d.params.defaults = []) (hr : Room k callerA)
    (F : ∀ (w : World) (mg : Str → Option Value) (fa : Addr) (h : Heap), YP w h → h.Ns mainGlobals mg → mg d.name = some (.ref fa) →
      ∃ (K : PySem.W.Frag) (fd : FuncData) (sp : Sp), K.In h ∧ (∀ (s : Shared) (u : Value), BindsTo s fd ⟨[u], []⟩ [(x, u)]) ∧
        (∀ (H : Hp) (a : Addr) (ns : List Int), ns.length ≤ n → (∀ z ∈ ns, Builtin.Int.intBits z ≤ 1048576) → SqL K H a (ns.map V.int) → sp [.ref a] H (fun v _ => v = .bl true) fun _ _ _ => False) ∧
        ∀ base : Heap, K.In base → base.Ns mainGlobals mg → Ok l.prog w K mg base CX0 k fa fd [x] sp) :
    PySem.W.WalkO q loose XP YP l.row.toRowW d [] (fun f vs => PySem.call f vs) := by
  refine Att.attach_callB hn hdf ?_
  intro w s₀ s₁ mg mb fa o pm cd doc a vs ns G Y ho hd hcd hmg hobj hints hlen hbits hg
  obtain ⟨K, fd, sp, KX, hb, hsp, hF⟩ := F w mg fa _ Y G.T.g hmg
  have rv := vals_ints hints
  have zl : ns.length ≤ sizeLine := Nat.le_trans hlen hn2
  have wish := fun (H : Hp) (S : SqL K H a (ns.map V.int)) => hsp H a ns hlen hbits S
  by_cases hk : K.lookup a = none
  · refine enter (H := fun b => if b = a then some (.frz { cls := .type "list", data := .seq vs.toArray } (.lst (ns.map V.int))) else none) KX G.T.g G.T.b G.T.builtins G.T.nolimit hg hobj hr hF hb ?_ ?_ ?_ (fun _ => hk) (wish _ ?_) fun _ _ _ z => z
    · intro b
      by_cases e : b = a
      · exact .inr ⟨_, _, if_pos e⟩
      · exact .inl (if_neg e)
    · intro b o e
      by_cases z : b = a
      · subst z
        cases (if_pos rfl).symm.trans e
        exact ⟨hobj, by rw [List.length_map]; exact zl, vs, _, rv, hobj⟩
      · cases (if_neg z).symm.trans e
    · intro b o e
      by_cases z : b = a
      · exact z
      · cases (if_neg z).symm.trans e
    · exact .inl (.inr ⟨_, if_pos rfl⟩)
  · obtain ⟨o, ek⟩ := Option.ne_none_iff_exists'.mp hk
    have eo := (KX a o ek).symm.trans hobj
    cases eo
    refine enter (H := fun _ => none) KX G.T.g G.T.b G.T.builtins G.T.nolimit hg hobj hr hF hb (fun _ => .inl rfl) (fun b o e => nomatch e) (fun b o e => nomatch e) (fun ⟨o, e⟩ => nomatch e) (wish _ ?_) fun _ _ _ z => z
    refine .inr ⟨_, vs.toArray, _, ek, rfl, rfl, rfl, ?_, by simpa using rv⟩
    rw [List.size_toArray, hints.length]
    exact zl
end G

end
section
set_option autoImplicit false
set_option Elab.async false
set_option linter.all false
set_option maxRecDepth 100000
set_option maxHeartbeats 4000000
/-! ## what the top leaves -/
namespace HX
open PySem PySem.W PySem.Spec PyProof.Rows L2
/-- an own class of errors, told by a look -/
def excB (K : Frag) (C : Addr) : Bool := match K.lookup C with
  | some ⟨.type "type", _, .cls cd, sl⟩ => (match cd.mro, sl.toList with
    | .ref C' :: bm, [_, _, _, _, some (.builtin n), _] => C' == C && n == "ValueError.__new__" && !cd.hasDel && cd.hasDict && PySem.HandSPX.refsVE bm
    | _, _ => false)
  | _ => false
theorem excB_ok {K : Frag} {C : Addr} (q : excB K C = true) : ∃ nm q N bs bm sn sub ab col dd k0 k1 k2 k3 k5, K.lookup C = some (excClassObj nm q C N bs bm true sn sub ab col dd k0 k1 k2 k3 k5 "ValueError.__new__") ∧ PySem.HandSPX.refsVE bm = true := by
  unfold excB at q
  split at q
  · rename_i dd cd sl ho
    split at q
    · rename_i C' bm k0 k1 k2 k3 n k5 hm hs
      simp only [Bool.and_eq_true, beq_iff_eq, Bool.not_eq_true'] at q
      obtain ⟨⟨⟨⟨rfl, rfl⟩, hdel⟩, hdi⟩, ht⟩ := q
      obtain ⟨nm, bs, mro, ns, qn, hd, sn, sub, ab, col, del⟩ := cd
      dsimp only at hm hdel hdi
      subst hm hdel hdi
      have hsl : sl = #[k0, k1, k2, k3, some (.builtin "ValueError.__new__"), k5] := by
        obtain ⟨l⟩ := sl
        simp only at hs
        rw [hs]
      subst hsl
      exact ⟨nm, qn, ns, bs, bm, sn, sub, ab, col, dd, k0, k1, k2, k3, k5, ho, ht⟩
    · cases q
  · cases q
/-- all that is asked of such a class with a field f -/
def errB (K : Frag) (C : Addr) (f : Str) : Bool := excB K C && (He.eqO (findIn K (.ref C) "__setattr__") (some (some (.builtin "object.__setattr__"))) && (decide (subIn K (.ref C) (.type "BaseException") = some true) && (decide (typeIn K (.ref C) = some (.type "type")) && (keepIn K (.ref C) &&
  (He.eqO (findIn K (.ref C) "__getattribute__") (some (some (.builtin "BaseException.__getattribute__"))) && (He.eqO (findIn K (.ref C) "__getattr__") (some none) && (hasDictIn K C && (He.eqO (findIn K (.ref C) "__class__") (some (some (.builtin "object.__class__"))) &&
  (He.eqO (specialIn K (.builtin "object.__class__") "__get__") (some (some (.builtin "getset_descriptor.__get__"))) && (decide (takesIn K (.builtin "object.__class__") = some true) && (decide (mroIn K C (.type "object") = some true) && He.eqO (findIn K (.ref C) f) (some none))))))))))))
theorem errB_ok {K : Frag} {C : Addr} {f : Str} (h : errB K C f = true) : G.Cl K C f := by
  unfold errB at h
  obtain ⟨h1, h⟩ := He.ba h
  obtain ⟨h2, h⟩ := He.ba h
  obtain ⟨h3, h⟩ := He.ba h
  obtain ⟨h4, h⟩ := He.ba h
  obtain ⟨h5, h⟩ := He.ba h
  obtain ⟨h6, h⟩ := He.ba h
  obtain ⟨h7, h⟩ := He.ba h
  obtain ⟨h8, h⟩ := He.ba h
  obtain ⟨h9, h⟩ := He.ba h
  obtain ⟨h10, h⟩ := He.ba h
  obtain ⟨h11, h⟩ := He.ba h
  obtain ⟨h12, h13⟩ := He.ba h
  exact ⟨⟨excB_ok h1, He.eqO_ok h2, of_decide_eq_true h3, of_decide_eq_true h4, h5⟩, ⟨He.eqO_ok h6, He.eqO_ok h7, of_decide_eq_true h3, h8, He.eqO_ok h9, He.eqO_ok h10, of_decide_eq_true h11, of_decide_eq_true h12⟩, He.eqO_ok h13⟩
/-- its __init__ stands in the class -/
def iniB (K : Frag) (C f : Addr) : Bool := He.eqO (findIn K (.ref C) "__init__") (some (some (.ref f))) && decide (typeIn K (.ref f) = some (.type "function"))
theorem iniB_ok {K : Frag} {C f : Addr} (h : iniB K C f = true) : findIn K (.ref C) "__init__" = some (some (.ref f)) ∧ typeIn K (.ref f) = some (.type "function") := ⟨He.eqO_ok (He.ba h).1, of_decide_eq_true (He.ba h).2⟩
end HX
namespace WP
open PySem L2 G
abbrev sErD1 : Stmt := inClass (top 6) 0
theorem scErD1 : FnScope ["self", "value"] ["self", "value"] (defScope sErD1) := ⟨rfl, rfl, rfl, by decide +kernel, rfl, by decide +kernel, by decide +kernel⟩
theorem mkD1 {P : Program} {w : World} {K : PySem.W.Frag} {mg : Str → Option Value} {base : Heap} {C f : Addr} {fd : FuncData} (L : G.Cl K C "value") (ini : PySem.W.findIn K (.ref C) "__init__" = some (some (.ref f)) ∧ PySem.W.typeIn K (.ref f) = some (.type "function")) (F : Fun K "__init__" "BadHead.__init__" sErD1 f fd) : G.Mk P w K mg base C "value" := by
  refine ⟨L, f, fd, ["self", "value"], ini.1, ini.2, ?_, rfl, ?_, ?_⟩
  · refine F.ok scErD1 (fun vs H Q E2 h => ?_) (fun cdv A outer s H vs Q E2 hr h => ?_)
    · obtain ⟨a, v, rfl, _⟩ := h
      rfl
    · obtain ⟨a, v, rfl, ha, k⟩ := h
      exact ⟨_, pss_one (ps_ost (pv 0) (pv 1)), _, rfl, _, rfl, a, C, rfl, L.T, L.no, .inl ⟨ha, fun dx h1 h2 => k dx h1 h2⟩⟩
  · obtain ⟨_, _, _, _, _, _, _, _, _, rfl, _, _⟩ := F.ex
    exact fun s u v => .of_eq rfl
  · obtain ⟨_, _, _, _, _, _, _, _, _, rfl, _, _⟩ := F.ex
    exact fun s u v => .of_eq rfl
abbrev sErD2 : Stmt := inClass (top 7) 0
theorem scErD2 : FnScope ["self", "value"] ["self", "value"] (defScope sErD2) := ⟨rfl, rfl, rfl, by decide +kernel, rfl, by decide +kernel, by decide +kernel⟩
theorem mkD2 {P : Program} {w : World} {K : PySem.W.Frag} {mg : Str → Option Value} {base : Heap} {C f : Addr} {fd : FuncData} (L : G.Cl K C "value") (ini : PySem.W.findIn K (.ref C) "__init__" = some (some (.ref f)) ∧ PySem.W.typeIn K (.ref f) = some (.type "function")) (F : Fun K "__init__" "BadSteps.__init__" sErD2 f fd) : G.Mk P w K mg base C "value" := by
  refine ⟨L, f, fd, ["self", "value"], ini.1, ini.2, ?_, rfl, ?_, ?_⟩
  · refine F.ok scErD2 (fun vs H Q E2 h => ?_) (fun cdv A outer s H vs Q E2 hr h => ?_)
    · obtain ⟨a, v, rfl, _⟩ := h
      rfl
    · obtain ⟨a, v, rfl, ha, k⟩ := h
      exact ⟨_, pss_one (ps_ost (pv 0) (pv 1)), _, rfl, _, rfl, a, C, rfl, L.T, L.no, .inl ⟨ha, fun dx h1 h2 => k dx h1 h2⟩⟩
  · obtain ⟨_, _, _, _, _, _, _, _, _, rfl, _, _⟩ := F.ex
    exact fun s u v => .of_eq rfl
  · obtain ⟨_, _, _, _, _, _, _, _, _, rfl, _, _⟩ := F.ex
    exact fun s u v => .of_eq rfl
abbrev sErD3 : Stmt := inClass (top 8) 0
theorem scErD3 : FnScope ["self", "position"] ["self", "position"] (defScope sErD3) := ⟨rfl, rfl, rfl, by decide +kernel, rfl, by decide +kernel, by decide +kernel⟩
theorem mkD3 {P : Program} {w : World} {K : PySem.W.Frag} {mg : Str → Option Value} {base : Heap} {C f : Addr} {fd : FuncData} (L : G.Cl K C "position") (ini : PySem.W.findIn K (.ref C) "__init__" = some (some (.ref f)) ∧ PySem.W.typeIn K (.ref f) = some (.type "function")) (F : Fun K "__init__" "BadStep.__init__" sErD3 f fd) : G.Mk P w K mg base C "position" := by
  refine ⟨L, f, fd, ["self", "position"], ini.1, ini.2, ?_, rfl, ?_, ?_⟩
  · refine F.ok scErD3 (fun vs H Q E2 h => ?_) (fun cdv A outer s H vs Q E2 hr h => ?_)
    · obtain ⟨a, v, rfl, _⟩ := h
      rfl
    · obtain ⟨a, v, rfl, ha, k⟩ := h
      exact ⟨_, pss_one (ps_ost (pv 0) (pv 1)), _, rfl, _, rfl, a, C, rfl, L.T, L.no, .inl ⟨ha, fun dx h1 h2 => k dx h1 h2⟩⟩
  · obtain ⟨_, _, _, _, _, _, _, _, _, rfl, _, _⟩ := F.ex
    exact fun s u v => .of_eq rfl
  · obtain ⟨_, _, _, _, _, _, _, _, _, rfl, _, _⟩ := F.ex
    exact fun s u v => .of_eq rfl
abbrev sErD4 : Stmt := inClass (top 9) 0
theorem scErD4 : FnScope ["self", "depth"] ["self", "depth"] (defScope sErD4) := ⟨rfl, rfl, rfl, by decide +kernel, rfl, by decide +kernel, by decide +kernel⟩
theorem mkD4 {P : Program} {w : World} {K : PySem.W.Frag} {mg : Str → Option Value} {base : Heap} {C f : Addr} {fd : FuncData} (L : G.Cl K C "depth") (ini : PySem.W.findIn K (.ref C) "__init__" = some (some (.ref f)) ∧ PySem.W.typeIn K (.ref f) = some (.type "function")) (F : Fun K "__init__" "TooDeep.__init__" sErD4 f fd) : G.Mk P w K mg base C "depth" := by
  refine ⟨L, f, fd, ["self", "depth"], ini.1, ini.2, ?_, rfl, ?_, ?_⟩
  · refine F.ok scErD4 (fun vs H Q E2 h => ?_) (fun cdv A outer s H vs Q E2 hr h => ?_)
    · obtain ⟨a, v, rfl, _⟩ := h
      rfl
    · obtain ⟨a, v, rfl, ha, k⟩ := h
      exact ⟨_, pss_one (ps_ost (pv 0) (pv 1)), _, rfl, _, rfl, a, C, rfl, L.T, L.no, .inl ⟨ha, fun dx h1 h2 => k dx h1 h2⟩⟩
  · obtain ⟨_, _, _, _, _, _, _, _, _, rfl, _, _⟩ := F.ex
    exact fun s u v => .of_eq rfl
  · obtain ⟨_, _, _, _, _, _, _, _, _, rfl, _, _⟩ := F.ex
    exact fun s u v => .of_eq rfl
abbrev sErD5 : Stmt := inClass (top 10) 0
theorem scErD5 : FnScope ["self", "size"] ["self", "size"] (defScope sErD5) := ⟨rfl, rfl, rfl, by decide +kernel, rfl, by decide +kernel, by decide +kernel⟩
theorem mkD5 {P : Program} {w : World} {K : PySem.W.Frag} {mg : Str → Option Value} {base : Heap} {C f : Addr} {fd : FuncData} (L : G.Cl K C "size") (ini : PySem.W.findIn K (.ref C) "__init__" = some (some (.ref f)) ∧ PySem.W.typeIn K (.ref f) = some (.type "function")) (F : Fun K "__init__" "TooGreat.__init__" sErD5 f fd) : G.Mk P w K mg base C "size" := by
  refine ⟨L, f, fd, ["self", "size"], ini.1, ini.2, ?_, rfl, ?_, ?_⟩
  · refine F.ok scErD5 (fun vs H Q E2 h => ?_) (fun cdv A outer s H vs Q E2 hr h => ?_)
    · obtain ⟨a, v, rfl, _⟩ := h
      rfl
    · obtain ⟨a, v, rfl, ha, k⟩ := h
      exact ⟨_, pss_one (ps_ost (pv 0) (pv 1)), _, rfl, _, rfl, a, C, rfl, L.T, L.no, .inl ⟨ha, fun dx h1 h2 => k dx h1 h2⟩⟩
  · obtain ⟨_, _, _, _, _, _, _, _, _, rfl, _, _⟩ := F.ex
    exact fun s u v => .of_eq rfl
  · obtain ⟨_, _, _, _, _, _, _, _, _, rfl, _, _⟩ := F.ex
    exact fun s u v => .of_eq rfl
theorem ln1 {α : Type} {l : List α} (h : l.length = 1) : ∃ a0, l = [a0] := by
  match l, h with
  | [a0], _ => exact ⟨a0, rfl⟩
theorem ln2 {α : Type} {l : List α} (h : l.length = 2) : ∃ a0 a1, l = [a0, a1] := by
  match l, h with
  | [a0, a1], _ => exact ⟨a0, a1, rfl⟩
theorem ln3 {α : Type} {l : List α} (h : l.length = 3) : ∃ a0 a1 a2, l = [a0, a1, a2] := by
  match l, h with
  | [a0, a1, a2], _ => exact ⟨a0, a1, a2, rfl⟩
theorem ln4 {α : Type} {l : List α} (h : l.length = 4) : ∃ a0 a1 a2 a3, l = [a0, a1, a2, a3] := by
  match l, h with
  | [a0, a1, a2, a3], _ => exact ⟨a0, a1, a2, a3, rfl⟩
theorem Fd.dy {P : Program} {w : World} {K : PySem.W.Frag} {mg : Str → Option Value} {base : Heap} {x : Str} {st : Stmt} {ps : List Str} {k : Nat} {sp : Sp} (h : Fd K mg x st ps) (ok : ∀ f fd, Fun K x x st f fd → FnOk P w K mg base CX0 k f fd ps sp) : Y.Df P w K mg base k x ps sp := by
  obtain ⟨f, fd, h1, h2, h3, h4⟩ := h.ex
  exact ⟨f, fd, ok f fd h1, h2, h3, h4⟩
section
variable {K : PySem.W.Frag} {mg : Str → Option Value} {h : Heap} {f : Addr} {fd : FuncData}
theorem fd_I (X : K.In h) (Gn : h.Ns mainGlobals mg) (a : PySem.W.nsIn K mainGlobals "is_integer" = some (some (.ref f))) (F : Fun K "is_integer" "is_integer" sInteger f fd) : Fd K mg "is_integer" sInteger ["value"] :=
  ⟨f, fd, F, PySem.W.mg_of X Gn a, F.kp, F.binds fun _ _ _ _ _ _ us hl => by obtain ⟨a0, rfl⟩ := ln1 hl; rfl⟩
theorem fd_W (X : K.In h) (Gn : h.Ns mainGlobals mg) (a : PySem.W.nsIn K mainGlobals "is_within" = some (some (.ref f))) (F : Fun K "is_within" "is_within" sWithin f fd) : Fd K mg "is_within" sWithin ["value", "least", "greatest"] :=
  ⟨f, fd, F, PySem.W.mg_of X Gn a, F.kp, F.binds fun _ _ _ _ _ _ us hl => by obtain ⟨a0, a1, a2, rfl⟩ := ln3 hl; rfl⟩
theorem fd_li (X : K.In h) (Gn : h.Ns mainGlobals mg) (a : PySem.W.nsIn K mainGlobals "is_step_list" = some (some (.ref f))) (F : Fun K "is_step_list" "is_step_list" sList f fd) : Fd K mg "is_step_list" sList ["value"] :=
  ⟨f, fd, F, PySem.W.mg_of X Gn a, F.kp, F.binds fun _ _ _ _ _ _ us hl => by obtain ⟨a0, rfl⟩ := ln1 hl; rfl⟩
theorem fd_st (X : K.In h) (Gn : h.Ns mainGlobals mg) (a : PySem.W.nsIn K mainGlobals "_is_step" = some (some (.ref f))) (F : Fun K "_is_step" "_is_step" sStep f fd) : Fd K mg "_is_step" sStep ["value", "head"] :=
  ⟨f, fd, F, PySem.W.mg_of X Gn a, F.kp, F.binds fun _ _ _ _ _ _ us hl => by obtain ⟨a0, a1, rfl⟩ := ln2 hl; rfl⟩
theorem fd_rd (X : K.In h) (Gn : h.Ns mainGlobals mg) (a : PySem.W.nsIn K mainGlobals "is_road" = some (some (.ref f))) (F : Fun K "is_road" "is_road" sRoad f fd) : Fd K mg "is_road" sRoad ["size", "sealed", "loose", "least"] :=
  ⟨f, fd, F, PySem.W.mg_of X Gn a, F.kp, F.binds fun _ _ _ _ _ _ us hl => by obtain ⟨a0, a1, a2, a3, rfl⟩ := ln4 hl; rfl⟩
theorem fd_tl (X : K.In h) (Gn : h.Ns mainGlobals mg) (a : PySem.W.nsIn K mainGlobals "is_tells" = some (some (.ref f))) (F : Fun K "is_tells" "is_tells" sTells f fd) : Fd K mg "is_tells" sTells ["value"] :=
  ⟨f, fd, F, PySem.W.mg_of X Gn a, F.kp, F.binds fun _ _ _ _ _ _ us hl => by obtain ⟨a0, rfl⟩ := ln1 hl; rfl⟩
theorem fd_mo (X : K.In h) (Gn : h.Ns mainGlobals mg) (a : PySem.W.nsIn K mainGlobals "is_most" = some (some (.ref f))) (F : Fun K "is_most" "is_most" sMost f fd) : Fd K mg "is_most" sMost ["value"] :=
  ⟨f, fd, F, PySem.W.mg_of X Gn a, F.kp, F.binds fun _ _ _ _ _ _ us hl => by obtain ⟨a0, rfl⟩ := ln1 hl; rfl⟩
theorem fd_hd (X : K.In h) (Gn : h.Ns mainGlobals mg) (a : PySem.W.nsIn K mainGlobals "is_head" = some (some (.ref f))) (F : Fun K "is_head" "is_head" sHead f fd) : Fd K mg "is_head" sHead ["value"] :=
  ⟨f, fd, F, PySem.W.mg_of X Gn a, F.kp, F.binds fun _ _ _ _ _ _ us hl => by obtain ⟨a0, rfl⟩ := ln1 hl; rfl⟩
theorem fd_ls (X : K.In h) (Gn : h.Ns mainGlobals mg) (a : PySem.W.nsIn K mainGlobals "_law_source" = some (some (.ref f))) (F : Fun K "_law_source" "_law_source" S.sSource f fd) : Fd K mg "_law_source" S.sSource ["script", "start"] :=
  ⟨f, fd, F, PySem.W.mg_of X Gn a, F.kp, F.binds fun _ _ _ _ _ _ us hl => by obtain ⟨a0, a1, rfl⟩ := ln2 hl; rfl⟩
theorem fd_ld (X : K.In h) (Gn : h.Ns mainGlobals mg) (a : PySem.W.nsIn K mainGlobals "_law_draw" = some (some (.ref f))) (F : Fun K "_law_draw" "_law_draw" S.sDraw f fd) : Fd K mg "_law_draw" S.sDraw ["source", "span"] :=
  ⟨f, fd, F, PySem.W.mg_of X Gn a, F.kp, F.binds fun _ _ _ _ _ _ us hl => by obtain ⟨a0, a1, rfl⟩ := ln2 hl; rfl⟩
theorem fd_lp (X : K.In h) (Gn : h.Ns mainGlobals mg) (a : PySem.W.nsIn K mainGlobals "_law_pick" = some (some (.ref f))) (F : Fun K "_law_pick" "_law_pick" S.sPick f fd) : Fd K mg "_law_pick" S.sPick ["source", "items"] :=
  ⟨f, fd, F, PySem.W.mg_of X Gn a, F.kp, F.binds fun _ _ _ _ _ _ us hl => by obtain ⟨a0, a1, rfl⟩ := ln2 hl; rfl⟩
theorem fd_lm (X : K.In h) (Gn : h.Ns mainGlobals mg) (a : PySem.W.nsIn K mainGlobals "_law_most" = some (some (.ref f))) (F : Fun K "_law_most" "_law_most" sLMost f fd) : Fd K mg "_law_most" sLMost ["source"] :=
  ⟨f, fd, F, PySem.W.mg_of X Gn a, F.kp, F.binds fun _ _ _ _ _ _ us hl => by obtain ⟨a0, rfl⟩ := ln1 hl; rfl⟩
theorem fd_lr (X : K.In h) (Gn : h.Ns mainGlobals mg) (a : PySem.W.nsIn K mainGlobals "_law_road" = some (some (.ref f))) (F : Fun K "_law_road" "_law_road" sLRoad f fd) : Fd K mg "_law_road" sLRoad ["source", "head"] :=
  ⟨f, fd, F, PySem.W.mg_of X Gn a, F.kp, F.binds fun _ _ _ _ _ _ us hl => by obtain ⟨a0, a1, rfl⟩ := ln2 hl; rfl⟩
theorem fd_lro (X : K.In h) (Gn : h.Ns mainGlobals mg) (a : PySem.W.nsIn K mainGlobals "_law_rows" = some (some (.ref f))) (F : Fun K "_law_rows" "_law_rows" sLRows f fd) : Fd K mg "_law_rows" sLRows ["source", "depth", "many"] :=
  ⟨f, fd, F, PySem.W.mg_of X Gn a, F.kp, F.binds fun _ _ _ _ _ _ us hl => by obtain ⟨a0, a1, a2, rfl⟩ := ln3 hl; rfl⟩
theorem fd_lma (X : K.In h) (Gn : h.Ns mainGlobals mg) (a : PySem.W.nsIn K mainGlobals "_law_made" = some (some (.ref f))) (F : Fun K "_law_made" "_law_made" sLMade f fd) : Fd K mg "_law_made" sLMade ["rows"] :=
  ⟨f, fd, F, PySem.W.mg_of X Gn a, F.kp, F.binds fun _ _ _ _ _ _ us hl => by obtain ⟨a0, rfl⟩ := ln1 hl; rfl⟩
theorem fd_ln (X : K.In h) (Gn : h.Ns mainGlobals mg) (a : PySem.W.nsIn K mainGlobals "_law_is_number" = some (some (.ref f))) (F : Fun K "_law_is_number" "_law_is_number" sLNum f fd) : Fd K mg "_law_is_number" sLNum ["thing", "least", "most"] :=
  ⟨f, fd, F, PySem.W.mg_of X Gn a, F.kp, F.binds fun _ _ _ _ _ _ us hl => by obtain ⟨a0, a1, a2, rfl⟩ := ln3 hl; rfl⟩
theorem fd_lis (X : K.In h) (Gn : h.Ns mainGlobals mg) (a : PySem.W.nsIn K mainGlobals "_law_is_step" = some (some (.ref f))) (F : Fun K "_law_is_step" "_law_is_step" sLIsS f fd) : Fd K mg "_law_is_step" sLIsS ["thing", "head"] :=
  ⟨f, fd, F, PySem.W.mg_of X Gn a, F.kp, F.binds fun _ _ _ _ _ _ us hl => by obtain ⟨a0, a1, rfl⟩ := ln2 hl; rfl⟩
theorem fd_ldu (X : K.In h) (Gn : h.Ns mainGlobals mg) (a : PySem.W.nsIn K mainGlobals "_law_due" = some (some (.ref f))) (F : Fun K "_law_due" "_law_due" sLDueW f fd) : Fd K mg "_law_due" sLDueW ["head", "steps"] :=
  ⟨f, fd, F, PySem.W.mg_of X Gn a, F.kp, F.binds fun _ _ _ _ _ _ us hl => by obtain ⟨a0, a1, rfl⟩ := ln2 hl; rfl⟩
theorem fd_lto (X : K.In h) (Gn : h.Ns mainGlobals mg) (a : PySem.W.nsIn K mainGlobals "_law_told" = some (some (.ref f))) (F : Fun K "_law_told" "_law_told" sLTold f fd) : Fd K mg "_law_told" sLTold ["head", "steps"] :=
  ⟨f, fd, F, PySem.W.mg_of X Gn a, F.kp, F.binds fun _ _ _ _ _ _ us hl => by obtain ⟨a0, a1, rfl⟩ := ln2 hl; rfl⟩
theorem fd_loe (X : K.In h) (Gn : h.Ns mainGlobals mg) (a : PySem.W.nsIn K mainGlobals "_law_odd_entries" = some (some (.ref f))) (F : Fun K "_law_odd_entries" "_law_odd_entries" sLOddE f fd) : Fd K mg "_law_odd_entries" sLOddE ["one", "low"] :=
  ⟨f, fd, F, PySem.W.mg_of X Gn a, F.kp, F.binds fun _ _ _ _ _ _ us hl => by obtain ⟨a0, a1, rfl⟩ := ln2 hl; rfl⟩
theorem fd_los (X : K.In h) (Gn : h.Ns mainGlobals mg) (a : PySem.W.nsIn K mainGlobals "_law_odd_step" = some (some (.ref f))) (F : Fun K "_law_odd_step" "_law_odd_step" sLOddS f fd) : Fd K mg "_law_odd_step" sLOddS ["source", "head"] :=
  ⟨f, fd, F, PySem.W.mg_of X Gn a, F.kp, F.binds fun _ _ _ _ _ _ us hl => by obtain ⟨a0, a1, rfl⟩ := ln2 hl; rfl⟩
theorem fd_lco (X : K.In h) (Gn : h.Ns mainGlobals mg) (a : PySem.W.nsIn K mainGlobals "_law_couple" = some (some (.ref f))) (F : Fun K "_law_couple" "_law_couple" sLCouple f fd) : Fd K mg "_law_couple" sLCouple ["source"] :=
  ⟨f, fd, F, PySem.W.mg_of X Gn a, F.kp, F.binds fun _ _ _ _ _ _ us hl => by obtain ⟨a0, rfl⟩ := ln1 hl; rfl⟩
end
theorem all_mk {l : PySem.W.OpenLaw} {w : World} {K : PySem.W.Frag} {h : Heap} {mg : Str → Option Value} {fa C fIw fWe fWl CD1 fID1 CD2 fID2 CD3 fID3 CD4 fID4 CD5 fID5 fLaw : Addr} {dIw dWe dWl dID1 dID2 dID3 dID4 dID5 dLaw : FuncData} (X : K.In h) (Gn : h.Ns mainGlobals mg) (hfa : mg "law" = some (.ref fa)) (B : Y.Bn mg) (hsum : mg "sum" = none)
    (T : Wt K mg C) (ne : PySem.W.findIn K (.ref C) "__ne__" = some (some (.builtin "object.__ne__"))) (kL : PySem.W.kitOne K (.ref C) (.type "list") = some false) (kT : PySem.W.kitOne K (.ref C) (.type "tuple") = some false) (kB : PySem.W.kitOne K (.ref C) (.type "bool") = some false) (kI : PySem.W.kitOne K (.ref C) (.type "int") = some false) (kR : PySem.W.kitOne K (.type "tuple") (.ref C) = some false)
    (z_I : Fd K mg "is_integer" sInteger ["value"])
    (z_W : Fd K mg "is_within" sWithin ["value", "least", "greatest"])
    (z_li : Fd K mg "is_step_list" sList ["value"])
    (z_st : Fd K mg "_is_step" sStep ["value", "head"])
    (z_rd : Fd K mg "is_road" sRoad ["size", "sealed", "loose", "least"])
    (z_tl : Fd K mg "is_tells" sTells ["value"])
    (z_mo : Fd K mg "is_most" sMost ["value"])
    (z_hd : Fd K mg "is_head" sHead ["value"])
    (z_ls : Fd K mg "_law_source" S.sSource ["script", "start"])
    (z_ld : Fd K mg "_law_draw" S.sDraw ["source", "span"])
    (z_lp : Fd K mg "_law_pick" S.sPick ["source", "items"])
    (z_lm : Fd K mg "_law_most" sLMost ["source"])
    (z_lr : Fd K mg "_law_road" sLRoad ["source", "head"])
    (z_lro : Fd K mg "_law_rows" sLRows ["source", "depth", "many"])
    (z_lma : Fd K mg "_law_made" sLMade ["rows"])
    (z_ln : Fd K mg "_law_is_number" sLNum ["thing", "least", "most"])
    (z_lis : Fd K mg "_law_is_step" sLIsS ["thing", "head"])
    (z_ldu : Fd K mg "_law_due" sLDueW ["head", "steps"])
    (z_lto : Fd K mg "_law_told" sLTold ["head", "steps"])
    (z_loe : Fd K mg "_law_odd_entries" sLOddE ["one", "low"])
    (z_los : Fd K mg "_law_odd_step" sLOddS ["source", "head"])
    (z_lco : Fd K mg "_law_couple" sLCouple ["source"])
    (MIw : Mk K C fIw) (FIw : Fun K "__init__" "Way.__init__" sInit fIw dIw)
    (oWe : WO.Own K C fWe "__eq__") (FWe : Fun K "__eq__" "Way.__eq__" sWEq fWe dWe)
    (oWl : WO.Own K C fWl "__len__") (FWl : Fun K "__len__" "Way.__len__" sLen fWl dWl)
    (gD1 : mg "BadHead" = some (.ref CD1)) (lD1 : G.Cl K CD1 "value") (iD1 : PySem.W.findIn K (.ref CD1) "__init__" = some (some (.ref fID1)) ∧ PySem.W.typeIn K (.ref fID1) = some (.type "function")) (FID1 : Fun K "__init__" "BadHead.__init__" sErD1 fID1 dID1)
    (gD2 : mg "BadSteps" = some (.ref CD2)) (lD2 : G.Cl K CD2 "value") (iD2 : PySem.W.findIn K (.ref CD2) "__init__" = some (some (.ref fID2)) ∧ PySem.W.typeIn K (.ref fID2) = some (.type "function")) (FID2 : Fun K "__init__" "BadSteps.__init__" sErD2 fID2 dID2)
    (gD3 : mg "BadStep" = some (.ref CD3)) (lD3 : G.Cl K CD3 "position") (iD3 : PySem.W.findIn K (.ref CD3) "__init__" = some (some (.ref fID3)) ∧ PySem.W.typeIn K (.ref fID3) = some (.type "function")) (FID3 : Fun K "__init__" "BadStep.__init__" sErD3 fID3 dID3)
    (gD4 : mg "TooDeep" = some (.ref CD4)) (lD4 : G.Cl K CD4 "depth") (iD4 : PySem.W.findIn K (.ref CD4) "__init__" = some (some (.ref fID4)) ∧ PySem.W.typeIn K (.ref fID4) = some (.type "function")) (FID4 : Fun K "__init__" "TooDeep.__init__" sErD4 fID4 dID4)
    (gD5 : mg "TooGreat" = some (.ref CD5)) (lD5 : G.Cl K CD5 "size") (iD5 : PySem.W.findIn K (.ref CD5) "__init__" = some (some (.ref fID5)) ∧ PySem.W.typeIn K (.ref fID5) = some (.type "function")) (FID5 : Fun K "__init__" "TooGreat.__init__" sErD5 fID5 dID5)
    (x11 : PySem.W.exmOne K (.ref CD1) (.ref CD1) = some true) (x21 : PySem.W.exmOne K (.ref CD2) (.ref CD1) = some false) (x22 : PySem.W.exmOne K (.ref CD2) (.ref CD2) = some true) (x31 : PySem.W.exmOne K (.ref CD3) (.ref CD1) = some false) (x32 : PySem.W.exmOne K (.ref CD3) (.ref CD2) = some false) (x33 : PySem.W.exmOne K (.ref CD3) (.ref CD3) = some true) (x41 : PySem.W.exmOne K (.ref CD4) (.ref CD1) = some false) (x42 : PySem.W.exmOne K (.ref CD4) (.ref CD2) = some false) (x43 : PySem.W.exmOne K (.ref CD4) (.ref CD3) = some false) (x44 : PySem.W.exmOne K (.ref CD4) (.ref CD4) = some true) (x51 : PySem.W.exmOne K (.ref CD5) (.ref CD1) = some false) (x52 : PySem.W.exmOne K (.ref CD5) (.ref CD2) = some false) (x53 : PySem.W.exmOne K (.ref CD5) (.ref CD3) = some false) (x54 : PySem.W.exmOne K (.ref CD5) (.ref CD4) = some false) (x55 : PySem.W.exmOne K (.ref CD5) (.ref CD5) = some true)
    (aL : PySem.W.nsIn K mainGlobals "law" = some (some (.ref fLaw))) (FLaw : Fun K "law" "law" sLaw fLaw dLaw) :
    ∃ fd : FuncData, (∀ (s : Shared) (u : Value), BindsTo s fd ⟨[u], []⟩ [("script", u)]) ∧ ∀ base : Heap, K.In base → base.Ns mainGlobals mg → G.Ok l.prog w K mg base CX0 13 fa fd ["script"] (spLaw K) := by
  have e := hfa.symm.trans (PySem.W.mg_of X Gn aL)
  cases e
  refine ⟨dLaw, ?_, fun base _ _ => ?_⟩
  · obtain ⟨_, _, _, _, _, _, _, _, _, rfl, _, _⟩ := FLaw.ex
    exact fun s u => .of_eq rfl
  have BW : Bn mg := ⟨B.isi, B.bool, B.int, B.tuple, B.list, B.len, B.enum, B.max, hsum⟩
  have Bi : S.Bi mg := ⟨B.int, B.len⟩
  obtain ⟨fN, fdN, FN, gN', kN, bN⟩ := z_I.ex
  obtain ⟨fW, fdW, FW, gW, kW, bW⟩ := z_W.ex
  obtain ⟨tM, gM⟩ := T.gMost
  obtain ⟨tH, gH⟩ := T.gHead
  have W0 : Wi l.prog w K mg base fW fdW := ⟨ok_within FW BW FN gN' bN, gW, kW, bW⟩
  have EW : Df l.prog w K mg base 2 "is_within" ["value", "least", "greatest"] spWithin := ⟨fW, fdW, W0.ok, gW, kW, bW⟩
  have EM : Df l.prog w K mg base 3 "is_most" ["value"] (spIn1 1 1000000000000) := z_mo.df fun f fd F => ok_most F W0 gM
  have ERd : Df l.prog w K mg base 3 "is_road" ["size", "sealed", "loose", "least"] spRoad := z_rd.df fun f fd F => ok_road F T EW
  have ETn : Df l.prog w K mg base 1 "is_tells" ["value"] spTells := z_tl.df fun f fd F => ok_tells F T
  have EHd : Df l.prog w K mg base 3 "is_head" ["value"] (spIn1 1 40) := z_hd.df fun f fd F => ok_head F W0 gH
  have ELi : Df l.prog w K mg base 1 "is_step_list" ["value"] (spList K) := z_li.df fun f fd F => ok_list F BW T
  have ESt : Df l.prog w K mg base 5 "_is_step" ["value", "head"] (spStep C) := z_st.df fun f fd F => ok_step F BW T ERd EM ETn
  have bI : Binds K dIw ["self", "head", "steps"] [] := FIw.binds fun _ _ _ _ _ _ us hl => by obtain ⟨a0, a1, a2, rfl⟩ := ln3 hl; rfl
  have GI : FnOk l.prog w K mg base CX0 6 fIw dIw ["self", "head", "steps"] (spInit C) := ok_init FIw BW T EHd ELi ESt
  have MW : Mw l.prog w K mg base C := ⟨fIw, dIw, GI, MIw, bI⟩
  have DI2 : Y.Df l.prog w K mg base 1 "is_integer" ["value"] (CP.spInt2 K) := z_I.dy fun f fd F => CP.ok_int2 F B
  have DW2 : Y.Df l.prog w K mg base 2 "is_within" ["value", "least", "greatest"] (CP.spWithin2 K) := z_W.dy fun f fd F => CP.ok_within2 F DI2
  have AHd : Df l.prog w K mg base 3 "is_head" ["value"] (spNm K 1 40) := z_hd.df fun f fd F => ok_headA F T DW2
  have AMo : Df l.prog w K mg base 3 "is_most" ["value"] (spNm K 1 1000000000000) := z_mo.df fun f fd F => ok_mostA F T DW2
  have ARd : Df l.prog w K mg base 3 "is_road" ["size", "sealed", "loose", "least"] (spRoadA K) := z_rd.df fun f fd F => ok_roadA F T DW2
  have ATl : Df l.prog w K mg base 1 "is_tells" ["value"] (spTellsA K) := z_tl.df fun f fd F => ok_tellsA F T
  have ALi : Df l.prog w K mg base 1 "is_step_list" ["value"] (spListA K) := z_li.df fun f fd F => ok_listA F BW T
  have ASt : Df l.prog w K mg base 5 "_is_step" ["value", "head"] (spStepA K C) := z_st.df fun f fd F => ok_stepA F BW T ARd AMo ATl
  have MAA : MA l.prog w K mg base C CD1 CD2 CD3 CD4 CD5 := ⟨fIw, dIw, ok_initA FIw BW T (mkD1 lD1 iD1 FID1) gD1 (mkD2 lD2 iD2 FID2) gD2 (mkD3 lD3 iD3 FID3) gD3 (mkD4 lD4 iD4 FID4) gD4 (mkD5 lD5 iD5 FID5) gD5 AHd ALi ASt, MIw, bI⟩
  have XS : Ex5 K mg CD1 CD2 CD3 CD4 CD5 := ⟨gD1, lD1, gD2, lD2, gD3, lD3, gD4, lD4, gD5, lD5, x11, x21, x22, x31, x32, x33, x41, x42, x43, x44, x51, x52, x53, x54, x55⟩
  have bWe : Binds K dWe ["self", "other"] [] := FWe.binds fun _ _ _ _ _ _ us hl => by obtain ⟨a0, a1, rfl⟩ := ln2 hl; rfl
  have DU : Df l.prog w K mg base 1 "_law_source" ["script", "start"] (S.spSource K) := z_ls.df fun f fd F => S.ok_source F Bi
  have DD : Df l.prog w K mg base 1 "_law_draw" ["source", "span"] S.spDraw := z_ld.df fun f fd F => S.ok_draw F Bi
  have PK : Df l.prog w K mg base 2 "_law_pick" ["source", "items"] (S.spPick K) := by
    obtain ⟨fD, fdD, FD, gD, kD, bD⟩ := z_ld.ex
    exact z_lp.df fun f fd F => S.ok_pick F Bi FD gD bD
  have DMo : Df l.prog w K mg base 3 "_law_most" ["source"] spLMost := z_lm.df fun f fd F => ok_lmost F DD PK
  have DR : Df l.prog w K mg base 3 "_law_road" ["source", "head"] spLRoad := z_lr.df fun f fd F => ok_lroad F DD PK
  have DRo : Df l.prog w K mg base 6 "_law_rows" ["source", "depth", "many"] (spLRows 3) := df_lrows B z_lro DD PK DMo DR 3
  have DM : Df l.prog w K mg base 11 "_law_made" ["rows"] (spLMade C 3) := df_made T MW z_lma 3
  have DN : Df l.prog w K mg base 1 "_law_is_number" ["thing", "least", "most"] (spNum K) := z_ln.df fun f fd F => ok_lnum F BW
  have DS : Df l.prog w K mg base 4 "_law_is_step" ["thing", "head"] (spLIsS K C) := z_lis.df fun f fd F => ok_liss F BW T DN
  have DE : Df l.prog w K mg base 5 "_law_due" ["head", "steps"] (spLDue K C) := z_ldu.df fun f fd F => ok_ldue F BW T DN DS
  have DT : Df l.prog w K mg base 8 "_law_told" ["head", "steps"] (spLTold K C) := z_lto.df fun f fd F => ok_ltold F T XS MAA
  have DOe : Df l.prog w K mg base 1 "_law_odd_entries" ["one", "low"] (spOddE K C) := z_loe.df fun f fd F => ok_odde F T kI
  have DOs : Df l.prog w K mg base 8 "_law_odd_step" ["source", "head"] (spOddS K C) := z_los.df fun f fd F => ok_odds F T kT kR MW DOe PK
  have DC : Df l.prog w K mg base 12 "_law_couple" ["source"] (spCouple K C) := z_lco.df fun f fd F => ok_lcouple F B T DRo DM DD PK DOs
  exact G.Ok.of (ok_law FLaw B T kL kT kB ne DU DC DE DT (EB.df_weqB FWe BW T oWe bWe 3) oWe bWe (ok_len FWl BW T) oWl (FWl.binds fun _ _ _ _ _ _ us hl => by obtain ⟨a0, rfl⟩ := ln1 hl; rfl))
end WP

end
section
set_option Elab.async false
set_option linter.all false
set_option maxRecDepth 100000
set_option maxHeartbeats 0
/-! ## the head -/
namespace HT
open PySem PySem.Spec PyProof.Rows L2
def lo0 : List PySem.Str := ["_wall",
  "is_integer",
  "is_within",
  "RoadError",
  "BadHead",
  "BadSteps",
  "BadStep",
  "TooDeep",
  "TooGreat",
  "OtherHead",
  "NoStep",
  "GREATEST_HEAD",
  "GREATEST_ROAD",
  "GREATEST_MOST",
  "MOST_STEPS",
  "GREATEST_DEPTH",
  "GREATEST_SIZE",
  "SEALED_WORDS",
  "LOOSE_WORDS",
  "TELLS_WORDS",
  "Way",
  "is_head",
  "is_step_list",
  "is_road",
  "is_most",
  "is_tells",
  "_is_step",
  "_law_source",
  "_law_draw",
  "_law_pick"]
def lo1 : List PySem.Str := ["_law_most",
  "_law_road",
  "_law_rows",
  "_law_made",
  "_law_is_number",
  "_law_is_step",
  "_law_due",
  "_law_told",
  "_law_odd_entries",
  "_law_odd_step",
  "_law_couple"]
def lo : List PySem.Str := lo0 ++ lo1
def fa0 : List He.Fa := [.free "isinstance",
  .free "bool",
  .free "int",
  .free "tuple",
  .free "list",
  .free "len",
  .free "range",
  .free "zip",
  .free "min",
  .free "max",
  .free "sorted",
  .free "set",
  .free "enumerate",
  .free "sum",
  .glo "Way",
  .cls "Way",
  .noat "Way" "head",
  .noat "Way" "steps",
  .noat "Way" "depth",
  .noat "Way" "size",
  .int "GREATEST_HEAD" 40,
  .int "GREATEST_ROAD" 1000,
  .int "GREATEST_MOST" 1000000000000,
  .int "MOST_STEPS" 12,
  .int "GREATEST_DEPTH" 3,
  .int "GREATEST_SIZE" 40,
  .glo "SEALED_WORDS",
  .glo "LOOSE_WORDS",
  .glo "TELLS_WORDS",
  .glo "is_integer"]
def fa1 : List He.Fa := [.glo "is_within",
  .glo "is_step_list",
  .glo "_is_step",
  .glo "is_road",
  .glo "is_tells",
  .glo "is_most",
  .glo "is_head",
  .glo "_law_source",
  .glo "_law_draw",
  .glo "_law_pick",
  .glo "_law_most",
  .glo "_law_road",
  .glo "_law_rows",
  .glo "_law_made",
  .glo "_law_is_number",
  .glo "_law_is_step",
  .glo "_law_due",
  .glo "_law_told",
  .glo "_law_odd_entries",
  .glo "_law_odd_step",
  .glo "_law_couple",
  .mkr "Way",
  .meth "Way" "__eq__",
  .meth "Way" "__len__",
  .glo "BadHead",
  .glo "BadSteps",
  .glo "BadStep",
  .glo "TooDeep",
  .glo "TooGreat",
  .glo "law"]
def fa : List He.Fa := fa0 ++ fa1
def fn0 : List He.DefD := [⟨("is_integer", none), "is_integer", "is_integer", defArgs WP.sInteger, defBody WP.sInteger, defScope WP.sInteger, [], []⟩,
  ⟨("is_within", none), "is_within", "is_within", defArgs WP.sWithin, defBody WP.sWithin, defScope WP.sWithin, [], []⟩,
  ⟨("is_step_list", none), "is_step_list", "is_step_list", defArgs WP.sList, defBody WP.sList, defScope WP.sList, [], []⟩,
  ⟨("_is_step", none), "_is_step", "_is_step", defArgs WP.sStep, defBody WP.sStep, defScope WP.sStep, [], []⟩,
  ⟨("is_road", none), "is_road", "is_road", defArgs WP.sRoad, defBody WP.sRoad, defScope WP.sRoad, [], []⟩,
  ⟨("is_tells", none), "is_tells", "is_tells", defArgs WP.sTells, defBody WP.sTells, defScope WP.sTells, [], []⟩,
  ⟨("is_most", none), "is_most", "is_most", defArgs WP.sMost, defBody WP.sMost, defScope WP.sMost, [], []⟩,
  ⟨("is_head", none), "is_head", "is_head", defArgs WP.sHead, defBody WP.sHead, defScope WP.sHead, [], []⟩,
  ⟨("_law_source", none), "_law_source", "_law_source", defArgs S.sSource, defBody S.sSource, defScope S.sSource, [], []⟩,
  ⟨("_law_draw", none), "_law_draw", "_law_draw", defArgs S.sDraw, defBody S.sDraw, defScope S.sDraw, [], []⟩,
  ⟨("_law_pick", none), "_law_pick", "_law_pick", defArgs S.sPick, defBody S.sPick, defScope S.sPick, [], []⟩,
  ⟨("_law_most", none), "_law_most", "_law_most", defArgs WP.sLMost, defBody WP.sLMost, defScope WP.sLMost, [], []⟩,
  ⟨("_law_road", none), "_law_road", "_law_road", defArgs WP.sLRoad, defBody WP.sLRoad, defScope WP.sLRoad, [], []⟩,
  ⟨("_law_rows", none), "_law_rows", "_law_rows", defArgs WP.sLRows, defBody WP.sLRows, defScope WP.sLRows, [], []⟩,
  ⟨("_law_made", none), "_law_made", "_law_made", defArgs WP.sLMade, defBody WP.sLMade, defScope WP.sLMade, [], []⟩,
  ⟨("_law_is_number", none), "_law_is_number", "_law_is_number", defArgs WP.sLNum, defBody WP.sLNum, defScope WP.sLNum, [], []⟩,
  ⟨("_law_is_step", none), "_law_is_step", "_law_is_step", defArgs WP.sLIsS, defBody WP.sLIsS, defScope WP.sLIsS, [], []⟩,
  ⟨("_law_due", none), "_law_due", "_law_due", defArgs WP.sLDueW, defBody WP.sLDueW, defScope WP.sLDueW, [], []⟩,
  ⟨("_law_told", none), "_law_told", "_law_told", defArgs WP.sLTold, defBody WP.sLTold, defScope WP.sLTold, [], []⟩,
  ⟨("_law_odd_entries", none), "_law_odd_entries", "_law_odd_entries", defArgs WP.sLOddE, defBody WP.sLOddE, defScope WP.sLOddE, [], []⟩,
  ⟨("_law_odd_step", none), "_law_odd_step", "_law_odd_step", defArgs WP.sLOddS, defBody WP.sLOddS, defScope WP.sLOddS, [], []⟩,
  ⟨("_law_couple", none), "_law_couple", "_law_couple", defArgs WP.sLCouple, defBody WP.sLCouple, defScope WP.sLCouple, [], []⟩,
  ⟨("Way", some "__init__"), "__init__", "Way.__init__", defArgs WP.sInit, defBody WP.sInit, defScope WP.sInit, [], []⟩,
  ⟨("Way", some "__eq__"), "__eq__", "Way.__eq__", defArgs WP.sWEq, defBody WP.sWEq, defScope WP.sWEq, [], []⟩,
  ⟨("Way", some "__len__"), "__len__", "Way.__len__", defArgs WP.sLen, defBody WP.sLen, defScope WP.sLen, [], []⟩,
  ⟨("BadHead", some "__init__"), "__init__", "BadHead.__init__", defArgs WP.sErD1, defBody WP.sErD1, defScope WP.sErD1, [], []⟩,
  ⟨("BadSteps", some "__init__"), "__init__", "BadSteps.__init__", defArgs WP.sErD2, defBody WP.sErD2, defScope WP.sErD2, [], []⟩,
  ⟨("BadStep", some "__init__"), "__init__", "BadStep.__init__", defArgs WP.sErD3, defBody WP.sErD3, defScope WP.sErD3, [], []⟩,
  ⟨("TooDeep", some "__init__"), "__init__", "TooDeep.__init__", defArgs WP.sErD4, defBody WP.sErD4, defScope WP.sErD4, [], []⟩,
  ⟨("TooGreat", some "__init__"), "__init__", "TooGreat.__init__", defArgs WP.sErD5, defBody WP.sErD5, defScope WP.sErD5, [], []⟩]
def fn1 : List He.DefD := [⟨("law", none), "law", "law", defArgs WP.sLaw, defBody WP.sLaw, defScope WP.sLaw, [], []⟩]
def fn : List He.DefD := fn0 ++ fn1
def ex0 : List HN.Ex := [fun K => He.eqO (PySem.W.findIn K (.ref (He.ga K "Way")) "__class__") (some (some (.builtin "object.__class__"))),
  fun K => He.eqO (PySem.W.specialIn K (.builtin "object.__class__") "__get__") (some (some (.builtin "getset_descriptor.__get__"))),
  fun K => decide (PySem.W.takesIn K (.builtin "object.__class__") = some true),
  fun K => decide (PySem.W.mroIn K (He.ga K "Way") (.type "object") = some true),
  fun K => He.tupB K "SEALED_WORDS" [.str "tell", .str "drop"],
  fun K => He.tupB K "LOOSE_WORDS" [.str "cut", .str "tell", .str "drop"],
  fun K => He.tupB K "TELLS_WORDS" [.str "turn", .str "keep", .str "lose"],
  fun K => He.eqO (PySem.W.findIn K (.ref (He.ga K "Way")) "__ne__") (some (some (.builtin "object.__ne__"))),
  fun K => decide (PySem.W.kitOne K (.ref (He.ga K "Way")) (.type "list") = some false),
  fun K => decide (PySem.W.kitOne K (.ref (He.ga K "Way")) (.type "tuple") = some false),
  fun K => decide (PySem.W.kitOne K (.ref (He.ga K "Way")) (.type "bool") = some false),
  fun K => decide (PySem.W.kitOne K (.ref (He.ga K "Way")) (.type "int") = some false),
  fun K => decide (PySem.W.kitOne K (.type "tuple") (.ref (He.ga K "Way")) = some false),
  fun K => HX.errB K (He.ga K "BadHead") "value",
  fun K => HX.iniB K (He.ga K "BadHead") (He.ma K (He.ga K "BadHead") "__init__"),
  fun K => HX.errB K (He.ga K "BadSteps") "value",
  fun K => HX.iniB K (He.ga K "BadSteps") (He.ma K (He.ga K "BadSteps") "__init__"),
  fun K => HX.errB K (He.ga K "BadStep") "position",
  fun K => HX.iniB K (He.ga K "BadStep") (He.ma K (He.ga K "BadStep") "__init__"),
  fun K => HX.errB K (He.ga K "TooDeep") "depth",
  fun K => HX.iniB K (He.ga K "TooDeep") (He.ma K (He.ga K "TooDeep") "__init__"),
  fun K => HX.errB K (He.ga K "TooGreat") "size",
  fun K => HX.iniB K (He.ga K "TooGreat") (He.ma K (He.ga K "TooGreat") "__init__"),
  fun K => decide (PySem.W.exmOne K (.ref (He.ga K "BadHead")) (.ref (He.ga K "BadHead")) = some true),
  fun K => decide (PySem.W.exmOne K (.ref (He.ga K "BadSteps")) (.ref (He.ga K "BadHead")) = some false),
  fun K => decide (PySem.W.exmOne K (.ref (He.ga K "BadSteps")) (.ref (He.ga K "BadSteps")) = some true),
  fun K => decide (PySem.W.exmOne K (.ref (He.ga K "BadStep")) (.ref (He.ga K "BadHead")) = some false),
  fun K => decide (PySem.W.exmOne K (.ref (He.ga K "BadStep")) (.ref (He.ga K "BadSteps")) = some false),
  fun K => decide (PySem.W.exmOne K (.ref (He.ga K "BadStep")) (.ref (He.ga K "BadStep")) = some true),
  fun K => decide (PySem.W.exmOne K (.ref (He.ga K "TooDeep")) (.ref (He.ga K "BadHead")) = some false)]
def ex1 : List HN.Ex := [fun K => decide (PySem.W.exmOne K (.ref (He.ga K "TooDeep")) (.ref (He.ga K "BadSteps")) = some false),
  fun K => decide (PySem.W.exmOne K (.ref (He.ga K "TooDeep")) (.ref (He.ga K "BadStep")) = some false),
  fun K => decide (PySem.W.exmOne K (.ref (He.ga K "TooDeep")) (.ref (He.ga K "TooDeep")) = some true),
  fun K => decide (PySem.W.exmOne K (.ref (He.ga K "TooGreat")) (.ref (He.ga K "BadHead")) = some false),
  fun K => decide (PySem.W.exmOne K (.ref (He.ga K "TooGreat")) (.ref (He.ga K "BadSteps")) = some false),
  fun K => decide (PySem.W.exmOne K (.ref (He.ga K "TooGreat")) (.ref (He.ga K "BadStep")) = some false),
  fun K => decide (PySem.W.exmOne K (.ref (He.ga K "TooGreat")) (.ref (He.ga K "TooDeep")) = some false),
  fun K => decide (PySem.W.exmOne K (.ref (He.ga K "TooGreat")) (.ref (He.ga K "TooGreat")) = some true)]
def ex : List HN.Ex := ex0 ++ ex1
abbrev R : PySem.W.OpenRow := PySem.W.OpenLaw.row PySem.Challenge.rw_roadsizes_k01_ways_made_and_refused
abbrev hk : PySem.W.Hook := HN.hookX fa fn ex
def ob (s : PySem.W.SharedT) : HN.AlX := HN.obsG fa fn ex (HandSHeadRun.getT s)
theorem ob_eq (s : PySem.W.SharedT) : ob s = hk.obs s.abs := HN.obsG_eq (HandSHeadRun.getT_eq s)
theorem run (w : World) : HandSHeadRun.RunEq R (PySem.W.view R.prog [45]) hk ob 9000 lo w := by
  intro os
  kernel_rfl
theorem facts {l : PySem.W.OpenLaw} {w : World} {K : PySem.W.Frag} {h : Heap} {mg : Str → Option Value} {f : Addr} (KX : K.In h) (hNs : h.Ns mainGlobals mg) (hmg : mg "law" = some (.ref f)) (c : HN.Says fa fn ex K) :
    ∃ fd : FuncData, (∀ (s : Shared) (u : Value), BindsTo s fd ⟨[u], []⟩ [("script", u)]) ∧ ∀ base : Heap, K.In base → base.Ns mainGlobals mg → G.Ok l.prog w K mg base CX0 13 f fd ["script"] (WP.spLaw K) :=
  WP.all_mk KX hNs hmg ⟨(He.free_ok KX hNs (c.fact 0 _ rfl)), (He.free_ok KX hNs (c.fact 1 _ rfl)), (He.free_ok KX hNs (c.fact 2 _ rfl)), (He.free_ok KX hNs (c.fact 3 _ rfl)), (He.free_ok KX hNs (c.fact 4 _ rfl)), (He.free_ok KX hNs (c.fact 5 _ rfl)), (He.free_ok KX hNs (c.fact 6 _ rfl)), (He.free_ok KX hNs (c.fact 7 _ rfl)), (He.free_ok KX hNs (c.fact 8 _ rfl)), (He.free_ok KX hNs (c.fact 9 _ rfl)), (He.free_ok KX hNs (c.fact 10 _ rfl)), (He.free_ok KX hNs (c.fact 11 _ rfl)), (He.free_ok KX hNs (c.fact 12 _ rfl))⟩ (He.free_ok KX hNs (c.fact 13 _ rfl))
    ⟨(He.glo_ok KX hNs (c.fact 14 _ rfl)), (He.cls_ok (c.fact 15 _ rfl)), (He.noat_ok (c.fact 16 _ rfl)), (He.noat_ok (c.fact 17 _ rfl)), (He.noat_ok (c.fact 18 _ rfl)), (He.noat_ok (c.fact 19 _ rfl)), (He.eqO_ok (c.look 0 _ rfl)), (He.eqO_ok (c.look 1 _ rfl)), (of_decide_eq_true (c.look 2 _ rfl)), (of_decide_eq_true (c.look 3 _ rfl)), (He.int_ok KX hNs (c.fact 20 _ rfl)), (He.int_ok KX hNs (c.fact 21 _ rfl)), (He.int_ok KX hNs (c.fact 22 _ rfl)), (He.int_ok KX hNs (c.fact 23 _ rfl)), (He.int_ok KX hNs (c.fact 24 _ rfl)), (He.int_ok KX hNs (c.fact 25 _ rfl)), ⟨_, (He.glo_ok KX hNs (c.fact 26 _ rfl)), fun H => He.tupB_ok (vs := [.str "tell", .str "drop"]) (c.look 4 _ rfl) H⟩, ⟨_, (He.glo_ok KX hNs (c.fact 27 _ rfl)), fun H => He.tupB_ok (vs := [.str "cut", .str "tell", .str "drop"]) (c.look 5 _ rfl) H⟩, ⟨_, (He.glo_ok KX hNs (c.fact 28 _ rfl)), fun H => He.tupB_ok (vs := [.str "turn", .str "keep", .str "lose"]) (c.look 6 _ rfl) H⟩⟩ (He.eqO_ok (c.look 7 _ rfl))
    (of_decide_eq_true (c.look 8 _ rfl)) (of_decide_eq_true (c.look 9 _ rfl)) (of_decide_eq_true (c.look 10 _ rfl)) (of_decide_eq_true (c.look 11 _ rfl)) (of_decide_eq_true (c.look 12 _ rfl))
    (WP.fd_I KX hNs (He.eqO_ok (c.fact 29 _ rfl)) (HN.funOf (c.def_ 0 _ rfl).choose_spec))
    (WP.fd_W KX hNs (He.eqO_ok (c.fact 30 _ rfl)) (HN.funOf (c.def_ 1 _ rfl).choose_spec))
    (WP.fd_li KX hNs (He.eqO_ok (c.fact 31 _ rfl)) (HN.funOf (c.def_ 2 _ rfl).choose_spec))
    (WP.fd_st KX hNs (He.eqO_ok (c.fact 32 _ rfl)) (HN.funOf (c.def_ 3 _ rfl).choose_spec))
    (WP.fd_rd KX hNs (He.eqO_ok (c.fact 33 _ rfl)) (HN.funOf (c.def_ 4 _ rfl).choose_spec))
    (WP.fd_tl KX hNs (He.eqO_ok (c.fact 34 _ rfl)) (HN.funOf (c.def_ 5 _ rfl).choose_spec))
    (WP.fd_mo KX hNs (He.eqO_ok (c.fact 35 _ rfl)) (HN.funOf (c.def_ 6 _ rfl).choose_spec))
    (WP.fd_hd KX hNs (He.eqO_ok (c.fact 36 _ rfl)) (HN.funOf (c.def_ 7 _ rfl).choose_spec))
    (WP.fd_ls KX hNs (He.eqO_ok (c.fact 37 _ rfl)) (HN.funOf (c.def_ 8 _ rfl).choose_spec))
    (WP.fd_ld KX hNs (He.eqO_ok (c.fact 38 _ rfl)) (HN.funOf (c.def_ 9 _ rfl).choose_spec))
    (WP.fd_lp KX hNs (He.eqO_ok (c.fact 39 _ rfl)) (HN.funOf (c.def_ 10 _ rfl).choose_spec))
    (WP.fd_lm KX hNs (He.eqO_ok (c.fact 40 _ rfl)) (HN.funOf (c.def_ 11 _ rfl).choose_spec))
    (WP.fd_lr KX hNs (He.eqO_ok (c.fact 41 _ rfl)) (HN.funOf (c.def_ 12 _ rfl).choose_spec))
    (WP.fd_lro KX hNs (He.eqO_ok (c.fact 42 _ rfl)) (HN.funOf (c.def_ 13 _ rfl).choose_spec))
    (WP.fd_lma KX hNs (He.eqO_ok (c.fact 43 _ rfl)) (HN.funOf (c.def_ 14 _ rfl).choose_spec))
    (WP.fd_ln KX hNs (He.eqO_ok (c.fact 44 _ rfl)) (HN.funOf (c.def_ 15 _ rfl).choose_spec))
    (WP.fd_lis KX hNs (He.eqO_ok (c.fact 45 _ rfl)) (HN.funOf (c.def_ 16 _ rfl).choose_spec))
    (WP.fd_ldu KX hNs (He.eqO_ok (c.fact 46 _ rfl)) (HN.funOf (c.def_ 17 _ rfl).choose_spec))
    (WP.fd_lto KX hNs (He.eqO_ok (c.fact 47 _ rfl)) (HN.funOf (c.def_ 18 _ rfl).choose_spec))
    (WP.fd_loe KX hNs (He.eqO_ok (c.fact 48 _ rfl)) (HN.funOf (c.def_ 19 _ rfl).choose_spec))
    (WP.fd_los KX hNs (He.eqO_ok (c.fact 49 _ rfl)) (HN.funOf (c.def_ 20 _ rfl).choose_spec))
    (WP.fd_lco KX hNs (He.eqO_ok (c.fact 50 _ rfl)) (HN.funOf (c.def_ 21 _ rfl).choose_spec))
    (He.mkr_ok (c.fact 51 _ rfl)) (HN.funOf (c.def_ 22 _ rfl).choose_spec)
    ⟨(He.meth_ok (c.fact 52 _ rfl)).1, (He.meth_ok (c.fact 52 _ rfl)).2⟩ (HN.funOf (c.def_ 23 _ rfl).choose_spec)
    ⟨(He.meth_ok (c.fact 53 _ rfl)).1, (He.meth_ok (c.fact 53 _ rfl)).2⟩ (HN.funOf (c.def_ 24 _ rfl).choose_spec)
    (He.glo_ok KX hNs (c.fact 54 _ rfl)) (HX.errB_ok (c.look 13 _ rfl)) (HX.iniB_ok (c.look 14 _ rfl)) (HN.funOf (c.def_ 25 _ rfl).choose_spec)
    (He.glo_ok KX hNs (c.fact 55 _ rfl)) (HX.errB_ok (c.look 15 _ rfl)) (HX.iniB_ok (c.look 16 _ rfl)) (HN.funOf (c.def_ 26 _ rfl).choose_spec)
    (He.glo_ok KX hNs (c.fact 56 _ rfl)) (HX.errB_ok (c.look 17 _ rfl)) (HX.iniB_ok (c.look 18 _ rfl)) (HN.funOf (c.def_ 27 _ rfl).choose_spec)
    (He.glo_ok KX hNs (c.fact 57 _ rfl)) (HX.errB_ok (c.look 19 _ rfl)) (HX.iniB_ok (c.look 20 _ rfl)) (HN.funOf (c.def_ 28 _ rfl).choose_spec)
    (He.glo_ok KX hNs (c.fact 58 _ rfl)) (HX.errB_ok (c.look 21 _ rfl)) (HX.iniB_ok (c.look 22 _ rfl)) (HN.funOf (c.def_ 29 _ rfl).choose_spec)
    (of_decide_eq_true (c.look 23 _ rfl)) (of_decide_eq_true (c.look 24 _ rfl)) (of_decide_eq_true (c.look 25 _ rfl)) (of_decide_eq_true (c.look 26 _ rfl)) (of_decide_eq_true (c.look 27 _ rfl)) (of_decide_eq_true (c.look 28 _ rfl)) (of_decide_eq_true (c.look 29 _ rfl)) (of_decide_eq_true (c.look 30 _ rfl)) (of_decide_eq_true (c.look 31 _ rfl)) (of_decide_eq_true (c.look 32 _ rfl)) (of_decide_eq_true (c.look 33 _ rfl)) (of_decide_eq_true (c.look 34 _ rfl)) (of_decide_eq_true (c.look 35 _ rfl)) (of_decide_eq_true (c.look 36 _ rfl)) (of_decide_eq_true (c.look 37 _ rfl))
    (He.eqO_ok (c.fact 59 _ rfl)) (HN.funOf (c.def_ 30 _ rfl).choose_spec)
end HT
open PySem PySem.W PySem.Calls PyProof.Rows
set_option maxRecDepth 100000 in
set_option maxHeartbeats 0 in
theorem PySem.Challenge.cw_roadsizes_k01_ways_made_and_refused_holds : PySem.Challenge.rw_roadsizes_k01_ways_made_and_refused.Holds := by
  w_on; o_law
  refine HandSHeadRun.head_any (r := OpenLaw.row PySem.Challenge.rw_roadsizes_k01_ways_made_and_refused) (q := view (OpenLaw.row PySem.Challenge.rw_roadsizes_k01_ways_made_and_refused).prog [45]) (H := HT.hk) (ob := HT.ob) (M := 9000) (loose := HT.lo) (d := HandSHeadRun.topDef (OpenLaw.row PySem.Challenge.rw_roadsizes_k01_ways_made_and_refused).prog 45) (kwd := []) HT.ob_eq
    (by kernel_rfl) (fun s => by kernel_rfl) HT.run (by kernel_rfl) (by kernel_rfl) (by kernel_rfl) (by rfl) (by first | assumption | decide +kernel) (by decide +kernel) ⟨rfl, rfl, rfl, rfl, rfl, by decide +kernel⟩ ?hw ?hc
  case hw => w_witness2
  case hc =>
    refine G.walkE (l := PySem.Challenge.rw_roadsizes_k01_ways_made_and_refused) (n := 63) (k := 13) (x := "script") rfl (by decide) (by kernel_rfl) ⟨rfl, by decide, by decide⟩ ?F
    intro w mg fa h Y G hmg0
    obtain ⟨K, KX, c⟩ := Y
    have hmg : mg ("law" : PySem.Str) = some (.ref fa) := by
      have e : (HandSHeadRun.topDef (OpenLaw.row PySem.Challenge.rw_roadsizes_k01_ways_made_and_refused).prog 45).name = ("law" : PySem.Str) := by kernel_rfl
      rw [← e]
      exact hmg0
    obtain ⟨fd, hb, hF⟩ := HT.facts (l := PySem.Challenge.rw_roadsizes_k01_ways_made_and_refused) (w := w) KX G hmg c
    exact ⟨K, fd, WP.spLaw K, KX, hb, fun H a ns hl hb hS => ⟨a, ns, rfl, hS, hl, hb, fun _ => rfl⟩, hF⟩

end
