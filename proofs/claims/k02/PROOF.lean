import PyProof.Rows.All
import Wide.All
import OpenK.AllK
import Wide.FinOn
import HandS.ForMost
import HandS.EndBits
import HandS.Wide
import PyProof.ReprRoads
import HandS.ExcInit
import HandS.ExcIs
import HandS.IsInst
import HandS.Defaults
import HandS.MakeKwOnly
import HandS.ExcOwn
import HandS.WordsExc
import HandS.ExcField
import HandS.OwnEq
import PyProof.Raises
import PyProof.EqKinds
import PyProof.DictKinds
import HandS.SetFor
import HandS.Strs
import HandS.Zip
import HandS.Walk
import HandS.Star
import HandS.TupAny
import HandS.Flow
import HandS.More
import HandS.SortKw
import KE.DataMinMax
import KE.GoesEnum
import HandS.Deep
import PyProof.NeKinds
import KE.KStateDown
import HandS.Head0
import HandS.Head1
import HandS.Head2
import HandS.HeadEnd
import HandS.HeadHook1
import HandS.HeadHook2
import PySem.Challenge.RW_roadsizes_k02_ways_put_together
section
set_option Elab.async false
set_option linter.all false
set_option maxRecDepth 100000
set_option maxHeartbeats 4000000
/-! ## G: defs that are entered with no repr under way (guards known), so that repr of containers can be told -/
namespace G
open PySem PySem.Spec PyProof.Rows L2

/-- a def's promise, kept where no repr is under way -/
structure Ok (P : Program) (w : World) (K : PySem.W.Frag) (mg : Str → Option Value) (base : Heap) (CX : CXT) (k : Nat) (f : Addr) (fd : FuncData) (ps : List Str) (sp : Sp) : Prop where
  len : ∀ vs H Q E, sp vs H Q E → vs.length = ps.length
  go : ∀ (A : Around), A.guards = some [] → ∀ (outer : List Env) (s : Shared) (H : Hp) (args : Args) (us : List Value) (vs : List V) (Q : VK) (E : XK),
    Room k A → Env0 P w K mg base A outer s H → BindsTo s fd args (ps.zip us) → Vals vs us → sp vs H Q E → codeAny (model P w) A (.call (.ref f) args) (CR CX outer P w H s Q E) s
section
variable {P : Program} {w : World} {K : PySem.W.Frag} {mg : Str → Option Value} {base : Heap} {CX : CXT}
theorem Ok.mono {j k : Nat} {f : Addr} {fd : FuncData} {ps : List Str} {sp : Sp} (F : Ok P w K mg base CX j f fd ps sp) (h : j ≤ k) : Ok P w K mg base CX k f fd ps sp :=
  ⟨F.len, fun A hg outer s H args us vs Q E hr => F.go A hg outer s H args us vs Q E (hr.mono h)⟩
theorem Ok.of {k : Nat} {f : Addr} {fd : FuncData} {ps : List Str} {sp : Sp} (F : FnOk P w K mg base CX k f fd ps sp) : Ok P w K mg base CX k f fd ps sp :=
  ⟨F.len, fun A _ => F.run A⟩

theorem mk {k : Nat} {x qual : Str} {st : Stmt} {f : Addr} {fd : FuncData} {N ps : List Str} {sp : Sp} (F : Fun K x qual st f fd) (S : FnScope N ps (defScope st)) (len : ∀ vs H Q E, sp vs H Q E → vs.length = ps.length)
    (walk : ∀ (cdv : Value) (A : Around) (outer : List Env) (s : Shared) (H : Hp) (vs : List V) (Q : VK) (E : XK), A.guards = some [] → Room k (A.deeper (envOfC qual (defScope st) s.heap.objs.size f cdv)) → sp vs H Q E →
      ∃ t, PSs (cxOf CX P w K mg base N qual (defScope st) f cdv A outer s H E).nox (defBody st) t ∧ t { nx := fun _ H' => Q .non H', rt := Q } (start N vs) H) :
    Ok P w K mg base CX (k + 1) f fd ps sp := by
  refine ⟨len, ?_⟩
  obtain ⟨oc, od, kV, doc, pm, an, cdv, ct, osl, hfd, lk, cd⟩ := F.ex
  intro A hg outer s H args us vs Q E hr e0 hb rv hsp
  subst hfd
  have stay : ∀ b o, base.get? b = some o → s.heap.get? b = some o := fun b o e => (e0.bs b o e).1
  have KX : K.In s.heap := e0.mod.kin.keeps stay
  have par : ∀ y ∈ ps.zip us, (defScope st).names.lookup y.1 = some .local ∨ ((defScope st).names.lookup y.1 = some .cell ∧ ((cellsFrom (s.heap.objs.size + 1) (defScope st).names []).lookup y.1).isSome = true) := by
    rintro ⟨n, v⟩ hy
    cases S.par n (List.of_mem_zip hy).1 with
    | inl q => exact .inl q
    | inr q => exact .inr ⟨q, PySem.W.cellsFrom_some _ _ _ (.inl q)⟩
  refine codeAny_call_function hr.depth (KX _ _ lk) rfl S.co S.gen rfl (PySem.W.codeRec_of KX cd) (hb _ _ _ _ (wpAny_newFunctionEnv_cells S.kind par ?_))
  intro env he s1 x
  subst he
  refine ⟨(e0.mod.nolimit.keeps stay).keeps x.toInCall.keep, codeAny_func ?_⟩
  obtain ⟨t, ht, hq⟩ := walk cdv A outer s H vs Q E hg (hr.deeper _) hsp
  refine wpAny_mono (ht.nox.run [] s1 (start N vs) H _ (inv_start S hr.hd e0 (len _ _ _ _ hsp) rv x) hq) ?_ fun e s' hs => hs
  intro fl s' hs
  cases fl with
  | ret u => obtain ⟨v, σ', H', J, ru, q⟩ := hs; exact ⟨v, H', J.os, J.bare, J.base, J.hok, ru, q⟩
  | next => obtain ⟨σ', H', J, q⟩ := hs; exact ⟨.non, H', J.os, J.bare, J.base, J.hok, rfl, q⟩
  | brk => obtain ⟨_, _, _, q⟩ := hs; exact q.elim
  | cont => obtain ⟨_, _, _, q⟩ := hs; exact q.elim

/-- the law's entry: callerA has no guard -/
theorem enter {mb : Str → Option Value} {k : Nat} {fa a : Addr} {fd : FuncData} {x : Str} {sp : Sp} {s₁ : Shared} {vs : List Value} {H : Hp}
    (KX : K.In s₁.heap) (hns : s₁.heap.Ns mainGlobals mg) (hb : s₁.heap.Ns builtinsNs mb) (hbb : ∀ x : Str, x ≠ "__name__" → mb x = bootBuiltins x) (hlim : s₁.heap.NoLimit) (hgen : s₁.gens = #[])
    (ha : s₁.heap.get? a = some { cls := .type "list", data := .seq vs.toArray }) (hr : Room k callerA)
    (F : ∀ base : Heap, K.In base → base.Ns mainGlobals mg → Ok P w K mg base CX k fa fd [x] sp) (hbind : ∀ (s : Shared) (u : Value), BindsTo s fd ⟨[u], []⟩ [(x, u)])
    (hO : Only H) (hok : HOk P w H s₁.heap) (only_a : ∀ b o, H b = some o → b = a) (notK : (∃ o, H a = some o) → K.lookup a = none)
    (hsp : sp [.ref a] H (fun v _ => v = .bl true) fun _ _ _ => False) (hCX : ∀ H e s', CX [] H s₁ (fun _ _ _ => False) e s' → False) :
    codeAny (model P w) callerA (.call (.ref fa) ⟨[.ref a], []⟩) (fun r s' => r = .ok (.ret (.bool true)) ∧ OldK s₁.heap s'.heap ∧ s'.os = s₁.os ∧ AllBare s'.gens) s₁ := by
  have free : ∀ {b : Addr}, b ≠ a → H b = none := fun {b} hne => by
    cases q : H b with
    | none => rfl
    | some u => exact absurd (only_a b u q) hne
  have dic : ∀ {b : Addr} {m : Str → Option Value}, s₁.heap.Ns b m → (hidT s₁.heap H).Ns b m := by
    rintro b m ⟨o, es, ep, e, d, r⟩
    refine ⟨o, es, ep, hidT_get e (free ?_), d, r⟩
    rintro rfl
    rw [ha] at e
    cases e
    cases d
  have kin : K.In (hidT s₁.heap H) := by
    intro b o e
    refine hidT_get (KX b o e) ?_
    cases q : H b with
    | none => rfl
    | some u =>
      have hba := only_a b u q
      subst hba
      rw [notK ⟨u, q⟩] at e
      cases e
  obtain ⟨mc, l1, l2⟩ := hlim
  have e0 : Env0 P w K mg (hidT s₁.heap H) callerA [] s₁ H :=
    { frames := rfl, mod := ⟨kin, dic hns, ⟨mb, dic hb, hbb⟩, ⟨mc, dic l1, l2⟩⟩, bs := fun b o e => of_hidT e, bsz := Nat.le_of_eq (hidT_size _ _), funs := trivial, frf := fun b z => (List.not_mem_nil z).elim, hok := hok, bare := .of_eq hgen }
  refine codeAny_mono ((F _ kin (dic hns)).go callerA rfl [] s₁ H _ [.ref a] _ _ _ hr e0 (hbind s₁ (.ref a)) (.cons (show RelV (.ref a) (.ref a) from rfl) .nil) hsp) ?_
  intro r s' h
  match r, h with
  | .error e, h => exact (hCX H e s' h).elim
  | .ok .next, h => exact h.elim
  | .ok .brk, h => exact h.elim
  | .ok .cont, h => exact h.elim
  | .ok (.ret u), ⟨v, H', os, bare, un, hok', rv, q⟩ =>
    cases (q : v = .bl true)
    cases (rv : u = .bool true)
    refine ⟨rfl, OldK.of_keep fun b o e => ?_, os, bare⟩
    by_cases q : H b = none
    · exact un.keep b o e q List.not_mem_nil List.not_mem_nil
    · rcases hO b with z | ⟨ob, xs, z⟩
      · exact absurd z q
      · have k1 := (hok b _ z).1
        rw [e] at k1
        cases k1
        exact (hok' b _ (un.frzs b _ _ z)).1

theorem walk {l : PySem.W.OpenLaw} {n k : Nat} {q : Program} {loose : List Str} {XP : (Str → Option Value) → Heap → Prop} {YP : World → Heap → Prop} {d : DefRec} {K : Params → PySem.W.Frag} {sp : PySem.W.Frag → Sp} {x : Str}
    (hn : l.most = some n) (hn2 : n ≤ sizeLine) (hdf : d.params.defaults = []) (hr : Room k callerA) (hY : ∀ (w : World) (h : Heap), YP w h → (K w.params).In h)
    (F : ∀ (w : World) (mg : Str → Option Value) (fa : Addr) (h : Heap), (K w.params).In h → h.Ns mainGlobals mg → mg d.name = some (.ref fa) →
      ∃ fd : FuncData, (∀ (s : Shared) (u : Value), BindsTo s fd ⟨[u], []⟩ [(x, u)]) ∧ ∀ base : Heap, (K w.params).In base → base.Ns mainGlobals mg → Ok l.prog w (K w.params) mg base CX0 k fa fd [x] (sp (K w.params)))
    (hsp : ∀ (K : PySem.W.Frag) (H : Hp) (a : Addr) (ns : List Int), ns.length ≤ n → (∀ z ∈ ns, Builtin.Int.intBits z ≤ 1048576) → SqL K H a (ns.map V.int) → sp K [.ref a] H (fun v _ => v = .bl true) fun _ _ _ => False) :
    PySem.W.WalkO q loose XP YP l.row.toRowW d [] (fun f vs => PySem.call f vs) := by
  refine Att.attach_callB hn hdf ?_
  intro w s₀ s₁ mg mb fa o pm cd doc a vs ns G Y ho hd hcd hmg hobj hints hlen hbits hg
  have KX := hY w _ Y
  obtain ⟨fd, hb, hF⟩ := F w mg fa _ KX G.T.g hmg
  have rv := vals_ints hints
  have zl : ns.length ≤ sizeLine := Nat.le_trans hlen hn2
  have wish := fun (H : Hp) (S : SqL (K w.params) H a (ns.map V.int)) => hsp (K w.params) H a ns hlen hbits S
  by_cases hk : (K w.params).lookup a = none
  · refine enter (H := fun b => if b = a then some (.frz { cls := .type "list", data := .seq vs.toArray } (.lst (ns.map V.int))) else none) KX G.T.g G.T.b G.T.builtins G.T.nolimit hg hobj hr hF hb ?_ ?_ ?_ (fun _ => hk) (wish _ ?_) fun _ _ _ z => z
    · intro b
      by_cases e : b = a
      · exact .inr ⟨_, _, if_pos e⟩
      · exact .inl (if_neg e)
    · intro b o e
      by_cases z : b = a
      · subst z
        cases (if_pos rfl).symm.trans e
        exact ⟨hobj, by rw [List.length_map]; exact zl, vs, _, rv, hobj⟩
      · cases (if_neg z).symm.trans e
    · intro b o e
      by_cases z : b = a
      · exact z
      · cases (if_neg z).symm.trans e
    · exact .inl (.inr ⟨_, if_pos rfl⟩)
  · obtain ⟨o, ek⟩ := Option.ne_none_iff_exists'.mp hk
    have eo := (KX a o ek).symm.trans hobj
    cases eo
    refine enter (H := fun _ => none) KX G.T.g G.T.b G.T.builtins G.T.nolimit hg hobj hr hF hb (fun _ => .inl rfl) (fun b o e => nomatch e) (fun b o e => nomatch e) (fun ⟨o, e⟩ => nomatch e) (wish _ ?_) fun _ _ _ z => z
    refine .inr ⟨_, vs.toArray, _, ek, rfl, rfl, rfl, ?_, by simpa using rv⟩
    rw [List.size_toArray, hints.length]
    exact zl
end
end G

end
section
set_option Elab.async false
set_option linter.all false
set_option maxRecDepth 100000
set_option maxHeartbeats 4000000
/-! ## repr of containers; int ** int of great ints -/
namespace G
open PySem PySem.Spec PyProof.Rows L2
def keyD : Key → PyData
  | .inl i => .int i
  | .inr x => .str x
mutual
/-- data at a value: as it is read off the abstract heap; lists and no dict (true), or dicts and no list (false) -/
inductive Dr (K : PySem.W.Frag) (H : Hp) : Bool → V → PyData → Prop
  | non {m : Bool} : Dr K H m .non .none
  | bl {m : Bool} (b : Bool) : Dr K H m (.bl b) (.bool b)
  | int {m : Bool} (i : Int) : Dr K H m (.int i) (.int i)
  | str {m : Bool} (x : Str) : Dr K H m (.str x) (.str x)
  | lst {a : Addr} {xs : List V} {ds : List PyData} : SqL K H a xs → DrA K H true xs ds → Dr K H true (.ref a) (.list ds)
  | tup {m : Bool} {a : Addr} {xs : List V} {ds : List PyData} : SqT K H a xs → DrA K H m xs ds → Dr K H m (.ref a) (.tuple ds)
  | dic {a : Addr} {kvs : List (Key × V)} {ds : List PyData} : H a = some (.dK kvs) → DrA K H false (kvs.map (·.2)) ds → Dr K H false (.ref a) (.dict ((kvs.map fun p => keyD p.1).zip ds))
inductive DrA (K : PySem.W.Frag) (H : Hp) : Bool → List V → List PyData → Prop
  | nil {m : Bool} : DrA K H m [] []
  | cons {m : Bool} {v : V} {vs : List V} {d : PyData} {ds : List PyData} : Dr K H m v d → DrA K H m vs ds → DrA K H m (v :: vs) (d :: ds)
end
theorem DrA.len {K : PySem.W.Frag} {H : Hp} {m : Bool} : ∀ {vs : List V} {ds : List PyData}, DrA K H m vs ds → vs.length = ds.length
  | _, _, .nil => rfl
  | _, _, .cons _ t => congrArg Nat.succ (DrA.len t)
mutual
theorem Dr.noDict {K : PySem.W.Frag} {H : Hp} : ∀ (d : PyData) (v : V), Dr K H true v d → d.hasDict = false
  | .none, _, _ => by simp only [PyData.hasDict]
  | .bool _, _, _ => by simp only [PyData.hasDict]
  | .int _, _, _ => by simp only [PyData.hasDict]
  | .str _, _, _ => by simp only [PyData.hasDict]
  | .list ds, _, h => by
    cases h with
    | lst _ ha => simp only [PyData.hasDict]; exact DrA.noDict ds _ ha
  | .tuple ds, _, h => by
    cases h with
    | tup _ ha => simp only [PyData.hasDict]; exact DrA.noDict ds _ ha
  | .dict _, _, h => by cases h
theorem DrA.noDict {K : PySem.W.Frag} {H : Hp} : ∀ (ds : List PyData) (vs : List V), DrA K H true vs ds → PyData.hasDictAll ds = false
  | [], _, _ => by simp only [PyData.hasDictAll]
  | d :: ds, _, h => by
    cases h with
    | cons a b => simp only [PyData.hasDictAll, Dr.noDict d _ a, DrA.noDict ds _ b, Bool.or_self]
end
theorem keys_read {P : Program} {w : World} {h : Heap} : ∀ {es : List DictEntry} {kvs : List (Key × V)} {vs : List (Key × Value)}, Pairs (mixKind P w) es vs → KV kvs vs →
    ∃ as, ReadsAll h (es.map (·.key)) (kvs.map fun p => keyD p.1) as ∧ as = []
  | _, _, _, .nil, .nil => ⟨_, .nil, rfl⟩
  | _, _, _, .cons hk hv hp, .cons r t => by
    obtain ⟨as, q, e⟩ := keys_read (P := P) (w := w) (h := h) hp t
    subst e
    have hk' : keyIs _ _ = true := hk
    rw [← r.1] at hk'
    rename_i e' _ _ _ p' _
    rcases keyIs_shape hk' with ⟨i, t, ek, ev⟩ | ⟨x, t, ek, ev⟩
    · refine ⟨[], ?_, rfl⟩
      have z := ReadsAll.cons (h := h) (Reads.int i t) q
      rw [← ev] at z
      have ke : keyD p'.1 = .int i := by rw [ek]; rfl
      rw [List.map_cons, List.map_cons, ke]
      exact z
    · refine ⟨[], ?_, rfl⟩
      have z := ReadsAll.cons (h := h) (Reads.str x t) q
      rw [← ev] at z
      have ke : keyD p'.1 = .str x := by rw [ek]; rfl
      rw [List.map_cons, List.map_cons, ke]
      exact z
theorem vals_of {P : Program} {w : World} : ∀ {es : List DictEntry} {kvs : List (Key × V)} {vs : List (Key × Value)}, Pairs (mixKind P w) es vs → KV kvs vs → Vals (kvs.map (·.2)) (es.map (·.val))
  | _, _, _, .nil, .nil => .nil
  | _, _, _, .cons hk hv hp, .cons r t => .cons (by show RelV _ (DictEntry.val _); rw [hv]; exact r.2) (vals_of hp t)
section
variable {X : Cx} {pins : List (Addr × Obj)} {σ : L2.St} {H : Hp} {s : Shared}
mutual
theorem Dr.reads (I : Inv X pins σ H s) {m : Bool} : ∀ (d : PyData) (v : V) (u : Value), Dr X.K H m v d → RelV v u → ∃ as, Reads s.heap u d as ∧ (m = false → sysModules ∉ as)
  | .none, _, _, h, r => by
    cases h
    cases r
    exact ⟨_, Reads.none, fun _ => List.not_mem_nil⟩
  | .bool b, _, _, h, r => by
    cases h
    cases r
    exact ⟨_, Reads.bool b, fun _ => List.not_mem_nil⟩
  | .int i, _, _, h, r => by
    cases h
    obtain ⟨t, rfl⟩ := r
    exact ⟨_, Reads.int i t, fun _ => List.not_mem_nil⟩
  | .str x, _, _, h, r => by
    cases h
    obtain ⟨t, rfl⟩ := r
    exact ⟨_, Reads.str x t, fun _ => List.not_mem_nil⟩
  | .list ds, _, _, h, r => by
    cases h with
    | @lst a xs _ hs ha =>
      cases r
      obtain ⟨its, rv, ⟨o, n, ho, hc, _, hd⟩, _⟩ := I.list hs
      obtain ⟨as, hr, hn⟩ := DrA.reads I ds _ its ha rv
      exact ⟨_, Reads.list ho hc hd hr, fun z => by cases z⟩
  | .tuple ds, _, _, h, r => by
    cases h with
    | tup hs ha =>
      cases r
      obtain ⟨its, rv, ⟨o, ho, hc, n, hd⟩, _⟩ := I.tuple hs
      obtain ⟨as, hr, hn⟩ := DrA.reads I ds _ its ha rv
      exact ⟨_, Reads.tuple ho hc hd hr, hn⟩
  | .dict kds, _, _, h, r => by
    cases h with
    | @dic a kvs ds hs ha =>
      cases r
      obtain ⟨_, hsys, vs, rk, o, es, ep, ho, hx, hd, _, hp, _⟩ := (show ObjOk X.prog X.w H s.heap a (.dK kvs) from I.hok a _ hs)
      obtain ⟨_, hk, e⟩ := keys_read (h := s.heap) hp rk
      subst e
      have hl : (kvs.map fun p => keyD p.1).length = ds.length := by rw [List.length_map, ← ha.len, List.length_map]
      have e1 : ((kvs.map fun p => keyD p.1).zip ds).map (·.1) = kvs.map fun p => keyD p.1 := List.map_fst_zip (Nat.le_of_eq hl)
      have e2 : ((kvs.map fun p => keyD p.1).zip ds).map (·.2) = ds := List.map_snd_zip (Nat.le_of_eq hl.symm)
      have ha' : DrA X.K H false (kvs.map (·.2)) (((kvs.map fun p => keyD p.1).zip ds).map (·.2)) := by rw [e2]; exact ha
      obtain ⟨bs, hr, hn⟩ := DrA.reads2 I ((kvs.map fun p => keyD p.1).zip ds) _ _ ha' (vals_of hp rk)
      refine ⟨_, Reads.dict ho hx.1 hd (by rw [e1]; exact hk) hr, fun _ z => ?_⟩
      rcases List.mem_append.mp z with z | z
      · rcases List.mem_cons.mp z with e | e
        · rw [← e] at hsys
          simp at hsys
        · exact absurd e List.not_mem_nil
      · exact hn rfl z
theorem DrA.reads (I : Inv X pins σ H s) {m : Bool} : ∀ (ds : List PyData) (vs : List V) (us : List Value), DrA X.K H m vs ds → Vals vs us → ∃ as, ReadsAll s.heap us ds as ∧ (m = false → sysModules ∉ as)
  | [], _, _, h, r => by
    cases h
    cases r
    exact ⟨_, ReadsAll.nil, fun _ => List.not_mem_nil⟩
  | d :: ds, _, _, h, r => by
    cases h with
    | cons h1 h2 =>
      cases r with
      | cons r1 r2 =>
        obtain ⟨as, q1, n1⟩ := Dr.reads I d _ _ h1 r1
        obtain ⟨bs, q2, n2⟩ := DrA.reads I ds _ _ h2 r2
        exact ⟨_, ReadsAll.cons q1 q2, fun e z => (List.mem_append.mp z).elim (n1 e) (n2 e)⟩
theorem DrA.reads2 (I : Inv X pins σ H s) {m : Bool} : ∀ (kds : List (PyData × PyData)) (vs : List V) (us : List Value), DrA X.K H m vs (kds.map (·.2)) → Vals vs us → ∃ as, ReadsAll s.heap us (kds.map (·.2)) as ∧ (m = false → sysModules ∉ as)
  | [], _, _, h, r => by
    cases h
    cases r
    exact ⟨_, ReadsAll.nil, fun _ => List.not_mem_nil⟩
  | (k, d) :: ds, _, _, h, r => by
    cases h with
    | cons h1 h2 =>
      cases r with
      | cons r1 r2 =>
        obtain ⟨as, q1, n1⟩ := Dr.reads I d _ _ h1 r1
        obtain ⟨bs, q2, n2⟩ := DrA.reads2 I ds _ _ h2 r2
        exact ⟨_, ReadsAll.cons q1 q2, fun e z => (List.mem_append.mp z).elim (n1 e) (n2 e)⟩
end
end
/-- repr of a list that is not empty: what is read below it is none of the interpreter's own dict -/
theorem repr_top {prog : Program} {w : World} {A : Around} {E : Value → Shared → Prop} {s : Shared} {a : Addr} {o : Obj} {v : Value} {vs : List Value} {n : Nat} {ds : List PyData} {as : List Addr} {Q : Value → Shared → Prop} (ho : s.heap.get? a = some o) (hc : o.cls = .type "list") (hd : o.data = .seq (v :: vs).toArray n)
    (hr : ReadsAll s.heap (v :: vs) ds as) (hn : sysModules ∉ as) (hs : PyData.showableAll ds = true) (hg : A.guards = some []) (hu : A.units + ((PyData.list ds).depth + 1) < cLine) (hz : (PyData.list ds).shown.length ≤ sizeLine)
    (hQ : ∀ h' u tk, (∀ b o, s.heap.get? b = some o → h'.get? b = some o) → Q (.str (PyData.list ds).shown u) { s with heap := h', toks := tk }) : wpAny (model prog w) A (call (.builtin "repr") [.ref a]) Q E s := by
  have depth : (PyData.list ds).depth = PyData.depthAll ds + 1 := by simp only [PyData.depth]
  have text : (PyData.list ds).shown = listText (PyData.shownAll ds) := by simp only [PyData.shown]
  rw [text] at hz
  rw [depth] at hu
  obtain ⟨bs, most, items⟩ := ReprAllK.of_readsAll (prog := prog) (w := w) hr hs (fun _ => hn) (fun t ht => Nat.le_trans (listText_mem_le ht) hz)
  have apart : a ∉ bs := not_mem_of_deeper (.list ho hc hd (by simpa using hr)) (by rw [depth]; omega) most
  refine call_repr_slot (by omega) ⟨o, ho, hc⟩ F.slot_list_repr.toG ?_
  refine call_list_reprK ho hc hd apart (by simpa using items.length_eq) (fun i y e => items.item i y (by simpa using e)) hg (fun b _ => Clear.nil b) (by show A.units + 1 + _ < cLine; omega) (fun _ _ e => e) (fun h' u tk k => ⟨_, _, rfl, ?_⟩) hz
  rw [← text]
  exact hQ h' u tk k
def rRepr (K : PySem.W.Frag) : List V → Hp → VK → Prop := fun xs H Q => ∃ (a : Addr) (m : Bool) (y : V) (ys : List V) (ds : List PyData), xs = [.ref a] ∧ SqL K H a (y :: ys) ∧ DrA K H m (y :: ys) ds ∧ (PyData.list ds).showable = true ∧ (PyData.list ds).depth ≤ 20 ∧ (PyData.list ds).shown.length ≤ sizeLine ∧ Q (.str (PyData.list ds).shown) H
theorem call_repr {X : Cx} (hg : X.A.guards = some []) (hu : X.A.units + 64 < cLine) : CallR X (.builtin "repr") (rRepr X.K) := by
  intro pins s σ H xs us Q I r h
  obtain ⟨a, m, y, ys, ds, rfl, hL, hd, hs, hl, hz, q⟩ := h
  cases r with
  | cons rx rr =>
    cases rr
    cases rx
    have fin : ∀ (h' : Heap) (u : Tok) (tk : Nat), (∀ b o, s.heap.get? b = some o → h'.get? b = some o) → EP X pins σ Q (.str (PyData.list ds).shown u) { s with heap := h', toks := tk } := fun h' u tk k => ⟨.str (PyData.list ds).shown, H, I.kept (t' := tk) k, ⟨u, rfl⟩, q⟩
    obtain ⟨its, rv, ⟨o, n, ho, hc, _, hd'⟩, _⟩ := I.list hL
    obtain ⟨as, hr, hn⟩ := DrA.reads I ds _ its hd rv
    cases m with
    | true =>
      refine repr_of_reads' (.list ho hc hd' hr) hs (fun z => ?_) hg (by omega) (fun _ _ e => e) fin hz
      rw [show (PyData.list ds).hasDict = PyData.hasDictAll ds by simp only [PyData.hasDict], DrA.noDict ds _ hd] at z
      cases z
    | false =>
      cases rv with
      | cons r1 r2 => exact repr_top ho hc hd' hr (hn rfl) (by simpa only [PyData.showable] using hs) hg (by omega) hz fin
def rReprF : List V → Hp → VK → Prop := fun xs H Q => (xs = [.non] ∧ Q (.str "None") H) ∨ (∃ b, xs = [.bl b] ∧ Q (.str (if b then "True" else "False")) H) ∨ ∃ i, xs = [.int i] ∧ i.natAbs.log2 < 1920 ∧ Q (.str (toString i)) H
theorem call_reprF {X : Cx} : CallR X (.builtin "repr") rReprF := by
  intro pins s σ H xs us Q I r h
  rcases h with ⟨rfl, q⟩ | ⟨b, rfl, q⟩ | ⟨i, rfl, hz, q⟩
  · cases r with
    | cons rx rr => cases rr; cases rx; exact PySem.P.repr_of_none ⟨.str _, H, I.tok _, ⟨_, rfl⟩, q⟩
  · cases r with
    | cons rx rr => cases rr; cases rx; exact PySem.P.repr_of_bool ⟨.str _, H, I.tok _, ⟨_, rfl⟩, q⟩
  · cases r with
    | cons rx rr => cases rr; obtain ⟨t, rfl⟩ := rx; exact PySem.P.repr_of_int hz ⟨.str _, H, I.tok _, ⟨_, rfl⟩, q⟩
/-- a ** n, n a small written number, a of any size -/
theorem op_powN {X : Cx} : OpR X (binaryOp .Pow) (rI (fun i j => 0 ≤ j ∧ (Builtin.Int.intBits i : Int) * j ≤ 2 ^ 27) fun i j => .int (i ^ j.toNat)) := opI fun _ _ _ _ _ _ _ hc q => pow_int hc.1 hc.2 q
end G

end
section
set_option Elab.async false
set_option linter.all false
set_option maxRecDepth 100000
set_option maxHeartbeats 4000000
/-! ## an own error as a plain value: made by place or by name, its field read, isinstance of it -/
namespace PySem.W
open PySem PySem.Spec PySem.Calls PyProof.Rows
section
variable {prog : Program} {w : World} {A : Around} {E : Value → Shared → Prop} {s : Shared} {K : Frag} {x D : Addr} {ox : Obj} {od : Option Obj}
theorem g_findData {name : Str} {a g : Value} (hc : (clsIn K D).isSome = true) (ha : findIn K (.ref D) name = some (some a)) (hg : specialIn K a "__get__" = some (some g)) (ht : takesIn K a = some true) : findObj K D od name = some (.bind g a) := by
  cases e : clsIn K D with
  | none => rw [e] at hc; cases hc
  | some cd => unfold findObj; rw [e, Option.bind_some, ha, Option.bind_some]; simp [hg, ht]
/-- x.__class__, x an error that may have a dict of its own -/
theorem g_class {Q : Option Value → Shared → Prop} (F : L2.ExcC K D) (X : K.In s.heap) (I : InstAt s.heap x ox D od) (h : Q (some (.ref D)) { s with toks := s.toks + 1 }) : wpAny (model prog w) A (getAttr? (.ref x) "__class__") Q E s := by
  have cls : (clsIn K D).isSome = true := by obtain ⟨cd, hc, _⟩ := any_some F.hd; rw [hc]; rfl
  have found := g_findData (od := od) cls F.ha F.hn F.ht
  obtain ⟨hp, g, d, t, os⟩ := s
  have ty := I.type (M := model prog w)
  have look := looks_find (M := model prog w) X I found
  have base : Looks (model prog w) hp (isInstance (.ref x) (.type "BaseException")) true := ty.andThen (looks_subIn X F.hs)
  have other : (Value.builtin "BaseException.__getattribute__" == Value.builtin "object.__getattribute__") = false := by decide +kernel
  unfold getAttr? getAttrBy? getAttrBy
  refine wpAny_bind (wpAny_mkText (wpAny_bind (wpAny_attempt (wpAny_holding (wpAny_bind (ty.at (wpAny_bind ((looks_findIn (M := model prog w) X F.hg).at ?_))))))))
  show wpAny _ _ (if (true && Value.builtin "BaseException.__getattribute__" == Value.builtin "object.__getattribute__") = true then _ else _) _ _ _
  rw [other, Bool.and_false, if_neg Bool.false_ne_true]
  unfold getAttrByItsOwn hookBefore
  refine wpAny_bind (?_ : wpAny _ _ _ _ _ _); rw [if_pos (show onTheHeap (Value.ref D) = true from rfl)]
  refine (looks_findIn (M := model prog w) X F.hk).at (wpAny_bind (wpAny_attempt (wpAny_holding ?_)))
  unfold callGetattribute; rw [if_neg (show ¬ (false && onTheHeap (Value.builtin "BaseException.__getattribute__")) = true from Bool.false_ne_true)]
  unfold boundAndCalled; rw [PySem.F.excAttr_ValueError.ga.bind (.ref x)]
  refine wpAny_bind (wpAny_pure (?_ : wpAny _ _ (call (.builtin "BaseException.__getattribute__") [.ref x, .str "__class__" t]) _ _ _))
  refine wpAny_call (codeAny_call_builtin PySem.F.excAttr_ValueError.ga.plain PySem.F.entry_bexc_ga (@check_slot (model prog w) _ _ ⟨hp, g, d, t + 1, os⟩ "BaseException.__getattribute__" "BaseException" "__getattribute__" (.ref x) [.str "__class__" t] [] _ (by decide +kernel) (by decide +kernel) base (PySem.F.args_bexc_ga (.ref x) (.str "__class__" t)) ?_))
  unfold Builtin.«object.__getattribute__»
  refine wpAny_bind (wpAny_of_eq (a := ((Value.ref x : Value), [Value.str "__class__" t])) (by first | rfl | (simp only [slotArgs]; rfl)) (wpAny_bind (wpAny_pure (wpAny_bind (ty.at (wpAny_bind (look.at ?_)))))))
  refine (?_ : wpAny _ _ (holding [Value.builtin "object.__class__"] (call (.builtin "getset_descriptor.__get__") [.builtin "object.__class__", .ref x, .ref D]) >>= ret) _ _ _)
  refine wpAny_bind (wpAny_holding (wpAny_call (class_get (s := ⟨hp, g, d, t + 1, os⟩) (ox := ox) (od := od) X I F.hm (wpAny_pure (?_ : wpAny _ _ (handedOut (.ref D)) _ _ _)))))
  rw [handedOut_of (v := .ref D) rfl]
  first | exact wpAny_pure (wpAny_pure h) | exact wpAny_pure h | exact wpAny_pure (wpAny_bind (wpAny_pure (wpAny_pure h)))
theorem g_kit (F : L2.ExcC K D) : KitX K (.ref x) (.ref D) (fun h => InstAt h x ox D od) := by
  have there : ∃ o, K.lookup D = some o ∧ ∃ cd, o.data = .cls cd := by
    obtain ⟨cd, hc, _⟩ := any_some F.hd
    unfold clsIn at hc
    split at hc
    · rename_i o; exact ⟨_, o, _, rfl⟩
    · cases hc
  obtain ⟨⟨oc, odd, odata, osl⟩, hk, cd, hcd⟩ := there
  cases (hcd : odata = _)
  refine { ty := fun _ _ _ I => I.type, it := ?_, ne := ?_, ca := fun X I k => g_class F X I k }
  · intro M h X _ A' Q' E' s' k q
    unfold isType loadHead
    exact wpAny_bind (wpAny_loadPart (k _ _ (X _ _ hk)) (wpAny_pure q))
  · intro h tp dd its n sl X htp
    refine Bool.eq_false_iff.mpr fun q => ?_
    have e : D = tp := Value.ref.inj (beq_iff_eq.mp q)
    rw [← e, X _ _ hk] at htp
    cases htp
end
end PySem.W
namespace G
open PySem PySem.Spec PyProof.Rows L2
/-- at e: an error of the class at C whose field f is v -/
def Er (H : Hp) (e C : Addr) (f : Str) (v : V) : Prop := ∃ dx, H e = some (exo e C (some dx)) ∧ H dx = some (exd dx [(f, v)])
/-- what the written part tells of such a class -/
structure Cl (K : PySem.W.Frag) (C : Addr) (f : Str) : Prop where
  T : OexC K C
  F : ExcC K C
  no : PySem.W.findIn K (.ref C) f = some none
section
variable {X : Cx} {C D e : Addr} {f : Str} {v : V} {te : TE} {ex : Expr} {pos : Pos}
theorem er_inst {pins : List (Addr × Obj)} {σ : L2.St} {H : Hp} {s : Shared} (I : Inv X pins σ H s) (h : Er H e C f v) : ∃ (oe : Obj) (od : Obj) (u : Value), PySem.W.InstAt s.heap e oe C (some od) ∧ RelV v u ∧ PySem.W.lookIn f od = some (some u) := by
  obtain ⟨dx, h1, h2⟩ := h
  obtain ⟨t1, ho⟩ := exo_at I.hok h1
  obtain ⟨mA, hns, rel⟩ := exd_at I.hok h2
  obtain ⟨od, hod, hl⟩ := lookIn_ns hns
  have l : List.lookup f [(f, v)] = some v := by simp [List.lookup]
  obtain ⟨u, hu, ru⟩ := RelO.some_of (v := v) (o := mA f) (by rw [← l]; exact rel f)
  exact ⟨_, od, u, ⟨ho, rfl, by unfold PySem.W.notCls; rfl, hod⟩, ru, by rw [hl, hu]⟩
/-- isinstance(e, c) -/
def rIsEr (K : PySem.W.Frag) : List V → Hp → VK → Prop := fun xs H Q => ∃ (e C : Addr) (f : Str) (v c : V) (u : Value) (b : Bool), xs = [.ref e, c] ∧ Er H e C f v ∧ ExcC K C ∧ ClsV c u ∧ PySem.W.kitOne K (.ref C) u = some b ∧ Q (.bl b) H
theorem call_isEr : CallR X (.builtin "isinstance") (rIsEr X.K) := by
  intro pins s σ H xs us Q I r h
  obtain ⟨e, C, f, v, c, u, b, rfl, he, F, k, hb, q⟩ := h
  cases r with
  | cons rx rr =>
    cases rr with
    | cons rt rr =>
      cases rr
      cases rx
      cases k.eq rt
      obtain ⟨oe, od, _, J, _, _⟩ := er_inst I he
      exact PySem.W.kia_one (PySem.W.g_kit F) I.kIn J hb (fun z => nomatch z) fun tk => ⟨.bl b, H, I.tok tk, rfl, q⟩
/-- e.f -/
def tErF (K : PySem.W.Frag) (f : Str) (te : TE) : TE := fun σ H Q => te σ H fun x H1 => ∃ (e C : Addr) (v : V), x = .ref e ∧ Er H1 e C f v ∧ Cl K C f ∧ Q v H1
theorem pe_erF (he : PE X ex te) (hb : attributeBase ex f X.env (eval ex X.env) = eval ex X.env := by rfl) : PE X (.Attribute ex f pos) (tErF X.K f te) := by
  refine ⟨fun pins s σ H Q I h => attr_of hb (thn (he.run pins s σ H _ I h) fun u s1 hh => ?_)⟩
  obtain ⟨x, H1, I1, rx, e, C, v, rfl, hE, L, q⟩ := hh
  cases rx
  obtain ⟨oe, od, u, J, ru, lk⟩ := er_inst I1 hE
  exact HandSPX.exc_get I1.kIn J L.F.hg L.F.hk L.F.hs (PySem.W.findObj_own L.F.hd L.no rfl lk) (handed_of ru) ⟨v, H1, I1.tok _, ru, q⟩
end
end G

end
section
set_option Elab.async false
set_option linter.all false
set_option maxRecDepth 100000
set_option maxHeartbeats 4000000
/-! ## an own error made by a call with any arguments: its own __init__ is called with the same ones -/
namespace PySem.HandSPX
open PySem PySem.Spec PySem.Calls PyProof.Rows PySem.W
section
variable {prog : Program} {w : World} {A : Around} {E : Value → Shared → Prop} {R : Result → Shared → Prop} {h : Heap} {g : Array GenState} {d : Drawn} {t : Nat} {os : OsState}
variable {nm q : Str} {C N fI : Addr} {bs bm : List Value} {hdct : Bool} {sn : List Str} {sub : List Value} {ab : Bool} {col : Option Bool} {dd : Option Addr} {k0 k1 k2 k3 k5 : Option Value} {rest : List Value} {kw : List (Str × Value)}
/-- the class, made by ValueError's __new__ -/
abbrev veC (nm q : Str) (C N : Addr) (bs bm : List Value) (hdct : Bool) (sn : List Str) (sub : List Value) (ab : Bool) (col : Option Bool) (dd : Option Addr) (k0 k1 k2 k3 k5 : Option Value) : Obj := excClassObj nm q C N bs bm hdct sn sub ab col dd k0 k1 k2 k3 k5 "ValueError.__new__"
theorem g_has (hm : refsVE bm = true) (B : String) : (Value.ref C :: bm).contains (.type B) = veTail.contains (.type B) := by
  rw [List.contains_cons, refsVE_contains B bm hm]
  rfl
theorem g_check_new {M : Model} {Q : Unit → Shared → Prop} (hm : refsVE bm = true) (hC : h.get? C = some (veC nm q C N bs bm hdct sn sub ab col dd k0 k1 k2 k3 k5)) (hq : Q () ⟨h, g, d, t, os⟩) :
    wpAny M A (checkBuiltinCall "ValueError.__new__" ⟨.ref C :: rest, kw⟩) Q E ⟨h, g, d, t, os⟩ := by
  have F := PySem.F.excBase_ValueError
  have mine : (Value.ref C :: bm).contains (.type "ValueError") = true := (g_has hm _).trans (by decide +kernel)
  have star := F.noStar
  simp only [checkBuiltinCall, F.newKind, F.newSplit, F.newRow]
  repeat (first
    | (refine wpAny_loadPart_at hC ?_)
    | (refine wpAny_isSubtype_exc hC ?_; rw [mine])
    | (refine wpAny_staticBase_exc hC ?_)
    | (refine wpAny_madeBy_exc hC ?_)
    | (simp only [bne_self_eq_false, Bool.false_eq_true, if_false])
    | wp_step)
  all_goals first | exact hq | trace_state
theorem g_new (hm : refsVE bm = true) (hC : h.get? C = some (veC nm q C N bs bm hdct sn sub ab col dd k0 k1 k2 k3 k5)) (hz : rest.length ≤ sizeLine)
    (hq : R (.ok (.ret (.ref (h.objs.size + 1)))) ⟨(h.push (W.kdv_tup rest)).push (excO C h.objs.size), g, d, t, os⟩) : codeAny (model prog w) A (.builtin "ValueError.__new__" ⟨.ref C :: rest, kw⟩) R ⟨h, g, d, t, os⟩ := by
  have F := PySem.F.excBase_ValueError
  have ends := F.ends
  have mine : (Value.ref C :: bm).contains (.type "ValueError") = true := (g_has hm _).trans (by decide +kernel)
  have noA : (Value.ref C :: bm).contains (.type "AttributeError") = false := (g_has hm _).trans (by decide +kernel)
  have noN : (Value.ref C :: bm).contains (.type "NameError") = false := (g_has hm _).trans (by decide +kernel)
  refine codeAny_builtinAt F.entry ?_
  unfold Builtin.«BaseException.__new__»
  refine wpAt_bind (?_ : wpAt _ _ _ (stack >>= _) _ _ _)
  refine wpAt_bind (wpAt_stack fun p below => wpAt_of_wpAny ?_)
  wp_walk
  refine wpAt_of_wpAny ?_
  rw [F.owner]
  repeat (first
    | (with_reducible refine wpAny_madeHere_exc F.canon hC ?_)
    | (with_reducible refine wpAny_loadPart_at hC ?_)
    | (with_reducible refine wpAny_isSubtype_exc hC ?_; first | rw [mine] | rw [noA] | rw [noN])
    | wp_step)
  refine (?_ : R _ _)
  rw [Heap.size_push]
  exact hq
theorem g_type_call {Q : Fin → Shared → Prop} (hm : refsVE bm = true) (hC : h.get? C = some (veC nm q C N bs bm hdct sn sub ab col dd k0 k1 k2 k3 k5)) (hi : W.Looks (model prog w) h (typeLookup (.ref C) "__init__") (some (.ref fI)))
    (hb : ∀ self, W.Looks (model prog w) h (bindSpecial (.ref fI) self) (.ref fI, [self])) (hz : rest.length ≤ sizeLine)
    (hq : codeAny (model prog w) A (.call (.ref fI) ⟨.ref (h.objs.size + 1) :: rest, kw⟩) (fun r s' => match r with | .ok (.ret v) => v = .none ∧ Q (.done (.ret (.ref (h.objs.size + 1)))) s' | .ok _ => False | .error e => E e s')
      ⟨(h.push (W.kdv_tup rest)).push (excO C h.objs.size), g, d, t, os⟩) : wpAny (model prog w) A (Builtin.«type.__call__» ⟨.ref C :: rest, kw⟩) Q E ⟨h, g, d, t, os⟩ := by
  have F := PySem.F.excBase_ValueError
  repeat (first
    | (with_reducible refine wpAny_loadPart_at hC ?_)
    | (with_reducible refine wpAny_madeBy_exc hC ?_)
    | wp_step)
  refine codeAny_call_builtin_code (Code.quiet_builtin _ F.quiet) (g_check_new hm hC (g_new hm hC hz ?_))
  refine (?_ : wpAny _ _ _ _ _ _)
  have keep : ∀ b o, h.get? b = some o → ((h.push (W.kdv_tup rest)).push (excO C h.objs.size)).get? b = some o := fun b o e => Heap.get?_push_of_some _ (Heap.get?_push_of_some _ e)
  have hC₁ := keep _ _ hC
  have new : ((h.push (W.kdv_tup rest)).push (excO C h.objs.size)).get? (h.objs.size + 1) = some (excO C h.objs.size) := by heap_get
  have self : (Value.ref C :: bm).contains (.ref C) = true := by simp
  unfold isInstance
  repeat (first
    | (with_reducible refine wpAny_loadPart_at new ?_)
    | (with_reducible refine wpAny_isSubtype_exc hC₁ ?_; rw [self])
    | wp_step)
  refine (?_ : wpAny _ _ (typeLookup (.ref C) _) _ _ _)
  refine (hi.keeps keep).at (wpAny_holding (wpAny_bind (((hb (.ref (h.objs.size + 1))).keeps keep).at ?_)))
  refine wpAny_bind (wpAny_call (codeAny_mono hq ?_))
  intro r s' z
  rcases r with e | fl
  · exact z
  · cases fl with
    | ret v =>
      obtain ⟨ev, z'⟩ := z
      subst ev
      first | exact wpAny_pure (wpAny_pure z') | (wp_walk; exact z')
    | next => exact z.elim
    | brk => exact z.elim
    | cont => exact z.elim
theorem g_check_type {M : Model} {Q : Unit → Shared → Prop} (hC : h.get? C = some (veC nm q C N bs bm hdct sn sub ab col dd k0 k1 k2 k3 k5)) (hq : Q () ⟨h, g, d, t, os⟩) : wpAny M A (checkBuiltinCall "type.__call__" ⟨.ref C :: rest, kw⟩) Q E ⟨h, g, d, t, os⟩ := by
  have f3 := tc_sub
  have isT : (⟨h, g, d, t, os⟩ : Shared).TypeIs (.ref C) "type" := ⟨_, hC, rfl⟩
  simp only [checkBuiltinCall, tc_kind, tc_split]
  repeat (any_goals (first
    | assumption
    | (with_reducible refine wpAny_loadPart_at hC ?_)
    | (with_reducible refine wpAny_onRaise ?_)
    | (with_reducible refine wpAny_map ?_)
    | wp_step))
theorem g_call (hm : refsVE bm = true) (hC : h.get? C = some (veC nm q C N bs bm hdct sn sub ab col dd k0 k1 k2 k3 k5)) (hi : W.Looks (model prog w) h (typeLookup (.ref C) "__init__") (some (.ref fI)))
    (hb : ∀ self, W.Looks (model prog w) h (bindSpecial (.ref fI) self) (.ref fI, [self])) (hz : rest.length ≤ sizeLine)
    (hq : codeAny (model prog w) (A.under (.builtin "type.__call__" ⟨.ref C :: rest, kw⟩)) (.call (.ref fI) ⟨.ref (h.objs.size + 1) :: rest, kw⟩) (W.InitBack (h.objs.size + 1) R) ⟨(h.push (W.kdv_tup rest)).push (excO C h.objs.size), g, d, t, os⟩) :
    codeAny (model prog w) A (.call (.ref C) ⟨rest, kw⟩) R ⟨h, g, d, t, os⟩ := by
  have f1 := tc_lookup
  have f2 := tc_bind (.ref C)
  have isT : (⟨h, g, d, t, os⟩ : Shared).TypeIs (.ref C) "type" := ⟨_, hC, rfl⟩
  refine codeAny_of_tree (?_ : wpAny _ _ (callAny (.ref C) _) _ _ _)
  repeat (any_goals (first
    | assumption
    | (with_reducible refine wpAny_loadPart_at hC ?_)
    | wp_step))
  refine ⟨rfl, codeAny_call_builtin_at (Code.quiet_builtin _ (by decide +kernel)) entry_typeCall (g_check_type hC (g_type_call hm hC hi hb hz (codeAny_mono hq ?_)))⟩
  rintro (e | (v | _ | _ | _)) s' z <;> exact z
end
end PySem.HandSPX

end
section
set_option Elab.async false
set_option linter.all false
set_option maxRecDepth 100000
set_option maxHeartbeats 4000000
/-! ## C(v) and C(f=v) as values -/
namespace G
open PySem PySem.Spec PyProof.Rows L2
theorem Er.mono {H H' : Hp} {e C : Addr} {f : Str} {v : V} (s : Same H H') (h : Er H e C f v) : Er H' e C f v := by
  obtain ⟨dx, a, b⟩ := h
  exact ⟨dx, s _ _ a, s _ _ b⟩
/-- self.f = v -/
def spIni (C : Addr) (f : Str) : Sp := fun vs H Q _ => ∃ (a : Addr) (v : V), vs = [.ref a, v] ∧ H a = some (exo a C none) ∧ ∀ dx, H dx = none → dx ≠ a → Q .non (upd (upd H dx (exd dx [(f, v)])) a (exo a C (some dx)))
/-- a class with such an __init__: its def at fI -/
structure Mk (P : Program) (w : World) (K : PySem.W.Frag) (mg : Str → Option Value) (base : Heap) (C : Addr) (f : Str) : Prop where
  L : Cl K C f
  ex : ∃ (fI : Addr) (fd : FuncData) (ps : List Str), PySem.W.findIn K (.ref C) "__init__" = some (some (.ref fI)) ∧ PySem.W.typeIn K (.ref fI) = some (.type "function") ∧ FnOk P w K mg base CX0 1 fI fd ps (spIni C f) ∧
    ps.length = 2 ∧ (∀ (s : Shared) (u v : Value), BindsTo s fd ⟨[u, v], []⟩ (ps.zip [u, v])) ∧ ∀ (s : Shared) (u v : Value), BindsTo s fd ⟨[u], [(f, v)]⟩ (ps.zip [u, v])
section
variable {X : Cx} {C : Addr} {f x : Str} {e : Expr} {ta tk : TA} {p pos : Pos} {kws : List Keyword}
theorem made {pins : List (Addr × Obj)} {σ : L2.St} {H : Hp} {s : Shared} {Q : VK} {v : V} {u : Value} (M : Mk X.prog X.w X.K X.mg X.base C f) (hr : Room 2 X.A) (I : Inv X pins σ H s) (r : RelV v u) (us : List Value) (kw : List (Str × Value)) (hz : us.length ≤ 1)
    (how : (us = [u] ∧ kw = []) ∨ (us = [] ∧ kw = [(f, u)])) (hq : ∀ (e : Addr) (H' : Hp), H e = none → Same H H' → Er H' e C f v → Q (.ref e) H') : wpAny (model X.prog X.w) X.A (call (.ref C) us kw) (EP X pins σ Q) X.xe s := by
  obtain ⟨⟨T, F, no⟩, fI, fd, ps, iC, tI, G1, hl, b1, b2⟩ := M
  obtain ⟨nm, q, N, bs, bm, sn, sub, ab, col, dd, k0, k1, k2, k3, k5, hC, hbm⟩ := T.cls
  obtain ⟨hp, g, dr, tok, os⟩ := s
  have big : hp.objs.size ≤ hp.objs.size + 1 := Nat.le_succ _
  have free : H (hp.objs.size + 1) = none := I.hok.fresh big
  have keep : ∀ b o, hp.get? b = some o → ((hp.push (PySem.W.kdv_tup us)).push (PySem.HandSPX.excO C hp.objs.size)).get? b = some o := fun b o e => Heap.get?_push_of_some _ (Heap.get?_push_of_some _ e)
  have new : ((hp.push (PySem.W.kdv_tup us)).push (PySem.HandSPX.excO C hp.objs.size)).get? (hp.objs.size + 1) = some (PySem.HandSPX.excO C hp.objs.size) := by heap_get
  have J : Inv X pins σ (upd H (hp.objs.size + 1) (exo (hp.objs.size + 1) C none)) ⟨(hp.push (PySem.W.kdv_tup us)).push (PySem.HandSPX.excO C hp.objs.size), g, dr, tok, os⟩ := I.laid (t' := tok) keep big (exo_ok new)
  have bind : BindsTo ⟨(hp.push (PySem.W.kdv_tup us)).push (PySem.HandSPX.excO C hp.objs.size), g, dr, tok, os⟩ fd ⟨Value.ref (hp.objs.size + 1) :: us, kw⟩ (ps.zip [Value.ref (hp.objs.size + 1), u]) := by
    rcases how with ⟨rfl, rfl⟩ | ⟨rfl, rfl⟩
    · exact b1 _ _ _
    · exact b2 _ _ _
  have wish : spIni C f [.ref (hp.objs.size + 1), v] (upd H (hp.objs.size + 1) (exo (hp.objs.size + 1) C none)) (fun z H' => z = .non ∧ Q (.ref (hp.objs.size + 1)) H') E0 := by
    refine ⟨_, _, rfl, upd_same, fun dx h1 h2 => ⟨rfl, hq _ _ free (fun b o q => ?_) ⟨dx, upd_same, ?_⟩⟩⟩
    · have n1 : b ≠ hp.objs.size + 1 := ne_of_none q free
      rw [upd_ne n1, upd_ne (fun z => ?_), upd_ne n1]
      · exact q
      · rw [← z, upd_ne n1, q] at h1
        cases h1
    · rw [upd_ne h2, upd_same]
  refine wpAny_call (PySem.HandSPX.g_call hbm (I.kIn _ _ hC) (PySem.W.looks_findIn I.kIn iC) (fun self => PySem.W.bind_fn I.kIn self tI) (Nat.le_trans hz (by decide))
    (codeAny_mono (G1.run _ X.stack _ _ _ [Value.ref (hp.objs.size + 1), u] [.ref (hp.objs.size + 1), v] _ E0 (hr.make C us kw) (J.env0.make C us kw) bind (.cons (show RelV (.ref _) (.ref _) from rfl) (.cons r .nil)) wish) fun rr s' hh => ?_))
  rcases rr with er | fl
  · exact (hh : False).elim
  · cases fl with
    | ret u' =>
      obtain ⟨z, H', J', rz, ez, q'⟩ := J.after hh
      subst ez
      exact ⟨rz, ⟨.ref (hp.objs.size + 1), H', J', rfl, q'⟩⟩
    | next => exact hh.elim
    | brk => exact hh.elim
    | cont => exact hh.elim
/-- C(v), C(f=v) -/
def tMkE (C : Addr) (f : Str) (t : TA) : TE := fun σ H Q => t σ H fun vs H1 => ∃ v, vs = [v] ∧ ∀ (e : Addr) (H' : Hp), H1 e = none → Same H1 H' → Er H' e C f v → Q (.ref e) H'
theorem pe_mkE (M : Mk X.prog X.w X.K X.mg X.base C f) (hr : Room 2 X.A) (hg : Gl X x) (hm : X.mg x = some (.ref C)) (ha : PA X [e] ta) (hdb : (x == ("__debug__" : Str)) = false := by decide)
    (he : starEach [e] X.env = (false, eval e X.env) :: starEach [] X.env := by rfl) (hpl : (backTo pos (starEach [] X.env)).any (·.1) = false := by rfl) : PE X (.Call (.Name x p) [e] [] pos) (tMkE C f ta) := by
  refine ⟨fun pins s σ H Q I h => wpAny_Call_Name_kw (ld_glob I hg hm ?_ hdb)⟩
  refine PySem.W.callWith_K (h₀ := X.base) I.ok.mod.kin M.L.T.kC (thn (ha.run pos pins s σ H _ I h) fun us s1 hh => ?_) he hpl
  obtain ⟨vs, H1, I1, r1, v, rfl, q⟩ := hh
  cases r1 with
  | cons rv rn =>
    cases rn
    exact ⟨I1.kIn, made M hr I1 rv _ [] (Nat.le_refl _) (.inl ⟨rfl, rfl⟩) q⟩
theorem pe_mkEk (M : Mk X.prog X.w X.K X.mg X.base C f) (hr : Room 2 X.A) (hg : Gl X x) (hm : X.mg x = some (.ref C)) (hkw : PK X kws tk) (hks : (backToKw pos (keywordEach kws X.env)).filterMap (·.1) = [f] := by rfl) (hall : (backToKw pos (keywordEach kws X.env)).all (·.1.isSome) = true := by rfl)
    (hdb : (x == ("__debug__" : Str)) = false := by decide) (hpl : ((backTo pos (starEach [] X.env)).any (·.1) || (backToKw pos (keywordEach kws X.env)).any (·.1.isNone)) = false := by rfl) : PE X (.Call (.Name x p) [] kws pos) (tMkE C f tk) := by
  refine ⟨fun pins s σ H Q I h => wpAny_Call_Name_kw (ld_glob I hg hm ?_ hdb)⟩
  refine PySem.W.callWith_KW0 (h₀ := X.base) I.ok.mod.kin M.L.T.kC hall (thn (hkw.run pos pins s σ H _ I h) fun ws s2 hh => ?_) hpl
  obtain ⟨vs, H1, I1, r1, v, rfl, q⟩ := hh
  cases r1 with
  | cons rv rn =>
    cases rn
    refine ⟨I1.kIn, ?_⟩
    rw [hks]
    exact made M hr I1 rv [] _ (Nat.zero_le _) (.inr ⟨rfl, rfl⟩) q
end
end G

end
section
set_option autoImplicit false
set_option Elab.async false
set_option linter.all false
set_option maxRecDepth 100000
set_option maxHeartbeats 4000000
/-! ## an own error raised and caught: raise C(e); e.f of the error that a suite holds; a call by keyword that may raise -/
namespace G
open PySem PySem.Spec PyProof.Rows L2
section
variable {X : Cx} {C : Addr} {f x : Str} {e : Expr} {ta : TA} {p pos pos2 : Pos}
theorem mk_binds {P : Program} {w : World} {K : PySem.W.Frag} {fd : FuncData} {ps : List Str} (hl : ps.length = 2) (b : ∀ (s : Shared) (u v : Value), BindsTo s fd ⟨[u, v], []⟩ (ps.zip [u, v])) : Binds K fd ps [] := fun s us hk hn => by
  rw [List.append_nil] at hn ⊢
  rw [hl] at hn
  match us, hn with
  | [u, v], _ => exact b s u v
theorem pmk_er (M : Mk X.prog X.w X.K X.mg X.base C f) (hr : Room 2 X.A) (hg : Gl X x) (hm : X.mg x = some (.ref C)) (ha : PA X [e] ta) (hdb : (x == ("__debug__" : Str)) = false := by decide)
    (he : starEach [e] X.env = (false, eval e X.env) :: starEach [] X.env := by rfl) (hpl : (backTo pos (starEach [] X.env)).any (·.1) = false := by rfl) : PMk X (.Call (.Name x p) [e] [] pos) (tMkO C (spIni C f) [] ta) := by
  obtain ⟨L, fI, fd, ps, iC, tI, G1, hl, b1, b2⟩ := M
  exact pmk_oex L.T iC tI G1 hr (mk_binds (P := X.prog) (w := X.w) hl b1) .nil pass0 hg hm ha hdb he hpl
/-- raise C(e) -/
def tRaiseE (C : Addr) (f : Str) (W : WX) (ta : TA) : TS := fun _ σ H => tMkO C (spIni C f) [] ta σ H fun cls d H' => W cls d σ H'
theorem ps_raiseE {W : WX} (hc : X.calm = true) (M : Mk X.prog X.w X.K X.mg X.base C f) (hr : Room 2 X.A) (tk : Takes X W) (hg : Gl X x) (hm : X.mg x = some (.ref C)) (ha : PA X [e] ta) (hdb : (x == ("__debug__" : Str)) = false := by decide)
    (he : starEach [e] X.env = (false, eval e X.env) :: starEach [] X.env := by rfl) (hpl : (backTo pos (starEach [] X.env)).any (·.1) = false := by rfl) : PS X (.Raise (some (.Call (.Name x p) [e] [] pos)) none pos2) (tRaiseE C f W ta) :=
  ps_raise hc tk (pmk_er M hr hg hm ha hdb he hpl)
theorem mkO_of {v : V} {H : Hp} {Q : XK} (k : ∀ d, H d = none → Q (.ref C) (some d) (upd H d (.xd [(f, v)]))) : [v].length ≤ 1000 ∧ ∀ a, H a = none → spIni C f (.ref a :: ([v] ++ [])) (upd H a (exo a C none))
    (fun u H2 => u = .non ∧ ∃ (d : Addr) (fs : List (Str × V)), H2 a = some (exo a C (some d)) ∧ H2 d = some (exd d fs) ∧ H d = none ∧ Q (.ref C) (some d) (upd (del H2 a) d (.xd fs))) (fun _ _ _ => False) := by
  refine ⟨by show 1 ≤ 1000; decide, fun a ha => ⟨a, v, rfl, upd_same, fun dx h1 h2 => ⟨rfl, dx, [(f, v)], upd_same, ?_, ?_, ?_⟩⟩⟩
  · rw [upd_ne h2, upd_same]
  · rw [upd_ne h2] at h1
    exact h1
  · have hd : H dx = none := by
      rw [upd_ne h2] at h1
      exact h1
    have e : upd (del (upd (upd (upd H a (exo a C none)) dx (exd dx [(f, v)])) a (exo a C (some dx))) a) dx (.xd [(f, v)]) = upd H dx (.xd [(f, v)]) := by
      funext b
      by_cases hb : b = dx
      · subst hb
        rw [upd_same, upd_same]
      · rw [upd_ne hb, upd_ne hb]
        by_cases ha2 : b = a
        · subst ha2
          rw [del_same, ha]
        · rw [del_ne ha2, upd_ne ha2, upd_ne hb, upd_ne ha2]
    rw [e]
    exact k dx hd
end
theorem xf_of {K : PySem.W.Frag} {C : Addr} {f : Str} (L : Cl K C f) : XfC K C := ⟨L.F.hg, L.F.hk, L.F.hs, L.F.hd⟩
theorem look_one {f : Str} {v : V} : ([(f, v)] : List (Str × V)).lookup f = some v := by simp [List.lookup]
section
variable {X : Cx} {CX : CXT} {k : Nat} {f : Addr} {fd : FuncData} {ps ks : List Str} {sp : Sp} {E : L2.St → XK} {x : Str} {p pos : Pos} {e : Expr} {es : List Expr} {kws : List Keyword} {t tk : TA} {g : List Value → List Value → List Value} {gV : List V → List V → List V}
def tCallKS (sp : Sp) (gV : List V → List V → List V) (E : L2.St → XK) (t tk : TA) : TE := fun σ H Q => t σ H fun vs H1 => tk σ H1 fun zs H2 => sp (gV vs zs) H2 Q (E σ)
theorem run_fnKS {pins : List (Addr × Obj)} {σ : L2.St} {H : Hp} {s : Shared} {Q : VK} {us ws : List Value} {vs zs : List V} (F : FnOk X.prog X.w X.K X.mg X.base CX k f fd ps sp) (hr : Room k X.A) (hb : KBinds X.K fd ps ks g gV) (hx : PassesAt CX X σ (E σ))
    (I : Inv X pins σ H s) (r : Vals vs us) (rz : Vals zs ws) (h : sp (gV vs zs) H Q (E σ)) : wpAny (model X.prog X.w) X.A (call (.ref f) us (ks.zip ws)) (EP X pins σ Q) X.xe s := by
  have r2 := hb.rel r rz
  have hl : (g us ws).length = ps.length := by rw [← r2.length]; exact F.len _ _ _ _ h
  refine wpAny_call (codeAny_mono (F.run X.A X.stack s H ⟨us, ks.zip ws⟩ (g us ws) (gV vs zs) Q (E σ) hr I.env0 (hb.to s us ws I.kIn hl) r2 h) fun r s' hq => ?_)
  match r, hq with
  | .error er, z => exact hx pins H s er s' I z
  | .ok (.ret u), z => exact I.after z
  | .ok .next, z => exact z.elim
  | .ok .brk, z => exact z.elim
  | .ok .cont, z => exact z.elim
theorem pe_callKS (F : FnOk X.prog X.w X.K X.mg X.base CX k f fd ps sp) (hr : Room k X.A) (hg : Gl X x) (hm : X.mg x = some (.ref f)) (hk : PySem.W.keepIn X.K (.ref f) = true) (hb : KBinds X.K fd ps ks g gV) (hx : ∀ σ, PassesAt CX X σ (E σ))
    (ha : PA X (e :: es) t) (hkw : PK X kws tk) (hall : (backToKw pos (keywordEach kws X.env)).all (·.1.isSome) = true := by rfl) (hks : (backToKw pos (keywordEach kws X.env)).filterMap (·.1) = ks := by rfl)
    (hdb : (x == ("__debug__" : Str)) = false := by decide) (he : starEach (e :: es) X.env = (false, eval e X.env) :: starEach es X.env := by rfl)
    (hpl : ((backTo pos (starEach (e :: es) X.env)).any (·.1) || (backToKw pos (keywordEach kws X.env)).any (·.1.isNone)) = false := by rfl) :
    PE X (.Call (.Name x p) (e :: es) kws pos) (tCallKS sp gV E t tk) := by
  refine ⟨fun pins s σ H Q I h => ?_⟩
  refine wpAny_Call_Name_kw (ld_glob I hg hm ?_ hdb)
  refine PySem.W.callWith_KW (h₀ := X.base) I.ok.mod.kin hk hall (thn (ha.run pos pins s σ H _ I h) fun us s1 hh => ?_) hpl he
  obtain ⟨vs, H1, I1, r, q⟩ := hh
  refine thn (hkw.run pos pins s1 σ H1 _ I1 q) fun ws s2 hh => ?_
  obtain ⟨zs, H2, I2, rz, q2⟩ := hh
  refine ⟨I2.kIn, ?_⟩
  rw [hks]
  exact run_fnKS F hr hb (hx σ) I2 r rz q2
end
/-- «except C» takes an error of the class at C -/
theorem exm_own {K : PySem.W.Frag} {C : Addr} (isC : PySem.W.isClsIn K C = true) (ty : PySem.W.typeIn K (.ref C) = some (.type "type")) (up : PySem.W.subIn K (.ref C) (.type "BaseException") = some true) (self : PySem.W.subIn K (.ref C) (.ref C) = some true) : PySem.W.exmOne K (.ref C) (.ref C) = some true := by
  have c : (PySem.W.clsIn K C).isSome = true := isC
  have k : PySem.W.kitCls K (.ref C) (.ref C) = some true := by
    unfold PySem.W.kitCls
    dsimp only
    rw [c, ty, self]
    rfl
  unfold PySem.W.exmOne
  rw [up, k]
  rfl
end G

end
section
set_option autoImplicit false
set_option Elab.async false
set_option linter.all false
set_option maxRecDepth 100000
set_option maxHeartbeats 4000000
/-! ## try with several clauses, each with «as n» -/
namespace G
open PySem PySem.Spec PyProof.Rows L2
abbrev Suit : Type := Addr → Value → Option Addr → TS
/-- behind a suite its name is gone -/
def gone (i : Nat) (D : Ends) : Ends := { nx := fun τ G => D.nx (τ.set i none) G, rt := D.rt, bk := fun τ G => D.bk (τ.set i none) G, ct := fun τ G => D.ct (τ.set i none) G }
/-- what the clauses wish of an error of the body, one after the other -/
def wAll (K : PySem.W.Frag) (i : Nat) (W0 : WX) (D : Ends) : List (Value × Suit) → WX
  | [] => W0
  | p :: r => fun k d τ G => ∃ b, PySem.W.exmOne K k p.1 = some b ∧ (b = true → ∀ a, G a = none → p.2 a k d (gone i D) (τ.set i (some (.ref a))) G) ∧ (b = false → wAll K i W0 D r k d τ G)
inductive HdsAs (X : Cx) (n : Str) : List ExceptHandler → List (Value × Suit) → Prop
  | nil : HdsAs X n [] []
  | cons {y : Str} {c : Value} {tz : Suit} {st0 : Stmt} {st : List Stmt} {p1 p2 : Pos} {hr : List ExceptHandler} {l : List (Value × Suit)} (nm : Names X y c)
      (sq : ∀ (a : Addr) (oz : Obj) (k : Value) (d : Option Addr) (pz : List (Addr × Obj)), Zc k d oz → (∃ us, oz.data = .fields us) → PSs (X.suite a ((a, oz) :: pz)) (st0 :: st) (tz a k d)) (rest : HdsAs X n hr l) :
      HdsAs X n (.ExceptHandler (some (.Name y p1)) (some n) (st0 :: st) p2 :: hr) ((c, tz) :: l)
section
variable {X : Cx} {n : Str} {i : Nat} {st : List Stmt} {hd0 : ExceptHandler} {hr : List ExceptHandler} {l : List (Value × Suit)} {pos : Pos} {tq : WX → TS} {W0 : WX}
theorem ps_try_all (e1 : X.stack = X.env :: X.outer) (e2 : X.env.frame = some X.env.locals) (nd : X.N.Nodup) (ni : X.N[i]? = some n) (nl : X.env.kindOf n = some .local) (tk : Takes X W0)
    (hq : ∀ (W : WX) (pz : List (Addr × Obj)) (xz : Value → Shared → Prop), Takes (X.tr pz xz) W → PassesOwn (model X.prog X.w) X.A X.env xz → PSs (X.tr pz xz) st (tq W))
    (hk : HdsAs X n (hd0 :: hr) l) : PS X (.Try st (hd0 :: hr) [] [] pos) (fun D τ G => tq (wAll X.K i W0 D l) D τ G) := by
  refine ⟨fun pins s τ G D I hw => ?_⟩
  have okk := I.ok
  have fr0 : X.A.frames = some (X.env :: X.outer) := by rw [okk.frames, e1]
  have loc0 : Loc X.env.scope n := .inl nl
  refine wpAny_Try_except (wpAny_mono ((hq (wAll X.K i W0 D l) (X.pn ++ pins) (fun e s₁ => wpAny (model X.prog X.w) X.A (noteFrame e X.env) (fun _ s₂ => wpAny (model X.prog X.w) X.A (setFlight e none) (fun _ s₃ =>
    wpAny (model X.prog X.w) X.A (handleBy e X.env (hd0 :: hr)) (SP X pins D) X.xe s₃) X.xe s₂) X.xe s₁) (fun u s' zz => ?_) PassesOwn.looking).run [] s τ G D (I.toTry _) hw) (fun fl s1 hs => ?_) (fun e s1 he => he))
  · obtain ⟨a, B, sI, pq, τ', G', k, d, rfl, Jt, nb, up, sky, na, os, ag, wi⟩ := zz
    have J : Inv X pins τ' G' sI := Jt.ofTry okk
    have sk2 : Sky B (X.env :: X.outer) a (Zc k d) X.env.locals s'.heap := by rw [← e1]; exact sky
    show wpAny (model X.prog X.w) X.A (noteFrame (Value.ref a) X.env) _ _ _
    refine Sky.land Zc.steady fr0 e2 sk2 fun h3 f3 u3 => ?_
    have J3 : Inv X pins τ' G' { s' with heap := h3 } := J.landed nb f3.1 (up.trans u3) os ag
    obtain ⟨o3, us3, ae3, z3, dd3⟩ := f3.there
    have off : a ∉ frs (X.env :: X.outer) := fun hm => by
      obtain ⟨_, o', e', hnf⟩ := f3.2.2.1.mem hm
      rw [ae3] at e'
      cases e'
      exact hnf _ dd3
    have aL : a ≠ X.env.locals := fun z => off (List.mem_filterMap.mpr ⟨X.env, List.mem_cons_self, by rw [e2, z]⟩)
    have aF : a ∉ X.fs := fun hm => by
      obtain ⟨e, he, q⟩ := List.mem_filterMap.mp hm
      exact off (List.mem_filterMap.mpr ⟨e, List.mem_cons_of_mem _ he, q⟩)
    have S3 := J3.suite ae3 dd3 na aL aF
    have each : ∀ {hs' : List ExceptHandler} {l' : List (Value × Suit)}, HdsAs X n hs' l' → wAll X.K i W0 D l' k d τ' G' → wpAny (model X.prog X.w) X.A (handleBy (.ref a) X.env hs') (SP X pins D) X.xe { s' with heap := h3 } := by
      intro hs' l' hz
      induction hz with
      | nil =>
        intro wz
        refine wpAny_handleBy_nil ?_
        obtain ⟨_, _, _, oe, vs, T, oT, ts', he, hz, hd, h1, hr⟩ := id f3
        unfold PySem.passOn
        refine wpAny_bind (wpAny_field he hd h1 ?_)
        rw [if_neg (show ¬ ((Value.ref T == Value.none) = true) by simp)]
        have up2 : wpAny (model X.prog X.w) X.A (setFlight (.ref a) X.env.frame) (fun _ s4 => wpAny (model X.prog X.w) X.A (throw (.ref a) : Sem Flow) (SP X pins D) X.xe s4) X.xe { s' with heap := h3 } := by
          rw [e2]
          exact HandSPX.setFlight_upZ f3 fun h4 g4 u4 => wpAny_throw (tk _ _ ⟨a, B, sI, pins, τ', G', k, d, rfl, J, nb, (up.trans u3).trans u4, .inr (.inr (by rw [e1]; exact g4)), na, os, ag, wz⟩)
        first
          | exact wpAny_bind (wpAny_pure (wpAny_bind up2))
          | exact wpAny_bind up2
      | @cons y c tz st0 st2 p1 p2 hr2 l2 nm sq rest ih =>
        intro wz
        obtain ⟨b, hb, yes, no⟩ := wz
        refine wpAny_handleBy_cons (codeAny_handlers_test ?_) (by intro q; cases q)
        have lk : PySem.W.Looks (model X.prog X.w) h3 (typeOf (.ref a)) k := fun A Q E s kk q => wpAny_typeOf_ref (kk _ _ ae3) (by rw [z3.1]; exact q)
        have lm := PySem.W.exm_one (M := model X.prog X.w) (J3.kIn) lk hb
        have ask : ∀ {Q E : Value → Shared → Prop}, Q c { s' with heap := h3 } → wpAny (model X.prog X.w) (X.A.mark (some (.ref a))) (eval (.Name y p1) X.env) Q E { s' with heap := h3 } := fun {Q E} q => by
          obtain ⟨g0, g1, gm | ⟨gm, gv, gn⟩⟩ := nm
          · exact ld_glob (X := X.suite a ((a, o3) :: (X.pn ++ pins))) S3 g0 gm q g1
          · exact ld_blt (X := X.suite a ((a, o3) :: (X.pn ++ pins))) S3 g0 gm gv q gn g1
        refine ask (lm.here ?_)
        cases b with
        | true =>
          refine codeAny_handlers_suite_as (HandSPX.lands_againZ f3 fun h4 f4 u4 => ?_)
          have J4 : Inv X pins τ' G' { s' with heap := h4 } := J.landed nb f4.1 ((up.trans u3).trans u4) os ag
          obtain ⟨o4, us4, ae4, z4, dd4⟩ := f4.there
          have S4 := J4.suite ae4 dd4 na aL aF
          refine store_ok (X := X.suite a ((a, o4) :: (X.pn ++ pins))) (v := .ref a) S4 nd ni loc0 rfl (fun s5 S5 => ?_) (.inr nl)
          refine wpAny_mono ((sq a o4 k d (X.pn ++ pins) z4 ⟨_, dd4⟩).run [] s5 _ G' _ S5 (yes rfl a na)) (fun fl s6 hs6 => ?_) (fun _ _ z => False.elim z)
          have fin : ∀ {τ6 : L2.St} {G6 : Hp} {Q : Shared → Prop}, Inv (X.suite a ((a, o4) :: (X.pn ++ pins))) [] τ6 G6 s6 → (∀ s7, Inv X pins (τ6.set i none) G6 s7 → Q s7) → wpAny (model X.prog X.w) X.A (do bindName X.env n .none; unbindBehindTheSuite X.env n p2) (fun _ s7 => Q s7) X.xe s6 := fun {τ6 G6 Q} S6 q6 => gone_ok (S6.unsuite okk) nd ni nl q6
          cases fl with
          | next => obtain ⟨τ6, G6, S6, q6⟩ := hs6; exact fin S6 fun s7 J7 => ⟨_, _, J7, q6⟩
          | brk => obtain ⟨τ6, G6, S6, q6⟩ := hs6; exact fin S6 fun s7 J7 => ⟨_, _, J7, q6⟩
          | cont => obtain ⟨τ6, G6, S6, q6⟩ := hs6; exact fin S6 fun s7 J7 => ⟨_, _, J7, q6⟩
          | ret u => obtain ⟨v6, τ6, G6, S6, r6, q6⟩ := hs6; exact fin S6 fun s7 J7 => ⟨_, _, _, J7, r6, q6⟩
        | false =>
          show wpAny _ X.A (handleBy (Value.ref a) X.env hr2) _ _ _
          exact ih (no rfl)
    exact each hk wi
  · cases fl with
    | next => obtain ⟨τ', G', J', q⟩ := hs; exact wpAny_execs_nil ⟨τ', G', J'.ofTry okk, q⟩
    | brk => obtain ⟨τ', G', J', q⟩ := hs; exact ⟨τ', G', J'.ofTry okk, q⟩
    | cont => obtain ⟨τ', G', J', q⟩ := hs; exact ⟨τ', G', J'.ofTry okk, q⟩
    | ret u => obtain ⟨v, τ', G', J', r, q⟩ := hs; exact ⟨v, τ', G', J'.ofTry okk, r, q⟩
end
end G

end
section
set_option autoImplicit false
set_option Elab.async false
set_option linter.all false
set_option maxRecDepth 100000
set_option maxHeartbeats 4000000
/-! ## a built-in value == an instance: the built-in's own declines -/
namespace BK
open PySem PySem.W PySem.Spec PySem.Calls PyProof.Rows

section
variable {K : Frag} {x C : Addr} {ox : Obj} {od : Option Obj}
theorem in_false {prog : Program} {w : World} {A : Around} {E : Value → Shared → Prop} {s : Shared} {T : String} {Q : Bool → Shared → Prop} (X : K.In s.heap) (I : InstAt s.heap x ox C od) (h : subIn K (.ref C) (.type T) = some false) (q : Q false s) : wpAny (model prog w) A (isInstance (.ref x) (.type T)) Q E s :=
  have l : Looks (model prog w) s.heap (isInstance (.ref x) (.type T)) false := I.type.andThen (looks_subIn X h)
  l.here q
/-- at x: an instance of the class at C, which is not below the built-in kind T -/
def Own0 (K : Frag) (x C : Addr) (ox : Obj) (od : Option Obj) (T : String) (s : Shared) : Prop := K.In s.heap ∧ InstAt s.heap x ox C od ∧ subIn K (.ref C) (.type T) = some false
theorem dec_tuple (l : Addr) (its : Array Value) (n : Nat) (dd : Option Addr) (sl : Array (Option Value)) :
    Meets (Builtin.«tuple.__eq__» ⟨[.ref l, .ref x], []⟩) (fun _ R s => s.heap.get? l = some { cls := .type "tuple", dict := dd, data := .seq its n, slots := sl } ∧ Own0 K x C ox od "tuple" s ∧ R (.ok (.ret .notImplemented)) s) :=
  .of_wp fun prog w A R s h => by
    obtain ⟨hl, ⟨X, I, hs⟩, h⟩ := h
    have f1 : ∀ {A : Around} {Q : Bool → Shared → Prop} {E : Value → Shared → Prop}, Q false s → wpAny (model prog w) A (isInstance (.ref x) (.type "tuple")) Q E s := fun q => in_false X I hs q
    obtain ⟨hp, g, d, tk, os⟩ := s
    wp_walk using PySem.AutoSeq1.wpAny_loadPart' hl, f1
    exact ⟨_, rfl, h⟩
theorem dec_list (l : Addr) (its : Array Value) (n : Nat) (dd : Option Addr) (sl : Array (Option Value)) :
    Meets (Builtin.«list.__eq__» ⟨[.ref l, .ref x], []⟩) (fun _ R s => s.heap.get? l = some { cls := .type "list", dict := dd, data := .seq its n, slots := sl } ∧ Own0 K x C ox od "list" s ∧ R (.ok (.ret .notImplemented)) s) :=
  .of_wp fun prog w A R s h => by
    obtain ⟨hl, ⟨X, I, hs⟩, h⟩ := h
    have f1 : ∀ {A : Around} {Q : Bool → Shared → Prop} {E : Value → Shared → Prop}, Q false s → wpAny (model prog w) A (isInstance (.ref x) (.type "list")) Q E s := fun q => in_false X I hs q
    obtain ⟨hp, g, d, tk, os⟩ := s
    wp_walk using PySem.AutoSeq1.wpAny_loadPart' hl, f1
    exact ⟨_, rfl, h⟩
theorem dec_dict (l : Addr) (es : Array DictEntry) (n : Nat) (dd : Option Addr) (sl : Array (Option Value)) :
    Meets (Builtin.«dict.__eq__» ⟨[.ref l, .ref x], []⟩) (fun _ R s => s.heap.get? l = some { cls := .type "dict", dict := dd, data := .dict es n, slots := sl } ∧ Own0 K x C ox od "dict" s ∧ R (.ok (.ret .notImplemented)) s) :=
  .of_wp fun prog w A R s h => by
    obtain ⟨hl, ⟨X, I, hs⟩, h⟩ := h
    have f1 : ∀ {A : Around} {Q : Bool → Shared → Prop} {E : Value → Shared → Prop}, Q false s → wpAny (model prog w) A (isInstance (.ref x) (.type "dict")) Q E s := fun q => in_false X I hs q
    obtain ⟨hp, g, d, tk, os⟩ := s
    wp_walk using PySem.AutoSeq1.wpAny_loadPart' hl, f1
    exact ⟨_, rfl, h⟩
theorem dec_int (b : Int) (u : Tok) (dx : Addr) : Meets (Builtin.«int.__eq__» ⟨[.int b u, .ref x], []⟩) (fun _ R s => s.heap.get? x = some (instObj C dx) ∧ R (.ok (.ret .notImplemented)) s) :=
  .of_wp fun prog w A R s h => by
    obtain ⟨hp, g, d, tk, os⟩ := s
    obtain ⟨hl, h⟩ := h
    unfold instObj at hl
    wp_walk using PySem.AutoSeq1.wpAny_loadPart' hl, wpAny_load hl
    exact ⟨_, rfl, h⟩
theorem dec_bool (b : Bool) (dx : Addr) : Meets (Builtin.«int.__eq__» ⟨[.bool b, .ref x], []⟩) (fun _ R s => s.heap.get? x = some (instObj C dx) ∧ R (.ok (.ret .notImplemented)) s) :=
  .of_wp fun prog w A R s h => by
    obtain ⟨hp, g, d, tk, os⟩ := s
    obtain ⟨hl, h⟩ := h
    unfold instObj at hl
    wp_walk using PySem.AutoSeq1.wpAny_loadPart' hl, wpAny_load hl
    exact ⟨_, rfl, h⟩
theorem dec_str (b : Str) (u : Tok) (dx : Addr) : Meets (Builtin.«str.__eq__» ⟨[.str b u, .ref x], []⟩) (fun _ R s => s.heap.get? x = some (instObj C dx) ∧ R (.ok (.ret .notImplemented)) s) :=
  .of_wp fun prog w A R s h => by
    obtain ⟨hp, g, d, tk, os⟩ := s
    obtain ⟨hl, h⟩ := h
    unfold instObj at hl
    wp_walk using PySem.AutoSeq1.wpAny_loadPart' hl, wpAny_load hl
    exact ⟨_, rfl, h⟩
end
end BK

end
section
set_option autoImplicit false
set_option Elab.async false
set_option linter.all false
set_option maxRecDepth 100000
set_option maxHeartbeats 4000000
/-! ## len, +, in, [] and != by a class's own methods -/
namespace WO
open PySem PySem.Spec PyProof.Rows L2
section
variable {X : Cx} {CX : CXT} {n : Nat} {f C : Addr} {fd : FuncData} {ps : List Str} {sp : Sp} {E : XK}
/-- an own method, run somewhere below the running body -/
theorem run_own {A : Around} {pins : List (Addr × Obj)} {s : Shared} {σ : L2.St} {H : Hp} {xs : List V} {us : List Value} {Z : VK} {G : Value → Shared → Prop} (F : FnOk X.prog X.w X.K X.mg X.base CX n f fd ps sp) (sb : Sub X n A) (hb : Binds X.K fd ps []) (hx : Passes CX X E)
    (I : Inv X pins σ H s) (r : Vals xs us) (hsp : sp xs H Z E) (k : ∀ z u H1 s1, Inv X pins σ H1 s1 → RelV z u → Z z H1 → G u s1) : wpAny (model X.prog X.w) A (call (.ref f) us) G X.xe s := by
  have hl := F.len _ _ _ _ hsp
  have lu : us.length = ps.length := by rw [← r.length]; exact hl
  have env : Env0 X.prog X.w X.K X.mg X.base A X.stack s H := by
    have e := I.env0
    exact ⟨by rw [sb.fr]; exact e.frames, e.mod, e.bs, e.bsz, e.funs, e.frf, e.hok, e.bare⟩
  refine wpAny_call (codeAny_mono (F.run A X.stack s H ⟨us, []⟩ us xs _ E sb.room env (by simpa using hb s us I.kIn (by simpa using lu)) r hsp) fun res s1 hq => ?_)
  match res, hq with
  | .error e, hq => exact hx pins σ H s e s1 I hq
  | .ok (.ret u), hq =>
    obtain ⟨z, H1, I1, rz, q⟩ := I.after hq
    exact k z u H1 s1 I1 rz q
  | .ok .next, hq => exact hq.elim
  | .ok .brk, hq => exact hq.elim
  | .ok .cont, hq => exact hq.elim
/-- an instance of the class at C -/
def InsC (C : Addr) (H : Hp) (a : Addr) : Prop := ∃ dx fs, H a = some (.ins C dx fs)
structure Own (K : PySem.W.Frag) (C f : Addr) (m : Str) : Prop where
  at' : PySem.W.findIn K (.ref C) m = some (some (.ref f))
  fn : PySem.W.isFn K (.ref f) = true
def rLenO (C : Addr) (sp : Sp) (E : XK) : List V → Hp → VK → Prop := fun xs H Q => ∃ a, xs = [.ref a] ∧ InsC C H a ∧ sp [.ref a] H (fun v H1 => ∃ k : Nat, v = .int k ∧ k < 1000000 ∧ Q (.int k) H1) E
theorem call_lenO (F : FnOk X.prog X.w X.K X.mg X.base CX n f fd ps sp) (hr : Room (n + 1) X.A) (O : Own X.K C f "__len__") (hb : Binds X.K fd ps []) (hx : Passes CX X E) : CallR X (.builtin "len") (rLenO C sp E) := by
  intro pins s σ H xs us Q I r h
  obtain ⟨a, rfl, ⟨dx, fs, ha⟩, hsp⟩ := h
  cases r with
  | cons ra rr =>
    cases rr
    cases ra
    obtain ⟨_, J, _⟩ := ins_get I.hok ha
    obtain ⟨od, J, _⟩ := J.look
    obtain ⟨m, hF⟩ := I.fr
    refine PySem.W.len_K hF I.ok.mod.kin J O.at' O.fn (run_own F (A := X.A.in1) (xs := [.ref a]) ⟨hr.in1, rfl⟩ hb hx I (.cons rfl .nil) hsp fun z u H1 s1 I1 rz q => ?_)
    obtain ⟨k, rfl, hk, q⟩ := q
    obtain ⟨t, rfl⟩ := rz
    exact ⟨⟨by omega, by omega⟩, .int k, H1, I1.tok _, ⟨_, rfl⟩, q⟩
def rAddO (C : Addr) (sp : Sp) (E : XK) : R2 := fun x y H Q => ∃ a b, x = .ref a ∧ y = .ref b ∧ InsC C H a ∧ InsC C H b ∧ sp [.ref a, .ref b] H (fun v H1 => ∃ c, v = .ref c ∧ Q (.ref c) H1) E
theorem op_addO (F : FnOk X.prog X.w X.K X.mg X.base CX n f fd ps sp) (hr : Room n X.A) (O : Own X.K C f "__add__") (hc : PySem.W.selfFirst X.K C = true) (hb : Binds X.K fd ps []) (hx : Passes CX X E) : OpR X (binaryOp .Add) (rAddO C sp E) := by
  intro pins s σ H x y v u Q I rx ry h
  obtain ⟨a, b, rfl, rfl, ⟨dx, fs, ha⟩, ⟨dy, gs, hb'⟩, hsp⟩ := h
  cases rx
  cases ry
  obtain ⟨_, J, _⟩ := ins_get I.hok ha
  obtain ⟨_, J', _⟩ := ins_get I.hok hb'
  obtain ⟨od, J, _⟩ := J.look
  obtain ⟨od', J', _⟩ := J'.look
  obtain ⟨m, hF⟩ := I.fr
  refine PySem.W.binop_K (op := .Add) hF I.ok.mod.kin J J'.type hc O.at' O.fn (run_own F (A := X.A) (xs := [.ref a, .ref b]) ⟨hr, rfl⟩ hb hx I (.cons rfl (.cons rfl .nil)) hsp fun z u H1 s1 I1 rz q => ?_)
  obtain ⟨c, rfl, q⟩ := q
  cases rz
  exact ⟨.ref c, H1, I1, rfl, q⟩
def rInO (C : Addr) (sp : Sp) (E : XK) : R2 := fun x y H Q => ∃ a, y = .ref a ∧ InsC C H a ∧ sp [.ref a, x] H (fun v H1 => ∃ b, v = .bl b ∧ Q (.bl b) H1) E
def rNotInO (C : Addr) (sp : Sp) (E : XK) : R2 := fun x y H Q => ∃ a, y = .ref a ∧ InsC C H a ∧ sp [.ref a, x] H (fun v H1 => ∃ b, v = .bl b ∧ Q (.bl (!b)) H1) E
theorem op_inO (F : FnOk X.prog X.w X.K X.mg X.base CX n f fd ps sp) (hr : Room n X.A) (O : Own X.K C f "__contains__") (hb : Binds X.K fd ps []) (hx : Passes CX X E) : OpR X (compareOp .In) (rInO C sp E) := by
  intro pins s σ H x y v u Q I rx ry h
  obtain ⟨a, rfl, ⟨dx, fs, ha⟩, hsp⟩ := h
  cases ry
  obtain ⟨_, J, _⟩ := ins_get I.hok ha
  obtain ⟨od, J, _⟩ := J.look
  obtain ⟨m, hF⟩ := I.fr
  refine PySem.W.in_K hF I.ok.mod.kin J O.at' O.fn (run_own F (A := X.A) (xs := [.ref a, x]) ⟨hr, rfl⟩ hb hx I (.cons rfl (.cons rx .nil)) hsp fun z u H1 s1 I1 rz q => ?_)
  obtain ⟨b, rfl, q⟩ := q
  cases rz
  exact wpAny_truthy_bool ⟨.bl b, H1, I1, rfl, q⟩
theorem op_notInO (F : FnOk X.prog X.w X.K X.mg X.base CX n f fd ps sp) (hr : Room n X.A) (O : Own X.K C f "__contains__") (hb : Binds X.K fd ps []) (hx : Passes CX X E) : OpR X (compareOp .NotIn) (rNotInO C sp E) := by
  intro pins s σ H x y v u Q I rx ry h
  obtain ⟨a, rfl, ⟨dx, fs, ha⟩, hsp⟩ := h
  cases ry
  obtain ⟨_, J, _⟩ := ins_get I.hok ha
  obtain ⟨od, J, _⟩ := J.look
  obtain ⟨m, hF⟩ := I.fr
  refine PySem.W.notIn_K hF I.ok.mod.kin J O.at' O.fn (run_own F (A := X.A) (xs := [.ref a, x]) ⟨hr, rfl⟩ hb hx I (.cons rfl (.cons rx .nil)) hsp fun z u H1 s1 I1 rz q => ?_)
  obtain ⟨b, rfl, q⟩ := q
  cases rz
  exact wpAny_truthy_bool ⟨.bl (!b), H1, I1, rfl, q⟩
/-- o[e] by the own __getitem__ -/
def rIxO (C : Addr) (sp : Sp) (E : XK) : R2 := fun x y H Q => ∃ a, x = .ref a ∧ InsC C H a ∧ sp [.ref a, y] H Q E
theorem pe_ixO {a b : Expr} {ta tb : TE} {pos : Pos} (F : FnOk X.prog X.w X.K X.mg X.base CX n f fd ps sp) (hr : Room (n + 1) X.A) (O : Own X.K C f "__getitem__") (hf : PySem.W.fnIn X.K f = true) (hb : Binds X.K fd ps []) (hx : Passes CX X E) (ha : PE X a ta) (hi : PE X b tb)
    (hs : ∀ v i, subscripted b true v i = runValue (.builtin "lifetime.subscript" ⟨[v, i], []⟩)) : PE X (.Subscript a b pos) (tOp (rIxO C sp E) ta tb) := by
  refine ⟨fun pins s σ H Q I h => ?_⟩
  refine Subscript_ (binT ha hi I h fun v u s2 x y H2 I2 rx ry q => ?_)
  obtain ⟨p, rfl, ⟨dx, fs, hp⟩, hsp⟩ := q
  cases rx
  obtain ⟨_, J, _⟩ := ins_get I2.hok hp
  obtain ⟨od, J, _⟩ := J.look
  obtain ⟨m, hF⟩ := I2.fr
  exact PySem.W.sub_K hF I2.ok.mod.kin J O.at' hf O.fn (run_own F (A := X.A.in1) (xs := [.ref p, y]) ⟨hr.in1, rfl⟩ hb hx I2 (.cons rfl (.cons ry .nil)) hsp fun z u H1 s1 I1 rz q => ⟨z, H1, I1, rz, q⟩) (hs _ _)
/-- == by the own __eq__, either answer -/
def rEqO (C : Addr) (sp : Sp) (E : XK) : R2 := fun x y H Q => ∃ a b, x = .ref a ∧ y = .ref b ∧ InsC C H a ∧ InsC C H b ∧ sp [.ref a, .ref b] H (fun v H1 => ∃ c, v = .bl c ∧ Q (.bl c) H1) E
theorem op_eqO (F : FnOk X.prog X.w X.K X.mg X.base CX n f fd ps sp) (hr : Room n X.A) (O : Own X.K C f "__eq__") (hb : Binds X.K fd ps []) (hx : Passes CX X E) : OpR X (compareOp .Eq) (rEqO C sp E) := by
  intro pins s σ H x y v u Q I rx ry h
  obtain ⟨a, b, rfl, rfl, ⟨dx, fs, ha⟩, ⟨dy, gs, hb'⟩, hsp⟩ := h
  cases rx
  cases ry
  obtain ⟨_, J, _⟩ := ins_get I.hok ha
  obtain ⟨_, J', _⟩ := ins_get I.hok hb'
  obtain ⟨od, J, _⟩ := J.look
  obtain ⟨od', J', _⟩ := J'.look
  obtain ⟨m, hF⟩ := I.fr
  show wpAny (model X.prog X.w) X.A (richCompare .Eq (.ref a) (.ref b)) (EP X pins σ Q) X.xe s
  refine PySem.W.cmp_K (op := .Eq) (tb := .ref C) hr.units0 hF I.ok.mod.kin J J'.type (by simp [PySem.W.notFirst]) O.at' O.fn (run_own F (A := X.A) (xs := [.ref a, .ref b]) ⟨hr, rfl⟩ hb hx I (.cons rfl (.cons rfl .nil)) hsp fun z u H1 s1 I1 rz q => ?_)
  obtain ⟨c, rfl, q⟩ := q
  cases rz
  exact ⟨.bl c, H1, I1, rfl, q⟩
end
end WO

end
section
set_option autoImplicit false
set_option Elab.async false
set_option linter.all false
set_option maxRecDepth 100000
set_option maxHeartbeats 4000000
/-! ## an instance == a value of any kind, and the other way round -/
namespace PySem.W
open PySem PySem.Spec PySem.Calls PyProof.Rows
section
variable {prog : Program} {w : World} {A : Around} {E : Value → Shared → Prop} {s : Shared} {K : Frag} {x C f : Addr} {ox : Obj} {od : Option Obj} {u : Value} {T id : String}
theorem cmp_back {Q : Value → Shared → Prop} (hu : A.units < cLine) (X : K.In s.heap) (I : InstAt s.heap x ox C od) (hT : s.TypeIs u T) (slot : Slot T "__eq__" id) (hsub : subIn K (.ref C) (.type T) = some false)
    (hc : ∀ Q' : Value → Shared → Prop, Q' .notImplemented s → wpAny (model prog w) A (call (.builtin id) [u, .ref x]) Q' E s) (hs : findIn K (.ref C) "__eq__" = some (some (.ref f))) (hf : isFn K (.ref f) = true)
    (h : wpAny (model prog w) A (call (.ref f) [.ref x, u]) (CmpBack Q) E s) : wpAny (model prog w) A (richCompare .Eq u (.ref x)) Q E s := by
  have one : wpAny (model prog w) A (tryCompare (.ref x) "__eq__" u) (fun r s' => ∃ v, r = some v ∧ Q v s') E s := by
    unfold tryCompare
    refine wpAny_bind (ifBound_K X I hs hf (wpAny_mono h (fun v s' hv => ?_) fun _ _ e => e))
    cases v <;> first | exact hv.elim | exact wpAny_pure ⟨_, rfl, hv⟩
  simp only [richCompare, cmpInfo, hT.oneThing_none]
  refine wpAny_holding (wpAny_bind (wpAny_cRoomFor hu ?_))
  refine wpAny_bind (wpAny_typeOf hT (wpAny_bind (I.type.here ?_)))
  rw [if_pos (show (Value.type T != Value.ref C) = true from rfl)]
  refine wpAny_bind ((looks_subIn X hsub).here ?_)
  simp only [Bool.false_eq_true, if_false]
  refine wpAny_bind (wpAny_tryCompare_declines hT slot (hc _ ⟨rfl, ?_⟩))
  simp only [Bool.not_false, if_true]
  refine wpAny_bind (wpAny_mono one (fun r s' z => ?_) fun _ _ e => e)
  obtain ⟨v, rfl, hq⟩ := z
  exact wpAny_pure hq
end
end PySem.W
namespace WO
open PySem PySem.Spec PyProof.Rows L2 G
/-- x == y, x an instance of the class at C, y of any kind that is none of its subclasses -/
def rEqA (K : PySem.W.Frag) (C : Addr) (sp : Sp) (E : XK) : R2 := fun x y H Q => ∃ (a : Addr) (t : Value), x = .ref a ∧ InsC C H a ∧ TyX K H y t ∧ PySem.W.notFirst K C t = true ∧ sp [.ref a, y] H (fun v H1 => ∃ c, v = .bl c ∧ Q (.bl c) H1) E
section
variable {X : Cx} {CX : CXT} {n : Nat} {f C : Addr} {fd : FuncData} {ps : List Str} {sp : Sp} {E : XK}
theorem op_eqA (F : FnOk X.prog X.w X.K X.mg X.base CX n f fd ps sp) (hr : Room n X.A) (O : Own X.K C f "__eq__") (hb : Binds X.K fd ps []) (hx : Passes CX X E) : OpR X (compareOp .Eq) (rEqA X.K C sp E) := by
  intro pins s σ H x y v u Q I rx ry h
  obtain ⟨a, t, rfl, ⟨dx, fs, ha⟩, ty, hn, hsp⟩ := h
  cases (show v = Value.ref a from rx)
  obtain ⟨_, J, _⟩ := ins_get I.hok ha
  obtain ⟨od, J, _⟩ := J.look
  obtain ⟨m, hF⟩ := I.fr
  obtain ⟨Pk, Z, p, _⟩ := kit_of I ry ty
  show wpAny (model X.prog X.w) X.A (richCompare .Eq (.ref a) u) (EP X pins σ Q) X.xe s
  refine PySem.W.cmp_K (op := .Eq) (tb := t) hr.units0 hF I.ok.mod.kin J (Z.ty _ _ I.kIn p) hn O.at' O.fn (run_own F (A := X.A) (xs := [.ref a, y]) ⟨hr, rfl⟩ hb hx I (.cons rfl (.cons ry .nil)) hsp fun z w H1 s1 I1 rz q => ?_)
  obtain ⟨c, rfl, q⟩ := q
  cases rz
  exact ⟨.bl c, H1, I1, rfl, q⟩
theorem nf_ty {K : PySem.W.Frag} {C : Addr} {T : String} {l : List String} (h : PySem.fastBuiltinMro T = some (l.map Value.type)) : PySem.W.notFirst K C (.type T) = true := by
  have e : (l.map Value.type).contains (Value.ref C) = false := by
    induction l with
    | nil => rfl
    | cons x r ih => simp
  show (Value.type T == Value.ref C || ((PySem.fastBuiltinMro T).map fun z => z.contains (Value.ref C)) == some false) = true
  rw [h, Option.map_some, e]
  simp
theorem nf_kinds {K : PySem.W.Frag} {C : Addr} : PySem.W.notFirst K C (.type "NoneType") = true ∧ PySem.W.notFirst K C (.type "bool") = true ∧ PySem.W.notFirst K C (.type "int") = true ∧ PySem.W.notFirst K C (.type "str") = true ∧ PySem.W.notFirst K C (.type "list") = true ∧ PySem.W.notFirst K C (.type "tuple") = true ∧ PySem.W.notFirst K C (.type "dict") = true :=
  ⟨nf_ty (l := ["NoneType", "object"]) (by decide +kernel), nf_ty (l := ["bool", "int", "object"]) (by decide +kernel), nf_ty (l := ["int", "object"]) (by decide +kernel), nf_ty (l := ["str", "object"]) (by decide +kernel), nf_ty (l := ["list", "object"]) (by decide +kernel), nf_ty (l := ["tuple", "object"]) (by decide +kernel), nf_ty (l := ["dict", "object"]) (by decide +kernel)⟩
end
/-- a value of a built-in kind -/
inductive Bk (H : Hp) : V → Prop
  | non : Bk H .non
  | bl (b : Bool) : Bk H (.bl b)
  | int (i : Int) : Bk H (.int i)
  | str (x : Str) : Bk H (.str x)
  | tup {t : Addr} {xs : List V} (h : H t = some (.tup xs)) : Bk H (.ref t)
  | lst {t : Addr} {xs : List V} (h : H t = some (.lst xs)) : Bk H (.ref t)
  | dic {t : Addr} {kvs : List (Key × V)} (h : H t = some (.dK kvs)) : Bk H (.ref t)
theorem Bk.mono {H H' : Hp} (s : Same H H') {v : V} (h : Bk H v) : Bk H' v := by
  cases h with
  | non => exact .non
  | bl b => exact .bl b
  | int i => exact .int i
  | str x => exact .str x
  | tup h => exact .tup (s _ _ h)
  | lst h => exact .lst (s _ _ h)
  | dic h => exact .dic (s _ _ h)
/-- a class that is below none of these kinds -/
structure NoKin (K : PySem.W.Frag) (C : Addr) : Prop where
  n : PySem.W.subIn K (.ref C) (.type "NoneType") = some false
  b : PySem.W.subIn K (.ref C) (.type "bool") = some false
  i : PySem.W.subIn K (.ref C) (.type "int") = some false
  s : PySem.W.subIn K (.ref C) (.type "str") = some false
  t : PySem.W.subIn K (.ref C) (.type "tuple") = some false
  l : PySem.W.subIn K (.ref C) (.type "list") = some false
  d : PySem.W.subIn K (.ref C) (.type "dict") = some false
/-- x == y, x of a built-in kind, y an instance of the class at C: y's own __eq__ is asked -/
def rBack (C : Addr) (sp : Sp) (E : XK) : R2 := fun x y H Q => ∃ a : Addr, y = .ref a ∧ InsC C H a ∧ Bk H x ∧ sp [.ref a, x] H (fun v H1 => ∃ c, v = .bl c ∧ Q (.bl c) H1) E
section
variable {X : Cx} {CX : CXT} {n : Nat} {f C : Addr} {fd : FuncData} {ps : List Str} {sp : Sp} {E : XK}
theorem op_back (F : FnOk X.prog X.w X.K X.mg X.base CX n f fd ps sp) (hr : Room n X.A) (O : Own X.K C f "__eq__") (N : NoKin X.K C) (hb : Binds X.K fd ps []) (hx : Passes CX X E) : OpR X (compareOp .Eq) (rBack C sp E) := by
  intro pins s σ H x y v u Q I rx ry h
  obtain ⟨a, rfl, ⟨dx, fs, ha⟩, bk, hsp⟩ := h
  cases (show u = Value.ref a from ry)
  obtain ⟨_, J, _⟩ := ins_get I.hok ha
  have ho := J.obj
  obtain ⟨od, J, _⟩ := J.look
  show wpAny (model X.prog X.w) X.A (richCompare .Eq v (.ref a)) (EP X pins σ Q) X.xe s
  have fin : wpAny (model X.prog X.w) X.A (call (.ref f) [.ref a, v]) (PySem.W.CmpBack (EP X pins σ Q)) X.xe s := by
    refine run_own F (A := X.A) (xs := [.ref a, x]) ⟨hr, rfl⟩ hb hx I (.cons rfl (.cons rx .nil)) hsp fun z w H1 s1 I1 rz q => ?_
    obtain ⟨c, rfl, q⟩ := q
    cases rz
    exact ⟨.bl c, H1, I1, rfl, q⟩
  cases bk with
  | non =>
    cases rx
    exact PySem.W.cmp_back (T := "NoneType") hr.units0 I.kIn J rfl PySem.F.slot_NoneType_eq N.n (fun Q' hq => call_gives PySem.F.slot_NoneType_eq rfl PySem.F.entry_NoneType_eq (PySem.F.args_NoneType_eq_2 _ _) (PySem.SeqAt.NoneType___eq___none_ref_0 a) hq) O.at' O.fn fin
  | bl b =>
    cases rx
    exact PySem.W.cmp_back (T := "bool") hr.units0 I.kIn J rfl PySem.F.slot_bool_eq N.b (fun Q' hq => call_meets PySem.F.slot_bool_eq rfl PySem.F.entry_int_eq (PySem.F.args_int_eq_2 _ _) (BK.dec_bool b dx) ⟨ho, hq⟩) O.at' O.fn fin
  | int i =>
    obtain ⟨t, rfl⟩ := rx
    exact PySem.W.cmp_back (T := "int") hr.units0 I.kIn J rfl PySem.F.slot_int_eq N.i (fun Q' hq => call_meets PySem.F.slot_int_eq rfl PySem.F.entry_int_eq (PySem.F.args_int_eq_2 _ _) (BK.dec_int i t dx) ⟨ho, hq⟩) O.at' O.fn fin
  | str z =>
    obtain ⟨t, rfl⟩ := rx
    exact PySem.W.cmp_back (T := "str") hr.units0 I.kIn J rfl PySem.F.slot_str_eq N.s (fun Q' hq => call_meets PySem.F.slot_str_eq rfl PySem.F.entry_str_eq (PySem.F.args_str_eq_2 _ _) (BK.dec_str z t dx) ⟨ho, hq⟩) O.at' O.fn fin
  | @tup t xs h =>
    cases (show v = Value.ref t from rx)
    obtain ⟨its, r, it, _⟩ := I.tuple (SqT.of h)
    obtain ⟨⟨c, dd, data, sl⟩, go, hc, m, hd⟩ := id it
    simp only at hc hd
    subst hc hd
    exact PySem.W.cmp_back (T := "tuple") hr.units0 I.kIn J ⟨_, go, rfl⟩ PySem.F.slot_tuple_eq N.t (fun Q' hq => call_meets PySem.F.slot_tuple_eq ⟨_, go, rfl⟩ PySem.F.entry_tuple_eq (PySem.F.args_tuple_eq_2 _ _) (BK.dec_tuple (K := X.K) (C := C) (x := a) t its.toArray m dd sl) ⟨go, ⟨I.kIn, J, N.t⟩, hq⟩) O.at' O.fn fin
  | @lst t xs h =>
    cases (show v = Value.ref t from rx)
    obtain ⟨its, r, it, _⟩ := I.list (SqL.of h)
    obtain ⟨⟨c, dd, data, sl⟩, go, hc, m, hd⟩ := id it.isList
    simp only at hc hd
    subst hc hd
    exact PySem.W.cmp_back (T := "list") hr.units0 I.kIn J ⟨_, go, rfl⟩ PySem.F.slot_list_eq N.l (fun Q' hq => call_meets PySem.F.slot_list_eq ⟨_, go, rfl⟩ PySem.F.entry_list_eq (PySem.F.args_list_eq_2 _ _) (BK.dec_list (K := X.K) (C := C) (x := a) t its.toArray m dd sl) ⟨go, ⟨I.kIn, J, N.l⟩, hq⟩) O.at' O.fn fin
  | @dic t kvs h =>
    cases (show v = Value.ref t from rx)
    obtain ⟨_, _, vs, r, ob, es, ep, go, c⟩ := (show ObjOk X.prog X.w H s.heap t (.dK kvs) from I.hok t _ h)
    obtain ⟨cl, dd, data, sl⟩ := ob
    obtain ⟨⟨hc, _⟩, hd, _⟩ := c
    simp only at hc hd
    subst hc hd
    exact PySem.W.cmp_back (T := "dict") hr.units0 I.kIn J ⟨_, go, rfl⟩ PySem.F.slot_dict_eq N.d (fun Q' hq => call_meets PySem.F.slot_dict_eq ⟨_, go, rfl⟩ PySem.F.entry_dict_eq (PySem.F.args_dict_eq_2 _ _) (BK.dec_dict (K := X.K) (C := C) (x := a) t es _ dd sl) ⟨go, ⟨I.kIn, J, N.d⟩, hq⟩) O.at' O.fn fin
end
end WO

end
section
set_option autoImplicit false
set_option Elab.async false
set_option linter.all false
set_option maxRecDepth 100000
set_option maxHeartbeats 4000000
/-! ## set(a list of hin), and sorted of it -/
namespace WS
open PySem PySem.Spec PyProof.Rows L2
abbrev empt (Wd : World) : Obj := { cls := .type "set", dict := none, data := .set #[] 0 (.fresh 0 0 (!Wd.params.followText "set-order")) }
abbrev walker (ls : Addr) : Obj := { cls := .type "list_iterator", data := .fields #[.ref ls, .int 0 0] }
section
variable {Pg : Program} {Wd : World} {Ar : Around} {Ex : Value → Shared → Prop} {sh : Shared}
/-- what is left of a new set, filled -/
def Filled (Wd : World) (sh : Shared) (zs : List Int) (s2 : Shared) : Prop := ∃ hp tk c, s2 = { sh with heap := hp, toks := tk } ∧ SetR Wd hp sh.heap.objs.size (fun j => decide (j ∈ zs)) c ∧ c ≤ zs.length ∧ ∀ b o, sh.heap.get? b = some o → hp.get? b = some o
set_option maxHeartbeats 3200000 in
/-- __init__ of the new set at the end of the heap -/
theorem init_list {ls : Addr} {arr : Array Value} {zs : List Int} (ok : Ar.handled = none) (at0 : sh.heap.IsList ls arr) (hin : IntsAre arr.toList zs) (few : zs.length + 1 < scanBound) (tS : Shared.TypeIs { sh with heap := sh.heap.push (empt Wd) } (.ref sh.heap.objs.size) "set") :
    codeAny (model Pg Wd) Ar (.call (.builtin "set.__init__") ⟨[.ref sh.heap.objs.size, .ref ls], []⟩) (wants (fun r s2 => r = .none ∧ Filled Wd sh zs s2) Ex) { sh with heap := sh.heap.push (empt Wd) } := by
  have size_eq : arr.size = zs.length := by
    have q := IntsAre.length hin
    rwa [Array.length_toList] at q
  refine codeAny_call_builtin (R := wants _ Ex) F.called_set.init.plain F.entry_set_init (check_set_init_1 tS ?_)
  obtain ⟨⟨oc, od, oda, osl⟩, gl, cl, nl, dl⟩ := at0
  simp only at cl dl
  subst cl; subst dl
  have gl2 : (sh.heap.push (empt Wd)).get? ls = some { cls := .type "list", dict := od, data := .seq arr nl, slots := osl } := Heap.get?_push_of_some _ gl
  have k1 := F.sub_list_set
  have k2 := F.sub_list_frozenset
  have k3 : (Value.type "list" == Value.type "dict") = false := by decide
  have il : (sh.heap.push (empt Wd)).IsList ls arr := ⟨_, gl2, rfl, nl, rfl⟩
  unfold Builtin.«set.__init__» noKeywords Builtin.Frozenset.updateFrom
  generalize eI : pyIter = IT
  wp_walk
  subst eI
  refine wpAny_pyIter_list il ?_
  refine wpAny_bind (wpAny_runValue ?_)
  have low : ls < sh.heap.objs.size := Heap.lt_size gl
  have sz : (sh.heap.push (empt Wd)).objs.size = sh.heap.objs.size + 1 := Heap.size_push ..
  have ne1 : ls ≠ (sh.heap.push (empt Wd)).objs.size := by rw [sz]; exact Nat.ne_of_lt (Nat.lt_succ_of_lt low)
  have ne2 : sh.heap.objs.size ∉ [(sh.heap.push (empt Wd)).objs.size, ls] := by
    rw [sz]
    intro z
    rcases List.mem_cons.mp z with e | e
    · exact absurd e (Nat.ne_of_lt (Nat.lt_succ_self _))
    · exact absurd (List.mem_singleton.mp e) (Nat.ne_of_gt low)
  have item : ∀ (i : Nat) (v : Value), arr[i]? = some v → ∃ k t, zs[i]? = some k ∧ v = .int k t := by
    intro i v hv
    have hi : i < zs.length := by rw [← size_eq]; exact (Array.getElem?_eq_some_iff.mp hv).1
    obtain ⟨t, e⟩ := PyProof.Rows.IntsAre.int_at hin i v (by rw [Array.getElem?_toList]; exact hv)
    refine ⟨zs[i], t, List.getElem?_eq_getElem hi, ?_⟩
    rw [e, List.getD_eq_getElem?_getD, List.getElem?_eq_getElem hi] <;> rfl
  refine set_update_ints ((Walks.list (by simp [ok]) _ ls ne1 arr).toS) sh.heap.objs.size ne2 zs size_eq few item (arr.size - 0) 0 _ (by omega) (Nat.zero_le _) ⟨⟨_, Heap.get?_push_size _ rfl, rfl, rfl⟩, (il.push _)⟩ ?first0 ?rest0
  case first0 =>
    have g : ((sh.heap.push (empt Wd)).push (walker ls)).get? sh.heap.objs.size = some (empt Wd) := Heap.get?_push_of_some _ (Heap.get?_push_size _ rfl)
    exact ⟨0, Nat.le_refl 0, setR_new_at g⟩
  case rest0 =>
    rintro ⟨hp, g2, d2, tk, os2⟩ c mv hc R
    have eg : g2 = sh.gens := mv.gens
    have ed : d2 = sh.drawn := mv.drawn
    have eo : os2 = sh.os := mv.os
    subst eg; subst ed; subst eo
    show wpAny _ _ _ _ _ _
    refine wpAny_pure ?_
    show wpAny _ _ (ret Value.none) _ _ _
    rw [size_eq] at hc
    refine wpAny_pure ⟨rfl, hp, tk, c, rfl, R, hc, fun b o e => ?_⟩
    have lb : b < sh.heap.objs.size := Heap.lt_size e
    refine mv.heap b o ?_ (Heap.get?_push_of_some _ (Heap.get?_push_of_some _ e))
    rw [sz]
    intro z
    rcases List.mem_cons.mp z with e | e
    · exact absurd e (Nat.ne_of_lt lb)
    · exact absurd (List.mem_singleton.mp e) (Nat.ne_of_lt (Nat.lt_succ_of_lt lb))
set_option maxHeartbeats 3200000 in
theorem set_of_list {ls : Addr} {arr : Array Value} (zs : List Int) {Qv : Value → Shared → Prop} (ok : Ar.handled = none) (at0 : sh.heap.IsList ls arr) (hin : IntsAre arr.toList zs) (few : zs.length + 1 < scanBound)
    (k : ∀ s2, Filled Wd sh zs s2 → Qv (.ref sh.heap.objs.size) s2) : wpAny (model Pg Wd) Ar (call (.type "set") [.ref ls]) Qv Ex sh := by
  obtain ⟨c0, tl0, mro0⟩ := F.called_set.mro
  have f1 := F.called_set.made
  have f2 := F.called_set.sub
  refine wpAny_call (codeAny_of_tree ?_)
  show wpAny _ _ (callAny (.type "set") _) _ _ _
  refine wpAny_pure ⟨Code.quiet_builtin _ (by decide +kernel), codeAny_builtin F.entry_type_call ?_⟩
  rw [Around.under_plain (weight_type_call_type "set" [.ref ls] []) rfl]
  have f3 := F.called_set.notType
  have f4 := F.called_set.canCreate
  have f5 := F.typeCall_set_1 (.ref ls)
  repeat (any_goals (first | assumption | wp_step))
  refine codeAny_mono (code_set_led1 (.ref ls) (E := Ex) (Q₁ := fun ob s1 => ob = .ref sh.heap.objs.size ∧ s1 = { sh with heap := sh.heap.push (empt Wd) }) ⟨rfl, rfl⟩) fun r s1 hr => ?_
  match r, hr with
  | .error e, hr => exact hr
  | .ok .next, hr => exact hr.elim
  | .ok .brk, hr => exact hr.elim
  | .ok .cont, hr => exact hr.elim
  | .ok (.ret ob), hr =>
    obtain ⟨rfl, rfl⟩ := hr
    have tS : Shared.TypeIs { sh with heap := sh.heap.push (empt Wd) } (.ref sh.heap.objs.size) "set" := ⟨_, Heap.get?_push_size _ rfl, rfl⟩
    have f6 := F.called_set.init.lookup
    have f7 := F.called_set.init.bind (.ref sh.heap.objs.size)
    repeat (any_goals (first | assumption | wp_step))
    refine codeAny_mono (init_list (zs := zs) (Ex := Ex) (by simp [ok]) at0 hin few tS) fun r2 s2 hr2 => ?_
    match r2, hr2 with
    | .error e, hr2 => exact hr2
    | .ok .next, hr2 => exact hr2.elim
    | .ok .brk, hr2 => exact hr2.elim
    | .ok .cont, hr2 => exact hr2.elim
    | .ok (.ret v), hr2 =>
      obtain ⟨rfl, hF⟩ := hr2
      obtain ⟨hp, tk, c, rfl, R, hc, hk⟩ := hF
      repeat (any_goals (first | assumption | wp_step))
      exact k _ ⟨hp, tk, c, rfl, R, hc, hk⟩
end
section
variable {X : Cx}
def rSetL (K : PySem.W.Frag) (Wd : World) : List V → Hp → VK → Prop := fun xs H Q => ∃ (l : Addr) (zs : List Int), xs = [.ref l] ∧ SqL K H l (zs.map V.int) ∧ zs.length ≤ 4000 ∧ ∀ (p : Addr) (c : Nat), H p = none → c ≤ zs.length → Q (.ref p) (upd H p (SetO Wd p (fun j => decide (j ∈ zs)) c))
theorem cr_setL (hc : X.calm = true) : CallR X (.type "set") (rSetL X.K X.w) := by
  intro pins s σ H xs us Q I r h
  obtain ⟨l, zs, rfl, hL, few, q⟩ := h
  rw [Vals.ref1 r]
  obtain ⟨its, rv, pl, _⟩ := I.list hL
  refine set_of_list zs (I.ok.hd hc) pl.isList (by simpa using ints_of_vals rv) (by unfold scanBound; omega) fun s2 hF => ?_
  obtain ⟨hp, tk, c, rfl, R, hc2, hk⟩ := hF
  exact ⟨.ref _, upd H s.heap.objs.size (SetO X.w s.heap.objs.size (fun j => decide (j ∈ zs)) c), I.laid (t' := tk) hk (Nat.le_refl _) (setO_new R), rfl, q _ c (I.hok.fresh (Nat.le_refl _)) hc2⟩
end
end WS

end
section
set_option autoImplicit false
set_option Elab.async false
set_option linter.all false
set_option maxRecDepth 100000
set_option maxHeartbeats 4000000
/-! ## pieces for any law -/
namespace Y
open PySem L2 G
theorem of_upd {H : Hp} {p : Addr} {o : HO} (h : H p = none) : Same H (upd H p o) := fun a u e => by
  rw [upd_ne (ne_of_none e h)]
  exact e
theorem add_upd {H G : Hp} {D : Addr} {o : HO} (nD : H D = none) (s : Same H G) : Same H (upd G D o) := fun b u e => by
  rw [upd_ne (ne_of_none e nD)]
  exact s _ _ e
/-- a def of the text that is called by its name, and keeps a promise -/
structure Df (P : Program) (w : World) (K : PySem.W.Frag) (mg : Str → Option Value) (base : Heap) (k : Nat) (x : Str) (ps : List Str) (sp : Sp) : Prop where
  ex : ∃ (f : Addr) (fd : FuncData), FnOk P w K mg base CX0 k f fd ps sp ∧ mg x = some (.ref f) ∧ PySem.W.keepIn K (.ref f) = true ∧ Binds K fd ps []
structure Fd (K : PySem.W.Frag) (mg : Str → Option Value) (x : Str) (st : Stmt) (ps : List Str) : Prop where
  ex : ∃ (f : Addr) (fd : FuncData), Fun K x x st f fd ∧ mg x = some (.ref f) ∧ PySem.W.keepIn K (.ref f) = true ∧ Binds K fd ps []
theorem Fd.df {P : Program} {w : World} {K : PySem.W.Frag} {mg : Str → Option Value} {base : Heap} {x : Str} {st : Stmt} {ps : List Str} {k : Nat} {sp : Sp} (h : Fd K mg x st ps) (ok : ∀ f fd, Fun K x x st f fd → FnOk P w K mg base CX0 k f fd ps sp) : Df P w K mg base k x ps sp := by
  obtain ⟨f, fd, h1, h2, h3, h4⟩ := h.ex
  exact ⟨f, fd, ok f fd h1, h2, h3, h4⟩
theorem set_then {te : TE} {i : Nat} {t2 : TS} {D : Ends} {σ : L2.St} {H : Hp} (h : te σ H fun v H1 => t2 D (σ.set i (some v)) H1) : tSeq (tAsg te (gName i)) t2 D σ H := h
theorem len_put {f : Str} {v : V} {fs : List (Str × V)} {n : Nat} (h : fs.length < n) : (putF f v fs).length < n + 1 := Nat.lt_of_le_of_lt (length_putF f v fs) (Nat.succ_lt_succ h)
theorem take_snoc {α : Type} {l : List α} {i : Nat} {x : α} (h : l[i]? = some x) : l.take (i + 1) = l.take i ++ [x] := by
  rw [List.take_succ, h]
  rfl
theorem drop_at {α : Type} {l : List α} {i : Nat} {x : α} (h : l[i]? = some x) : l.drop i = x :: l.drop (i + 1) := by
  obtain ⟨hi, ex⟩ := List.getElem?_eq_some_iff.mp h
  rw [← ex, ← List.drop_eq_getElem_cons hi]
section
variable {X : Cx} {tg it : Expr}
theorem pi_or {w1 w2 : TI} (h1 : PI X tg it w1) (h2 : PI X tg it w2) : PI X tg it (fun σ H R => w1 σ H R ∨ w2 σ H R) := ⟨fun pins s σ H R I h => h.elim (h1.run pins s σ H R I) (h2.run pins s σ H R I)⟩
def tDead : TS := fun _ _ _ => False
theorem ps_dead {b : List Stmt} : PSs X b tDead := ⟨fun _ _ _ _ _ _ h => h.elim⟩
end
def SAt (H : Hp) (l : Addr) (xs : List V) : Prop := H l = some (.lst xs) ∨ H l = some (.tup xs)
theorem SAt.mono {H H' : Hp} {l : Addr} {xs : List V} (s : Same H H') (h : SAt H l xs) : SAt H' l xs := h.elim (fun e => .inl (s _ _ e)) fun e => .inr (s _ _ e)
section
variable {K : PySem.W.Frag} {H : Hp} {σ : L2.St} {l : Addr} {xs : List V}
theorem or_seq {te : TE} {R : It → Hp → Prop} (ht : ∀ Q : VK, Q (.ref l) H → te σ H Q) (hl : SAt H l xs) (k : ∀ (J : It) (Gd : Hp → Prop), (∀ H', Same H H' → Gd H') → Walk J xs.length Gd (YAt xs) → R J H) : iList K te σ H R ∨ iTup K te σ H R :=
  hl.elim (fun e => .inl (ht _ ⟨l, rfl, ⟨xs, SqL.of e⟩, k _ _ (fun H' s => SqL.of (s _ _ e)) walk_list⟩)) fun e => .inr (ht _ ⟨l, rfl, ⟨xs, SqT.of e⟩, k _ _ (fun H' s => SqT.of (s _ _ e)) walk_tup⟩)
end
theorem at0 {y0 : V} {ys : List V} : atI (y0 :: ys) (0 : Int) = some y0 := by exact atI_nat (xs := y0 :: ys) (j := 0) rfl
def ni (l : List Nat) : List V := (l.map fun n => ((n : Nat) : Int)).map V.int
theorem ni_len (l : List Nat) : (ni l).length = l.length := by
  unfold ni
  rw [List.length_map, List.length_map]
theorem ni_get {l : List Nat} {i : Nat} {x : V} (h : (ni l)[i]? = some x) : ∃ b, l[i]? = some b ∧ x = .int ((b : Nat) : Int) := by
  unfold ni at h
  rw [List.getElem?_map, List.getElem?_map] at h
  cases e : l[i]? with
  | none => rw [e] at h; cases h
  | some b =>
    rw [e] at h
    cases h
    exact ⟨b, rfl, rfl⟩
theorem ni_at {l : List Nat} {i b : Nat} (h : l[i]? = some b) : (ni l)[i]? = some (.int ((b : Nat) : Int)) := by
  unfold ni
  rw [List.getElem?_map, List.getElem?_map, h]
  rfl
theorem ni_app (l m : List Nat) : ni (l ++ m) = ni l ++ ni m := by
  unfold ni
  rw [List.map_append, List.map_append]
theorem ni_drop (l : List Nat) (i : Nat) : (ni l).drop i = ni (l.drop i) := by
  unfold ni
  rw [← List.map_drop, ← List.map_drop]
theorem ni_take (l : List Nat) (i : Nat) : (ni l).take i = ni (l.take i) := by
  unfold ni
  rw [← List.map_take, ← List.map_take]
theorem line2 : 2 ≤ sizeLine ∧ 3 ≤ sizeLine ∧ 1 ≤ sizeLine ∧ 0 ≤ sizeLine := by decide
/-- xs[k:] -/
theorem cut_from (xs : List V) (k : Nat) : cutV xs (some (k : Int)) none = xs.drop k := by
  unfold cutV
  rw [HT.sIx_none, HT.sIx_nat]
  by_cases h : k ≤ xs.length
  · rw [Nat.min_eq_left h]
    exact List.take_of_length_le (by rw [List.length_drop]; omega)
  · rw [Nat.min_eq_right (by omega), List.drop_of_length_le (by omega), List.drop_of_length_le (by omega), List.take_nil]
theorem six_pos {n k : Nat} (h : 0 < k) (hn : 0 < n) (d : Nat) : HT.sIx n d (some (k : Int)) ≠ 0 := by
  rw [HT.sIx_nat]
  omega
structure Bn (mg : Str → Option Value) : Prop where
  isi : mg "isinstance" = none
  bool : mg "bool" = none
  int : mg "int" = none
  tuple : mg "tuple" = none
  list : mg "list" = none
  len : mg "len" = none
  range : mg "range" = none
  zip : mg "zip" = none
  min : mg "min" = none
  max : mg "max" = none
  sorted : mg "sorted" = none
  set : mg "set" = none
  enum : mg "enumerate" = none
end Y

end
section
set_option autoImplicit false
/-! ## chains: what the numbers do -/
namespace N
/-- the pieces of a body -/
def L : List Nat → Nat → Nat
  | [], _ => 1
  | c :: r, b => b / c * L r c + (if b % c = 0 then 0 else L r (b % c))
/-- the boundary with a number -/
def B : List Nat → Nat → Nat
  | [], _ => 0
  | c :: r, n => n / L r c * c + B r (n % L r c)
/-- the rest of a place -/
def rem : List Nat → Nat → Nat
  | [], p => p
  | c :: r, p => rem r (p % c)
def dig : List Nat → Nat → List Nat
  | [], p => [p]
  | c :: r, p => p / c :: dig r (p % c)
theorem L_cons (c : Nat) (r : List Nat) (b : Nat) : L (c :: r) b = b / c * L r c + (if b % c = 0 then 0 else L r (b % c)) := by conv => lhs; unfold L
theorem B_cons (c : Nat) (r : List Nat) (n : Nat) : B (c :: r) n = n / L r c * c + B r (n % L r c) := by conv => lhs; unfold B
theorem rem_cons (c : Nat) (r : List Nat) (p : Nat) : rem (c :: r) p = rem r (p % c) := by conv => lhs; unfold rem
/-- cuts: falling, none of them 0 -/
def Fall : List Nat → Prop
  | [] => True
  | c :: r => 0 < c ∧ (∀ d ∈ r, d < c) ∧ Fall r
theorem Fall.pos : ∀ {l : List Nat}, Fall l → ∀ d ∈ l, 0 < d
  | [], _, d, h => by cases h
  | c :: r, f, d, h => by
    rcases List.mem_cons.mp h with e | e
    · rw [e]; exact f.1
    · exact f.2.2.pos d e
theorem L_pos : ∀ (l : List Nat), Fall l → ∀ b, 0 < b → 0 < L l b
  | [], _, b, _ => by unfold L; omega
  | c :: r, f, b, hb => by
    unfold L
    have h1 := L_pos r f.2.2 c f.1
    by_cases h : b % c = 0
    · rw [if_pos h]
      have h2 : 0 < b / c := Nat.div_pos (Nat.le_of_dvd hb (Nat.dvd_of_mod_eq_zero h)) f.1
      exact Nat.lt_of_lt_of_le (Nat.mul_pos h2 h1) (Nat.le_add_right _ _)
    · rw [if_neg h]
      have h2 := L_pos r f.2.2 (b % c) (by omega)
      omega
theorem B_zero : ∀ l : List Nat, B l 0 = 0
  | [] => rfl
  | c :: r => by
    unfold B
    rw [Nat.zero_div, Nat.zero_mod, B_zero r, Nat.zero_mul]
theorem rem_zero : ∀ l : List Nat, rem l 0 = 0
  | [] => rfl
  | c :: r => by
    unfold rem
    rw [Nat.zero_mod, rem_zero r]
/-- two numbers in parts: which one is less -/
theorem parts_lt {q j Q R c : Nat} (hj : j < c) (hR : R < c) : q * c + j < Q * c + R ↔ q < Q ∨ (q = Q ∧ j < R) := by
  constructor
  · intro h
    rcases Nat.lt_trichotomy q Q with a | a | a
    · exact .inl a
    · subst a
      exact .inr ⟨rfl, by omega⟩
    · have := Nat.mul_le_mul_right c a
      rw [Nat.succ_mul] at this
      omega
  · rintro (a | ⟨rfl, a⟩)
    · have := Nat.mul_le_mul_right c a
      rw [Nat.succ_mul] at this
      omega
    · omega
/-- the boundaries below a body are one less than its pieces -/
theorem below : ∀ (l : List Nat), Fall l → ∀ b, 0 < b → ∀ m, (l = [] → m = 0) → (B l m < b ↔ m < L l b)
  | [], _, b, hb, m, hm => by
    rw [hm rfl]
    unfold B L
    omega
  | c :: r, f, b, hb, m, _ => by
    have hc := f.1
    have hk := L_pos r f.2.2 c hc
    have ih := below r f.2.2
    have hj := Nat.mod_lt m hk
    have hR := Nat.mod_lt b hc
    have e1 := Nat.div_add_mod m (L r c)
    have e2 := Nat.div_add_mod b c
    have nil : r = [] → m % L r c = 0 := fun e => by
      rw [e]
      show m % 1 = 0
      exact Nat.mod_one m
    have hB : B r (m % L r c) < c := (ih c hc _ nil).mpr hj
    -- what is left of the body
    have left : ∀ (x : Nat), x < L r c → (r = [] → x = 0) → (B r x < b % c ↔ x < (if b % c = 0 then 0 else L r (b % c))) := fun x hx hn => by
      by_cases h : b % c = 0
      · rw [if_pos h, h]
        omega
      · rw [if_neg h]
        exact ih (b % c) (by omega) x hn
    have most : (if b % c = 0 then 0 else L r (b % c)) ≤ L r c := by
      by_cases h : b % c = 0
      · rw [if_pos h]
        omega
      · rw [if_neg h]
        cases r with
        | nil => exact Nat.le_refl _
        | cons d s =>
          rcases Nat.lt_or_ge (L (d :: s) c) (L (d :: s) (b % c)) with z | z
          · have q := (ih (b % c) (by omega) (L (d :: s) c) (fun e => by cases e)).mpr z
            have q2 := (ih c hc (L (d :: s) c) (fun e => by cases e)).mp (by omega)
            omega
          · exact z
    have goal : (m / L r c < b / c ∨ (m / L r c = b / c ∧ B r (m % L r c) < b % c)) ↔ (m / L r c < b / c ∨ (m / L r c = b / c ∧ m % L r c < (if b % c = 0 then 0 else L r (b % c)))) := by
      rw [left _ hj nil]
    rw [B_cons, L_cons]
    have h1 := parts_lt (q := m / L r c) (Q := b / c) hB hR
    rw [Nat.mul_comm c] at e2
    rw [e2] at h1
    refine h1.trans (goal.trans ?_)
    generalize hX : (if b % c = 0 then 0 else L r (b % c)) = X at most ⊢
    rw [Nat.mul_comm (L r c)] at e1
    rcases Nat.lt_or_ge X (L r c) with z | z
    · have h2 := parts_lt (q := m / L r c) (Q := b / c) hj z
      rw [e1] at h2
      exact h2.symm
    · have eX : X = L r c := Nat.le_antisymm most z
      rw [eX]
      constructor
      · rintro (a | ⟨a, _⟩)
        · have := Nat.mul_le_mul_right (L r c) a
          rw [Nat.succ_mul] at this
          omega
        · rw [← a]
          omega
      · intro h
        rcases Nat.lt_trichotomy (m / L r c) (b / c) with a | a | a
        · exact .inl a
        · exact .inr ⟨a, hj⟩
        · have := Nat.mul_le_mul_right (L r c) a
          rw [Nat.succ_mul] at this
          omega
/-- boundaries go up -/
theorem up : ∀ (l : List Nat), Fall l → l ≠ [] → ∀ n, B l n < B l (n + 1)
  | [], _, h, _ => absurd rfl h
  | c :: r, f, _, n => by
    have hk := L_pos r f.2.2 c f.1
    have hj := Nat.mod_lt n hk
    have nil : r = [] → n % L r c = 0 := fun e => by
      rw [e]
      show n % 1 = 0
      exact Nat.mod_one n
    have hB : B r (n % L r c) < c := (below r f.2.2 c f.1 _ nil).mpr hj
    have e1 := Nat.div_add_mod n (L r c)
    rw [B_cons, B_cons]
    by_cases h : n % L r c + 1 = L r c
    · have e2 : n + 1 = 0 + L r c * (n / L r c + 1) := by rw [Nat.mul_add]; omega
      have d : (n + 1) / L r c = n / L r c + 1 := by rw [e2, Nat.add_mul_div_left _ _ hk, Nat.zero_div, Nat.zero_add]
      have m : (n + 1) % L r c = 0 := by rw [e2, Nat.add_mul_mod_self_left, Nat.zero_mod]
      rw [d, m, B_zero, Nat.succ_mul]
      omega
    · have e2 : n + 1 = (n % L r c + 1) + L r c * (n / L r c) := by omega
      have d : (n + 1) / L r c = n / L r c := by rw [e2, Nat.add_mul_div_left _ _ hk, Nat.div_eq_of_lt (by omega), Nat.zero_add]
      have m : (n + 1) % L r c = n % L r c + 1 := by rw [e2, Nat.add_mul_mod_self_left, Nat.mod_eq_of_lt (by omega)]
      rw [d, m]
      have hr : r ≠ [] := fun e => h (by rw [e]; show n % 1 + 1 = 1; rw [Nat.mod_one])
      have := up r f.2.2 hr (n % L r c)
      omega
theorem up_lt {l : List Nat} (f : Fall l) (h : l ≠ []) : ∀ {m n : Nat}, m < n → B l m < B l n
  | m, 0, q => absurd q (Nat.not_lt_zero _)
  | m, n + 1, q => by
    rcases Nat.lt_or_ge m n with a | a
    · exact Nat.lt_trans (up_lt f h a) (up l f h n)
    · have e : m = n := by omega
      rw [e]
      exact up l f h n
theorem up_iff {l : List Nat} (f : Fall l) (h : l ≠ []) {m n : Nat} : B l m < B l n ↔ m < n := by
  constructor
  · intro q
    rcases Nat.lt_trichotomy m n with a | a | a
    · exact a
    · rw [a] at q; omega
    · have := up_lt f h a; omega
  · exact up_lt f h
theorem eq_of_lt_iff {a b : Nat} (h : ∀ m, m < a ↔ m < b) : a = b := by
  have h1 := h a
  have h2 := h b
  omega
/-- the boundary with a number has so many up to it -/
theorem L_B {l : List Nat} (f : Fall l) (h : l ≠ []) {n : Nat} (hn : 0 < n) : L l (B l n) = n := by
  have p : 0 < B l n := by
    have := up_lt f h hn
    omega
  refine eq_of_lt_iff fun m => ?_
  rw [← below l f (B l n) p m fun e => absurd e h, up_iff f h]
theorem L_B1 {l : List Nat} (f : Fall l) (h : l ≠ []) {n : Nat} : L l (B l n + 1) = n + 1 := by
  refine eq_of_lt_iff fun m => ?_
  rw [← below l f (B l n + 1) (by omega) m fun e => absurd e h]
  constructor
  · intro q
    rcases Nat.lt_or_ge m (n + 1) with a | a
    · exact a
    · have := up_lt f h (m := n) (n := m) (by omega)
      omega
  · intro q
    rcases Nat.lt_or_ge m n with a | a
    · have := up_lt f h a
      omega
    · have e : m = n := by omega
      rw [e]
      omega
theorem rem_B : ∀ (l : List Nat), Fall l → ∀ n, (l = [] → n = 0) → rem l (B l n) = 0
  | [], _, n, h => by rw [h rfl]; rfl
  | c :: r, f, n, _ => by
    have hk := L_pos r f.2.2 c f.1
    have hj := Nat.mod_lt n hk
    have nil : r = [] → n % L r c = 0 := fun e => by
      rw [e]
      show n % 1 = 0
      exact Nat.mod_one n
    have hB : B r (n % L r c) < c := (below r f.2.2 c f.1 _ nil).mpr hj
    rw [B_cons, rem_cons, Nat.add_comm, Nat.add_mul_mod_self_right, Nat.mod_eq_of_lt hB]
    exact rem_B r f.2.2 _ nil
/-- the first boundary is the least cut -/
theorem B_one : ∀ (l : List Nat), Fall l → ∀ (h : l ≠ []), B l 1 = l.getLast h
  | [], _, h => absurd rfl h
  | [c], _, _ => by
    rw [B_cons]
    show 1 / 1 * c + 0 = c
    omega
  | c :: d :: s, f, _ => by
    have ih := B_one (d :: s) f.2.2 (by simp)
    have lt : (d :: s).getLast (by simp) < c := f.2.1 _ (List.getLast_mem _)
    have k1 : 1 < L (d :: s) c := (below (d :: s) f.2.2 c f.1 1 (fun e => by cases e)).mp (by rw [ih]; exact lt)
    rw [List.getLast_cons (by simp)]
    rw [B_cons, Nat.div_eq_of_lt k1, Nat.mod_eq_of_lt k1, ih]
    omega
theorem last_le : ∀ (l : List Nat), Fall l → ∀ (h : l ≠ []), ∀ d ∈ l, l.getLast h ≤ d
  | [], _, h, _, _ => absurd rfl h
  | [c], _, _, d, hd => by
    have e : d = c := by simpa using hd
    rw [e]
    exact Nat.le_refl _
  | c :: e :: s, f, _, d, hd => by
    rw [List.getLast_cons (by simp)]
    rcases List.mem_cons.mp hd with q | q
    · rw [q]
      exact Nat.le_of_lt (f.2.1 _ (List.getLast_mem _))
    · exact last_le (e :: s) f.2.2 (by simp) d q
theorem L_mono_lt {l : List Nat} (f : Fall l) (h : l ≠ []) {n b : Nat} (hb : B l n < b) : n < L l b := (below l f b (by omega) n fun e => absurd e h).mp hb
end N
namespace N
/-- how many pieces each cut's part makes -/
def cn : List Nat → List Nat
  | [] => []
  | c :: r => L r c :: cn r
theorem cn_len : ∀ l : List Nat, (cn l).length = l.length
  | [] => rfl
  | c :: r => congrArg Nat.succ (cn_len r)
theorem cn_at : ∀ {l : List Nat} {i k : Nat}, (cn l)[i]? = some k → ∃ c, l[i]? = some c ∧ k = L (l.drop (i + 1)) c
  | [], i, k, h => by cases h
  | c :: r, 0, k, h => by
    cases h
    exact ⟨c, rfl, rfl⟩
  | c :: r, i + 1, k, h => by
    obtain ⟨d, a, b⟩ := cn_at (l := r) (i := i) h
    exact ⟨d, a, b⟩
/-- the number of pieces of any body -/
def PC (l : List Nat) (b : Nat) : Nat := if b = 0 then 1 else L l b
def sm : List Nat → Nat → Nat
  | [], _ => 0
  | c :: r, b => b / c * L r c + sm r (b % c)
theorem sm_cons (c : Nat) (r : List Nat) (b : Nat) : sm (c :: r) b = b / c * L r c + sm r (b % c) := by conv => lhs; unfold sm
theorem sm_nil (b : Nat) : sm [] b = 0 := rfl
theorem rem_nil (b : Nat) : rem [] b = b := rfl
theorem sm_zero : ∀ l : List Nat, sm l 0 = 0
  | [] => rfl
  | c :: r => by
    unfold sm
    rw [Nat.zero_div, Nat.zero_mod, Nat.zero_mul, sm_zero r]
theorem L_sm : ∀ (l : List Nat) (b : Nat), 0 < b → L l b = sm l b + (if 0 < rem l b then 1 else 0)
  | [], b, h => by
    unfold L sm rem
    rw [if_pos h]
  | c :: r, b, h => by
    rw [L_cons, rem_cons]
    unfold sm
    by_cases z : b % c = 0
    · rw [if_pos z, z, sm_zero, rem_zero, if_neg (by omega)]
    · rw [if_neg z, L_sm r (b % c) (by omega), Nat.add_assoc]
theorem PC_sm (l : List Nat) (b : Nat) : PC l b = sm l b + (if 0 < rem l b ∨ b = 0 then 1 else 0) := by
  unfold PC
  by_cases h : b = 0
  · rw [if_pos h, if_pos (.inr h), h, sm_zero]
  · rw [if_neg h, L_sm l b (by omega)]
    by_cases z : 0 < rem l b
    · rw [if_pos z, if_pos (.inl z)]
    · rw [if_neg z, if_neg (by omega)]
theorem Fall.drop : ∀ {l : List Nat}, Fall l → ∀ i, Fall (l.drop i)
  | [], _, i => by rw [List.drop_nil]; trivial
  | c :: r, f, 0 => f
  | c :: r, f, i + 1 => f.2.2.drop i
theorem le_B {l : List Nat} (f : Fall l) (h : l ≠ []) : ∀ n, n ≤ B l n
  | 0 => Nat.zero_le _
  | n + 1 => by
    have := le_B f h n
    have := up l f h n
    omega
theorem L_le {l : List Nat} (f : Fall l) {b : Nat} (hb : 0 < b) : L l b ≤ b := by
  cases l with
  | nil => exact hb
  | cons c r =>
    have p := L_pos (c :: r) f b hb
    have q := (below (c :: r) f b hb (L (c :: r) b - 1) fun e => by cases e).mpr (by omega)
    have := le_B f (by simp) (L (c :: r) b - 1)
    omega
theorem dig_rem : ∀ (l : List Nat) (p : Nat), ∃ ds, dig l p = ds ++ [rem l p]
  | [], p => ⟨[], rfl⟩
  | c :: r, p => by
    obtain ⟨ds, e⟩ := dig_rem r (p % c)
    exact ⟨p / c :: ds, by unfold dig; rw [e, rem_cons]; rfl⟩
theorem dig_len : ∀ (l : List Nat) (p : Nat), (dig l p).length = l.length + 1
  | [], p => rfl
  | c :: r, p => congrArg Nat.succ (dig_len r (p % c))
end N
namespace N
theorem fall_snoc : ∀ {l : List Nat} {x : Nat}, Fall l → 0 < x → (∀ d ∈ l, x < d) → Fall (l ++ [x])
  | [], x, _, h, _ => ⟨h, (fun d hd => by cases hd), trivial⟩
  | c :: r, x, f, h, hd => by
    refine ⟨f.1, fun d q => ?_, fall_snoc f.2.2 h fun d q => hd d (List.mem_cons_of_mem _ q)⟩
    rcases List.mem_append.mp q with q | q
    · exact f.2.1 d q
    · rw [List.mem_singleton.mp q]
      exact hd c List.mem_cons_self
end N

end
section
set_option Elab.async false
set_option linter.all false
set_option maxRecDepth 100000
set_option maxHeartbeats 4000000
/-! ## where the law draws from -/
namespace S
open PySem L2
def top (i : Nat) : Stmt := PySem.Challenge.pw_roadsizes_k02_ways_put_together.main.body.getD i (.Pass ⟨0, 0, 0, 0⟩)
abbrev sSource : Stmt := top 71
abbrev sDraw : Stmt := top 72
abbrev sPick : Stmt := top 73
/-- the built-ins that these defs call -/
structure Bi (mg : Str → Option Value) : Prop where
  int : mg "int" = none
  len : mg "len" = none
/-- a source: two numbers that are not negative, the second one small -/
def Two (r m : Int) : List V := [.int r, .int m]
structure Fine (r m : Int) : Prop where
  r0 : 0 ≤ r
  m0 : 0 ≤ m
  m1 : m < 2147483648
def At (H : Hp) (p : Addr) : Prop := ∃ r m, H p = some (.lst (Two r m)) ∧ Fine r m
theorem bits_lt (x : Int) : x.natAbs < 2 ^ (Builtin.Int.intBits x) := by
  unfold Builtin.Int.intBits
  split
  · rename_i h
    have e : x = 0 := by simpa using h
    subst e
    decide
  · exact Nat.lt_log2_self
theorem bits_le {x : Int} {n : Nat} (h : x.natAbs < 2 ^ n) : Builtin.Int.intBits x ≤ n := by
  unfold Builtin.Int.intBits
  split
  · exact Nat.zero_le _
  · rename_i q
    have ne : x.natAbs ≠ 0 := fun e => q (by simp [Int.natAbs_eq_zero.mp e])
    exact (Nat.log2_lt ne).mpr h
theorem cube_ok {m z : Int} (h0 : 0 ≤ m) (h1 : m < 2147483648) (hz : Builtin.Int.intBits z ≤ 1048576) : (Builtin.Int.intBits (m * 48611 + z) : Int) * 3 ≤ 2 ^ 27 := by
  have b1 := bits_lt z
  have b2 : z.natAbs < 2 ^ 1048576 := Nat.lt_of_lt_of_le b1 (Nat.pow_le_pow_right (by decide) hz)
  have b3 : (m * 48611 + z).natAbs < 2 ^ 1048577 := by
    have e : (2 : Nat) ^ 1048577 = 2 ^ 1048576 * 2 := Nat.pow_succ ..
    have e2 : (2 : Nat) ^ 100 ≤ 2 ^ 1048576 := Nat.pow_le_pow_right (by decide) (by decide)
    have e3 : (2 : Nat) ^ 100 = 1267650600228229401496703205376 := by decide
    generalize (2 : Nat) ^ 1048576 = t at *
    rw [e]
    omega
  have b4 := bits_le b3
  have e27 : (2 : Int) ^ 27 = 134217728 := by decide
  rw [e27]
  omega
/-! ### promises -/
def spSource (K : PySem.W.Frag) : Sp := fun vs H Q _ => ∃ (a : Addr) (ns : List Int) (i : Nat), vs = [.ref a, .int i] ∧ i ≤ 1000 ∧ SqL K H a (ns.map V.int) ∧ ns.length ≤ 63 ∧ (∀ z ∈ ns, Builtin.Int.intBits z ≤ 1048576) ∧
  ∀ p r m, H p = none → Fine r m → Q (.ref p) (upd H p (.lst (Two r m)))
def spDraw : Sp := fun vs H Q _ => ∃ (p : Addr) (r m span : Int), vs = [.ref p, .int span] ∧ H p = some (.lst (Two r m)) ∧ Fine r m ∧ 1 ≤ span ∧ span.natAbs.log2 < 9000 ∧
  ∀ k r' m', Fine r' m' → 0 ≤ k → k < span → Q (.int k) (upd H p (.lst (Two r' m')))
def spPick (K : PySem.W.Frag) : Sp := fun vs H Q _ => ∃ (p l : Addr) (r m : Int) (xs : List V), vs = [.ref p, .ref l] ∧ H p = some (.lst (Two r m)) ∧ Fine r m ∧ l ≠ p ∧ SqL K H l xs ∧ 1 ≤ xs.length ∧ xs.length ≤ 1000 ∧
  ∀ (j : Nat) (x : V) (r' m' : Int), Fine r' m' → xs[j]? = some x → Q x (upd H p (.lst (Two r' m')))
section
variable {P : Program} {w : World} {K : PySem.W.Frag} {mg : Str → Option Value} {base : Heap}
theorem sc1 : FnScope ["script", "start", "mixed", "cell", "rest"] ["script", "start"] (defScope sSource) := ⟨rfl, rfl, rfl, by decide +kernel, rfl, by decide +kernel, by decide +kernel⟩
theorem ints_at {ns : List Int} {i : Nat} {x : V} (h : (ns.map V.int)[i]? = some x) : ∃ z, x = .int z ∧ z ∈ ns ∧ ns[i]? = some z := by
  rw [List.getElem?_map] at h
  cases e : ns[i]? with
  | none => rw [e] at h; cases h
  | some z => rw [e] at h; exact ⟨z, (Option.some.inj h).symm, List.mem_of_getElem? e, rfl⟩
theorem ok_source {f : Addr} {fd : FuncData} (F : Fun K "_law_source" "_law_source" sSource f fd) (B : Bi mg) : FnOk P w K mg base CX0 1 f fd ["script", "start"] (spSource K) := by
  refine F.ok sc1 (fun vs H Q E h => ?_) (fun cdv A outer s H vs Q E hr h => ?_)
  · obtain ⟨a, ns, i, rfl, _⟩ := h
    rfl
  · obtain ⟨a, ns, st, rfl, hst, hS, hl, hb, k⟩ := h
    refine ⟨_, pss_cons (ps_set (i := 2) sc1.nd rfl (Or.inl rfl) (pe_op op_add pe_int (pv 1)))
      (pss_cons (ps_for PassesOwn.never rfl (pi_list (pv 0)) (pg_name (i := 3) sc1.nd rfl (Or.inl rfl))
        (pss_one (ps_set (i := 2) sc1.nd rfl (Or.inl rfl) (pe_op op_add (pe_op op_mod (pe_callTy call_int1 (by rfl) B.int (by decide +kernel)
          (pa_cons (pe_op G.op_powN (pe_callTy call_int1 (by rfl) B.int (by decide +kernel) (pa_cons (pe_op op_add (pe_op op_mul (pv 2) pe_int) (pe_callTy call_int1 (by rfl) B.int (by decide +kernel) (pa_cons (pv 3) pa_nil))) pa_nil)) pe_int) pa_nil)) pe_int) pe_int))))
      (pss_cons (ps_set (i := 4) sc1.nd rfl (Or.inl rfl) pe_int)
      (pss_cons (ps_if (PW.pt (pw_and (pt_cmpR op_lt (pv 1) (pe_callB call_len_seq (by rfl) B.len PySem.boot_len (pa_cons (pv 0) pa_nil)) (nomark _))
          (pw_and1 (pt_cmpR op_ge (pe_ix ix_list (pv 0) (pv 1) (fun _ _ => rfl)) (pe_op op_pow pe_int pe_int) (nomark _)))))
        (pss_one (ps_set (i := 4) sc1.nd rfl (Or.inl rfl) (pe_op op_sub (pe_ix ix_list (pv 0) (pv 1) (fun _ _ => rfl)) (pe_op op_pow pe_int pe_int)))) pss_nil)
      (pss_one (ps_ret (pe_lst (pa_cons (pv 4) (pa_cons (pv 2) pa_nil)))))))), ?_⟩
    -- mixed = 97 + start
    refine ⟨_, rfl, _, _, rfl, rfl, ?_⟩
    -- for cell in script
    refine ⟨_, rfl, a, rfl, ⟨_, hS⟩, for_list (K := K) (a := a) (xs := ns.map V.int) (fun i σ H2 => ∃ (m : Int) (c : Option V), σ = [some (.ref a), some (.int st), some (.int m), c, none] ∧ H2 = H ∧ (0 ≤ m ∧ m < 2147483648))
      ⟨_, none, rfl, rfl, by omega, by omega⟩ (fun i σ H2 _ ⟨_, _, _, e, _⟩ => by rw [e]; exact hS) ?_ ?_⟩
    · rintro i y σ H2 hi ⟨m, c, rfl, rfl, h0, h1⟩
      obtain ⟨z, rfl, hz, _⟩ := ints_at hi
      refine ⟨_, rfl, _, _, rfl, rfl, .inl ⟨by omega, by omega⟩, _, rfl, .inl ⟨_, rfl, _, _, rfl, rfl, .inl ⟨_, rfl, _, _, rfl, rfl, ⟨by decide, cube_ok h0 h1 (hb z hz)⟩, .inl ⟨_, rfl, _, _, rfl, rfl, (by show (0 : Int) < 2147483587; decide), _, _, rfl, rfl, ?_⟩⟩⟩⟩
      refine ⟨_, _, rfl, rfl, ?_⟩
      have e1 := Int.emod_nonneg ((m * 48611 + z) ^ (3 : Int).toNat) (b := 2147483587) (by decide)
      have e2 := Int.emod_lt_of_pos ((m * 48611 + z) ^ (3 : Int).toNat) (b := 2147483587) (by decide)
      exact ⟨Int.add_nonneg e1 (by decide), Int.lt_of_lt_of_le (Int.add_lt_add_right e2 1) (by decide)⟩
    · rintro σ H2 ⟨m, c, rfl, rfl, h0, h1⟩
      -- rest = 0; if start < len(script) and script[start] >= 10 ** 18
      refine ⟨_, rfl, _, rfl, a, _, rfl, .inl hS, _, _, rfl, rfl, _, rfl, ?_⟩
      have fin : ∀ r : Int, 0 ≤ r → tRet (tLst (tCons (tVar 4) (tCons (tVar 2) tNil))) { nx := fun _ H' => Q .non H', rt := Q } [some (.ref a), some (.int st), some (.int m), c, some (.int r)] H2 := fun r hr =>
        ⟨_, rfl, _, rfl, (by show 2 ≤ sizeLine; decide), fun p hp => k p r m hp ⟨hr, h0, h1⟩⟩
      by_cases hlt : st < ns.length
      · have e : decide ((st : Int) < ((ns.map V.int).length : Int)) = true := by
          rw [List.length_map]
          exact decide_eq_true (by omega)
        rw [e]
        refine iteT ?_
        have hit : (ns.map V.int)[st]? = some (V.int ns[st]) := by rw [List.getElem?_map, List.getElem?_eq_getElem hlt]; rfl
        refine ⟨_, rfl, _, rfl, a, _, _, _, rfl, rfl, hS, atI_nat hit, _, _, rfl, rfl, ⟨by decide, by decide, by decide⟩, _, _, rfl, rfl, _, rfl, ?_⟩
        refine ite2 (fun hge => ?_) (fun _ => fin 0 (by decide))
        refine ⟨_, rfl, _, rfl, a, _, _, _, rfl, rfl, hS, atI_nat hit, _, _, rfl, rfl, ⟨by decide, by decide, by decide⟩, _, _, rfl, rfl, ?_⟩
        exact fin _ (Int.sub_nonneg_of_le (of_decide_eq_true hge))
      · have e : decide ((st : Int) < ((ns.map V.int).length : Int)) = false := by
          rw [List.length_map]
          exact decide_eq_false (by omega)
        rw [e]
        exact iteF (iteF (fin 0 (by decide)))
theorem fits {a : Int} {n : Nat} (h : 0 ≤ a) (h1 : a < 2 ^ n) : a.natAbs < 2 ^ n := by
  have e : ((2 : Int) ^ n) = ((2 ^ n : Nat) : Int) := by rw [Int.natCast_pow]; rfl
  rw [e] at h1
  omega
theorem sc2 : FnScope ["source", "span", "found"] ["source", "span"] (defScope sDraw) := ⟨rfl, rfl, rfl, by decide +kernel, rfl, by decide +kernel, by decide +kernel⟩
theorem ok_draw {f : Addr} {fd : FuncData} (F : Fun K "_law_draw" "_law_draw" sDraw f fd) (B : Bi mg) : FnOk P w K mg base CX0 1 f fd ["source", "span"] spDraw := by
  refine F.ok sc2 (fun vs H Q E h => ?_) (fun cdv A outer s H vs Q E hr h => ?_)
  · obtain ⟨p, r, m, span, rfl, _⟩ := h
    rfl
  · obtain ⟨p, r, m, span, rfl, hp, ⟨r0, m0, m1⟩, s1, s2, k⟩ := h
    refine ⟨_, pss_cons (ps_if (pt_cmpR op_ge (pe_ix ix_list (pv 0) pe_int (fun _ _ => rfl)) (pv 1) (nomark _))
        (pss_cons (ps_set (i := 2) sc2.nd rfl (Or.inl rfl) (pe_op op_mod (pe_callTy call_int1 (by rfl) B.int (by decide +kernel) (pa_cons (pe_ix ix_list (pv 0) pe_int (fun _ _ => rfl)) pa_nil)) (pv 1)))
        (pss_cons (ps_asg (pe_op op_fdivW (pe_ix ix_list (pv 0) pe_int (fun _ _ => rfl)) (pv 1)) (pg_sub (pv 0) pe_int set_list))
        (pss_one (ps_ret (pv 2))))) pss_nil)
      (pss_cons (ps_asg (pe_op op_mod (pe_callTy call_int1 (by rfl) B.int (by decide +kernel) (pa_cons (pe_op op_add (pe_op op_mul (pe_ix ix_list (pv 0) pe_int (fun _ _ => rfl)) pe_int) pe_int) pa_nil)) pe_int) (pg_sub (pv 0) pe_int set_list))
      (pss_one (ps_ret (pe_op op_mod (pe_callTy call_int1 (by rfl) B.int (by decide +kernel) (pa_cons (pe_op op_fdiv (pe_op op_mod (pe_callTy call_int1 (by rfl) B.int (by decide +kernel)
        (pa_cons (pe_op op_pow (pe_callTy call_int1 (by rfl) B.int (by decide +kernel) (pa_cons (pe_ix ix_list (pv 0) pe_int (fun _ _ => rfl)) pa_nil)) pe_int) pa_nil)) pe_int) pe_int) pa_nil)) (pv 1))))), ?_⟩
    have g0 : atI (Two r m) 0 = some (.int r) := rfl
    refine ⟨_, rfl, p, _, _, _, rfl, rfl, SqL.of hp, g0, _, rfl, _, _, rfl, rfl, _, rfl, ?_⟩
    refine ite2 (fun hge => ?_) (fun hlt => ?_)
    · have hge' : span ≤ r := of_decide_eq_true hge
      have q0 : 0 ≤ r / span := Int.ediv_nonneg r0 (by omega)
      refine ⟨_, rfl, p, _, _, _, rfl, rfl, SqL.of hp, g0, .inl ⟨_, rfl, _, rfl, _, _, rfl, rfl, (by show 0 < span; omega), ?_⟩⟩
      refine ⟨_, rfl, p, _, _, _, rfl, rfl, SqL.of hp, g0, _, rfl, _, _, rfl, rfl, ⟨(by omega), s2⟩, ?_⟩
      refine ⟨_, rfl, p, _, _, _, rfl, rfl, hp, rfl, ?_⟩
      exact ⟨_, rfl, k (r % span) (r / span) m ⟨q0, m0, m1⟩ (Int.emod_nonneg _ (by omega)) (Int.emod_lt_of_pos _ (by omega))⟩
    · have g1 : atI (Two r m) 1 = some (.int m) := rfl
      have e1 := Int.emod_nonneg (m * 69621 + 7919) (b := 2147483647) (by decide)
      have e2 := Int.emod_lt_of_pos (m * 69621 + 7919) (b := 2147483647) (by decide)
      refine ⟨_, rfl, p, _, _, _, rfl, rfl, SqL.of hp, g1, _, _, rfl, rfl, .inl ⟨by omega, by omega⟩, _, _, rfl, rfl, .inl ⟨_, rfl, _, _, rfl, rfl, (by show (0 : Int) < 2147483647; decide), ?_⟩⟩
      refine ⟨_, rfl, p, _, _, _, rfl, rfl, hp, rfl, ?_⟩
      have hp2 : (upd H p (.lst (Two r ((m * 69621 + 7919) % 2147483647)))) p = some (.lst (Two r ((m * 69621 + 7919) % 2147483647))) := upd_same
      have g2 : atI (Two r ((m * 69621 + 7919) % 2147483647)) 1 = some (.int ((m * 69621 + 7919) % 2147483647)) := rfl
      refine ⟨_, rfl, p, _, _, _, rfl, rfl, SqL.of hp2, g2, .inl ⟨_, rfl, _, _, rfl, rfl, ⟨by decide, by decide, by omega⟩, .inl ⟨_, rfl, _, _, rfl, rfl, (by show (0 : Int) < 1000000007; decide), _, _, rfl, rfl, ⟨by decide, by decide⟩, .inl ⟨_, rfl, _, rfl, _, _, rfl, rfl, (by show 0 < span; omega), ?_⟩⟩⟩⟩
      exact k _ r _ ⟨r0, e1, by omega⟩ (Int.emod_nonneg _ (by omega)) (Int.emod_lt_of_pos _ (by omega))
theorem sc3 : FnScope ["source", "items"] ["source", "items"] (defScope sPick) := ⟨rfl, rfl, rfl, by decide +kernel, rfl, by decide +kernel, by decide +kernel⟩
theorem ok_pick {f fD : Addr} {fd fdD : FuncData} (F : Fun K "_law_pick" "_law_pick" sPick f fd) (B : Bi mg) (FD : Fun K "_law_draw" "_law_draw" sDraw fD fdD) (gD : mg "_law_draw" = some (.ref fD)) (bD : Binds K fdD ["source", "span"] []) :
    FnOk P w K mg base CX0 2 f fd ["source", "items"] (spPick K) := by
  have GD : FnOk P w K mg base CX0 1 fD fdD ["source", "span"] spDraw := ok_draw FD B
  refine F.ok sc3 (fun vs H Q E h => ?_) (fun cdv A outer s H vs Q E hr h => ?_)
  · obtain ⟨p, l, r, m, xs, rfl, _⟩ := h
    rfl
  · obtain ⟨p, l, r, m, xs, rfl, hp, hf, hne, hL, l1, l2, k⟩ := h
    refine ⟨_, pss_one (ps_ret (pe_ix ix_list (pv 1) (pe_call GD hr rfl gD FD.kp bD .nil pass0 (pa_cons (pv 0) (pa_cons (pe_callB call_len_seq (by rfl) B.len PySem.boot_len (pa_cons (pv 1) pa_nil)) pa_nil))) (fun _ _ => rfl))), ?_⟩
    refine ⟨_, rfl, _, rfl, _, rfl, l, xs, rfl, .inl hL, p, r, m, _, rfl, hp, hf, by omega, ?_, fun j r' m' hf' h0 h1 => ?_⟩
    · exact PySem.Flt.log2_lt_of (k := 9000) (by decide) (Nat.lt_of_lt_of_le (by omega : _ < 1001) (Nat.le_trans (by decide : 1001 ≤ 2 ^ 10) (Nat.pow_le_pow_right (by decide) (by decide))))
    · obtain ⟨n, rfl⟩ := Int.eq_ofNat_of_zero_le h0
      have hn : n < xs.length := by omega
      have hit : xs[n]? = some xs[n] := List.getElem?_eq_getElem hn
      refine ⟨l, xs, _, xs[n], rfl, rfl, ?_, atI_nat hit, k n _ r' m' hf' hit⟩
      rcases hL with (h | ⟨o, h⟩) | h
      · exact .inl (.inl (by rw [upd_ne hne]; exact h))
      · exact .inl (.inr ⟨o, by rw [upd_ne hne]; exact h⟩)
      · exact .inr h
end
end S

end
section
set_option autoImplicit false
set_option Elab.async false
set_option linter.all false
set_option maxRecDepth 100000
set_option maxHeartbeats 4000000
/-! ## the program's chains -/
namespace CP
open PySem L2 G Y
abbrev sInteger : Stmt := S.top 3
abbrev sWithin : Stmt := S.top 4
abbrev sCInit : Stmt := inClass (S.top 42) 0
abbrev sCHas : Stmt := inClass (S.top 42) 1
abbrev sCGet : Stmt := inClass (S.top 42) 2
abbrev sCPieces : Stmt := inClass (S.top 42) 6
abbrev sCDigits : Stmt := inClass (S.top 42) 7
abbrev sCStretch : Stmt := inClass (S.top 42) 8
abbrev sCBoundary : Stmt := inClass (S.top 42) 10
abbrev sAreCuts : Stmt := S.top 43
abbrev sCounts : Stmt := S.top 44
abbrev sPieces : Stmt := S.top 45
/-- cuts: falling, at most 1000 -/
structure Cuts (l : List Nat) : Prop where
  fall : N.Fall l
  le : ∀ c ∈ l, c ≤ 1000
  len : l.length ≤ 1000
theorem Cuts.at {l : List Nat} (h : Cuts l) {i c : Nat} (e : l[i]? = some c) : 0 < c ∧ c ≤ 1000 := ⟨h.fall.pos c (List.mem_of_getElem? e), h.le c (List.mem_of_getElem? e)⟩
theorem Cuts.drop {l : List Nat} (h : Cuts l) (i : Nat) : Cuts (l.drop i) := ⟨h.fall.drop i, fun c hc => h.le c (List.mem_of_mem_drop hc), by rw [List.length_drop]; have := h.len; omega⟩
section
variable {P : Program} {w : World} {K : PySem.W.Frag} {mg : Str → Option Value} {base : Heap} {C : Addr}
def spInteger : Sp := fun vs H Q _ => ∃ v : Int, vs = [.int v] ∧ Q (.bl true) H
theorem scIn : FnScope ["value"] ["value"] (defScope sInteger) := ⟨rfl, rfl, rfl, by decide +kernel, rfl, by decide +kernel, by decide +kernel⟩
theorem ok_integer {f : Addr} {fd : FuncData} (F : Fun K "is_integer" "is_integer" sInteger f fd) (B : Bn mg) : FnOk P w K mg base CX0 1 f fd ["value"] spInteger := by
  refine F.ok scIn (fun vs H Q E h => ?_) (fun cdv A outer s H vs Q E hr h => ?_)
  · obtain ⟨v, rfl, _⟩ := h
    rfl
  · obtain ⟨v, rfl, k⟩ := h
    refine ⟨_, pss_one (ps_ret (pe_and (pe_callB call_isi (by rfl) B.isi (by decide +kernel) (pa_cons (pv 0) (pa_cons (pe_bltn (v := .ty "int") (by rfl) B.int (by decide +kernel) rfl) pa_nil)))
      (pe_one (pe_not (pe_callB call_isi (by rfl) B.isi (by decide +kernel) (pa_cons (pv 0) (pa_cons (pe_bltn (v := .ty "bool") (by rfl) B.bool (by decide +kernel) rfl) pa_nil))))))), ?_⟩
    exact ⟨_, rfl, _, _, _, _, _, rfl, .ty _, .base (.int _), kit_ty (r := true) (by decide +kernel), _, rfl, iteT ⟨_, rfl, _, _, _, _, _, rfl, .ty _, .base (.int _), kit_ty (r := false) (by decide +kernel), _, rfl, k⟩⟩
def spWithin : Sp := fun vs H Q _ => ∃ v a b : Int, vs = [.int v, .int a, .int b] ∧ Q (.bl (decide (a ≤ v ∧ v ≤ b))) H
theorem sc3 : FnScope ["value", "least", "greatest"] ["value", "least", "greatest"] (defScope sWithin) := ⟨rfl, rfl, rfl, by decide +kernel, rfl, by decide +kernel, by decide +kernel⟩
theorem ok_within {f : Addr} {fd : FuncData} (F : Fun K "is_within" "is_within" sWithin f fd) (DI : Df P w K mg base 1 "is_integer" ["value"] spInteger) : FnOk P w K mg base CX0 2 f fd ["value", "least", "greatest"] spWithin := by
  obtain ⟨fI, fdI, GI, gI, kI, bI⟩ := DI.ex
  refine F.ok sc3 (fun vs H Q E h => ?_) (fun cdv A outer s H vs Q E hr h => ?_)
  · obtain ⟨v, a, b, rfl, _⟩ := h
    rfl
  · obtain ⟨v, a, b, rfl, k⟩ := h
    refine ⟨_, pss_one (ps_ret (pe_and (pe_call GI hr rfl gI kI bI .nil pass0 (pa_cons (pv 0) pa_nil)) (pe_one (pe_chain op_le op_le (pv 1) (pv 0) (pv 2))))), ?_⟩
    refine ⟨_, rfl, v, rfl, _, rfl, iteT ⟨_, rfl, _, rfl, _, _, rfl, rfl, _, rfl, ?_⟩⟩
    refine ite2 (fun h1 => ⟨_, rfl, _, _, rfl, rfl, ?_⟩) (fun h1 => ?_)
    · have e1 : a ≤ v := of_decide_eq_true h1
      rw [show decide (a ≤ v ∧ v ≤ b) = decide (v ≤ b) by
        by_cases z : v ≤ b
        · rw [decide_eq_true z, decide_eq_true ⟨e1, z⟩]
        · rw [decide_eq_false z, decide_eq_false fun q => z q.2]] at k
      exact k
    · rw [show decide (a ≤ v ∧ v ≤ b) = false from decide_eq_false fun q => h1 (decide_eq_true q.1)] at k
      exact k
/-- _pieces -/
def spPieces (K : PySem.W.Frag) : Sp := fun vs H Q _ => ∃ (b : Nat) (l : List Nat) (t u : Addr), vs = [.int (b : Int), .ref t, .ref u] ∧ SqT K H t (ni l) ∧ SqT K H u (ni (N.cn l)) ∧ Cuts l ∧ ∀ H', Same H H' → Q (.int ((N.PC l b : Nat) : Int)) H'
abbrev NPc : List Str := ["body", "cuts", "counts", "pieces", "rest", "cut", "count"]
theorem scPc : FnScope NPc ["body", "cuts", "counts"] (defScope sPieces) := ⟨rfl, rfl, rfl, by decide +kernel, rfl, by decide +kernel, by decide +kernel⟩
theorem sqT_same {H H' : Hp} {a : Addr} {xs : List V} (s : Same H H') (h : SqT K H a xs) : SqT K H' a xs := h.elim (fun h => .inl (h.elim (fun h => .inl (s _ _ h)) fun ⟨o, h⟩ => .inr ⟨o, s _ _ h⟩)) .inr
theorem ok_pieces {f : Addr} {fd : FuncData} (F : Fun K "_pieces" "_pieces" sPieces f fd) (B : Bn mg) : FnOk P w K mg base CX0 1 f fd ["body", "cuts", "counts"] (spPieces K) := by
  refine F.ok scPc (fun vs H Q E h => ?_) (fun cdv A outer s H vs Q E hr h => ?_)
  · obtain ⟨b, l, t, u, rfl, _⟩ := h
    rfl
  · obtain ⟨b, l, t, u, rfl, hT, hU, hl, k⟩ := h
    refine ⟨_, pss_cons (ps_set (i := 3) scPc.nd rfl (Or.inl rfl) pe_int)
      (pss_cons (ps_set (i := 4) scPc.nd rfl (Or.inl rfl) (pv 0))
      (pss_cons (ps_for PassesOwn.never rfl (RZ.pi_zipA (by rfl) B.zip (pa_cons (pv 1) (pa_cons (pv 2) pa_nil))) (pg_tup (by rfl) (pgs_cons (pg_name (i := 5) scPc.nd rfl (.inl rfl)) (pgs_cons (pg_name (i := 6) scPc.nd rfl (.inl rfl)) pgs_nil)))
        (pss_cons (ps_set (i := 3) scPc.nd rfl (Or.inl rfl) (pe_op op_add (pv 3) (pe_op op_mul (pe_op op_fdiv (pv 4) (pv 5)) (pv 6))))
        (pss_one (ps_set (i := 4) scPc.nd rfl (Or.inl rfl) (pe_op op_mod (pv 4) (pv 5))))))
      (pss_cons (ps_if (PW.pt (pw_or (pt_cmpR op_gt (pv 4) pe_int (nomark _)) (pw_or1 (pt_cmpR op_eq (pv 0) pe_int (nomark _))))) (pss_one (ps_set (i := 3) scPc.nd rfl (Or.inl rfl) (pe_op op_add (pv 3) pe_int))) pss_nil)
      (pss_one (ps_ret (pv 3)))))), ?_⟩
    refine ⟨_, rfl, _, rfl, _, rfl, t, u, _, _, rfl, .inr ⟨hT, hU, ?_⟩⟩
    refine RZ.for_zipT (by rw [ni_len, ni_len, N.cn_len]) (fun i σ G => Same H G ∧ ∃ (p r : Nat) (q1 q2 : Option V), σ = [some (.int (b : Int)), some (.ref t), some (.ref u), some (.int (p : Int)), some (.int (r : Int)), q1, q2] ∧ p + N.sm (l.drop i) r = N.sm l b ∧ N.rem (l.drop i) r = N.rem l b)
      ⟨Same.refl H, 0, b, _, _, rfl, by rw [List.drop_zero, Nat.zero_add], by rw [List.drop_zero]⟩ (fun i σ G z => ⟨sqT_same z.1 hT, sqT_same z.1 hU⟩) ?_ ?_
    · rintro i x y T σ G hx hy ⟨s1, p, r, q1, q2, rfl, e1, e2⟩ hT0
      obtain ⟨c, hc, rfl⟩ := ni_get hx
      obtain ⟨n, hn, rfl⟩ := ni_get hy
      obtain ⟨c2, hc2, en⟩ := N.cn_at hn
      rw [hc] at hc2
      cases hc2
      have pc := hl.at hc
      have nle := N.L_le (hl.drop (i + 1)).fall pc.1
      rw [← en] at nle
      refine ⟨T, _, rfl, SqT.of upd_same, rfl, _, _, rfl, _, _, rfl, rfl, ?_⟩
      refine ⟨_, rfl, _, rfl, _, rfl, _, _, rfl, rfl, ⟨by omega, by omega⟩, _, rfl, _, _, rfl, rfl, .inr ⟨by omega, by omega⟩, _, _, rfl, rfl, ?_⟩
      refine ⟨_, rfl, _, rfl, _, _, rfl, rfl, by show (0 : Int) < (c : Int); omega, ?_⟩
      refine ⟨s1.trans (of_upd hT0), p + r / c * n, r % c, _, _, rfl, ?_, ?_⟩
      · rw [drop_at hc] at e1
        rw [N.sm_cons, ← en] at e1
        omega
      · rw [drop_at hc, N.rem_cons] at e2
        exact e2
    · rintro σ G ⟨s1, p, r, q1, q2, rfl, e1, e2⟩
      rw [ni_len, List.drop_length] at e1 e2
      rw [N.sm_nil] at e1
      rw [N.rem_nil] at e2
      have fin : ∀ z : Nat, z = N.PC l b → Q (.int (z : Int)) G := fun z e => by rw [e]; exact k G s1
      refine ⟨_, rfl, _, _, rfl, rfl, _, rfl, ite2 (fun c => ?_) (fun c => ⟨_, rfl, rfl, _, rfl, ite2 (fun d => ?_) (fun d => ?_)⟩)⟩
      · refine ⟨_, rfl, _, _, rfl, rfl, _, rfl, fin (p + 1) ?_⟩
        have c2 : (0 : Int) < (r : Int) := of_decide_eq_true c
        rw [N.PC_sm, if_pos (.inl (by omega))]
        omega
      · refine ⟨_, rfl, _, _, rfl, rfl, _, rfl, fin (p + 1) ?_⟩
        have d2 : V.int (b : Int) = V.int 0 := of_decide_eq_true d
        injection d2 with d2
        rw [N.PC_sm, if_pos (.inr (by omega))]
        omega
      · refine ⟨_, rfl, fin p ?_⟩
        have c2 : ¬ (0 : Int) < (r : Int) := fun z => c (decide_eq_true z)
        have d2 : b ≠ 0 := fun z => d (decide_eq_true (by rw [z]; rfl))
        rw [N.PC_sm, if_neg (by omega)]
        omega
end
end CP

end
section
set_option autoImplicit false
set_option Elab.async false
set_option linter.all false
set_option maxRecDepth 100000
set_option maxHeartbeats 4000000
namespace CP
open PySem L2 G Y
section
variable {P : Program} {w : World} {K : PySem.W.Frag} {mg : Str → Option Value} {base : Heap} {C : Addr}
/-- _piece_counts -/
def spCounts (K : PySem.W.Frag) : Sp := fun vs H Q _ => ∃ (l : List Nat) (t : Addr), vs = [.ref t] ∧ SqT K H t (ni l) ∧ Cuts l ∧ ∀ u H', Same H H' → H' u = some (.tup (ni (N.cn l))) → Q (.ref u) H'
theorem scCn : FnScope ["cuts", "counts", "at"] ["cuts"] (defScope sCounts) := ⟨rfl, rfl, rfl, by decide +kernel, rfl, by decide +kernel, by decide +kernel⟩
theorem ok_counts {f : Addr} {fd : FuncData} (F : Fun K "_piece_counts" "_piece_counts" sCounts f fd) (B : Bn mg) (DP : Df P w K mg base 1 "_pieces" ["body", "cuts", "counts"] (spPieces K)) : FnOk P w K mg base CX0 2 f fd ["cuts"] (spCounts K) := by
  obtain ⟨fP, fdP, GP, gP, kP, bP⟩ := DP.ex
  refine F.ok scCn (fun vs H Q E h => ?_) (fun cdv A outer s H vs Q E hr h => ?_)
  · obtain ⟨l, t, rfl, _⟩ := h
    rfl
  · obtain ⟨l, t, rfl, hT, hl, k⟩ := h
    refine ⟨_, pss_cons (ps_set (i := 1) scCn.nd rfl (Or.inl rfl) (pe_tup pa_nil))
      (pss_cons (ps_for PassesOwn.never rfl (pi_range3 (by rfl) B.range (pa_cons (pe_op op_sub (pe_callB call_len_seq (by rfl) B.len PySem.boot_len (pa_cons (pv 0) pa_nil)) pe_int) (pa_cons (pe_un un_neg pe_int) (pa_cons (pe_un un_neg pe_int) pa_nil)))) (pg_name (i := 2) scCn.nd rfl (Or.inl rfl))
        (pss_one (ps_set (i := 1) scCn.nd rfl (Or.inl rfl) (pe_tup (pa_cons (pe_call GP hr rfl gP kP bP .nil pass0 (pa_cons (pe_ix ix_tup (pv 0) (pv 2) (fun _ _ => rfl)) (pa_cons (pe_slice sl_tup (pv 0) (po_some (pe_op op_add (pv 2) pe_int)) po_none) (pa_cons (pv 1) pa_nil)))) (StX.pa_star (pv 1) pa_nil))))))
      (pss_one (ps_ret (pv 1)))), ?_⟩
    have ln := hl.len
    refine ⟨line2.2.2.2, fun u0 h0 => ?_⟩
    have s0 : Same H (upd H u0 (.tup [])) := of_upd h0
    refine ⟨_, rfl, t, _, rfl, .inr (sqT_same s0 hT), _, _, rfl, rfl, 1, rfl, 1, rfl, _, _, _, _, rfl, RgC.neg (by rw [ni_len]; omega) (by rw [ni_len]; omega) (by decide) (by decide), ?_⟩
    rw [ni_len]
    refine for_rangeC (n := ((l.length : Int) - 1 - -1).toNat) (fun i σ G => Same H G ∧ ∃ u q, σ = [some (.ref t), some (.ref u), q] ∧ G u = some (.tup (ni (N.cn (l.drop (l.length - i))))))
      ⟨s0, u0, _, rfl, by rw [Nat.sub_zero, List.drop_length]; exact upd_same⟩ ?_ ?_
    · rintro i σ G hi ⟨s1, u, q, rfl, hu⟩
      have hi2 : i < l.length := by omega
      obtain ⟨c, hc⟩ : ∃ c, l[l.length - 1 - i]? = some c := ⟨_, List.getElem?_eq_getElem (by omega)⟩
      have pc := hl.at hc
      have ei : (l.length : Int) - 1 + (i : Int) * -1 = ((l.length - 1 - i : Nat) : Int) := by omega
      have e2 : l.length - 1 - i + 1 = l.length - i := by omega
      have e3 : l.length - (i + 1) = l.length - 1 - i := by omega
      dsimp only
      rw [ei]
      refine ⟨_, rfl, _, rfl, t, _, _, _, rfl, rfl, sqT_same s1 hT, atI_nat (ni_at hc), _, rfl, _, rfl, _, _, rfl, rfl, _, rfl, t, _, rfl, sqT_same s1 hT, ?_, fun a ha => ?_⟩
      · intro z
        have e4 : ((l.length - 1 - i : Nat) : Int) + 1 = ((l.length - i : Nat) : Int) := by omega
        rw [e4] at z
        exact six_pos (by omega) (by rw [ni_len]; omega) 0 z.1
      have e4 : cutV (ni l) (some (((l.length - 1 - i : Nat) : Int) + 1)) none = ni (l.drop (l.length - i)) := by
        rw [show ((l.length - 1 - i : Nat) : Int) + 1 = ((l.length - i : Nat) : Int) by omega, cut_from, ni_drop]
      rw [e4]
      have s2 : Same G (upd G a (.tup (ni (l.drop (l.length - i))))) := of_upd ha
      refine ⟨_, rfl, c, l.drop (l.length - i), a, u, rfl, SqT.of upd_same, SqT.of (s2 _ _ hu), hl.drop _, fun G2 s3 => ?_⟩
      have hu2 := s3 _ _ (s2 _ _ hu)
      refine ⟨_, rfl, u, _, rfl, .inl (SqT.of hu2), ?_, fun v hv => ?_⟩
      · rw [List.append_nil]
        show (ni (N.cn (l.drop (l.length - i)))).length + 1 ≤ sizeLine
        rw [ni_len, N.cn_len, List.length_drop]
        exact Nat.le_trans (show l.length - (l.length - i) + 1 ≤ 1001 by omega) (by decide)
      · refine ⟨(s1.trans s2).trans (s3.trans (of_upd hv)), v, _, rfl, ?_⟩
        rw [upd_same, e3, drop_at hc, e2, List.append_nil]
        have e5 : N.PC (l.drop (l.length - i)) c = N.L (l.drop (l.length - i)) c := if_neg (by omega)
        rw [e5]
        rfl
    · rintro σ G ⟨s1, u, q, rfl, hu⟩
      rw [show l.length - ((l.length : Int) - 1 - -1).toNat = 0 by omega, List.drop_zero] at hu
      exact ⟨_, rfl, k u G s1 hu⟩
/-- _are_cuts of cuts -/
def spAre : Sp := fun vs H Q _ => ∃ (l : List Nat) (t : Addr), vs = [.ref t] ∧ SAt H t (ni l) ∧ Cuts l ∧ ∀ H', Same H H' → Q (.bl true) H'
theorem scAre : FnScope ["value", "before", "cut"] ["value"] (defScope sAreCuts) := ⟨rfl, rfl, rfl, by decide +kernel, rfl, by decide +kernel, by decide +kernel⟩
theorem ok_are {f : Addr} {fd : FuncData} (F : Fun K "_are_cuts" "_are_cuts" sAreCuts f fd) (B : Bn mg) (gC : ∃ t, mg "GREATEST_CUT" = some (.int 1000 t)) (DW : Df P w K mg base 2 "is_within" ["value", "least", "greatest"] spWithin) : FnOk P w K mg base CX0 3 f fd ["value"] spAre := by
  obtain ⟨fW, fdW, GW, gW, kW, bW⟩ := DW.ex
  obtain ⟨tkC, gC⟩ := gC
  refine F.ok scAre (fun vs H Q E h => ?_) (fun cdv A outer s H vs Q E hr h => ?_)
  · obtain ⟨l, t, rfl, _⟩ := h
    rfl
  · obtain ⟨l, t, rfl, hT, hl, k⟩ := h
    refine ⟨_, pss_cons (ps_if (pt_not (pt_val (pe_callB call_isiT (by rfl) B.isi (by decide +kernel) (pa_cons (pv 0) (pa_cons (pe_tup (pa_cons (pe_bltn (v := .ty "list") (by rfl) B.list (by decide +kernel) rfl) (pa_cons (pe_bltn (v := .ty "tuple") (by rfl) B.tuple (by decide +kernel) rfl) pa_nil))) pa_nil))))) ps_dead pss_nil)
      (pss_cons (ps_set (i := 1) scAre.nd rfl (Or.inl rfl) (pe_op op_add (pe_glob (v := .int 1000) rfl gC ⟨_, rfl⟩) pe_int))
      (pss_cons (ps_for PassesOwn.never rfl (pi_or (pi_list (pv 0)) (pi_tup (pv 0))) (pg_name (i := 2) scAre.nd rfl (Or.inl rfl))
        (pss_cons (ps_if (pt_not (pt_val (pe_call GW hr rfl gW kW bW .nil pass0 (pa_cons (pv 2) (pa_cons pe_int (pa_cons (pe_op op_sub (pv 1) pe_int) pa_nil)))))) ps_dead pss_nil)
        (pss_one (ps_set (i := 1) scAre.nd rfl (Or.inl rfl) (pv 2)))))
      (pss_one (ps_ret pe_bl)))), ?_⟩
    refine ⟨_, rfl, line2.1, fun p hp => ?_⟩
    have sp : Same H (upd H p (.tup [.ty "list", .ty "tuple"])) := of_upd hp
    have hT2 := hT.mono sp
    have rest : (tSeq (tAsg (tOp (rI0 fun i j => .int (i + j)) (tC (.int 1000)) (tC (.int 1))) (gName 1)) (tSeq (tFor (fun σ H R => iList K (tVar 0) σ H R ∨ iTup K (tVar 0) σ H R) (gName 2) (tSeq (tIfS (tNot (tB (tCall spWithin [] E0 (tCons (tVar 2) (tCons (tC (.int 1)) (tCons (tOp (rI0 fun i j => .int (i - j)) (tVar 1) (tC (.int 1))) tNil)))))) tDead tNext) (tAsg (tVar 2) (gName 1)))) (tRet (tC (.bl true)))))
        { nx := fun _ H' => Q .non H', rt := Q } [some (.ref t), none, none] (upd H p (.tup [.ty "list", .ty "tuple"])) := by
      refine ⟨_, _, rfl, rfl, ?_⟩
      refine or_seq (fun Q2 h => ⟨_, rfl, h⟩) hT2 fun J Gd hG wk => ?_
      refine for_it wk (fun i σ G => Same H G ∧ Same (upd H p (.tup [.ty "list", .ty "tuple"])) G ∧ ∃ (b : Int) (q : Option V), σ = [some (.ref t), some (.int b), q] ∧ ∀ c ∈ l.drop i, (c : Int) < b)
        ⟨sp, Same.refl _, 1001, _, rfl, fun c hc => by have := hl.le c (List.mem_of_mem_drop hc); omega⟩ (fun i σ G _ z => hG G z.2.1) ?_ ?_
      · rintro i x σ G G' hi ⟨s1, s2, b, q, rfl, hb⟩ ⟨rfl, hx⟩
        obtain ⟨c, hc, rfl⟩ := ni_get hx
        have pc := hl.at hc
        have lt := hb c (by rw [drop_at hc]; exact List.mem_cons_self)
        have fl := (hl.drop i).fall
        rw [drop_at hc] at fl
        dsimp only
        refine ⟨_, rfl, _, rfl, _, _, rfl, rfl, (c : Int), 1, b - 1, rfl, ?_⟩
        rw [decide_eq_true (by omega)]
        exact ⟨_, rfl, iteF ⟨_, rfl, s1, s2, (c : Int), _, rfl, fun d hd => by have := fl.2.1 d hd; omega⟩⟩
      · rintro σ G ⟨s1, s2, b, q, rfl, hb⟩
        exact k G s1
    have kl : PySem.W.kitAny K (.type "list") [.type "list", .type "tuple"] = some true := by
      unfold PySem.W.kitAny
      rw [kit_ty (r := true) (by decide +kernel)]
    have kt : PySem.W.kitAny K (.type "tuple") [.type "list", .type "tuple"] = some true := by
      unfold PySem.W.kitAny
      rw [kit_ty (r := false) (by decide +kernel)]
      unfold PySem.W.kitAny
      rw [kit_ty (r := true) (by decide +kernel)]
    rcases hT2 with e | e
    · exact ⟨_, p, _, _, _, _, rfl, upd_same, .cons (.ty _) (.cons (.ty _) .nil), .base (.lst e), kl, _, rfl, iteF rest⟩
    · exact ⟨_, p, _, _, _, _, rfl, upd_same, .cons (.ty _) (.cons (.ty _) .nil), .base (.tup e), kt, _, rfl, iteF rest⟩
end
end CP

end
section
set_option autoImplicit false
set_option Elab.async false
set_option linter.all false
set_option maxRecDepth 100000
set_option maxHeartbeats 4000000
namespace CP
open PySem L2 G Y
theorem nk : ¬ (("cuts" : Str) = "_counts") := by decide +kernel
def cfl (t u : Addr) : List (Str × V) := putF "_counts" (.ref u) (putF "cuts" (.ref t) [])
theorem cfl_cuts (t u : Addr) : (cfl t u).lookup ("cuts" : Str) = some (.ref t) := by
  unfold cfl
  rw [lookup_putF, if_neg nk, lookup_putF, if_pos rfl]
theorem cfl_counts (t u : Addr) : (cfl t u).lookup ("_counts" : Str) = some (.ref u) := by
  unfold cfl
  rw [lookup_putF, if_pos rfl]
/-- a chain stands at a -/
def ChAt (C : Addr) (H : Hp) (l : List Nat) (a : Addr) : Prop := ∃ dx t u, H a = some (.ins C dx (cfl t u)) ∧ H t = some (.tup (ni l)) ∧ H u = some (.tup (ni (N.cn l)))
theorem ChAt.mono {C : Addr} {H H' : Hp} (s : Same H H') {l : List Nat} {a : Addr} (h : ChAt C H l a) : ChAt C H' l a := by
  obtain ⟨dx, t, u, h1, h2, h3⟩ := h
  exact ⟨dx, t, u, s _ _ h1, s _ _ h2, s _ _ h3⟩
structure Ct (K : PySem.W.Frag) (mg : Str → Option Value) (C : Addr) : Prop where
  g : mg "Chain" = some (.ref C)
  cl : Cls K C
  nC : NoAttr K C "cuts"
  nK : NoAttr K C "_counts"
section
variable {P : Program} {w : World} {K : PySem.W.Frag} {mg : Str → Option Value} {base : Heap} {C : Addr}
def spCInit (C : Addr) : Sp := fun vs H Q _ => ∃ (x l dx : Addr) (cs : List Nat) (H0 : Hp), vs = [.ref x, .ref l] ∧ H x = some (.ins C dx []) ∧ H0 x = none ∧ Same H0 H ∧ SAt H0 l (ni cs) ∧ Cuts cs ∧ ∀ H', Same H0 H' → ChAt C H' cs x → Q .non H'
theorem scCI : FnScope ["self", "cuts"] ["self", "cuts"] (defScope sCInit) := ⟨rfl, rfl, rfl, by decide +kernel, rfl, by decide +kernel, by decide +kernel⟩
theorem ok_cinit {f : Addr} {fd : FuncData} (F : Fun K "__init__" "Chain.__init__" sCInit f fd) (B : Bn mg) (T : Ct K mg C) (DA : Df P w K mg base 3 "_are_cuts" ["value"] spAre) (DC : Df P w K mg base 2 "_piece_counts" ["cuts"] (spCounts K)) : FnOk P w K mg base CX0 4 f fd ["self", "cuts"] (spCInit C) := by
  obtain ⟨fA, fdA, GA, gA, kA, bA⟩ := DA.ex
  obtain ⟨fC, fdC, GC, gC, kC, bC⟩ := DC.ex
  refine F.ok scCI (fun vs H Q E h => ?_) (fun cdv A outer s H vs Q E hr h => ?_)
  · obtain ⟨x, l, dx, cs, H0, rfl, _⟩ := h
    rfl
  · obtain ⟨x, l, dx, cs, H0, rfl, hx, hx0, s0, hl, hc, k⟩ := h
    refine ⟨_, pss_cons (ps_if (pt_not (pt_val (pe_call GA hr rfl gA kA bA .nil pass0 (pa_cons (pv 1) pa_nil)))) ps_dead pss_nil)
      (pss_cons (ps_fld (pv 0) (pe_callTy call_tuple_of (by rfl) B.tuple (by decide +kernel) (pa_cons (pv 1) pa_nil)) rfl)
      (pss_one (ps_fld (pv 0) (pe_call GC (hr.mono (by decide)) rfl gC kC bC .nil pass0 (pa_cons (pe_fld (pv 0) rfl) pa_nil)) rfl))), ?_⟩
    refine ⟨_, rfl, cs, l, rfl, hl.mono s0, hc, fun G1 s1 => ⟨_, rfl, iteF ?_⟩⟩
    have s01 := s0.trans s1
    have hx1 := s1 _ _ hx
    have fin : ∀ (t : Addr) (G2 : Hp), Same G1 G2 → G2 t = some (.tup (ni cs)) → sFld K (tVar 0) (tC (.ref t)) "cuts" { nx := fun σ H => sFld K (tVar 0) (tCall (spCounts K) [] E0 (tCons (tFld K (tVar 0) "cuts") tNil)) "_counts" { nx := fun _ H' => Q .non H', rt := Q } σ H, rt := Q } [some (.ref x), some (.ref l)] G2 := fun t G2 s2 ht => by
      have hx2 := s2 _ _ hx1
      have s02 := s01.trans s2
      have tx : t ≠ x := fun z => by
        rw [z, hx2] at ht
        cases ht
      refine ⟨_, rfl, x, C, dx, _, rfl, hx2, T.cl, T.nC, by decide, ?_⟩
      have s3 : Same H0 (upd G2 x (.ins C dx (putF "cuts" (.ref t) []))) := add_upd hx0 s02
      have ht3 : (upd G2 x (.ins C dx (putF "cuts" (.ref t) []))) t = some (.tup (ni cs)) := by rw [upd_ne tx]; exact ht
      refine ⟨_, rfl, x, C, dx, _, _, rfl, upd_same, T.cl, T.nC, by rw [lookup_putF, if_pos rfl], cs, t, rfl, SqT.of ht3, hc, fun u G3 s4 hu => ?_⟩
      refine ⟨_, rfl, x, C, dx, _, rfl, s4 _ _ upd_same, T.cl, T.nK, len_put (by decide), ?_⟩
      have ux : u ≠ x := fun z => by
        rw [z, s4 _ _ upd_same] at hu
        cases hu
      refine k _ (add_upd hx0 (s3.trans s4)) ⟨dx, t, u, upd_same, ?_, ?_⟩
      · rw [upd_ne tx]
        exact s4 _ _ ht3
      · rw [upd_ne ux]
        exact hu
    rcases (hl.mono s0).mono s1 with e | e
    · exact ⟨_, rfl, l, _, rfl, .inl ⟨SqL.of e, fun t nt => fin t _ (of_upd nt) upd_same⟩⟩
    · exact ⟨_, rfl, l, _, rfl, .inr ⟨SqT.of e, fin l _ (Same.refl _) e⟩⟩
/-- Chain(cuts) -/
theorem made_ch {H : Hp} {Z : VK} {E : XK} {l x dx : Addr} {cs : List Nat} (hx : H x = none) (hdx : H dx = none) (ne : dx ≠ x) (hl : SAt H l (ni cs)) (hc : Cuts cs) (k : ∀ H', Same H H' → ChAt C H' cs x → Z .non H') :
    spCInit C (.ref x :: ([.ref l] ++ [])) (upd (upd H dx (.own x)) x (.ins C dx [])) Z E :=
  ⟨x, l, dx, cs, H, rfl, upd_same, hx, (of_upd hdx).trans (of_upd (by rw [upd_ne ne.symm]; exact hx)), hl, hc, k⟩
/-- pieces -/
def spCPieces (C : Addr) : Sp := fun vs H Q _ => ∃ (a : Addr) (b : Nat) (cs : List Nat), vs = [.ref a, .int (b : Int)] ∧ ChAt C H cs a ∧ Cuts cs ∧ ∀ H', Same H H' → Q (.int ((N.PC cs b : Nat) : Int)) H'
theorem scCP : FnScope ["self", "body"] ["self", "body"] (defScope sCPieces) := ⟨rfl, rfl, rfl, by decide +kernel, rfl, by decide +kernel, by decide +kernel⟩
theorem ok_cpieces {f : Addr} {fd : FuncData} (F : Fun K "pieces" "Chain.pieces" sCPieces f fd) (T : Ct K mg C) (DP : Df P w K mg base 1 "_pieces" ["body", "cuts", "counts"] (spPieces K)) : FnOk P w K mg base CX0 2 f fd ["self", "body"] (spCPieces C) := by
  obtain ⟨fP, fdP, GP, gP, kP, bP⟩ := DP.ex
  refine F.ok scCP (fun vs H Q E h => ?_) (fun cdv A outer s H vs Q E hr h => ?_)
  · obtain ⟨a, b, cs, rfl, _⟩ := h
    rfl
  · obtain ⟨a, b, cs, rfl, ⟨dx, t, u, h1, h2, h3⟩, hc, k⟩ := h
    exact ⟨_, pss_one (ps_ret (pe_call GP hr rfl gP kP bP .nil pass0 (pa_cons (pv 1) (pa_cons (pe_fld (pv 0) rfl) (pa_cons (pe_fld (pv 0) rfl) pa_nil))))), _, rfl, _, rfl, a, C, dx, _, _, rfl, h1, T.cl, T.nC, cfl_cuts t u, _, rfl, a, C, dx, _, _, rfl, h1, T.cl, T.nK, cfl_counts t u, b, cs, t, u, rfl, SqT.of h2, SqT.of h3, hc, k⟩
/-- digits -/
def spCDigits (C : Addr) : Sp := fun vs H Q _ => ∃ (a : Addr) (p : Nat) (cs : List Nat), vs = [.ref a, .int (p : Int)] ∧ ChAt C H cs a ∧ Cuts cs ∧ ∀ t H', Same H H' → H' t = some (.tup (ni (N.dig cs p))) → Q (.ref t) H'
theorem scCD : FnScope ["self", "place", "told", "rest", "cut"] ["self", "place"] (defScope sCDigits) := ⟨rfl, rfl, rfl, by decide +kernel, rfl, by decide +kernel, by decide +kernel⟩
theorem ok_cdigits {f : Addr} {fd : FuncData} (F : Fun K "digits" "Chain.digits" sCDigits f fd) (T : Ct K mg C) : FnOk P w K mg base CX0 1 f fd ["self", "place"] (spCDigits C) := by
  refine F.ok scCD (fun vs H Q E h => ?_) (fun cdv A outer s H vs Q E hr h => ?_)
  · obtain ⟨a, p, cs, rfl, _⟩ := h
    rfl
  · obtain ⟨a, p, cs, rfl, ⟨dx, t, u, h1, h2, h3⟩, hc, k⟩ := h
    refine ⟨_, pss_cons (ps_set (i := 2) scCD.nd rfl (Or.inl rfl) (pe_lst pa_nil))
      (pss_cons (ps_set (i := 3) scCD.nd rfl (Or.inl rfl) (pv 1))
      (pss_cons (ps_for PassesOwn.never rfl (pi_tup (pe_fld (pv 0) rfl)) (pg_name (i := 4) scCD.nd rfl (Or.inl rfl))
        (pss_cons (ps_expr (pe_bm PySem.F.plainAttrs_list PySem.F.slot_list_append PySem.F.type_list_append mt_append (pv 2) (pa_cons (pe_op op_fdiv (pv 3) (pv 4)) pa_nil)))
        (pss_one (ps_set (i := 3) scCD.nd rfl (Or.inl rfl) (pe_op op_mod (pv 3) (pv 4))))))
      (pss_one (ps_ret (pe_tup (StX.pa_star (pv 2) (pa_cons (pv 3) pa_nil))))))), ?_⟩
    have ln := hc.len
    refine ⟨line2.2.2.2, fun D hD => ?_⟩
    have s0 : Same H (upd H D (.lst [])) := of_upd hD
    refine ⟨_, rfl, _, rfl, a, C, dx, _, _, rfl, s0 _ _ h1, T.cl, T.nC, cfl_cuts t u, ?_⟩
    refine ⟨t, rfl, ⟨_, SqT.of (s0 _ _ h2)⟩, for_it walk_tup (fun i σ G => Same H G ∧ ∃ (ds : List Nat) (r : Nat) (q : Option V), σ = [some (.ref a), some (.int (p : Int)), some (.ref D), some (.int (r : Int)), q] ∧ G D = some (.lst (ni ds)) ∧ ds.length = i ∧ ds ++ N.dig (cs.drop i) r = N.dig cs p)
      ⟨s0, [], p, _, rfl, upd_same, rfl, rfl⟩ (fun i σ G _ z => SqT.of (z.1 _ _ h2)) ?_ ?_⟩
    · rintro i x σ G G' hi ⟨s1, ds, r, q, rfl, hG, hd, ed⟩ ⟨rfl, hx⟩
      obtain ⟨c, hcc, rfl⟩ := ni_get hx
      have pc := hc.at hcc
      rw [ni_len] at hi
      dsimp only
      refine ⟨_, rfl, .inl ⟨rfl, _, SqL.of hG⟩, _, rfl, _, rfl, _, _, rfl, rfl, ⟨by omega, by omega⟩, D, _, _, rfl, rfl, hG, by rw [ni_len]; exact small1000 (by omega), ?_⟩
      refine ⟨_, rfl, _, rfl, _, _, rfl, rfl, by show (0 : Int) < (c : Int); omega, ?_⟩
      refine ⟨add_upd hD s1, ds ++ [r / c], r % c, _, rfl, ?_, by simp; exact hd, ?_⟩
      · rw [upd_same, ni_app]
        rfl
      · rw [drop_at hcc] at ed
        rw [List.append_assoc]
        exact ed
    · rintro σ G ⟨s1, ds, r, q, rfl, hG, hd, ed⟩
      rw [ni_len, List.drop_length] at ed
      refine ⟨_, rfl, D, _, rfl, .inr (SqL.of hG), _, rfl, ?_, fun v hv => ?_⟩
      · rw [ni_len] at hd
        rw [List.length_append, ni_len]
        exact Nat.le_trans (show ds.length + 1 ≤ 1001 by omega) (by decide)
      · refine k v _ (s1.trans (of_upd hv)) ?_
        rw [upd_same, ← ed, ni_app]
        rfl
/-- _boundary -/
def spCBound (C : Addr) : Sp := fun vs H Q _ => ∃ (a : Addr) (n : Nat) (cs : List Nat), vs = [.ref a, .int (n : Int)] ∧ ChAt C H cs a ∧ Cuts cs ∧ ∀ H', Same H H' → Q (.int ((N.B cs n : Nat) : Int)) H'
abbrev NBo : List Str := ["self", "number", "place", "rest", "cut", "count"]
theorem scCB : FnScope NBo ["self", "number"] (defScope sCBoundary) := ⟨rfl, rfl, rfl, by decide +kernel, rfl, by decide +kernel, by decide +kernel⟩
theorem ok_cbound {f : Addr} {fd : FuncData} (F : Fun K "_boundary" "Chain._boundary" sCBoundary f fd) (B : Bn mg) (T : Ct K mg C) : FnOk P w K mg base CX0 1 f fd ["self", "number"] (spCBound C) := by
  refine F.ok scCB (fun vs H Q E h => ?_) (fun cdv A outer s H vs Q E hr h => ?_)
  · obtain ⟨a, n, cs, rfl, _⟩ := h
    rfl
  · obtain ⟨a, n, cs, rfl, ⟨dx, t, u, h1, h2, h3⟩, hl, k⟩ := h
    refine ⟨_, pss_cons (ps_set (i := 2) scCB.nd rfl (Or.inl rfl) pe_int)
      (pss_cons (ps_set (i := 3) scCB.nd rfl (Or.inl rfl) (pv 1))
      (pss_cons (ps_for PassesOwn.never rfl (RZ.pi_zipA (by rfl) B.zip (pa_cons (pe_fld (pv 0) rfl) (pa_cons (pe_fld (pv 0) rfl) pa_nil))) (pg_tup (by rfl) (pgs_cons (pg_name (i := 4) scCB.nd rfl (.inl rfl)) (pgs_cons (pg_name (i := 5) scCB.nd rfl (.inl rfl)) pgs_nil)))
        (pss_cons (ps_set (i := 2) scCB.nd rfl (Or.inl rfl) (pe_op op_add (pv 2) (pe_op op_mul (pe_op op_fdiv (pv 3) (pv 5)) (pv 4))))
        (pss_one (ps_set (i := 3) scCB.nd rfl (Or.inl rfl) (pe_op op_mod (pv 3) (pv 5))))))
      (pss_one (ps_ret (pv 2))))), ?_⟩
    refine ⟨_, rfl, _, rfl, a, C, dx, _, _, rfl, h1, T.cl, T.nC, cfl_cuts t u, _, rfl, a, C, dx, _, _, rfl, h1, T.cl, T.nK, cfl_counts t u, t, u, _, _, rfl, .inr ⟨SqT.of h2, SqT.of h3, ?_⟩⟩
    refine RZ.for_zipT (by rw [ni_len, ni_len, N.cn_len]) (fun i σ G => Same H G ∧ ∃ (p r : Nat) (q1 q2 : Option V), σ = [some (.ref a), some (.int (n : Int)), some (.int (p : Int)), some (.int (r : Int)), q1, q2] ∧ p + N.B (cs.drop i) r = N.B cs n)
      ⟨Same.refl H, 0, n, _, _, rfl, by rw [List.drop_zero, Nat.zero_add]⟩ (fun i σ G z => ⟨SqT.of (z.1 _ _ h2), SqT.of (z.1 _ _ h3)⟩) ?_ ?_
    · rintro i x y Tt σ G hx hy ⟨s1, p, r, q1, q2, rfl, e1⟩ hT0
      obtain ⟨c, hc, rfl⟩ := ni_get hx
      obtain ⟨m, hn, rfl⟩ := ni_get hy
      obtain ⟨c2, hc2, en⟩ := N.cn_at hn
      rw [hc] at hc2
      cases hc2
      have pc := hl.at hc
      have nle := N.L_le (hl.drop (i + 1)).fall pc.1
      have npos := N.L_pos (cs.drop (i + 1)) (hl.drop (i + 1)).fall c pc.1
      rw [← en] at nle npos
      refine ⟨Tt, _, rfl, SqT.of upd_same, rfl, _, _, rfl, _, _, rfl, rfl, ?_⟩
      refine ⟨_, rfl, _, rfl, _, rfl, _, _, rfl, rfl, ⟨by omega, by omega⟩, _, rfl, _, _, rfl, rfl, .inr ⟨by omega, by omega⟩, _, _, rfl, rfl, ?_⟩
      refine ⟨_, rfl, _, rfl, _, _, rfl, rfl, by show (0 : Int) < (m : Int); omega, ?_⟩
      refine ⟨s1.trans (of_upd hT0), p + r / m * c, r % m, _, _, rfl, ?_⟩
      rw [drop_at hc, N.B_cons, ← en] at e1
      omega
    · rintro σ G ⟨s1, p, r, q1, q2, rfl, e1⟩
      rw [ni_len, List.drop_length] at e1
      have e2 : p = N.B cs n := e1
      rw [← e2] at k
      exact ⟨_, rfl, k G s1⟩
end
end CP

end
section
set_option Elab.async false
set_option linter.all false
set_option maxRecDepth 100000
set_option maxHeartbeats 4000000
/-! ## max of a list of ints, with and without default= -/
namespace G
open PySem PySem.Spec PyProof.Rows L2 PySem.W
theorem ints_reads {h : Heap} : ∀ {ns : List Int} {us : List Value}, Vals (ns.map V.int) us → ReadsAll h us (ns.map PyData.int) []
  | [], _, r => by cases r; exact .nil
  | n :: ns, _, r => by
    cases r with
    | cons a b =>
      obtain ⟨t, rfl⟩ := a
      exact .cons (as := []) (bs := []) (.int n t) (ints_reads b)
theorem ints_alike : ∀ ns : List Int, AlikeAll (ns.map PyData.int) := by
  intro ns
  refine ⟨fun x hx y hy => ?_, fun x hx => ?_⟩
  · obtain ⟨a, _, rfl⟩ := List.mem_map.mp hx
    obtain ⟨b, _, rfl⟩ := List.mem_map.mp hy
    rfl
  · obtain ⟨a, _, rfl⟩ := List.mem_map.mp hx
    intro z
    cases z
theorem ints_depth : ∀ ns : List Int, PyData.depthAll (ns.map PyData.int) = 0
  | [] => by simp only [List.map_nil, PyData.depthAll]
  | n :: ns => by simp only [List.map_cons, PyData.depthAll, PyData.depth, ints_depth ns, Nat.max_self]
theorem int_reads {h : Heap} {v : Value} {n : Int} {bs : List Addr} (r : Reads h v (.int n) bs) : RelV (.int n) v := by
  cases r
  exact ⟨_, rfl⟩
def rMaxID (K : PySem.W.Frag) : List V → List V → Hp → VK → Prop := fun xs zs H Q => ∃ (a : Addr) (ns : List Int) (d : Int), xs = [.ref a] ∧ zs = [.int d] ∧ SqL K H a (ns.map V.int) ∧ Q (.int (match ns with | [] => d | n :: r => r.foldl max n)) H
section
variable {X : Cx}
theorem call_maxID (hc : X.calm = true) (hu : X.A.units + 64 < cLine) : CallRK X (.builtin "max") ["default"] (rMaxID X.K) := by
  intro pins s σ H xs zs us ws Q I r rz h
  obtain ⟨a, ns, d, rfl, rfl, hL, q⟩ := h
  cases r with
  | cons rx rr =>
    cases rr
    cases rx
    cases rz with
    | cons ra rb =>
      cases rb
      obtain ⟨td, rfl⟩ := ra
      obtain ⟨its, rv, pl, _⟩ := I.list hL
      have hr := ints_reads (h := s.heap) rv
      refine max_list_default (xs := ns.map .int) (d := .int d td) (I.ok.hd hc) pl.isList (by simpa using hr) (ints_alike ns) (by rw [ints_depth]; omega) (fun e h' tk k => ?_) fun y ys i v h' tk bs e hv hR k => ?_
      · cases ns with
        | nil => exact ⟨.int d, H, I.kept (t' := tk) k, ⟨td, rfl⟩, q⟩
        | cons n r => cases e
      · cases ns with
        | nil => cases e
        | cons n r =>
          injection e with e1 e2
          subst e1 e2
          rw [maxD_ints] at hR
          exact ⟨.int _, H, I.kept (t' := tk) k, int_reads hR, q⟩
end
end G

end
section
set_option autoImplicit false
/-! ## ways and what becomes of letters: a mirror, and that a lesser body fares no worse -/
namespace M
inductive LW where
  | cut | tell | drop
  deriving DecidableEq
inductive TW where
  | turn | keep | lose
  deriving DecidableEq
mutual
inductive Way where
  | mk (head : Nat) (steps : List Step)
inductive Step where
  | road (size : Nat) (tellS : Bool) (loose : LW)
  | join (most : Nat)
  | tunnel (w : Way) (most : Nat) (t : TW)
end
def Way.head : Way → Nat
  | .mk h _ => h
def Way.steps : Way → List Step
  | .mk _ s => s
inductive Fate where
  | comes (l : List Nat)
  | told (size : Int) (place : List Nat)
  | silent (place : List Nat)
  deriving DecidableEq
/-- what a step makes of stretches; an end as it is seen from the step -/
def parts (c x : Nat) : List Nat := (List.range ((x + c - 1) / c)).map fun k => min c (x - k * c)
def cutAll (c : Nat) (l : List Nat) : List Nat := l.flatMap (parts c)
def road (h size : Nat) (tellS : Bool) (lw : LW) (sealed : Bool) (l : List Nat) : Fate :=
  if ∀ x ∈ l, x ≤ size - h then .comes l
  else if sealed then (if tellS then .told size [] else .silent [])
  else match lw with
    | .cut => .comes (cutAll (size - h) l)
    | .tell => .told size []
    | .drop => .silent []
def join (most : Nat) (l : List Nat) : Fate := if l.length > most then .silent [] else .comes [l.sum]
def turned (ih : Nat) (t : TW) : Fate → Fate
  | .told s p => if t = .turn then .told (s - ih) p else .silent p
  | .silent p => .silent p
  | .comes _ => .silent []
def seen (i : Nat) : Fate → Fate
  | .told s p => .told s (i :: p)
  | .silent p => .silent (i :: p)
  | .comes l => .comes l
/-- the tunnel, by what the inner way makes of each stretch -/
def tunnel (inner : Nat → Fate) (ih most : Nat) (t : TW) (l : List Nat) : List Nat → Fate
  | [] => .comes l
  | x :: r => match inner x with
    | .comes m => if m.length > most then .silent [] else tunnel inner ih most t l r
    | f => turned ih t f
mutual
def Way.walk (sealed : Bool) : Way → Nat → Fate
  | .mk h steps, b => Way.from sealed h steps 0 [b]
def Way.from (sealed : Bool) (h : Nat) : List Step → Nat → List Nat → Fate
  | [], _, l => .comes l
  | s :: r, i, l => match Step.does sealed h s l with
    | .comes m => Way.from sealed h r (i + 1) m
    | f => seen i f
def Step.does (sealed : Bool) (h : Nat) : Step → List Nat → Fate
  | .road size ts lw, l => road h size ts lw sealed l
  | .join most, l => join most l
  | .tunnel w most t, l => tunnel (fun x => Way.walk sealed w (h + x)) w.head most t l l
end
/-! ### truncation -/
def tr : List Nat → Nat → List Nat
  | _, 0 => []
  | [], _ + 1 => []
  | x :: l, b + 1 => if b + 1 ≤ x then [b + 1] else x :: tr l (b + 1 - x)
theorem tr_zero (l : List Nat) : tr l 0 = [] := by cases l <;> rfl
theorem tr_cons {x b : Nat} {l : List Nat} (hb : 0 < b) : tr (x :: l) b = if b ≤ x then [b] else x :: tr l (b - x) := by
  cases b with
  | zero => omega
  | succ b => rfl
theorem tr_nil (b : Nat) : tr [] b = [] := by cases b <;> rfl
theorem tr_mem : ∀ (l : List Nat) (b x : Nat), x ∈ tr l b → ∃ y ∈ l, x ≤ y
  | [], b, x, h => by rw [tr_nil] at h; cases h
  | y :: l, b, x, h => by
    by_cases hb : 0 < b
    · rw [tr_cons hb] at h
      split at h
      · rename_i hy
        have e : x = b := by simpa using h
        exact ⟨y, List.mem_cons_self, by omega⟩
      · rcases List.mem_cons.mp h with e | e
        · exact ⟨y, List.mem_cons_self, by omega⟩
        · obtain ⟨z, hz, hx⟩ := tr_mem l _ x e
          exact ⟨z, List.mem_cons_of_mem _ hz, hx⟩
    · have e : b = 0 := by omega
      subst e
      rw [tr_zero] at h
      cases h
theorem tr_len : ∀ (l : List Nat) (b : Nat), (tr l b).length ≤ l.length
  | [], b => by rw [tr_nil]; exact Nat.le_refl _
  | y :: l, b => by
    by_cases hb : 0 < b
    · rw [tr_cons hb]
      split
      · simp
      · have := tr_len l (b - y)
        simp; omega
    · have e : b = 0 := by omega
      subst e
      rw [tr_zero]; simp
theorem tr_sum : ∀ (l : List Nat) (b : Nat), b ≤ l.sum → (tr l b).sum = b
  | [], b, h => by rw [tr_nil]; simp at h ⊢; omega
  | y :: l, b, h => by
    by_cases hb : 0 < b
    · rw [tr_cons hb]
      split
      · simp
      · simp at h ⊢
        have := tr_sum l (b - y) (by omega)
        omega
    · have e : b = 0 := by omega
      subst e
      rw [tr_zero]; rfl
theorem tr_all {l : List Nat} (h : ∀ x ∈ l, 0 < x) : tr l l.sum = l := by
  induction l with
  | nil => rfl
  | cons x l ih =>
    have hx := h x List.mem_cons_self
    rw [tr_cons (by simp; omega)]
    cases l with
    | nil => simp
    | cons y r =>
      have hy := h y (by simp)
      rw [if_neg (by simp; omega)]
      have e : (x :: y :: r).sum - x = (y :: r).sum := by simp
      rw [e, ih fun z hz => h z (List.mem_cons_of_mem _ hz)]
theorem tr_append : ∀ (l m : List Nat) (b : Nat), tr (l ++ m) b = if b ≤ l.sum then tr l b else l ++ tr m (b - l.sum)
  | [], m, b => by
    cases b with
    | zero => simp [tr_zero]
    | succ b => simp
  | x :: l, m, b => by
    by_cases hb : 0 < b
    · rw [List.cons_append, tr_cons hb, tr_cons hb, tr_append l m (b - x), List.sum_cons]
      by_cases h1 : b ≤ x
      · rw [if_pos h1, if_pos (by omega), if_pos h1]
      · rw [if_neg h1, if_neg h1]
        by_cases h2 : b ≤ x + l.sum
        · rw [if_pos (by omega), if_pos h2]
        · rw [if_neg (by omega), if_neg h2]
          have e : b - x - l.sum = b - (x + l.sum) := by omega
          rw [e]; rfl
    · have e : b = 0 := by omega
      subst e
      simp [tr_zero]
/-! ### cutting -/
theorem parts_small {c x : Nat} (h0 : 0 < x) (h : x ≤ c) : parts c x = [x] := by
  unfold parts
  have e : (x + c - 1) / c = 1 := by
    have e1 : x + c - 1 = (x - 1) + c * 1 := by omega
    rw [e1, Nat.add_mul_div_left _ _ (by omega : 0 < c), Nat.div_eq_of_lt (by omega)]
  rw [e]
  show [min c (x - 0 * c)] = [x]
  rw [Nat.zero_mul, Nat.sub_zero, Nat.min_eq_right h]
theorem parts_more {c x : Nat} (hc : 0 < c) (h : c < x) : parts c x = c :: parts c (x - c) := by
  unfold parts
  have e : (x + c - 1) / c = (x - c + c - 1) / c + 1 := by
    have e1 : x + c - 1 = (x - c + c - 1) + c * 1 := by omega
    rw [e1, Nat.add_mul_div_left _ _ hc]
  rw [e, List.range_succ_eq_map, List.map_cons, List.map_map]
  congr 1
  · rw [Nat.zero_mul, Nat.sub_zero, Nat.min_eq_left (by omega)]
  · apply List.map_congr_left
    intro k _
    show min c (x - (k + 1) * c) = min c (x - c - k * c)
    rw [Nat.succ_mul]
    congr 1
    omega
theorem parts_ind {c : Nat} {P : Nat → Prop} (hc : 0 < c) (small : ∀ x, 0 < x → x ≤ c → P x) (more : ∀ x, c < x → P (x - c) → P x) (x : Nat) (hx : 0 < x) : P x := by
  induction x using Nat.strongRecOn with
  | _ x ih =>
    by_cases h : x ≤ c
    · exact small x hx h
    · exact more x (by omega) (ih (x - c) (by omega) (by omega))
theorem parts_sum {c x : Nat} (hc : 0 < c) (hx : 0 < x) : (parts c x).sum = x := by
  refine parts_ind (P := fun x => (parts c x).sum = x) hc (fun x h1 h2 => ?_) (fun x h1 ih => ?_) x hx
  · rw [parts_small h1 h2]; simp
  · rw [parts_more hc h1, List.sum_cons, ih]; omega
theorem parts_pos {c x : Nat} (hc : 0 < c) (hx : 0 < x) : ∀ y ∈ parts c x, 0 < y ∧ y ≤ c ∧ y ≤ x := by
  refine parts_ind (P := fun x => ∀ y ∈ parts c x, 0 < y ∧ y ≤ c ∧ y ≤ x) hc (fun x h1 h2 => ?_) (fun x h1 ih => ?_) x hx
  · rw [parts_small h1 h2]
    intro y hy
    have e : y = x := by simpa using hy
    omega
  · rw [parts_more hc h1]
    intro y hy
    rcases List.mem_cons.mp hy with e | e
    · omega
    · have := ih y e
      omega
/-- the first piece -/
theorem parts_head {c x : Nat} (hc : 0 < c) (hx : 0 < x) : ∃ r, parts c x = min c x :: r := by
  by_cases h : x ≤ c
  · exact ⟨[], by rw [parts_small hx h, Nat.min_eq_right h]⟩
  · exact ⟨_, by rw [parts_more hc (by omega), Nat.min_eq_left (by omega)]⟩
theorem parts_tr {c : Nat} (hc : 0 < c) (x : Nat) (hx : 0 < x) : ∀ b, 0 < b → b ≤ x → tr (parts c x) b = parts c b := by
  refine parts_ind (P := fun x => ∀ b, 0 < b → b ≤ x → tr (parts c x) b = parts c b) hc (fun x h1 h2 b hb hbx => ?_) (fun x h1 ih b hb hbx => ?_) x hx
  · rw [parts_small h1 h2, tr_cons hb, if_pos hbx, parts_small hb (by omega)]
  · rw [parts_more hc h1, tr_cons hb]
    by_cases h : b ≤ c
    · rw [if_pos h, parts_small hb h]
    · rw [if_neg h, parts_more (x := b) hc (by omega), ih (b - c) (by omega) (by omega)]
theorem cut_sum {c : Nat} (hc : 0 < c) : ∀ {l : List Nat}, (∀ x ∈ l, 0 < x) → (cutAll c l).sum = l.sum
  | [], _ => rfl
  | x :: l, h => by
    show (parts c x ++ cutAll c l).sum = _
    rw [List.sum_append, parts_sum hc (h x List.mem_cons_self), cut_sum hc fun y hy => h y (List.mem_cons_of_mem _ hy), List.sum_cons]
theorem cut_tr {c : Nat} (hc : 0 < c) : ∀ {l : List Nat} {b : Nat}, (∀ x ∈ l, 0 < x) → b ≤ l.sum → cutAll c (tr l b) = tr (cutAll c l) b
  | [], b, _, _ => by rw [tr_nil]; show [] = tr [] b; rw [tr_nil]
  | x :: l, b, h, hb => by
    have hx := h x List.mem_cons_self
    show _ = tr (parts c x ++ cutAll c l) b
    by_cases h0 : 0 < b
    · rw [tr_append, parts_sum hc hx, tr_cons h0]
      by_cases h1 : b ≤ x
      · rw [if_pos h1, if_pos h1, parts_tr hc x hx b h0 h1]
        show parts c b ++ [] = _
        rw [List.append_nil]
      · rw [if_neg h1, if_neg h1]
        show parts c x ++ cutAll c (tr l (b - x)) = _
        rw [cut_tr hc (fun y hy => h y (List.mem_cons_of_mem _ hy)) (by simp at hb; omega)]
    · have e : b = 0 := by omega
      subst e
      rw [tr_zero, tr_zero]; rfl
theorem cut_same {c : Nat} : ∀ {l : List Nat}, (∀ x ∈ l, 0 < x ∧ x ≤ c) → cutAll c l = l
  | [], _ => rfl
  | x :: l, h => by
    show parts c x ++ cutAll c l = _
    have hx := h x List.mem_cons_self
    rw [parts_small hx.1 hx.2, cut_same fun y hy => h y (List.mem_cons_of_mem _ hy)]
    rfl
/-! ### the stretches of a letter, and those of a lesser one -/
/-- stretches of a body b -/
structure Good (b : Nat) (l : List Nat) : Prop where
  sum : l.sum = b
  ne : l ≠ []
  pos : 0 < b → ∀ x ∈ l, 0 < x
  zero : b = 0 → l = [0]
  first : ∀ x ∈ l, x ≤ l.headD 0
/-- stretches of b beside those of a body that is not less -/
def Rel (b : Nat) (l l' : List Nat) : Prop := if b = 0 then l = [0] else l = tr l' b
theorem good_one (b : Nat) : Good b [b] where
  sum := by simp
  ne := by simp
  pos := fun h x hx => by
    have e : x = b := by simpa using hx
    omega
  zero := fun h => by rw [h]
  first := fun x hx => by
    have e : x = b := by simpa using hx
    rw [e]
    exact Nat.le_refl b
theorem rel_one {b b' : Nat} (h : b ≤ b') : Rel b [b] [b'] := by
  unfold Rel
  split
  · rename_i e; rw [e]
  · rw [tr_cons (by omega), if_pos h]
/-- lesser stretches: each at most one of the greater, the first at most the first; no more of them -/
theorem rel_mem {b b' : Nat} {l l' : List Nat} (h : Rel b l l') (g : Good b' l') : ∀ x ∈ l, ∃ y ∈ l', x ≤ y := by
  unfold Rel at h
  split at h
  · subst h
    intro x hx
    have e : x = 0 := by simpa using hx
    cases l' with
    | nil => exact absurd rfl g.ne
    | cons y r => exact ⟨y, List.mem_cons_self, by omega⟩
  · subst h
    exact tr_mem l' b
theorem rel_len {b b' : Nat} {l l' : List Nat} (h : Rel b l l') (g : Good b' l') : l.length ≤ l'.length := by
  unfold Rel at h
  split at h
  · subst h
    cases l' with
    | nil => exact absurd rfl g.ne
    | cons y r => simp
  · subst h
    exact tr_len l' b
theorem good_cut {b c : Nat} {l : List Nat} (hc : 0 < c) (hb : 0 < b) (g : Good b l) : Good b (cutAll c l) := by
  have p := g.pos hb
  obtain ⟨y, r, rfl⟩ : ∃ y r, l = y :: r := by
    cases l with
    | nil => exact absurd rfl g.ne
    | cons y r => exact ⟨y, r, rfl⟩
  obtain ⟨r', hr⟩ := parts_head hc (p y List.mem_cons_self)
  have e : cutAll c (y :: r) = min c y :: (r' ++ cutAll c r) := by
    show parts c y ++ cutAll c r = _
    rw [hr]; rfl
  refine ⟨by rw [cut_sum hc p, g.sum], by rw [e]; simp, fun _ x hx => ?_, fun h => by omega, fun x hx => ?_⟩
  · obtain ⟨z, hz, hx⟩ := List.mem_flatMap.mp hx
    exact (parts_pos hc (p z hz) x hx).1
  · rw [e]
    show x ≤ min c y
    obtain ⟨z, hz, hx⟩ := List.mem_flatMap.mp hx
    have q := parts_pos hc (p z hz) x hx
    have f : z ≤ y := g.first z hz
    omega
mutual
/-- what a way's steps are: sizes above heads, at least one piece put together -/
def Way.ok : Way → Prop
  | .mk h steps => 0 < h ∧ Step.okAll h steps
def Step.okAll (h : Nat) : List Step → Prop
  | [] => True
  | s :: r => Step.ok h s ∧ Step.okAll h r
def Step.ok (h : Nat) : Step → Prop
  | .road size _ _ => h < size
  | .join most => 0 < most
  | .tunnel w most _ => Way.ok w ∧ 0 < most
end
theorem road_comes {h size : Nat} {ts : Bool} {lw : LW} {sealed : Bool} {l m : List Nat} (e : road h size ts lw sealed l = .comes m) : (m = l ∧ ∀ x ∈ l, x ≤ size - h) ∨ (m = cutAll (size - h) l ∧ sealed = false ∧ lw = .cut ∧ ¬ ∀ x ∈ l, x ≤ size - h) := by
  unfold road at e
  split at e
  · rename_i q
    injection e with e
    exact .inl ⟨e.symm, q⟩
  · rename_i q
    split at e
    · split at e <;> cases e
    · rename_i qs
      split at e
      · injection e with e
        exact .inr ⟨e.symm, by simpa using qs, rfl, q⟩
      · cases e
      · cases e
theorem tunnel_comes {inner : Nat → Fate} {ih most : Nat} {t : TW} {l m : List Nat} : ∀ {r : List Nat}, tunnel inner ih most t l r = .comes m → m = l ∧ ∀ x ∈ r, ∃ k, inner x = .comes k ∧ k.length ≤ most
  | [], e => by
    unfold tunnel at e
    injection e with e
    exact ⟨e.symm, fun x hx => by cases hx⟩
  | x :: r, e => by
    unfold tunnel at e
    split at e
    · rename_i k hk
      split at e
      · cases e
      · rename_i hl
        obtain ⟨h1, h2⟩ := tunnel_comes e
        refine ⟨h1, fun y hy => ?_⟩
        rcases List.mem_cons.mp hy with z | z
        · exact ⟨k, z ▸ hk, by omega⟩
        · exact h2 y z
    · rename_i f hf
      cases hi : inner x with
      | comes k => exact absurd hi (hf k)
      | told s p =>
        rw [hi] at e
        simp only [turned] at e
        split at e <;> cases e
      | silent p =>
        rw [hi] at e
        cases e
theorem tunnel_pass {inner : Nat → Fate} {ih most : Nat} {t : TW} {l : List Nat} : ∀ {r : List Nat}, (∀ x ∈ r, ∃ k, inner x = .comes k ∧ k.length ≤ most) → tunnel inner ih most t l r = .comes l
  | [], _ => rfl
  | x :: r, h => by
    obtain ⟨k, e, hk⟩ := h x List.mem_cons_self
    unfold tunnel
    rw [e]
    show (if k.length > most then _ else _) = _
    rw [if_neg (by omega)]
    exact tunnel_pass fun y hy => h y (List.mem_cons_of_mem _ hy)
theorem rel_cut {b b' c : Nat} {l l' : List Nat} (hc : 0 < c) (hle : b ≤ b') (h : Rel b l l') (g : Good b' l') (g0 : Good b l) : Rel b (if b = 0 then l else cutAll c l) (cutAll c l') := by
  unfold Rel at h ⊢
  split
  · rename_i e
    rw [if_pos e] at h
    exact h
  · rename_i e
    rw [if_neg e] at h
    subst h
    exact cut_tr hc (g.pos (by omega)) (by rw [g.sum]; exact hle)
/-- one road, both letters -/
theorem road_mono {h size : Nat} {ts : Bool} {lw : LW} {sealed : Bool} {b b' : Nat} {l l' m' : List Nat} (hs : h < size) (hle : b ≤ b') (g : Good b l) (g' : Good b' l') (r : Rel b l l') (e : road h size ts lw sealed l' = .comes m') :
    ∃ m, road h size ts lw sealed l = .comes m ∧ Good b m ∧ Good b' m' ∧ Rel b m m' := by
  have hc : 0 < size - h := by omega
  rcases road_comes e with ⟨rfl, ha⟩ | ⟨rfl, rfl, rfl, hn⟩
  · have hl : ∀ x ∈ l, x ≤ size - h := fun x hx => by
      obtain ⟨y, hy, hxy⟩ := rel_mem r g' x hx
      exact Nat.le_trans hxy (ha y hy)
    exact ⟨l, by unfold road; rw [if_pos hl], g, g', r⟩
  · have hb' : 0 < b' := by
      rcases Nat.eq_zero_or_pos b' with z | z
      · rw [g'.zero z] at hn
        exact absurd (fun x hx => by have e : x = 0 := by simpa using hx
                                     omega) hn
      · exact z
    have gm' := good_cut hc hb' g'
    have rm := rel_cut hc hle r g' g
    by_cases hl : ∀ x ∈ l, x ≤ size - h
    · refine ⟨l, by unfold road; rw [if_pos hl], g, gm', ?_⟩
      by_cases hb : b = 0
      · rw [if_pos hb] at rm; exact rm
      · rw [if_neg hb, cut_same fun x hx => ⟨g.pos (by omega) x hx, hl x hx⟩] at rm
        exact rm
    · have hb : ¬ b = 0 := fun z => hl fun x hx => by
        rw [g.zero z] at hx
        have e : x = 0 := by simpa using hx
        omega
      rw [if_neg hb] at rm
      exact ⟨_, by unfold road; rw [if_neg hl, if_neg (by simp)], good_cut hc (by omega) g, gm', rm⟩
mutual
/-- a letter that comes does so for each lesser body -/
theorem Way.mono (sealed : Bool) : ∀ (w : Way), w.ok → ∀ (b b' : Nat) (m' : List Nat), b ≤ b' → w.walk sealed b' = .comes m' → ∃ m, w.walk sealed b = .comes m ∧ Good b m ∧ Good b' m' ∧ Rel b m m'
  | .mk h steps, hw, b, b', m', hle, e => Way.from_mono sealed h steps hw.1 hw.2 0 b b' [b] [b'] m' hle (good_one b) (good_one b') (rel_one hle) e
theorem Way.from_mono (sealed : Bool) (h : Nat) : ∀ (steps : List Step), 0 < h → Step.okAll h steps → ∀ (i b b' : Nat) (l l' m' : List Nat), b ≤ b' → Good b l → Good b' l' → Rel b l l' → Way.from sealed h steps i l' = .comes m' →
    ∃ m, Way.from sealed h steps i l = .comes m ∧ Good b m ∧ Good b' m' ∧ Rel b m m'
  | [], _, _, i, b, b', l, l', m', hle, g, g', r, e => by
    unfold Way.from at e
    injection e with e
    subst e
    exact ⟨l, by unfold Way.from; rfl, g, g', r⟩
  | s :: rest, h0, hok, i, b, b', l, l', m', hle, g, g', r, e => by
    unfold Way.from at e
    split at e
    · rename_i k' hk
      obtain ⟨k, e1, gk, gk', rk⟩ := Step.mono sealed h s h0 hok.1 b b' l l' k' hle g g' r hk
      obtain ⟨m, e2, q⟩ := Way.from_mono sealed h rest h0 hok.2 (i + 1) b b' k k' m' hle gk gk' rk e
      exact ⟨m, by unfold Way.from; rw [e1]; exact e2, q⟩
    · rename_i f hf
      cases hd : Step.does sealed h s l' with
      | comes k => exact absurd hd (hf k)
      | told a p => rw [hd] at e; cases e
      | silent p => rw [hd] at e; cases e
theorem Step.mono (sealed : Bool) (h : Nat) : ∀ (s : Step), 0 < h → Step.ok h s → ∀ (b b' : Nat) (l l' m' : List Nat), b ≤ b' → Good b l → Good b' l' → Rel b l l' → Step.does sealed h s l' = .comes m' →
    ∃ m, Step.does sealed h s l = .comes m ∧ Good b m ∧ Good b' m' ∧ Rel b m m'
  | .road size ts lw, _, hok, b, b', l, l', m', hle, g, g', r, e => by
    unfold Step.does at e ⊢
    exact road_mono hok hle g g' r e
  | .join most, _, hok, b, b', l, l', m', hle, g, g', r, e => by
    unfold Step.does join at e
    split at e
    · cases e
    · rename_i q
      injection e with e
      subst e
      refine ⟨[b], ?_, good_one b, by rw [g'.sum]; exact good_one b', by rw [g'.sum]; exact rel_one hle⟩
      unfold Step.does join
      rw [if_neg (by have := rel_len r g'; omega), g.sum]
  | .tunnel w most t, _, hok, b, b', l, l', m', hle, g, g', r, e => by
    unfold Step.does at e ⊢
    obtain ⟨rfl, ha⟩ := tunnel_comes e
    refine ⟨l, tunnel_pass fun x hx => ?_, g, g', r⟩
    obtain ⟨y, hy, hxy⟩ := rel_mem r g' x hx
    obtain ⟨k', hk', hl'⟩ := ha y hy
    obtain ⟨k, hk, gk, gk', rk⟩ := Way.mono sealed w hok.1 (h + x) (h + y) k' (by omega) hk'
    exact ⟨k, hk, by have := rel_len rk gk'; omega⟩
end
/-- a sealed letter is one piece -/
theorem Way.from_sealed (h : Nat) : ∀ (steps : List Step) (i b : Nat) (m : List Nat), Way.from true h steps i [b] = .comes m → m = [b]
  | [], i, b, m, e => by
    unfold Way.from at e
    injection e with e
    exact e.symm
  | s :: rest, i, b, m, e => by
    unfold Way.from at e
    split at e
    · rename_i k hk
      have hb : k = [b] := by
        cases s with
        | road size ts lw =>
          unfold Step.does at hk
          rcases road_comes hk with ⟨q, _⟩ | ⟨_, q, _⟩
          · exact q
          · cases q
        | join most =>
          unfold Step.does join at hk
          split at hk
          · cases hk
          · injection hk with hk
            simpa using hk.symm
        | tunnel w most t =>
          unfold Step.does at hk
          exact (tunnel_comes hk).1
      subst hb
      exact Way.from_sealed h rest (i + 1) b m e
    · rename_i f hf
      cases hd : Step.does true h s [b] with
      | comes k => exact absurd hd (hf k)
      | told a p => rw [hd] at e; cases e
      | silent p => rw [hd] at e; cases e
theorem Way.walk_sealed (w : Way) (b : Nat) (m : List Nat) (e : w.walk true b = .comes m) : m = [b] := by
  obtain ⟨h, steps⟩ := w
  exact Way.from_sealed h steps 0 b m e
theorem from_cons (sealed : Bool) (h : Nat) (x : Step) (s : List Step) (i : Nat) (l : List Nat) : Way.from sealed h (x :: s) i l = match Step.does sealed h x l with
    | .comes m => Way.from sealed h s (i + 1) m
    | f => seen i f := by
  conv => lhs; unfold Way.from
/-- one way behind another -/
theorem Way.from_append (sealed : Bool) (h : Nat) (r : List Step) : ∀ (s : List Step) (i : Nat) (l : List Nat), Way.from sealed h (s ++ r) i l = match Way.from sealed h s i l with
    | .comes m => Way.from sealed h r (i + s.length) m
    | f => f
  | [], i, l => by
    show Way.from sealed h r i l = _
    rw [show Way.from sealed h [] i l = .comes l by unfold Way.from; rfl]
    rfl
  | x :: s, i, l => by
    rw [List.cons_append, from_cons, from_cons]
    cases hd : Step.does sealed h x l with
    | comes k =>
      show Way.from sealed h (s ++ r) (i + 1) k = _
      rw [Way.from_append sealed h r s (i + 1) k]
      have e : i + 1 + s.length = i + (x :: s).length := by simp; omega
      rw [e]
    | told a p => rfl
    | silent p => rfl
/-- the places of the steps behind i: as if the way began there -/
def shift (i : Nat) : Fate → Fate
  | .told s (p :: q) => .told s ((p + i) :: q)
  | .silent (p :: q) => .silent ((p + i) :: q)
  | f => f
theorem shift_seen (i j : Nat) (f : Fate) : shift i (seen j f) = seen (j + i) f := by cases f <;> rfl
theorem Way.from_shift (sealed : Bool) (h i : Nat) : ∀ (s : List Step) (j : Nat) (l : List Nat), Way.from sealed h s (j + i) l = shift i (Way.from sealed h s j l)
  | [], j, l => by
    rw [show Way.from sealed h [] j l = .comes l by unfold Way.from; rfl, show Way.from sealed h [] (j + i) l = .comes l by unfold Way.from; rfl]
    rfl
  | x :: s, j, l => by
    rw [from_cons, from_cons]
    cases hd : Step.does sealed h x l with
    | comes k =>
      show Way.from sealed h s (j + i + 1) k = shift i (Way.from sealed h s (j + 1) k)
      rw [show j + i + 1 = j + 1 + i by omega]
      exact Way.from_shift sealed h i s (j + 1) k
    | told a p => exact (shift_seen i j _).symm
    | silent p => exact (shift_seen i j _).symm
end M

end
section
set_option Elab.async false
set_option linter.all false
set_option maxRecDepth 100000
set_option maxHeartbeats 4000000
/-! ## the program's ways: good ones -/
namespace WP
open PySem L2 G
def top (i : Nat) : Stmt := PySem.Challenge.pw_roadsizes_k02_ways_put_together.main.body.getD i (.Pass ⟨0, 0, 0, 0⟩)
abbrev sInteger : Stmt := top 3
abbrev sWithin : Stmt := top 4
abbrev sMost : Stmt := top 36
abbrev sList : Stmt := top 34
abbrev sStep : Stmt := top 39
abbrev sRoad : Stmt := top 35
abbrev sTells : Stmt := top 37
abbrev sHead : Stmt := top 33
abbrev sInit : Stmt := inClass (top 32) 0
abbrev sLen : Stmt := inClass (top 32) 1
abbrev sAdd : Stmt := inClass (top 32) 5
structure Bn (mg : Str → Option Value) : Prop where
  isi : mg "isinstance" = none
  bool : mg "bool" = none
  int : mg "int" = none
  tuple : mg "tuple" = none
  list : mg "list" = none
  len : mg "len" = none
  enum : mg "enumerate" = none
  max : mg "max" = none
  sum : mg "sum" = none
section
variable {P : Program} {w : World} {K : PySem.W.Frag} {mg : Str → Option Value} {base : Heap}
def spInteger : Sp := fun vs H Q _ => ∃ v : Int, vs = [.int v] ∧ Q (.bl true) H
theorem scIn : FnScope ["value"] ["value"] (defScope sInteger) := ⟨rfl, rfl, rfl, by decide +kernel, rfl, by decide +kernel, by decide +kernel⟩
theorem ok_integer {f : Addr} {fd : FuncData} (F : Fun K "is_integer" "is_integer" sInteger f fd) (B : Bn mg) : FnOk P w K mg base CX0 1 f fd ["value"] spInteger := by
  refine F.ok scIn (fun vs H Q E h => ?_) (fun cdv A outer s H vs Q E hr h => ?_)
  · obtain ⟨v, rfl, _⟩ := h
    rfl
  · obtain ⟨v, rfl, k⟩ := h
    refine ⟨_, pss_one (ps_ret (pe_and (pe_callB call_isi (by rfl) B.isi (by decide +kernel) (pa_cons (pv 0) (pa_cons (pe_bltn (v := .ty "int") (by rfl) B.int (by decide +kernel) rfl) pa_nil)))
      (pe_one (pe_not (pe_callB call_isi (by rfl) B.isi (by decide +kernel) (pa_cons (pv 0) (pa_cons (pe_bltn (v := .ty "bool") (by rfl) B.bool (by decide +kernel) rfl) pa_nil))))))), ?_⟩
    exact ⟨_, rfl, _, _, _, _, _, rfl, .ty _, .base (.int _), kit_ty (r := true) (by decide +kernel), _, rfl, iteT ⟨_, rfl, _, _, _, _, _, rfl, .ty _, .base (.int _), kit_ty (r := false) (by decide +kernel), _, rfl, k⟩⟩
def spWithin : Sp := fun vs H Q _ => ∃ v a b : Int, vs = [.int v, .int a, .int b] ∧ Q (.bl (decide (a ≤ v ∧ v ≤ b))) H
theorem sc3 : FnScope ["value", "least", "greatest"] ["value", "least", "greatest"] (defScope sWithin) := ⟨rfl, rfl, rfl, by decide +kernel, rfl, by decide +kernel, by decide +kernel⟩
theorem ok_within {f fI : Addr} {fd fdI : FuncData} (F : Fun K "is_within" "is_within" sWithin f fd) (B : Bn mg) (FI : Fun K "is_integer" "is_integer" sInteger fI fdI) (gI : mg "is_integer" = some (.ref fI)) (bI : Binds K fdI ["value"] []) : FnOk P w K mg base CX0 2 f fd ["value", "least", "greatest"] spWithin := by
  have GI : FnOk P w K mg base CX0 1 fI fdI ["value"] spInteger := ok_integer FI B
  refine F.ok sc3 (fun vs H Q E h => ?_) (fun cdv A outer s H vs Q E hr h => ?_)
  · obtain ⟨v, a, b, rfl, _⟩ := h
    rfl
  · obtain ⟨v, a, b, rfl, k⟩ := h
    refine ⟨_, pss_one (ps_ret (pe_and (pe_call GI hr rfl gI FI.kp bI .nil pass0 (pa_cons (pv 0) pa_nil)) (pe_one (pe_chain op_le op_le (pv 1) (pv 0) (pv 2))))), ?_⟩
    refine ⟨_, rfl, v, rfl, _, rfl, iteT ?_⟩
    refine ⟨_, rfl, _, rfl, _, _, rfl, rfl, _, rfl, ?_⟩
    refine ite2 (fun h1 => ⟨_, rfl, _, _, rfl, rfl, ?_⟩) (fun h1 => ?_)
    · have e1 : a ≤ v := of_decide_eq_true h1
      have e : decide (a ≤ v ∧ v ≤ b) = decide (v ≤ b) := by
        by_cases z : v ≤ b
        · rw [decide_eq_true z, decide_eq_true ⟨e1, z⟩]
        · rw [decide_eq_false z, decide_eq_false fun q => z q.2]
      rw [e] at k
      exact k
    · have e : decide (a ≤ v ∧ v ≤ b) = false := decide_eq_false fun q => h1 (decide_eq_true q.1)
      rw [e] at k
      exact k
/-- is_body, _is_most of ints -/
def spIn1 (a b : Int) : Sp := fun vs H Q _ => ∃ v : Int, vs = [.int v] ∧ Q (.bl (decide (a ≤ v ∧ v ≤ b))) H
structure Wi (P : Program) (w : World) (K : PySem.W.Frag) (mg : Str → Option Value) (base : Heap) (f : Addr) (fd : FuncData) : Prop where
  ok : FnOk P w K mg base CX0 2 f fd ["value", "least", "greatest"] spWithin
  g : mg "is_within" = some (.ref f)
  k : PySem.W.keepIn K (.ref f) = true
  b : Binds K fd ["value", "least", "greatest"] []
theorem scM : FnScope ["value"] ["value"] (defScope sMost) := ⟨rfl, rfl, rfl, by decide +kernel, rfl, by decide +kernel, by decide +kernel⟩
theorem ok_most {f fW : Addr} {fd fdW : FuncData} {t : Tok} (F : Fun K "is_most" "is_most" sMost f fd) (W : Wi P w K mg base fW fdW) (g : mg "GREATEST_MOST" = some (.int 1000000000000 t)) : FnOk P w K mg base CX0 3 f fd ["value"] (spIn1 1 1000000000000) := by
  refine F.ok scM (fun vs H Q E h => ?_) (fun cdv A outer s H vs Q E hr h => ?_)
  · obtain ⟨v, rfl, _⟩ := h
    rfl
  · obtain ⟨v, rfl, k⟩ := h
    exact ⟨_, pss_one (ps_ret (pe_call W.ok hr rfl W.g W.k W.b .nil pass0 (pa_cons (pv 0) (pa_cons pe_int (pa_cons (pe_glob (v := .int 1000000000000) rfl g ⟨_, rfl⟩) pa_nil))))), _, rfl, v, 1, 1000000000000, rfl, k⟩
theorem scHd : FnScope ["value"] ["value"] (defScope sHead) := ⟨rfl, rfl, rfl, by decide +kernel, rfl, by decide +kernel, by decide +kernel⟩
theorem ok_head {f fW : Addr} {fd fdW : FuncData} {t : Tok} (F : Fun K "is_head" "is_head" sHead f fd) (W : Wi P w K mg base fW fdW) (g : mg "GREATEST_HEAD" = some (.int 40 t)) : FnOk P w K mg base CX0 3 f fd ["value"] (spIn1 1 40) := by
  refine F.ok scHd (fun vs H Q E h => ?_) (fun cdv A outer s H vs Q E hr h => ?_)
  · obtain ⟨v, rfl, _⟩ := h
    rfl
  · obtain ⟨v, rfl, k⟩ := h
    exact ⟨_, pss_one (ps_ret (pe_call W.ok hr rfl W.g W.k W.b .nil pass0 (pa_cons (pv 0) (pa_cons pe_int (pa_cons (pe_glob (v := .int 40) rfl g ⟨_, rfl⟩) pa_nil))))), _, rfl, v, 1, 40, rfl, k⟩
end
end WP

end
section
set_option Elab.async false
set_option linter.all false
set_option maxRecDepth 100000
set_option maxHeartbeats 4000000
/-! ## ways on the heap -/
namespace M
mutual
def Way.depth : Way → Nat
  | .mk _ s => 1 + Step.deepest s
def Step.deepest : List Step → Nat
  | [] => 0
  | .tunnel w _ _ :: r => max w.depth (Step.deepest r)
  | .road _ _ _ :: r => Step.deepest r
  | .join _ :: r => Step.deepest r
end
mutual
def Way.size : Way → Nat
  | .mk _ s => s.length + Step.inner s
def Step.inner : List Step → Nat
  | [] => 0
  | .tunnel w _ _ :: r => w.size + Step.inner r
  | .road _ _ _ :: r => Step.inner r
  | .join _ :: r => Step.inner r
end
mutual
/-- a way that the program takes -/
def Way.fine : Way → Prop
  | .mk h s => (1 ≤ h ∧ h ≤ 40) ∧ (1 ≤ s.length ∧ s.length ≤ 12) ∧ Step.fineAll h s ∧ 1 + Step.deepest s ≤ 3 ∧ s.length + Step.inner s ≤ 40
def Step.fineAll (h : Nat) : List Step → Prop
  | [] => True
  | s :: r => Step.fine h s ∧ Step.fineAll h r
def Step.fine (h : Nat) : Step → Prop
  | .road size _ _ => h < size ∧ size ≤ 1000
  | .join most => 1 ≤ most ∧ most ≤ 1000000000000
  | .tunnel w most _ => Way.fine w ∧ 1 ≤ most ∧ most ≤ 1000000000000
end
end M
namespace WP
open PySem L2 G
def sdS (b : Bool) : Str := if b then "tell" else "drop"
def lwS : M.LW → Str
  | .cut => "cut"
  | .tell => "tell"
  | .drop => "drop"
def twS : M.TW → Str
  | .turn => "turn"
  | .keep => "keep"
  | .lose => "lose"
def flds (h : Int) (t : Addr) (D Z : Int) : List (Str × V) := putF "size" (.int Z) (putF "depth" (.int D) (putF "steps" (.ref t) (putF "head" (.int h) [])))
theorem nk : ¬ (("head" : Str) = "steps") ∧ ¬ (("head" : Str) = "depth") ∧ ¬ (("head" : Str) = "size") ∧ ¬ (("steps" : Str) = "depth") ∧ ¬ (("steps" : Str) = "size") ∧ ¬ (("depth" : Str) = "size") := by decide +kernel
theorem flds_head (h : Int) (t : Addr) (D Z : Int) : (flds h t D Z).lookup ("head" : Str) = some (.int h) := by
  unfold flds
  rw [lookup_putF, if_neg nk.2.2.1, lookup_putF, if_neg nk.2.1, lookup_putF, if_neg nk.1, lookup_putF, if_pos rfl]
theorem flds_steps (h : Int) (t : Addr) (D Z : Int) : (flds h t D Z).lookup ("steps" : Str) = some (.ref t) := by
  unfold flds
  rw [lookup_putF, if_neg nk.2.2.2.2.1, lookup_putF, if_neg nk.2.2.2.1, lookup_putF, if_pos rfl]
theorem flds_depth (h : Int) (t : Addr) (D Z : Int) : (flds h t D Z).lookup ("depth" : Str) = some (.int D) := by
  unfold flds
  rw [lookup_putF, if_neg nk.2.2.2.2.2, lookup_putF, if_pos rfl]
theorem flds_size (h : Int) (t : Addr) (D Z : Int) : (flds h t D Z).lookup ("size" : Str) = some (.int Z) := by
  unfold flds
  rw [lookup_putF, if_pos rfl]
mutual
/-- a way stands at a -/
def WayAt (C : Addr) (H : Hp) : M.Way → Addr → Prop
  | .mk h s, a => ∃ dx t xs, H a = some (.ins C dx (flds h t ((1 + M.Step.deepest s : Nat) : Int) ((s.length + M.Step.inner s : Nat) : Int))) ∧ H t = some (.tup xs) ∧ StepsAt C H s xs
def StepsAt (C : Addr) (H : Hp) : List M.Step → List V → Prop
  | [], xs => xs = []
  | s :: r, xs => ∃ x ys, xs = x :: ys ∧ StepAt C H s x ∧ StepsAt C H r ys
def StepAt (C : Addr) (H : Hp) : M.Step → V → Prop
  | .road size ts lw, x => ∃ t, x = .ref t ∧ H t = some (.tup [.str "road", .int (size : Int), .str (sdS ts), .str (lwS lw)])
  | .join most, x => ∃ t, x = .ref t ∧ H t = some (.tup [.str "join", .int (most : Int)])
  | .tunnel w most tw, x => ∃ t a, x = .ref t ∧ H t = some (.tup [.str "tunnel", .ref a, .int (most : Int), .str (twS tw)]) ∧ WayAt C H w a
end
mutual
theorem WayAt.mono {C : Addr} {H H' : Hp} (s : Same H H') : ∀ {w : M.Way} {a : Addr}, WayAt C H w a → WayAt C H' w a
  | .mk h st, a, x => by
    unfold WayAt at x ⊢
    obtain ⟨dx, t, xs, h1, h2, h3⟩ := x
    exact ⟨dx, t, xs, s _ _ h1, s _ _ h2, StepsAt.mono s h3⟩
theorem StepsAt.mono {C : Addr} {H H' : Hp} (s : Same H H') : ∀ {st : List M.Step} {xs : List V}, StepsAt C H st xs → StepsAt C H' st xs
  | [], xs, x => by
    unfold StepsAt at x ⊢
    exact x
  | y :: r, xs, x => by
    unfold StepsAt at x ⊢
    obtain ⟨u, ys, e, h1, h2⟩ := x
    exact ⟨u, ys, e, StepAt.mono s h1, StepsAt.mono s h2⟩
theorem StepAt.mono {C : Addr} {H H' : Hp} (s : Same H H') : ∀ {st : M.Step} {x : V}, StepAt C H st x → StepAt C H' st x
  | .road size ts lw, v, x => by
    unfold StepAt at x ⊢
    obtain ⟨t, e, h⟩ := x
    exact ⟨t, e, s _ _ h⟩
  | .join most, v, x => by
    unfold StepAt at x ⊢
    obtain ⟨t, e, h⟩ := x
    exact ⟨t, e, s _ _ h⟩
  | .tunnel w most tw, v, x => by
    unfold StepAt at x ⊢
    obtain ⟨t, a, e, h, h2⟩ := x
    exact ⟨t, a, e, s _ _ h, WayAt.mono s h2⟩
end
theorem StepsAt.get {C : Addr} {H : Hp} : ∀ {st : List M.Step} {xs : List V} {i : Nat} {x : V}, StepsAt C H st xs → xs[i]? = some x → ∃ s, st[i]? = some s ∧ StepAt C H s x
  | [], xs, i, x, h, e => by
    unfold StepsAt at h
    subst h
    cases e
  | y :: r, xs, 0, x, h, e => by
    unfold StepsAt at h
    obtain ⟨u, ys, rfl, h1, _⟩ := h
    cases e
    exact ⟨y, rfl, h1⟩
  | y :: r, xs, i + 1, x, h, e => by
    unfold StepsAt at h
    obtain ⟨u, ys, rfl, _, h2⟩ := h
    obtain ⟨s, a, b⟩ := StepsAt.get (i := i) h2 e
    exact ⟨s, a, b⟩
theorem StepsAt.len {C : Addr} {H : Hp} : ∀ {st : List M.Step} {xs : List V}, StepsAt C H st xs → xs.length = st.length
  | [], xs, h => by
    unfold StepsAt at h
    subst h
    rfl
  | y :: r, xs, h => by
    unfold StepsAt at h
    obtain ⟨u, ys, rfl, _, h2⟩ := h
    exact congrArg Nat.succ h2.len
theorem fine_get {h : Nat} : ∀ {st : List M.Step} {i : Nat} {s : M.Step}, M.Step.fineAll h st → st[i]? = some s → M.Step.fine h s
  | [], i, s, _, e => by cases e
  | y :: r, 0, s, f, e => by
    unfold M.Step.fineAll at f
    cases e
    exact f.1
  | y :: r, i + 1, s, f, e => by
    unfold M.Step.fineAll at f
    exact fine_get (i := i) f.2 e
end WP

end
section
set_option Elab.async false
set_option linter.all false
set_option maxRecDepth 100000
set_option maxHeartbeats 4000000
namespace WP
open PySem L2 G
theorem Same.of_upd {H : Hp} {p : Addr} {o : HO} (h : H p = none) : Same H (upd H p o) := fun a u e => by
  rw [upd_ne (ne_of_none e h)]
  exact e
/-- the class Way, the module's constants -/
structure Wt (K : PySem.W.Frag) (mg : Str → Option Value) (C : Addr) : Prop where
  g : mg "Way" = some (.ref C)
  cl : Cls K C
  nH : NoAttr K C "head"
  nS : NoAttr K C "steps"
  nD : NoAttr K C "depth"
  nZ : NoAttr K C "size"
  iA : PySem.W.findIn K (.ref C) "__class__" = some (some (.builtin "object.__class__"))
  iN : PySem.W.specialIn K (.builtin "object.__class__") "__get__" = some (some (.builtin "getset_descriptor.__get__"))
  iT : PySem.W.takesIn K (.builtin "object.__class__") = some true
  iM : PySem.W.mroIn K C (.type "object") = some true
  gHead : ∃ t, mg "GREATEST_HEAD" = some (.int 40 t)
  gRoad : ∃ t, mg "GREATEST_ROAD" = some (.int 1000 t)
  gMost : ∃ t, mg "GREATEST_MOST" = some (.int 1000000000000 t)
  gSteps : ∃ t, mg "MOST_STEPS" = some (.int 12 t)
  gDepth : ∃ t, mg "GREATEST_DEPTH" = some (.int 3 t)
  gSize : ∃ t, mg "GREATEST_SIZE" = some (.int 40 t)
  wS : ∃ a, mg "SEALED_WORDS" = some (.ref a) ∧ ∀ H, SqT K H a [.str "tell", .str "drop"]
  wL : ∃ a, mg "LOOSE_WORDS" = some (.ref a) ∧ ∀ H, SqT K H a [.str "cut", .str "tell", .str "drop"]
  wT : ∃ a, mg "TELLS_WORDS" = some (.ref a) ∧ ∀ H, SqT K H a [.str "turn", .str "keep", .str "lose"]
/-- a def of the text that is called by its name -/
structure Df (P : Program) (w : World) (K : PySem.W.Frag) (mg : Str → Option Value) (base : Heap) (k : Nat) (x : Str) (ps : List Str) (sp : Sp) : Prop where
  ex : ∃ (f : Addr) (fd : FuncData), FnOk P w K mg base CX0 k f fd ps sp ∧ mg x = some (.ref f) ∧ PySem.W.keepIn K (.ref f) = true ∧ Binds K fd ps []
section
variable {P : Program} {w : World} {K : PySem.W.Frag} {mg : Str → Option Value} {base : Heap} {C : Addr}
def spRoad : Sp := fun vs H Q _ => ∃ (size : Nat) (least : Int) (ts : Bool) (lw : M.LW), vs = [.int (size : Int), .str (sdS ts), .str (lwS lw), .int least] ∧ least ≤ (size : Int) ∧ size ≤ 1000 ∧ Q (.bl true) H
theorem in_sd (b : Bool) : inV (.str (sdS b)) [.str "tell", .str "drop"] = true := by cases b <;> decide +kernel
theorem in_lw (l : M.LW) : inV (.str (lwS l)) [.str "cut", .str "tell", .str "drop"] = true := by cases l <;> decide +kernel
theorem in_tw (l : M.TW) : inV (.str (twS l)) [.str "turn", .str "keep", .str "lose"] = true := by cases l <;> decide +kernel
theorem scR : FnScope ["size", "sealed", "loose", "least"] ["size", "sealed", "loose", "least"] (defScope sRoad) := ⟨rfl, rfl, rfl, by decide +kernel, rfl, by decide +kernel, by decide +kernel⟩
theorem ok_road {f : Addr} {fd : FuncData} (F : Fun K "is_road" "is_road" sRoad f fd) (T : Wt K mg C) (W : Df P w K mg base 2 "is_within" ["value", "least", "greatest"] spWithin) : FnOk P w K mg base CX0 3 f fd ["size", "sealed", "loose", "least"] spRoad := by
  obtain ⟨fW, fdW, GW, gW, kW, bW⟩ := W.ex
  obtain ⟨t1, g1⟩ := T.gRoad
  obtain ⟨aS, g2, q2⟩ := T.wS
  obtain ⟨aL, g3, q3⟩ := T.wL
  refine F.ok scR (fun vs H Q E h => ?_) (fun cdv A outer s H vs Q E hr h => ?_)
  · obtain ⟨size, least, ts, lw, rfl, _⟩ := h
    rfl
  · obtain ⟨size, least, ts, lw, rfl, hs, hs2, k⟩ := h
    refine ⟨_, pss_one (ps_ret (pe_and (pe_call GW hr rfl gW kW bW .nil pass0 (pa_cons (pv 0) (pa_cons (pv 3) (pa_cons (pe_glob (v := .int 1000) rfl g1 ⟨_, rfl⟩) pa_nil)))) (pe_and (pe_cmpR op_in_seq (pv 1) (pe_glob (v := .ref aS) rfl g2 rfl) (by rfl)) (pe_one (pe_cmpR op_in_seq (pv 2) (pe_glob (v := .ref aL) rfl g3 rfl) (by rfl)))))), ?_⟩
    have e : decide (least ≤ (size : Int) ∧ (size : Int) ≤ 1000) = true := decide_eq_true (by omega)
    refine ⟨_, rfl, _, rfl, (size : Int), least, 1000, rfl, ?_⟩
    rw [e]
    refine ⟨_, rfl, ?_⟩
    refine iteT ⟨_, rfl, aS, _, rfl, .inr (q2 _), rfl, rfl, ?_⟩
    rw [in_sd]
    refine ⟨_, rfl, iteT ⟨_, rfl, aL, _, rfl, .inr (q3 _), rfl, rfl, ?_⟩⟩
    rw [in_lw]
    exact k
def spTells : Sp := fun vs H Q _ => ∃ tw : M.TW, vs = [.str (twS tw)] ∧ Q (.bl true) H
theorem scT : FnScope ["value"] ["value"] (defScope sTells) := ⟨rfl, rfl, rfl, by decide +kernel, rfl, by decide +kernel, by decide +kernel⟩
theorem ok_tells {f : Addr} {fd : FuncData} (F : Fun K "is_tells" "is_tells" sTells f fd) (T : Wt K mg C) : FnOk P w K mg base CX0 1 f fd ["value"] spTells := by
  obtain ⟨aT, g2, q2⟩ := T.wT
  refine F.ok scT (fun vs H Q E h => ?_) (fun cdv A outer s H vs Q E hr h => ?_)
  · obtain ⟨tw, rfl, _⟩ := h
    rfl
  · obtain ⟨tw, rfl, k⟩ := h
    refine ⟨_, pss_one (ps_ret (pe_cmpR op_in_seq (pv 0) (pe_glob (v := .ref aT) rfl g2 rfl) (by rfl))), ?_⟩
    refine ⟨_, rfl, aT, _, rfl, .inr (q2 _), rfl, rfl, ?_⟩
    rw [in_tw]
    exact k
/-- is_step_list, of a list or a tuple -/
def spList (K : PySem.W.Frag) : Sp := fun vs H Q _ => ∃ (l : Addr) (xs : List V), vs = [.ref l] ∧ (H l = some (.lst xs) ∨ H l = some (.tup xs)) ∧ 1 ≤ xs.length ∧ xs.length ≤ 12 ∧ ∀ H', Same H H' → Q (.bl true) H'
theorem scLi : FnScope ["value"] ["value"] (defScope sList) := ⟨rfl, rfl, rfl, by decide +kernel, rfl, by decide +kernel, by decide +kernel⟩
theorem ok_list {f : Addr} {fd : FuncData} (F : Fun K "is_step_list" "is_step_list" sList f fd) (B : Bn mg) (T : Wt K mg C) : FnOk P w K mg base CX0 1 f fd ["value"] (spList K) := by
  obtain ⟨t1, g1⟩ := T.gSteps
  refine F.ok scLi (fun vs H Q E h => ?_) (fun cdv A outer s H vs Q E hr h => ?_)
  · obtain ⟨l, xs, rfl, _⟩ := h
    rfl
  · obtain ⟨l, xs, rfl, hl, l1, l2, k⟩ := h
    refine ⟨_, pss_one (ps_ret (pe_and (pe_callB call_isiT (by rfl) B.isi (by decide +kernel) (pa_cons (pv 0) (pa_cons (pe_tup (pa_cons (pe_bltn (v := .ty "list") (by rfl) B.list (by decide +kernel) rfl) (pa_cons (pe_bltn (v := .ty "tuple") (by rfl) B.tuple (by decide +kernel) rfl) pa_nil))) pa_nil)))
      (pe_one (pe_chain op_le op_le pe_int (pe_callB call_len_seq (by rfl) B.len PySem.boot_len (pa_cons (pv 0) pa_nil)) (pe_glob (v := .int 12) rfl g1 ⟨_, rfl⟩))))), ?_⟩
    refine ⟨_, rfl, by show 2 ≤ sizeLine; decide, fun p np => ?_⟩
    have sp : Same H (upd H p (.tup [.ty "list", .ty "tuple"])) := Same.of_upd np
    have fin : ∀ (n : Int), n = (xs.length : Int) → ∀ Q' : VK, (∀ H', Same H H' → Q' (.bl true) H') → (∃ i j, V.int 1 = .int i ∧ V.int n = .int j ∧ ∃ k, V.bl (decide (i ≤ j)) = .bl k ∧ if k = true then ∃ i2 j2, V.int n = .int i2 ∧ V.int 12 = .int j2 ∧ Q' (.bl (decide (i2 ≤ j2))) (upd H p (.tup [.ty "list", .ty "tuple"])) else Q' (.bl false) (upd H p (.tup [.ty "list", .ty "tuple"]))) := by
      intro n hn Q' k'
      refine ⟨_, _, rfl, rfl, _, rfl, ?_⟩
      rw [decide_eq_true (by omega)]
      refine iteT ⟨_, _, rfl, rfl, ?_⟩
      rw [decide_eq_true (by omega)]
      exact k' _ sp
    have kl : PySem.W.kitAny K (.type "list") [.type "list", .type "tuple"] = some true := by
      unfold PySem.W.kitAny
      rw [kit_ty (r := true) (by decide +kernel)]
    have kt : PySem.W.kitAny K (.type "tuple") [.type "list", .type "tuple"] = some true := by
      unfold PySem.W.kitAny
      rw [kit_ty (r := false) (by decide +kernel)]
      unfold PySem.W.kitAny
      rw [kit_ty (r := true) (by decide +kernel)]
    rcases hl with hl | hl
    · exact ⟨_, p, _, _, _, _, rfl, upd_same, .cons (.ty _) (.cons (.ty _) .nil), .base (.lst (sp _ _ hl)), kl, _, rfl, iteT ⟨_, rfl, l, xs, rfl, .inl (SqL.of (sp _ _ hl)), fin _ rfl _ k⟩⟩
    · exact ⟨_, p, _, _, _, _, rfl, upd_same, .cons (.ty _) (.cons (.ty _) .nil), .base (.tup (sp _ _ hl)), kt, _, rfl, iteT ⟨_, rfl, l, xs, rfl, .inr (SqT.of (sp _ _ hl)), fin _ rfl _ k⟩⟩
/-- _is_step of a good step -/
def spStep (C : Addr) : Sp := fun vs H Q _ => ∃ (x : V) (h : Nat) (st : M.Step), vs = [x, .int (h : Int)] ∧ StepAt C H st x ∧ M.Step.fine h st ∧ Q (.bl true) H
theorem scSt : FnScope ["value", "head", "kind"] ["value", "head"] (defScope sStep) := ⟨rfl, rfl, rfl, by decide +kernel, rfl, by decide +kernel, by decide +kernel⟩
theorem kinds : ("road" : Str) ≠ "join" ∧ ("road" : Str) ≠ "tunnel" ∧ ("join" : Str) ≠ "tunnel" ∧ ("join" : Str) ≠ "road" ∧ ("tunnel" : Str) ≠ "road" ∧ ("tunnel" : Str) ≠ "join" := by decide +kernel
theorem ok_step {f : Addr} {fd : FuncData} (F : Fun K "_is_step" "_is_step" sStep f fd) (B : Bn mg) (T : Wt K mg C) (WR : Df P w K mg base 3 "is_road" ["size", "sealed", "loose", "least"] spRoad) (WM : Df P w K mg base 3 "is_most" ["value"] (spIn1 1 1000000000000)) (WT : Df P w K mg base 1 "is_tells" ["value"] spTells) :
    FnOk P w K mg base CX0 5 f fd ["value", "head"] (spStep C) := by
  obtain ⟨fR, fdR, GR, gR, kR, bR⟩ := WR.ex
  obtain ⟨fM, fdM, GM, gM, kM, bM⟩ := WM.ex
  obtain ⟨fT, fdT, GT, gT, kT, bT⟩ := WT.ex
  refine F.ok scSt (fun vs H Q E h => ?_) (fun cdv A outer s H vs Q E hr h => ?_)
  · obtain ⟨x, h, st, rfl, _⟩ := h
    rfl
  · obtain ⟨x, h, st, rfl, hx, hf, k⟩ := h
    refine ⟨_, pss_cons (ps_if (PW.pt (pw_or (pt_not (pt_val (pe_callB call_isi (by rfl) B.isi (by decide +kernel) (pa_cons (pv 0) (pa_cons (pe_bltn (v := .ty "tuple") (by rfl) B.tuple (by decide +kernel) rfl) pa_nil))))) (pw_or1 (pt_cmpR (op_eq) (pe_callB call_len_seq (by rfl) B.len PySem.boot_len (pa_cons (pv 0) pa_nil)) (pe_int) (nomark _))))) (pss_one (ps_ret pe_bl)) (pss_nil))
      (pss_cons (ps_set (i := 2) scSt.nd rfl (Or.inl rfl) (pe_ix ix_tup (pv 0) pe_int (fun _ _ => rfl)))
      (pss_cons (ps_if (pt_cmpR (op_eq) (pv 2) (pe_str) (nomark _)) (pss_one (ps_ret (pe_and (pe_cmpR (op_eq) (pe_callB call_len_seq (by rfl) B.len PySem.boot_len (pa_cons (pv 0) pa_nil)) (pe_int) (nomark _)) (pe_one (pe_call GR (hr.mono (by decide)) rfl gR kR bR .nil pass0 (pa_cons (pe_ix ix_tup (pv 0) pe_int (fun _ _ => rfl)) (pa_cons (pe_ix ix_tup (pv 0) pe_int (fun _ _ => rfl)) (pa_cons (pe_ix ix_tup (pv 0) pe_int (fun _ _ => rfl)) (pa_cons (pe_op op_add (pv 1) (pe_int)) pa_nil))))))))) (pss_nil))
      (pss_cons (ps_if (pt_cmpR (op_eq) (pv 2) (pe_str) (nomark _)) (pss_one (ps_ret (pe_and (pe_cmpR (op_eq) (pe_callB call_len_seq (by rfl) B.len PySem.boot_len (pa_cons (pv 0) pa_nil)) (pe_int) (nomark _)) (pe_one (pe_call GM (hr.mono (by decide)) rfl gM kM bM .nil pass0 (pa_cons (pe_ix ix_tup (pv 0) pe_int (fun _ _ => rfl)) pa_nil)))))) (pss_nil))
      (pss_cons (ps_if (pt_cmpR (op_eq) (pv 2) (pe_str) (nomark _)) (pss_one (ps_ret (pe_and (pe_cmpR (op_eq) (pe_callB call_len_seq (by rfl) B.len PySem.boot_len (pa_cons (pv 0) pa_nil)) (pe_int) (nomark _)) (pe_and (pe_callB call_isi (by rfl) B.isi (by decide +kernel) (pa_cons (pe_ix ix_tup (pv 0) pe_int (fun _ _ => rfl)) (pa_cons (pe_glob (v := .ref C) rfl T.g rfl) pa_nil))) (pe_and (pe_call GM (hr.mono (by decide)) rfl gM kM bM .nil pass0 (pa_cons (pe_ix ix_tup (pv 0) pe_int (fun _ _ => rfl)) pa_nil)) (pe_one (pe_call GT (hr.mono (by decide)) rfl gT kT bT .nil pass0 (pa_cons (pe_ix ix_tup (pv 0) pe_int (fun _ _ => rfl)) pa_nil)))))))) (pss_nil))
      (pss_one (ps_ret pe_bl)))))), ?_⟩
    have pre : ∀ (t : Addr) (y : V) (ys : List V), x = .ref t → H t = some (.tup (y :: ys)) → ∀ (D : Ends) (rest : TS), rest D [some x, some (.int (h : Int)), some y] H →
        tSeq (tIfS (tOr (tNot (tB (tCB (rIsi K) (tCons (tVar 0) (tCons (tC (.ty "tuple")) tNil))))) (tTest (tOp rEq (tCB (fun xs H Q => ∃ p ys, xs = [.ref p] ∧ (SqL K H p ys ∨ SqT K H p ys) ∧ Q (.int ys.length) H) (tCons (tVar 0) tNil)) (tC (.int 0))))) (tRet (tC (.bl false))) tNext)
          (tSeq (tAsg (tOp (rIxT K) (tVar 0) (tC (.int 0))) (gName 2)) rest) D [some x, some (.int (h : Int)), none] H := by
      intro t y ys ex ht D rest q
      subst ex
      refine ⟨_, rfl, _, _, _, _, _, rfl, .ty _, .base (.tup ht), kit_ty (r := true) (by decide +kernel), _, rfl, iteF ⟨_, rfl, t, _, rfl, .inr (SqT.of ht), rfl, _, rfl, ?_⟩⟩
      have e : decide (V.int ((y :: ys).length : Int) = V.int 0) = false := decide_eq_false (by
        intro z
        injection z with z
        simp at z
        omega)
      rw [e]
      exact iteF ⟨_, rfl, t, _, _, y, rfl, rfl, SqT.of ht, (by exact atI_nat (xs := y :: ys) (j := 0) rfl), q⟩
    have yes : ∀ {a : Str}, decide (V.str a = V.str a) = true := decide_eq_true rfl
    have no : ∀ {a b : Str}, a ≠ b → decide (V.str a = V.str b) = false := fun h => decide_eq_false fun z => h (V.str.inj z)
    cases st with
    | road size ts lw =>
      unfold StepAt at hx
      unfold M.Step.fine at hf
      obtain ⟨t, rfl, ht⟩ := hx
      refine pre t _ _ rfl ht _ _ ⟨_, rfl, rfl, _, rfl, ?_⟩
      rw [yes]
      exact iteT ⟨_, rfl, t, _, rfl, .inr (SqT.of ht), rfl, _, rfl, iteT ⟨_, rfl, t, _, _, _, rfl, rfl, SqT.of ht, (by exact atI_nat (xs := [V.str "road", .int (size : Int), .str (sdS ts), .str (lwS lw)]) (j := 1) rfl), _, rfl, t, _, _, _, rfl, rfl, SqT.of ht, (by exact atI_nat (xs := [V.str "road", .int (size : Int), .str (sdS ts), .str (lwS lw)]) (j := 2) rfl), _, rfl, t, _, _, _, rfl, rfl, SqT.of ht, (by exact atI_nat (xs := [V.str "road", .int (size : Int), .str (sdS ts), .str (lwS lw)]) (j := 3) rfl), _, rfl, _, _, rfl, rfl, size, (h : Int) + 1, ts, lw, rfl, by omega, hf.2, k⟩⟩
    | join most =>
      unfold StepAt at hx
      unfold M.Step.fine at hf
      obtain ⟨t, rfl, ht⟩ := hx
      refine pre t _ _ rfl ht _ _ ⟨_, rfl, rfl, _, rfl, ?_⟩
      rw [no kinds.2.2.2.1]
      refine iteF ⟨_, rfl, rfl, _, rfl, ?_⟩
      rw [yes]
      refine iteT ⟨_, rfl, t, _, rfl, .inr (SqT.of ht), rfl, _, rfl, iteT ⟨_, rfl, t, _, _, _, rfl, rfl, SqT.of ht, (by exact atI_nat (xs := [V.str "join", V.int (most : Int)]) (j := 1) rfl), most, rfl, ?_⟩⟩
      rw [decide_eq_true (by omega)]
      exact k
    | tunnel w most tw =>
      unfold StepAt at hx
      unfold M.Step.fine at hf
      obtain ⟨t, a, rfl, ht, hw⟩ := hx
      refine pre t _ _ rfl ht _ _ ⟨_, rfl, rfl, _, rfl, ?_⟩
      rw [no kinds.2.2.2.2.1]
      refine iteF ⟨_, rfl, rfl, _, rfl, ?_⟩
      rw [no kinds.2.2.2.2.2]
      refine iteF ⟨_, rfl, rfl, _, rfl, ?_⟩
      rw [yes]
      obtain ⟨wh, ws⟩ := w
      unfold WayAt at hw
      obtain ⟨dx, u, xs, h1, _, _⟩ := hw
      have kit : PySem.W.kitOne K (.ref C) (.ref C) = some true := by
        unfold PySem.W.kitOne
        rw [if_pos (by simp)]
      refine iteT ⟨_, rfl, t, _, rfl, .inr (SqT.of ht), rfl, _, rfl, iteT ⟨_, rfl, t, _, _, _, rfl, rfl, SqT.of ht, (by exact atI_nat (xs := [V.str "tunnel", .ref a, .int (most : Int), .str (twS tw)]) (j := 1) rfl), _, _, _, _, true, rfl, .own C, .base (.ins h1 T.cl T.iA T.iN T.iT T.iM), kit, _, rfl, iteT ⟨_, rfl, t, _, _, _, rfl, rfl, SqT.of ht, (by exact atI_nat (xs := [V.str "tunnel", .ref a, .int (most : Int), .str (twS tw)]) (j := 2) rfl), most, rfl, ?_⟩⟩⟩
      rw [decide_eq_true (by omega)]
      exact ⟨_, rfl, iteT ⟨_, rfl, t, _, _, _, rfl, rfl, SqT.of ht, (by exact atI_nat (xs := [V.str "tunnel", .ref a, .int (most : Int), .str (twS tw)]) (j := 3) rfl), tw, rfl, k⟩⟩
end
end WP

end
section
set_option autoImplicit false
set_option Elab.async false
set_option linter.all false
set_option maxRecDepth 100000
set_option maxHeartbeats 4000000
namespace WP
open PySem L2 G PyProof.Rows
/-! ### a tuple that is counted through -/
theorem en_new {v : Value} {o : Obj} {Hd : Heap → Prop} (B : Begins v o Hd) : Meets (Builtin.«enumerate.__new__» ⟨[.type "enumerate", v], []⟩) (fun _ R u => Hd u.heap ∧ R (.ok (.ret (.ref (u.heap.push o).objs.size))) { u with heap := (u.heap.push o).push { cls := .type "enumerate", data := .fields #[.none, .bool false, .ref u.heap.objs.size, rawInt 0, .none, .none] } }) :=
  .of_wp fun prog w A R u h => by
    obtain ⟨x, g, d, k, os⟩ := u
    obtain ⟨h1, h⟩ := h
    have sb := sub_enumerate
    have q1 : ∀ {A2 : Around} {E : Value → Shared → Prop} {Q : Value → Shared → Prop}, Q (.ref x.objs.size) ⟨x.push o, g, d, k, os⟩ → wpAny (model prog w) A2 (pyIter v) Q E ⟨x, g, d, k, os⟩ := fun q => B.iter prog w _ _ ⟨x, g, d, k, os⟩ _ h1 q
    wp_walk using q1
    refine wpAny_stack_any fun _ => wpAny_pure ?_
    split
    · rename_i c _ _ _ _ _
      cases (c == Value.type "enumerate") <;> (wp_walk using q1; exact ⟨_, rfl, h⟩)
    · (wp_walk using q1; exact ⟨_, rfl, h⟩)
theorem en_call {prog : Program} {w : World} {A : Around} {E : Value → Shared → Prop} {s : Shared} {v : Value} {o : Obj} {Hd : Heap → Prop} {Q : Value → Shared → Prop} (B : Begins v o Hd) (h1 : Hd s.heap)
    (h : ∀ u, IsEnum u (s.heap.objs.size + 1) s.heap.objs.size 0 .none → u.get? s.heap.objs.size = some o → (∀ b p, s.heap.get? b = some p → u.get? b = some p) → Q (.ref (s.heap.objs.size + 1)) { s with heap := u }) : wpAny (model prog w) A (call (.type "enumerate") [v]) Q E s := by
  refine callType_new F.called_enumerate (by decide) (F.typeCall_enumerate_1 _) (F.newCall_enumerate_1 _) (fun x => F.args_object_init_2 x _) F.entry_enumerate_new (en_new B) ⟨h1, ?_⟩
  have z : (s.heap.push o).objs.size = s.heap.objs.size + 1 := Heap.size_push ..
  show _ ∧ _
  rw [z]
  have he := Heap.get?_push_size (s.heap.push o) (o := { cls := .type "enumerate", data := .fields #[.none, .bool false, .ref s.heap.objs.size, rawInt 0, .none, .none] }) rfl
  rw [z] at he
  exact ⟨⟨_, he, rfl⟩, h _ he (Heap.get?_push_of_some _ (Heap.get?_push_size _ B.free)) fun b p e => Heap.get?_push_of_some _ (Heap.get?_push_of_some _ e)⟩
/-- the tuple at a, each item in a new pair behind its place -/
def Iet (K : PySem.W.Frag) (a : Addr) : It where
  go := fun i H => ∃ (xs : List V) (x : V), SqT K H a xs ∧ xs[i]? = some x
  yld := fun i H v H' => ∃ T x, v = .ref T ∧ H T = none ∧ H' = upd H T (.tup [.int (i : Nat), x]) ∧ ∀ xs, SqT K H a xs → xs[i]? = some x
  stop := fun i H => ∃ xs : List V, SqT K H a xs ∧ xs.length ≤ i
theorem turn_et {P : Program} {w : World} {K : PySem.W.Frag} {elts : List Expr} {kk : Nat} {tpos : Pos} (a e it : Addr) (hae : a ≠ e) (hai : a ≠ it) :
    Turn P w K (.Tuple elts kk tpos) (Iet K a) [e, it] e (fun i h => (∃ x, IsEnum h e it ((i : Nat) : Int) x) ∧ h.IsTupleIter it a i ∧ e ≠ it) where
  mem := List.mem_cons_self
  obj := fun i h st b hb => by
    obtain ⟨⟨x, he⟩, ⟨o, ho, hc, hd⟩, _⟩ := st
    rcases List.mem_cons.mp hb with z | z
    · subst z
      exact ⟨_, he, fun v q => nomatch q⟩
    · have z2 : b = it := by simpa using z
      subst z2
      exact ⟨o, ho, fun v q => by rw [hd] at q; cases q⟩
  keep := fun i h h' st k => by
    obtain ⟨⟨x, he⟩, hi, hn⟩ := st
    exact ⟨⟨x, k e (by simp) _ he⟩, hi.at fun o q => k it (by simp) o q, hn⟩
  item := by
    intro X hP hw hK hc i
    intro pins s σ H E I hf st hg
    subst hP hw hK
    obtain ⟨⟨_, he⟩, hit, hne⟩ := st
    obtain ⟨xs, x, hq, hx⟩ := hg
    obtain ⟨its, rv, p, lz⟩ := I.tuple hq
    obtain ⟨u, hu, ru⟩ := rv.get hx
    have hi : i < its.toArray.size := by
      have := List.getElem?_eq_some_iff.mp hu
      obtain ⟨z, _⟩ := this
      simpa using z
    have le : e < s.heap.objs.size := Heap.lt_size he
    have li : it < s.heap.objs.size := by
      obtain ⟨_, q, _⟩ := hit
      exact Heap.lt_size q
    have hef : e ∉ [it, a] := by
      intro z
      rcases List.mem_cons.mp z with z | z
      · exact hne z
      · have z2 : e = a := by simpa using z
        exact hae z2.symm
    refine wpAny_pyNext_enum_itemD (Draws.tuple (A := X.A.in1) (by exact I.ok.hd hc) it a hai its.toArray) he ⟨hit, show s.heap.IsTuple a its.toArray from p⟩ hi hne hef fun y h' tk hy ho hs hT hsz hk => ?_
    have ey : y = u := by
      have q : its.toArray[i]? = some u := by simpa using hu
      rw [q] at hy
      exact (Option.some.inj hy).symm
    subst ey
    refine ⟨_, rfl, wpAny_letOwnedTupleGo_enum (s := { s with heap := h', toks := tk + 1 }) ho fun h2 he2 sb => ?_⟩
    have hT2 : h2.get? s.heap.objs.size = some { cls := .type "tuple", data := .seq #[.int i tk, y] } := (sb.2 _ (Nat.ne_of_gt le)).trans hT
    have new : ObjOk X.prog X.w (upd H s.heap.objs.size (.tup [.int (i : Nat), x])) h2 s.heap.objs.size (.tup [.int (i : Nat), x]) :=
      ⟨by show 2 ≤ sizeLine; decide, [.int i tk, y], .cons ⟨_, rfl⟩ (.cons ru .nil), ⟨_, hT2, rfl, _, rfl⟩⟩
    have keep : ∀ b ob, b ∉ [e, it] → s.heap.get? b = some ob → h2.get? b = some ob := fun b ob hb q => (sb.2 b (fun z => hb (by simp [z]))).trans (hk b ob (fun z => hb (by simp [z])) (fun z => hb (by simp [z])) q)
    have I1 : Inv X pins σ (upd H s.heap.objs.size (.tup [.int (i : Nat), x])) { s with heap := h2, toks := tk + 1 } := I.turnedNew (ch := [e, it]) keep hf (Nat.le_refl _) new
    refine ⟨.ref s.heap.objs.size, _, I1, rfl, ⟨_, x, rfl, I.hok.fresh (Nat.le_refl _), rfl, fun ys hy => by rw [I.tuple_inj hy hq]; exact hx⟩, ⟨⟨y, ?_⟩, hs.1.at fun o q => (sb.2 it (Ne.symm hne)).trans q, hne⟩, fun b hb => ?_⟩
    · rw [show ((i + 1 : Nat) : Int) = (i : Int) + 1 by omega]
      exact he2
    · have lb : b < s.heap.objs.size := by
        rcases List.mem_cons.mp hb with z | z
        · rw [z]; exact le
        · rw [show b = it by simpa using z]; exact li
      rw [upd_ne (Nat.ne_of_lt lb)]
      exact (hf b hb).1
  done := by
    intro X hP hw hK hc i
    intro pins s σ H E I hf st hg
    subst hP hw hK
    obtain ⟨⟨_, he⟩, hit, hne⟩ := st
    obtain ⟨xs, hq, hx⟩ := hg
    obtain ⟨its, rv, p, lz⟩ := I.tuple hq
    have ⟨f0, f1, f2, f3, f4, f5⟩ := hf it (List.mem_cons_of_mem _ List.mem_cons_self)
    have hl := rv.length
    have hTe : s.TypeIs (.ref e) "enumerate" := ⟨_, he, rfl⟩
    unfold pyNext
    refine wpAny_bind (wpAny_attempt (wpAny_callSpecial?_slot (name := Str.ofString "__next__") hTe F.slot_enumerate_next (wpAny_call_entry F.slot_enumerate_next hTe F.entry_enumerate_next ?_ (F.args_enumerate_next_1 _))))
    refine (show wpAny _ _ (field (.ref e) 2 >>= _) _ _ _ from ?_)
    refine wpAny_bind (wpAny_field he rfl (x := .ref it) rfl (wpAny_bind (wpAny_nextOf_tuple_end (I.ok.hd hc) hit (show s.heap.IsTuple a its.toArray from p) (by simp; omega) fun h' x hx1 hx2 => ?_)))
    obtain ⟨o, ho, hc2⟩ := hx2
    exact wpAny_bind (wpAny_isInstance (T := "StopIteration") (b := true) ⟨o, ho, hc2⟩ isSubtype_stop (wpAny_pure ⟨rfl, I.turned (t' := s.toks) (fun b o hb q => hx1 b o hb q) f0 f1 f3 f4 f5⟩))
  self := fun _ _ s Q E st h => by
    obtain ⟨⟨x, he⟩, _⟩ := st
    exact wpAny_pyIter_enum he h
def iEnT (K : PySem.W.Frag) (ta : TA) : TI := fun σ H R => ta σ H fun vs H1 => ∃ a xs, vs = [.ref a] ∧ SqT K H1 a xs ∧ R (Iet K a) H1
theorem pi_et {X : Cx} {e : Expr} {ta : TA} {p pos tpos : Pos} {elts : List Expr} {kk : Nat} (hg : Gl X "enumerate") (hm : X.mg "enumerate" = none) (ha : PA X [e] ta) (hs : starEach [e] X.env = [(false, eval e X.env)] := by rfl) : PI X (.Tuple elts kk tpos) (.Call (.Name "enumerate" p) [e] [] pos) (iEnT X.K ta) := by
  constructor
  intro pins s σ H R I h
  refine Call_ (ld_blt I hg hm boot_enumerate (PyProof.Rows.callWith_type1 (thn (ha.run pos pins s σ H _ I h) fun us s1 ⟨vs, H1, I1, r1, a, xs, ex, hq, q⟩ => ?_) hs rfl))
  subst ex
  cases r1 with
  | cons r rr =>
    cases rr
    cases r
    obtain ⟨its, rv, p', hz⟩ := I1.tuple hq
    have p2 : s1.heap.IsTuple a its.toArray := p'
    have la : a < s1.heap.objs.size := by
      obtain ⟨_, q, _⟩ := p2
      exact Heap.lt_size q
    refine en_call (begins_tuple a its.toArray) p2 fun u he hit hk => wpAny_pyIter_enum he ?_
    have I2 : Inv X pins σ H1 { s1 with heap := u } := I1.kept (t' := s1.toks) hk
    refine ⟨_, [s1.heap.objs.size + 1, s1.heap.objs.size], _, _, H1, rfl, I2, turn_et a (s1.heap.objs.size + 1) s1.heap.objs.size (Nat.ne_of_lt (Nat.lt_succ_of_lt la)) (Nat.ne_of_lt la), ⟨⟨.none, he⟩, ⟨_, hit, rfl, rfl⟩, Nat.succ_ne_self _⟩, fun b hb => ?_, q⟩
    have sb : s1.heap.objs.size ≤ b := by
      rcases List.mem_cons.mp hb with z | z
      · rw [z]; exact Nat.le_add_right _ _
      · rw [show b = s1.heap.objs.size by simpa using z]
        exact Nat.le_refl _
    exact I1.fpOk sb (I1.hok.fresh sb)
theorem walk_et {K : PySem.W.Frag} {a : Addr} {xs : List V} : Walk (Iet K a) xs.length (fun H => SqT K H a xs) (YPair (fun i => some (.int (i : Nat))) (fun i => xs[i]?)) where
  goes := fun i _ hi q => ⟨xs, xs[i], q, by simp [hi]⟩
  stops := fun _ q => ⟨xs, q, Nat.le_refl _⟩
  yields := fun i H v H' _ q y => by
    obtain ⟨T, x, h1, h2, h3, h4⟩ := y
    exact ⟨T, _, x, h1, h2, h3, rfl, h4 xs q⟩
end WP

end
section
set_option autoImplicit false
set_option Elab.async false
set_option linter.all false
set_option maxRecDepth 100000
set_option maxHeartbeats 4000000
/-! ## Way.__init__ for good rows: the pieces -/
namespace M
def tuns : List Step → List Way
  | [] => []
  | .tunnel w _ _ :: r => w :: tuns r
  | .road _ _ _ :: r => tuns r
  | .join _ :: r => tuns r
theorem tuns_app : ∀ (l m : List Step), tuns (l ++ m) = tuns l ++ tuns m
  | [], m => rfl
  | .tunnel w a b :: r, m => by
    show w :: tuns (r ++ m) = w :: tuns r ++ tuns m
    rw [tuns_app r m]; rfl
  | .road a b c :: r, m => tuns_app r m
  | .join a :: r, m => tuns_app r m
theorem tuns_len : ∀ l : List Step, (tuns l).length ≤ l.length
  | [] => Nat.le_refl _
  | .tunnel w a b :: r => by
    show (tuns r).length + 1 ≤ r.length + 1
    exact Nat.succ_le_succ (tuns_len r)
  | .road a b c :: r => Nat.le_succ_of_le (tuns_len r)
  | .join a :: r => Nat.le_succ_of_le (tuns_len r)
theorem inner_eq : ∀ st : List Step, Step.inner st = ((tuns st).map Way.size).sum
  | [] => by simp [Step.inner, tuns]
  | .tunnel w a b :: r => by
    unfold Step.inner tuns
    rw [inner_eq r, List.map_cons, List.sum_cons]
  | .road a b c :: r => by
    unfold Step.inner tuns
    exact inner_eq r
  | .join a :: r => by
    unfold Step.inner tuns
    exact inner_eq r
theorem deepest_eq : ∀ st : List Step, Step.deepest st = (tuns st).foldr (fun w d => max w.depth d) 0
  | [] => by simp [Step.deepest, tuns]
  | .tunnel w a b :: r => by
    unfold Step.deepest tuns
    rw [deepest_eq r, List.foldr_cons]
  | .road a b c :: r => by
    unfold Step.deepest tuns
    exact deepest_eq r
  | .join a :: r => by
    unfold Step.deepest tuns
    exact deepest_eq r
theorem fold_max : ∀ (l : List Int) (a b : Int), (l.foldl max (max a b)) = max a (l.foldl max b)
  | [], a, b => rfl
  | c :: r, a, b => by
    show r.foldl max (max (max a b) c) = max a (r.foldl max (max b c))
    rw [Int.max_assoc, fold_max r a (max b c)]
theorem deep_max (ws : List Way) : (match ws.map fun w => ((w.depth : Nat) : Int) with | [] => (0 : Int) | n :: r => r.foldl max n) = ((ws.foldr (fun w d => max w.depth d) 0 : Nat) : Int) := by
  induction ws with
  | nil => rfl
  | cons w r ih =>
    show ((r.map fun w => ((w.depth : Nat) : Int)).foldl max ((w.depth : Nat) : Int)) = _
    cases r with
    | nil => show ((w.depth : Nat) : Int) = ((max w.depth 0 : Nat) : Int); rw [Nat.max_zero]
    | cons v q =>
      show ((q.map fun w => ((w.depth : Nat) : Int)).foldl max (max ((w.depth : Nat) : Int) ((v.depth : Nat) : Int))) = _
      rw [fold_max]
      have e : ((q.map fun w => ((w.depth : Nat) : Int)).foldl max ((v.depth : Nat) : Int)) = (((v :: q).foldr (fun w d => max w.depth d) 0 : Nat) : Int) := ih
      rw [e]
      show _ = ((max w.depth ((v :: q).foldr (fun w d => max w.depth d) 0) : Nat) : Int)
      omega
theorem sum_cast (ws : List Way) : (ws.map fun w => ((w.size : Nat) : Int)).sum = (((ws.map Way.size).sum : Nat) : Int) := by
  induction ws with
  | nil => rfl
  | cons w r ih => rw [List.map_cons, List.sum_cons, ih, List.map_cons, List.sum_cons]; omega
end M
namespace WP
open PySem L2 G
section
variable {X : Cx} {tg it : Expr}
theorem pi_or {w1 w2 : TI} (h1 : PI X tg it w1) (h2 : PI X tg it w2) : PI X tg it (fun σ H R => w1 σ H R ∨ w2 σ H R) := ⟨fun pins s σ H R I h => h.elim (h1.run pins s σ H R I) (h2.run pins s σ H R I)⟩
def tDead : TS := fun _ _ _ => False
theorem ps_dead {b : List Stmt} : PSs X b tDead := ⟨fun _ _ _ _ _ _ h => h.elim⟩
end
def SAt (H : Hp) (l : Addr) (xs : List V) : Prop := H l = some (.lst xs) ∨ H l = some (.tup xs)
theorem SAt.mono {H H' : Hp} {l : Addr} {xs : List V} (s : Same H H') (h : SAt H l xs) : SAt H' l xs := h.elim (fun e => .inl (s _ _ e)) fun e => .inr (s _ _ e)
section
variable {K : PySem.W.Frag} {H : Hp} {σ : St} {l : Addr} {xs : List V}
theorem or_seq {te : TE} {R : It → Hp → Prop} (ht : ∀ Q : VK, Q (.ref l) H → te σ H Q) (hl : SAt H l xs) (k : ∀ (J : It) (Gd : Hp → Prop), (∀ H', Same H H' → Gd H') → Walk J xs.length Gd (YAt xs) → R J H) : iList K te σ H R ∨ iTup K te σ H R :=
  hl.elim (fun e => .inl (ht _ ⟨l, rfl, ⟨xs, SqL.of e⟩, k _ _ (fun H' s => SqL.of (s _ _ e)) walk_list⟩)) fun e => .inr (ht _ ⟨l, rfl, ⟨xs, SqT.of e⟩, k _ _ (fun H' s => SqT.of (s _ _ e)) walk_tup⟩)
theorem or_enum {ta : TA} {R : It → Hp → Prop} (ht : ∀ Q : List V → Hp → Prop, Q [.ref l] H → ta σ H Q) (hl : SAt H l xs) (k : ∀ (J : It) (Gd : Hp → Prop), (∀ H', Same H H' → Gd H') → Walk J xs.length Gd (YPair (fun i => some (.int (i : Nat))) (fun i => xs[i]?)) → R J H) : iEnum K ta σ H R ∨ iEnT K ta σ H R :=
  hl.elim (fun e => .inl (ht _ ⟨l, xs, rfl, SqL.of e, k _ _ (fun H' s => SqL.of (s _ _ e)) walk_enum⟩)) fun e => .inr (ht _ ⟨l, xs, rfl, SqT.of e, k _ _ (fun H' s => SqT.of (s _ _ e)) walk_et⟩)
end
/-- ways at addresses -/
inductive WaysAt (C : Addr) (H : Hp) : List M.Way → List V → Prop
  | nil : WaysAt C H [] []
  | cons {w : M.Way} {a : Addr} {ws : List M.Way} {vs : List V} (h : WayAt C H w a) (t : WaysAt C H ws vs) : WaysAt C H (w :: ws) (.ref a :: vs)
theorem WaysAt.mono {C : Addr} {H H' : Hp} (s : Same H H') {ws : List M.Way} {vs : List V} (h : WaysAt C H ws vs) : WaysAt C H' ws vs := by
  induction h with
  | nil => exact .nil
  | cons h _ ih => exact .cons (h.mono s) ih
theorem WaysAt.snoc {C : Addr} {H : Hp} {ws : List M.Way} {vs : List V} {w : M.Way} {a : Addr} (h : WaysAt C H ws vs) (hw : WayAt C H w a) : WaysAt C H (ws ++ [w]) (vs ++ [.ref a]) := by
  induction h with
  | nil => exact .cons hw .nil
  | cons h _ ih => exact .cons h ih
theorem WaysAt.len {C : Addr} {H : Hp} {ws : List M.Way} {vs : List V} (h : WaysAt C H ws vs) : vs.length = ws.length := by
  induction h with
  | nil => rfl
  | cons _ _ ih => simp [ih]
theorem WaysAt.get {C : Addr} {H : Hp} {ws : List M.Way} {vs : List V} (h : WaysAt C H ws vs) : ∀ {i : Nat} {v : V}, vs[i]? = some v → ∃ w a, ws[i]? = some w ∧ v = .ref a ∧ WayAt C H w a := by
  induction h with
  | nil => intro i v e; cases e
  | cons h t ih =>
    intro i v e
    cases i with
    | zero => cases e; exact ⟨_, _, rfl, rfl, h⟩
    | succ i => obtain ⟨w, a, e1, e2, e3⟩ := ih (i := i) e; exact ⟨w, a, e1, e2, e3⟩
end WP

end
section
set_option autoImplicit false
set_option Elab.async false
set_option linter.all false
set_option maxRecDepth 100000
set_option maxHeartbeats 4000000
/-! ## Way.__init__ for good rows -/
namespace WP
open PySem L2 G
section
variable {P : Program} {w : World} {K : PySem.W.Frag} {mg : Str → Option Value} {base : Heap} {C : Addr}
abbrev NI : List Str := ["self", "head", "steps", "position", "step", "inner_ways", "depth", "size", "inner"]
theorem scI : FnScope NI ["self", "head", "steps"] (defScope sInit) := ⟨rfl, rfl, rfl, by decide +kernel, rfl, by decide +kernel, by decide +kernel⟩
/-- the ways of the tunnels -/
def tTuns (K : PySem.W.Frag) : TE := tLc (fun σ H R => iList K (tVar 2) σ H R ∨ iTup K (tVar 2) σ H R) (gName 4) (tTest (tOp rEq (tOp (rIxT K) (tVar 4) (tC (.int 0))) (tC (.str "tunnel")))) (tOp (rIxT K) (tVar 4) (tC (.int 1))) [4]
theorem add_upd {H G : Hp} {D : Addr} {o : HO} (nD : H D = none) (s : Same H G) : Same H (upd G D o) := fun b u e => by
  rw [upd_ne (ne_of_none e nD)]
  exact s _ _ e
theorem take_snoc {α : Type} {l : List α} {i : Nat} {x : α} (h : l[i]? = some x) : l.take (i + 1) = l.take i ++ [x] := by
  rw [List.take_succ, h]
  rfl
theorem tuns_run {σ : St} {H : Hp} {a0 a1 p q a5 a6 a7 a8 : Option V} {l : Addr} {xs : List V} {st : List M.Step} {Q : VK} (hσ : σ = [a0, a1, some (.ref l), p, q, a5, a6, a7, a8]) (hl : SAt H l xs) (hs : StepsAt C H st xs) (hn : xs.length ≤ 1000)
    (k : ∀ D vs H', Same H H' → H' D = some (.lst vs) → WaysAt C H (M.tuns st) vs → Q (.ref D) H') : tTuns K σ H Q := by
  subst hσ
  have yes : ∀ {a : Str}, decide (V.str a = V.str a) = true := decide_eq_true rfl
  have no : ∀ {a b : Str}, a ≠ b → decide (V.str a = V.str b) = false := fun h => decide_eq_false fun z => h (V.str.inj z)
  refine or_seq (fun Q h => ⟨_, rfl, h⟩) hl fun J Gd hG wk D nD => ?_
  refine lc_it wk (fun i G => Same H G ∧ ∃ acc, acc.length ≤ i ∧ G D = some (.lst acc) ∧ WaysAt C H (M.tuns (st.take i)) acc) ⟨Same.of_upd nD, [], Nat.le_refl _, upd_same, .nil⟩ (fun i G _ p => hG G p.1) ?_ ?_
  · rintro i v G G' hi ⟨s, acc, hA, hD, hw⟩ ⟨rfl, hx⟩
    obtain ⟨sp, hsp, hst⟩ := hs.get hx
    have et := take_snoc hsp
    have la : acc.length < sizeLine := Nat.lt_of_lt_of_le (Nat.lt_of_le_of_lt hA hi) (Nat.le_trans hn (by decide))
    have z1 : ∀ {y0 : V} {ys : List V}, atI (y0 :: ys) (0 : Int) = some y0 := fun {y0 ys} => by exact atI_nat (xs := y0 :: ys) (j := 0) rfl
    refine ⟨rfl, ?_⟩
    have hst2 := hst
    cases sp with
    | road size ts lw =>
      unfold StepAt at hst
      obtain ⟨t, rfl, ht⟩ := hst
      refine ⟨_, rfl, t, _, _, _, rfl, rfl, SqT.of (s _ _ ht), z1, rfl, _, rfl, ?_⟩
      rw [no kinds.2.1]
      refine iteF ⟨s, acc, Nat.le_succ_of_le hA, hD, ?_⟩
      rw [et, M.tuns_app]
      exact (List.append_nil _).symm ▸ hw
    | join most =>
      unfold StepAt at hst
      obtain ⟨t, rfl, ht⟩ := hst
      refine ⟨_, rfl, t, _, _, _, rfl, rfl, SqT.of (s _ _ ht), z1, rfl, _, rfl, ?_⟩
      rw [no kinds.2.2.1]
      refine iteF ⟨s, acc, Nat.le_succ_of_le hA, hD, ?_⟩
      rw [et, M.tuns_app]
      exact (List.append_nil _).symm ▸ hw
    | tunnel wy most tw =>
      unfold StepAt at hst
      obtain ⟨t, a, rfl, ht, hway⟩ := hst
      refine ⟨_, rfl, t, _, _, _, rfl, rfl, SqT.of (s _ _ ht), z1, rfl, _, rfl, ?_⟩
      rw [yes]
      refine iteT ⟨_, rfl, t, _, _, _, rfl, rfl, SqT.of (s _ _ ht), (by exact atI_nat (xs := [V.str "tunnel", V.ref a, V.int (most : Int), V.str (twS tw)]) (j := 1) rfl), acc, hD, la, add_upd nD s, _, by simp; exact hA, upd_same, ?_⟩
      rw [et, M.tuns_app]
      exact hw.snoc hway
  · rintro G ⟨s, acc, hA, hD, hw⟩
    have e : st.take xs.length = st := by rw [hs.len]; exact List.take_length
    rw [e] at hw
    exact k D acc G s hD hw
/-- a field of each of the ways, ints -/
def tFlds (K : PySem.W.Frag) (f : Str) : TE := tLc (iList K (tVar 5)) (gName 8) tYes (tFld K (tVar 8) f) [8]
theorem flds_run {f : Str} {g : M.Way → Int} {σ : St} {H : Hp} {a0 a1 a2 p q a6 a7 a8 : Option V} {D0 : Addr} {vs : List V} {ws : List M.Way} {Q : VK} (T : Wt K mg C) (nf : NoAttr K C f) (hg : ∀ H wy a, WayAt C H wy a → ∃ dx fs, H a = some (.ins C dx fs) ∧ fs.lookup f = some (.int (g wy)))
    (hσ : σ = [a0, a1, a2, p, q, some (.ref D0), a6, a7, a8]) (hl : H D0 = some (.lst vs)) (hw : WaysAt C H ws vs) (hn : vs.length ≤ 1000) (k : ∀ D H', Same H H' → H' D = some (.lst ((ws.map g).map V.int)) → Q (.ref D) H') : tFlds K f σ H Q := by
  subst hσ
  refine ⟨_, rfl, D0, rfl, ⟨vs, SqL.of hl⟩, fun D nD => ?_⟩
  refine lc_it walk_list (fun i G => Same H G ∧ G D = some (.lst ((((ws.take i).map g)).map V.int))) ⟨Same.of_upd nD, upd_same⟩ (fun i G _ p => SqL.of (p.1 _ _ hl)) ?_ ?_
  · rintro i v G G' hi ⟨s, hD⟩ ⟨rfl, hx⟩
    obtain ⟨wy, a, hwi, rfl, hat⟩ := hw.get hx
    obtain ⟨dx, fs, h1, h2⟩ := hg H wy a hat
    refine ⟨rfl, _, rfl, a, C, dx, fs, _, rfl, s _ _ h1, T.cl, nf, h2, _, hD, ?_, add_upd nD s, ?_⟩
    · rw [List.length_map, List.length_map, List.length_take]
      exact Nat.lt_of_le_of_lt (Nat.le_trans (Nat.min_le_left _ _) (Nat.le_of_lt (Nat.lt_of_lt_of_le hi hn))) (by decide)
    · rw [take_snoc hwi, List.map_append, List.map_append, upd_same]
      rfl
  · rintro G ⟨s, hD⟩
    have e : ws.take vs.length = ws := by rw [hw.len]; exact List.take_length
    rw [e] at hD
    exact k D G s hD
theorem depth_fld (H : Hp) (wy : M.Way) (a : Addr) (h : WayAt C H wy a) : ∃ dx fs, H a = some (.ins C dx fs) ∧ fs.lookup ("depth" : Str) = some (.int ((wy.depth : Nat) : Int)) := by
  obtain ⟨wh, ws⟩ := wy
  unfold WayAt at h
  obtain ⟨dx, t, xs, h1, _, _⟩ := h
  refine ⟨dx, _, h1, ?_⟩
  rw [flds_depth]
  unfold M.Way.depth
  rfl
theorem size_fld (H : Hp) (wy : M.Way) (a : Addr) (h : WayAt C H wy a) : ∃ dx fs, H a = some (.ins C dx fs) ∧ fs.lookup ("size" : Str) = some (.int ((wy.size : Nat) : Int)) := by
  obtain ⟨wh, ws⟩ := wy
  unfold WayAt at h
  obtain ⟨dx, t, xs, h1, _, _⟩ := h
  refine ⟨dx, _, h1, ?_⟩
  rw [flds_size]
  unfold M.Way.size
  rfl
end
end WP

end
section
set_option autoImplicit false
set_option Elab.async false
set_option linter.all false
set_option maxRecDepth 100000
set_option maxHeartbeats 4000000
/-! ## Way.__init__ for good rows: the def -/
namespace WP
open PySem L2 G
theorem set_then {te : TE} {i : Nat} {t2 : TS} {D : Ends} {σ : St} {H : Hp} (h : te σ H fun v H1 => t2 D (σ.set i (some v)) H1) : tSeq (tAsg te (gName i)) t2 D σ H := h
theorem add_of {tb : TE} {i : Int} {σ : St} {H : Hp} {Q : VK} (h : tb σ H fun y H2 => ∃ a b, V.int i = .int a ∧ y = .int b ∧ Q (.int (a + b)) H2) : tOp (rI0 fun i j => .int (i + j)) (tC (.int i)) tb σ H Q := h
theorem maxID_at {K : PySem.W.Frag} {H : Hp} {Q : VK} {a : Addr} {ns : List Int} {n : Int} (e : (match ns with | [] => (0 : Int) | n :: r => r.foldl max n) = n) (hq : SqL K H a (ns.map V.int)) (q : Q (.int n) H) : G.rMaxID K [.ref a] [.int 0] H Q := by
  subst e
  refine ⟨a, ns, 0, rfl, rfl, hq, ?_⟩
  cases ns <;> exact q
theorem maxD_of {K : PySem.W.Frag} {tl : TE} {σ : St} {H : Hp} {Q : VK} (h : tl σ H fun x H1 => G.rMaxID K [x] [.int 0] H1 Q) : tCKw (G.rMaxID K) (tCons tl tNil) (tCons (tC (.int 0)) tNil) σ H Q := h
theorem sum_of {K : PySem.W.Frag} {tl : TE} {σ : St} {H : Hp} {Q : VK} (h : tl σ H fun x H1 => rSum K [x] H1 Q) : tCB (rSum K) (tCons tl tNil) σ H Q := h
theorem len_add {K : PySem.W.Frag} {tl : TE} {σ : St} {H : Hp} {Q : VK} {l : Addr} {xs : List V} (hσ : σ[2]? = some (some (.ref l))) (hl : SAt H l xs) (h : tl σ H fun x H1 => rSum K [x] H1 fun y H2 => ∃ a b, V.int (xs.length : Int) = .int a ∧ y = .int b ∧ Q (.int (a + b)) H2) :
    tOp (rI0 fun i j => .int (i + j)) (tCB (fun zs H Q => ∃ p ys, zs = [.ref p] ∧ (SqL K H p ys ∨ SqT K H p ys) ∧ Q (.int ys.length) H) (tCons (tVar 2) tNil)) (tCB (rSum K) (tCons tl tNil)) σ H Q :=
  ⟨_, hσ, l, xs, rfl, hl.elim (fun e => .inl (SqL.of e)) (fun e => .inr (SqT.of e)), h⟩
theorem tup_or {K : PySem.W.Frag} {H : Hp} {l : Addr} {xs : List V} {Q : VK} (hl : SAt H l xs) (k : ∀ t G, Same H G → G t = some (.tup xs) → Q (.ref t) G) : (SqL K H l xs ∧ ∀ q, H q = none → Q (.ref q) (upd H q (.tup xs))) ∨ (SqT K H l xs ∧ Q (.ref l) H) :=
  hl.elim (fun e => .inl ⟨SqL.of e, fun q hq => k _ _ (Same.of_upd hq) upd_same⟩) fun e => .inr ⟨SqT.of e, k _ _ (Same.refl _) e⟩
theorem len_put {f : Str} {v : V} {fs : List (Str × V)} {n : Nat} (h : fs.length < n) : (putF f v fs).length < n + 1 := by
  exact Nat.lt_of_le_of_lt (length_putF f v fs) (Nat.succ_lt_succ h)
section
variable {P : Program} {w : World} {K : PySem.W.Frag} {mg : Str → Option Value} {base : Heap} {C : Addr}
/-- at a new instance x: steps of a list or a tuple, as they stood before it was made -/
def spInit (C : Addr) : Sp := fun vs H Q _ => ∃ (x l dx : Addr) (h : Nat) (xs : List V) (st : List M.Step) (H0 : Hp), vs = [.ref x, .int (h : Int), .ref l] ∧ H x = some (.ins C dx []) ∧ H0 x = none ∧ Same H0 H ∧ SAt H0 l xs ∧ StepsAt C H0 st xs ∧ M.Way.fine (.mk h st) ∧
  ∀ H', Same H0 H' → WayAt C H' (.mk h st) x → Q .non H'
theorem ok_init {f : Addr} {fd : FuncData} (F : Fun K "__init__" "Way.__init__" sInit f fd) (B : Bn mg) (T : Wt K mg C) (W : Df P w K mg base 3 "is_head" ["value"] (spIn1 1 40)) (WL : Df P w K mg base 1 "is_step_list" ["value"] (spList K)) (WS : Df P w K mg base 5 "_is_step" ["value", "head"] (spStep C)) :
    FnOk P w K mg base CX0 6 f fd ["self", "head", "steps"] (spInit C) := by
  obtain ⟨fW, fdW, GW, gW, kW, bW⟩ := W.ex
  obtain ⟨fL, fdL, GL, gL, kL, bL⟩ := WL.ex
  obtain ⟨fS, fdS, GS, gS, kS, bS⟩ := WS.ex
  obtain ⟨t2, g2⟩ := T.gDepth
  obtain ⟨t3, g3⟩ := T.gSize
  refine F.ok scI (fun vs H Q E h => ?_) (fun cdv A outer s H vs Q E hr h => ?_)
  · obtain ⟨x, l, dx, h, xs, st, H0, rfl, _⟩ := h
    rfl
  · obtain ⟨x, l, dx, h, xs, st, H0, rfl, hx, hx0, s0, hl, hs, hf, k⟩ := h
    have r1 := hr.mono (by decide : 1 ≤ 5)
    have r0 := hr.mono (by decide : 3 ≤ 5)
    refine ⟨_, pss_cons (ps_if (pt_not (pt_val (pe_call GW r0 rfl gW kW bW .nil pass0 (pa_cons (pv 1) pa_nil)))) ps_dead pss_nil)
      (pss_cons (ps_if (pt_not (pt_val (pe_call GL r1 rfl gL kL bL .nil pass0 (pa_cons (pv 2) pa_nil)))) ps_dead pss_nil)
      (pss_cons (ps_for PassesOwn.never rfl (pi_or (pi_enum (by rfl) B.enum (pa_cons (pv 2) pa_nil)) (pi_et (by rfl) B.enum (pa_cons (pv 2) pa_nil))) (pg_tup (by rfl) (pgs_cons (pg_name (i := 3) scI.nd rfl (Or.inl rfl)) (pgs_cons (pg_name (i := 4) scI.nd rfl (Or.inl rfl)) pgs_nil)))
        (pss_one (ps_if (pt_not (pt_val (pe_call GS hr rfl gS kS bS .nil pass0 (pa_cons (pv 4) (pa_cons (pv 1) pa_nil))))) ps_dead pss_nil)))
      (pss_cons (ps_setLc (i := 5) (own := [("step", 4)]) (g := gName 4) (tt := tTest (tOp rEq (tOp (rIxT K) (tVar 4) (tC (.int 0))) (tC (.str "tunnel")))) (te := tOp (rIxT K) (tVar 4) (tC (.int 1))) rfl scI.nd rfl rfl (sw_true rfl rfl rfl (by decide +kernel)) (pi_or (pi_list (pv 2)) (pi_tup (pv 2))) (blkOk_by (N := NI) (sc := defScope sInit) (by decide +kernel))
          (fun _ _ _ _ _ => pg_name (i := 4) scI.nd rfl (Or.inl rfl)) (fun _ _ _ _ _ => pts_one (by exact pt_cmpR op_eq (pe_ix ix_tup (pv 4) pe_int (fun _ _ => rfl)) pe_str (nomark _))) (fun _ _ _ _ _ => by exact pe_ix ix_tup (pv 4) pe_int (fun _ _ => rfl)))
      (pss_cons (ps_set (i := 6) scI.nd rfl (Or.inl rfl) (pe_op op_add pe_int (pe_callBK (G.call_maxID rfl hr.units) (by rfl) B.max (by decide +kernel) (pa_cons (pe_lc (own := [("inner", 8)]) (g := gName 8) (tt := tYes) (te := tFld K (tVar 8) "depth") rfl scI.nd (pi_list (pv 5)) (blkOk_by (N := NI) (sc := defScope sInit) (by decide +kernel))
          (fun _ _ _ _ _ => pg_name (i := 8) scI.nd rfl (Or.inl rfl)) (fun _ _ _ _ _ => pts_nil) (fun _ _ _ _ _ => by exact pe_fld (pv 8) rfl)) pa_nil) (pk_cons pe_int pk_nil))))
      (pss_cons (ps_if (pt_cmpR op_gt (pv 6) (pe_glob (v := .int 3) rfl g2 ⟨_, rfl⟩) (nomark _)) ps_dead pss_nil)
      (pss_cons (ps_set (i := 7) scI.nd rfl (Or.inl rfl) (pe_op op_add (pe_callB call_len_seq (by rfl) B.len PySem.boot_len (pa_cons (pv 2) pa_nil)) (pe_callB (cr_sum rfl) (by rfl) B.sum (by decide +kernel) (pa_cons (pe_lc (own := [("inner", 8)]) (g := gName 8) (tt := tYes) (te := tFld K (tVar 8) "size") rfl scI.nd (pi_list (pv 5)) (blkOk_by (N := NI) (sc := defScope sInit) (by decide +kernel))
          (fun _ _ _ _ _ => pg_name (i := 8) scI.nd rfl (Or.inl rfl)) (fun _ _ _ _ _ => pts_nil) (fun _ _ _ _ _ => by exact pe_fld (pv 8) rfl)) pa_nil))))
      (pss_cons (ps_if (pt_cmpR op_gt (pv 7) (pe_glob (v := .int 40) rfl g3 ⟨_, rfl⟩) (nomark _)) ps_dead pss_nil)
      (pss_cons (ps_fld (pv 0) (pv 1) rfl)
      (pss_cons (ps_fld (pv 0) (pe_callTy call_tuple_of (by rfl) B.tuple (by decide +kernel) (pa_cons (pv 2) pa_nil)) rfl)
      (pss_cons (ps_fld (pv 0) (pv 6) rfl)
      (pss_one (ps_fld (pv 0) (pv 7) rfl)))))))))))), ?_⟩
    unfold M.Way.fine at hf
    obtain ⟨hh, hn, hall, hd, hz⟩ := hf
    have ln := hs.len
    refine ⟨_, rfl, (h : Int), rfl, ?_⟩
    rw [decide_eq_true (by omega)]
    refine ⟨_, rfl, iteF ⟨_, rfl, l, xs, rfl, hl.mono s0, by omega, by omega, fun H1 s1 => ⟨_, rfl, iteF ?_⟩⟩⟩
    have S1 := s0.trans s1
    have hx1 : H1 x = some (.ins C dx []) := s1 _ _ hx
    clear s1 hx s0
    refine or_enum (fun Q h => ⟨_, rfl, h⟩) (hl.mono S1) fun J Gd hG wk => ?_
    refine for_it wk (fun i σ G => Same H1 G ∧ ∃ p q, σ = [some (.ref x), some (.int (h : Int)), some (.ref l), p, q, none, none, none, none]) ⟨Same.refl _, _, _, rfl⟩ (fun i σ G _ z => hG G z.1) ?_ ?_
    · rintro i v σ G G' hi ⟨s, p, q, rfl⟩ ⟨t, a, b, rfl, nt, rfl, e1, hb⟩
      cases e1
      obtain ⟨sp, hsp, hst⟩ := hs.get hb
      have s2 : Same H1 (upd G t (.tup [V.int (i : Nat), b])) := s.trans (Same.of_upd nt)
      refine ⟨t, _, rfl, SqT.of upd_same, rfl, _, _, rfl, _, _, rfl, rfl, ?_⟩
      exact ⟨_, rfl, _, rfl, b, h, sp, rfl, hst.mono (S1.trans s2), fine_get hall hsp, _, rfl, iteF ⟨s2, _, _, rfl⟩⟩
    · rintro σ G ⟨s, p, q, rfl⟩
      have S2 := S1.trans s
      have hx2 := s _ _ hx1
      dsimp only
      refine set_then (te := tTuns K) (i := 5) ?_
      refine tuns_run (st := st) (xs := xs) rfl (hl.mono S2) (hs.mono S2) (by omega) fun D0 vs H2 s3 hD0 hW => ?_
      have lw : vs.length ≤ 1000 := by
        have e1 := hW.len
        have e2 := M.tuns_len st
        omega
      refine set_then (i := 6) ?_
      refine add_of (i := 1) (maxD_of (tl := tFlds K "depth") ?_)
      refine flds_run (f := "depth") (g := fun w => ((w.depth : Nat) : Int)) T T.nD (fun H wy a => depth_fld H wy a) rfl hD0 (hW.mono s3) lw fun D1 H3 s4 hD1 => ?_
      refine maxID_at (M.deep_max _) (SqL.of hD1) ⟨_, _, rfl, rfl, ?_⟩
      rw [← M.deepest_eq]
      refine ⟨_, rfl, _, _, rfl, rfl, _, rfl, ?_⟩
      rw [decide_eq_false (by omega)]
      refine iteF ?_
      unfold tNext
      dsimp only
      have s5 := s3.trans s4
      refine set_then (i := 7) (len_add (l := l) (xs := xs) (tl := tFlds K "size") rfl (hl.mono (S2.trans s5)) ?_)
      refine flds_run (f := "size") (g := fun w => ((w.size : Nat) : Int)) T T.nZ (fun H wy a => size_fld H wy a) rfl (s4 _ _ hD0) (hW.mono s5) lw fun D2 H4 s6 hD2 => ?_
      refine ⟨D2, _, rfl, SqL.of hD2, _, _, rfl, rfl, ?_⟩
      rw [M.sum_cast, ← M.inner_eq]
      refine ⟨_, rfl, _, _, rfl, rfl, _, rfl, ?_⟩
      rw [decide_eq_false (by omega)]
      refine iteF ?_
      dsimp only
      have S4 : Same H0 H4 := S2.trans (s5.trans s6)
      have hx4 : H4 x = some (.ins C dx []) := s6 _ _ (s5 _ _ hx2)
      refine ⟨_, rfl, _, rfl, x, C, dx, [], rfl, hx4, T.cl, T.nH, by decide, ?_⟩
      have S5 : Same H0 (upd H4 x (.ins C dx (putF "head" (.int (h : Int)) []))) := add_upd hx0 S4
      have e1 : (1 : Int) + ((M.Step.deepest st : Nat) : Int) = ((1 + M.Step.deepest st : Nat) : Int) := by omega
      have e2 : ((xs.length : Nat) : Int) + ((M.Step.inner st : Nat) : Int) = ((st.length + M.Step.inner st : Nat) : Int) := by omega
      have fin : ∀ (t : Addr) (G2 : Hp), Same (upd H4 x (.ins C dx (putF "head" (.int (h : Int)) []))) G2 → G2 t = some (.tup xs) → tSeq (sFld K (tVar 0) (tC (.ref t)) "steps") (tSeq (sFld K (tVar 0) (tVar 6) "depth") (sFld K (tVar 0) (tVar 7) "size")) { nx := fun _ H' => Q V.non H', rt := Q } [some (.ref x), some (.int (h : Int)), some (.ref l), p, q, some (.ref D0), some (.int (1 + ((M.Step.deepest st : Nat) : Int))), some (.int ((xs.length : Int) + ((M.Step.inner st : Nat) : Int))), none] G2 := fun t G2 sG ht => by
        have hx5 : G2 x = some (.ins C dx (putF "head" (.int (h : Int)) [])) := sG _ _ upd_same
        have tx : t ≠ x := fun z => by
          rw [z, hx5] at ht
          cases ht
        have S6 := S5.trans sG
        rw [e1, e2]
        refine ⟨_, rfl, x, C, dx, _, rfl, hx5, T.cl, T.nS, len_put (by decide), ?_⟩
        refine ⟨_, rfl, _, rfl, x, C, dx, _, rfl, upd_same, T.cl, T.nD, len_put (len_put (by decide)), ?_⟩
        refine ⟨_, rfl, _, rfl, x, C, dx, _, rfl, upd_same, T.cl, T.nZ, len_put (len_put (len_put (by decide))), ?_⟩
        have S7 := add_upd (o := .ins C dx (flds (h : Int) t ((1 + M.Step.deepest st : Nat) : Int) ((st.length + M.Step.inner st : Nat) : Int))) hx0 (add_upd (o := .ins C dx (putF "depth" (.int ((1 + M.Step.deepest st : Nat) : Int)) (putF "steps" (.ref t) (putF "head" (.int (h : Int)) [])))) hx0 (add_upd (o := .ins C dx (putF "steps" (.ref t) (putF "head" (.int (h : Int)) []))) hx0 S6))
        refine k _ S7 ?_
        unfold WayAt
        exact ⟨dx, t, xs, upd_same, by rw [upd_ne tx, upd_ne tx, upd_ne tx]; exact ht, hs.mono S7⟩
      rcases hl.mono S5 with e | e
      · exact ⟨_, rfl, l, xs, rfl, .inl ⟨SqL.of e, fun t nt => fin t _ (Same.of_upd nt) upd_same⟩⟩
      · exact ⟨_, rfl, l, xs, rfl, .inr ⟨SqT.of e, fin l _ (Same.refl _) e⟩⟩
end
end WP

end
section
set_option autoImplicit false
set_option Elab.async false
set_option linter.all false
set_option maxRecDepth 100000
set_option maxHeartbeats 4000000
/-! ## pieces of the gates' texts that the texts of ways want, too -/
namespace M
def Step.dep : Step → Nat
  | .tunnel w _ _ => w.depth
  | .road _ _ _ => 0
  | .join _ => 0
theorem deep_cons : ∀ (s : Step) (r : List Step), Step.deepest (s :: r) = max (Step.dep s) (Step.deepest r)
  | .tunnel w a b, r => by
    conv => lhs; unfold Step.deepest
    rfl
  | .road a b c, r => by
    conv => lhs; unfold Step.deepest
    exact (Nat.zero_max _).symm
  | .join a, r => by
    conv => lhs; unfold Step.deepest
    exact (Nat.zero_max _).symm
theorem dep_le : ∀ {s : List Step} {i : Nat} {x : Step}, s[i]? = some x → Step.dep x ≤ Step.deepest s
  | [], i, x, h => by cases h
  | y :: r, 0, x, h => by
    have e : y = x := Option.some.inj h
    rw [deep_cons, e]
    omega
  | y :: r, i + 1, x, h => by
    have := dep_le (s := r) (i := i) (x := x) h
    rw [deep_cons]
    omega
theorem depth_pos (wy : Way) : 1 ≤ wy.depth := by
  obtain ⟨h, s⟩ := wy
  unfold Way.depth
  omega
end M
namespace WP
open PySem L2 G
variable {C : Addr}
theorem head_fld {H : Hp} {wy : M.Way} {a : Addr} (h : WayAt C H wy a) : ∃ dx fs, H a = some (.ins C dx fs) ∧ fs.lookup ("head" : Str) = some (.int ((wy.head : Nat) : Int)) := by
  obtain ⟨wh, ws⟩ := wy
  unfold WayAt at h
  obtain ⟨dx, t, xs, h1, _, _⟩ := h
  exact ⟨dx, _, h1, flds_head _ _ _ _⟩
theorem steps_fld {H : Hp} {wy : M.Way} {a : Addr} (h : WayAt C H wy a) : ∃ dx fs t xs, H a = some (.ins C dx fs) ∧ fs.lookup ("steps" : Str) = some (.ref t) ∧ H t = some (.tup xs) ∧ StepsAt C H wy.steps xs := by
  obtain ⟨wh, ws⟩ := wy
  unfold WayAt at h
  obtain ⟨dx, t, xs, h1, h2, h3⟩ := h
  exact ⟨dx, _, t, xs, h1, flds_steps _ _ _ _, h2, h3⟩
end WP
namespace CP
open PySem L2 G Y
/-- all but lists stays -/
def KeepT (H H' : Hp) : Prop := ∀ a o, (∀ xs, o ≠ .lst xs) → H a = some o → H' a = some o
theorem put_keepT {G : Hp} {l : Addr} {xs : List V} {o : HO} (h : G l = some (.lst xs)) : KeepT G (upd G l o) := fun a o n e => by
  rw [upd_ne (fun z => by
    rw [z, h] at e
    cases e
    exact n _ rfl)]
  exact e
theorem same_keepT {H H' : Hp} (s : Same H H') : KeepT H H' := fun a o _ e => s a o e
theorem if_then {c : TT} {t1 t2 t3 : TS} {D : Ends} {σ : L2.St} {H : Hp} (Z : L2.St → Hp → Prop) (k : ∀ σ' H', Z σ' H' → t3 D σ' H') (h : (∀ σ' H', Z σ' H' → t3 D σ' H') → tIfS c t1 t2 { D with nx := fun σ' H' => t3 D σ' H' } σ H) : tSeq (tIfS c t1 t2) t3 D σ H := h k
theorem set_k {te : TE} {i : Nat} {t2 : TS} {D : Ends} {σ : L2.St} {H : Hp} (Z : V → Hp → Prop) (k : ∀ v H', Z v H' → t2 D (σ.set i (some v)) H') (h : (∀ v H', Z v H' → t2 D (σ.set i (some v)) H') → te σ H fun v H1 => t2 D (σ.set i (some v)) H1) : tSeq (tAsg te (gName i)) t2 D σ H := h k
theorem iteP {p : Prop} [Decidable p] {A B : Prop} (h : p) (a : A) : if decide p = true then A else B := by
  rw [decide_eq_true h]
  exact a
theorem iteN {p : Prop} [Decidable p] {A B : Prop} (h : ¬ p) (b : B) : if decide p = true then A else B := by
  rw [decide_eq_false h]
  exact b
theorem iteNT {x y : V} {A B : Prop} (h : ¬ x = y) (a : A) : if (!decide (x = y)) = true then A else B := by
  rw [decide_eq_false h]
  exact a
theorem fine_all {wy : M.Way} (h : wy.fine) : M.Step.fineAll wy.head wy.steps ∧ wy.steps.length ≤ 12 ∧ wy.size ≤ 40 := by
  obtain ⟨wh, s⟩ := wy
  unfold M.Way.fine at h
  refine ⟨h.2.2.1, h.2.1.2, ?_⟩
  unfold M.Way.size
  exact h.2.2.2.2
theorem fine_dep {wy : M.Way} (h : wy.fine) : wy.depth ≤ 3 := by
  obtain ⟨wh, s⟩ := wy
  unfold M.Way.fine at h
  unfold M.Way.depth
  exact h.2.2.2.1
end CP

end
section
set_option autoImplicit false
set_option Elab.async false
set_option linter.all false
set_option maxRecDepth 100000
set_option maxHeartbeats 4000000
/-! ## draws: what they leave -/
namespace Y
open PySem L2 G
/-- all but the source at p stays -/
def Bt (p : Addr) (H H' : Hp) : Prop := (∀ a o, a ≠ p → H a = some o → H' a = some o) ∧ S.At H' p
theorem Bt.trans {p : Addr} {H H1 H2 : Hp} (a : Bt p H H1) (b : Bt p H1 H2) : Bt p H H2 := ⟨fun x o n e => b.1 x o n (a.1 x o n e), b.2⟩
theorem Bt.same {p : Addr} {H H' : Hp} (s : Same H H') (h : S.At H p) : Bt p H H' := by
  obtain ⟨r, m, e, f⟩ := h
  exact ⟨fun a o _ e2 => s _ _ e2, r, m, s _ _ e, f⟩
theorem Bt.put {p : Addr} {H : Hp} {r m : Int} (f : S.Fine r m) : Bt p H (upd H p (.lst (S.Two r m))) := ⟨fun a o n e => by rw [upd_ne n]; exact e, r, m, upd_same, f⟩
theorem Bt.new {p u : Addr} {H : Hp} (o : HO) (h : S.At H p) (hu : H u = none) : Bt p H (upd H u o) := Bt.same (of_upd hu) h
theorem at_ne {H : Hp} {p L : Addr} (h : S.At H p) (hL : H L = none) : L ≠ p := fun e => by
  obtain ⟨r, m, e2, _⟩ := h
  rw [e, e2] at hL
  cases hL
theorem bt_lst {p L : Addr} {H H' : Hp} {o : HO} (b : Bt p H H') (ne : L ≠ p) (h : H L = some o) : H' L = some o := b.1 L _ ne h
theorem sameAt {p : Addr} {H H' : Hp} (s : Same H H') (h : S.At H p) : S.At H' p := by
  obtain ⟨r, m, e, f⟩ := h
  exact ⟨r, m, s _ _ e, f⟩
theorem sameBt {p : Addr} {H G G' : Hp} (s : Same H G) (n : H p = none) (b : Bt p G G') : Same H G' := fun a o e => b.1 a o (fun z => by rw [z, n] at e; cases e) (s a o e)
theorem draw_at {H : Hp} {Q : VK} {E : XK} {p : Addr} {n : Int} (h : S.At H p) (n1 : 1 ≤ n) (n2 : n.natAbs.log2 < 9000) (k : ∀ j H', 0 ≤ j → j < n → Bt p H H' → Q (.int j) H') : S.spDraw [.ref p, .int n] H Q E := by
  obtain ⟨r, m, hp, hf⟩ := h
  exact ⟨p, r, m, n, rfl, hp, hf, n1, n2, fun j r1 m1 f1 j0 j1 => k j _ j0 j1 (Bt.put f1)⟩
/-- a draw as it stands in an expression: below a written number, or below what a name holds -/
theorem draw_vv {σ : L2.St} {H : Hp} {Q : VK} {E : XK} {p : Addr} {i : Nat} {n : Int} (hσ : σ[i]? = some (some (.ref p))) (h : S.At H p) (n1 : 1 ≤ n) (n2 : n.natAbs.log2 < 9000) (k : ∀ j H', 0 ≤ j → j < n → Bt p H H' → Q (.int j) H') : tCall S.spDraw [] E (tCons (tVar i) (tCons (tC (.int n)) tNil)) σ H Q := ⟨_, hσ, draw_at (E := E) h n1 n2 k⟩
theorem draw_var {σ : L2.St} {H : Hp} {Q : VK} {E : XK} {p : Addr} {i j : Nat} {n : Int} (hσ : σ[i]? = some (some (.ref p))) (hj : σ[j]? = some (some (.int n))) (h : S.At H p) (n1 : 1 ≤ n) (n2 : n.natAbs.log2 < 9000) (k : ∀ j H', 0 ≤ j → j < n → Bt p H H' → Q (.int j) H') : tCall S.spDraw [] E (tCons (tVar i) (tCons (tVar j) tNil)) σ H Q := ⟨_, hσ, _, hj, draw_at (E := E) h n1 n2 k⟩
theorem draw_of {σ : L2.St} {H : Hp} {Q : VK} {p : Addr} {E : XK} {i : Nat} {c n : Int} (hσ : σ[i]? = some (some (.ref p))) (h : S.At H p) (n1 : 1 ≤ n) (n2 : n.natAbs.log2 < 9000) (k : ∀ j H', 0 ≤ j → j < n → Bt p H H' → Q (.int (c + j)) H') :
    tOp (rI0 fun i j => .int (i + j)) (tC (.int c)) (tCall S.spDraw [] E (tCons (tVar i) (tCons (tC (.int n)) tNil))) σ H Q := by
  obtain ⟨r, m, hp, hf⟩ := h
  exact ⟨_, hσ, p, r, m, n, rfl, hp, hf, n1, n2, fun j r1 m1 f1 j0 j1 => ⟨_, _, rfl, rfl, k j _ j0 j1 (Bt.put f1)⟩⟩
theorem draw_w {σ : L2.St} {H : Hp} {Q : VK} {E : XK} {p : Addr} {i j : Nat} {c n : Int} (hσ : σ[i]? = some (some (.ref p))) (hj : σ[j]? = some (some (.int n))) (h : S.At H p) (n1 : 1 ≤ n) (n2 : n.natAbs.log2 < 9000) (k : ∀ x H', 0 ≤ x → x < n → Bt p H H' → Q (.int (c + x)) H') :
    tOp (rI0 fun i j => .int (i + j)) (tC (.int c)) (tCall S.spDraw [] E (tCons (tVar i) (tCons (tVar j) tNil))) σ H Q := by
  obtain ⟨r, m, hp, hf⟩ := h
  exact ⟨_, hσ, _, hj, p, r, m, n, rfl, hp, hf, n1, n2, fun x r1 m1 f1 j0 j1 => ⟨_, _, rfl, rfl, k x _ j0 j1 (Bt.put f1)⟩⟩
/-- a pick from a list just made -/
theorem pick_at {K : PySem.W.Frag} {H : Hp} {Q : VK} {p l : Addr} {E : XK} {xs : List V} (h : S.At H p) (hl : H l = none) (h1 : 1 ≤ xs.length) (h2 : xs.length ≤ 1000) (k : ∀ x H', x ∈ xs → Bt p H H' → Q x H') : S.spPick K [.ref p, .ref l] (upd H l (.lst xs)) Q E := by
  obtain ⟨r, m, hp, hf⟩ := h
  have lp : l ≠ p := fun z => by
    rw [z, hp] at hl
    cases hl
  exact ⟨p, l, r, m, xs, rfl, by rw [upd_ne lp.symm]; exact hp, hf, lp, SqL.of upd_same, h1, h2, fun j x r2 m2 f2 hx => k x _ (List.mem_of_getElem? hx) ((Bt.same (of_upd hl) ⟨r, m, hp, hf⟩).trans (Bt.put f2))⟩
theorem pick_of {K : PySem.W.Frag} {σ : L2.St} {H : Hp} {Q : VK} {p : Addr} {E : XK} {i : Nat} {xs : List V} {ta : TA} (hσ : σ[i]? = some (some (.ref p))) (h : S.At H p) (h1 : 1 ≤ xs.length) (h2 : xs.length ≤ 1000) (ha : ∀ Q2 : List V → Hp → Prop, Q2 xs H → ta σ H Q2) (k : ∀ x H', x ∈ xs → Bt p H H' → Q x H') :
    tCall (S.spPick K) [] E (tCons (tVar i) (tCons (tLst ta) tNil)) σ H Q := ⟨_, hσ, ha _ ⟨Nat.le_trans h2 (by decide), fun l hl => pick_at (E := E) h hl h1 h2 k⟩⟩
end Y

end
section
set_option autoImplicit false
set_option Elab.async false
set_option linter.all false
set_option maxRecDepth 100000
set_option maxHeartbeats 4000000
/-! ## ways: pieces -/
namespace M
def isz : Step → Nat
  | .tunnel w _ _ => w.size
  | .road _ _ _ => 0
  | .join _ => 0
theorem inner_cons : ∀ (s : Step) (r : List Step), Step.inner (s :: r) = isz s + Step.inner r
  | .tunnel w a b, r => by
    conv => lhs; unfold Step.inner
    rfl
  | .road a b c, r => by
    conv => lhs; unfold Step.inner
    exact (Nat.zero_add _).symm
  | .join a, r => by
    conv => lhs; unfold Step.inner
    exact (Nat.zero_add _).symm
end M
namespace CP
open PySem L2 G Y
theorem bt_keepT {p : Addr} {H H' : Hp} (b : Bt p H H') (h : S.At H p) : KeepT H H' := fun a o n e => b.1 a o (fun z => by
  obtain ⟨r, m, e2, _⟩ := h
  rw [z, e2] at e
  cases e
  exact n _ rfl) e
theorem KeepT.trans {H H1 H2 : Hp} (a : KeepT H H1) (b : KeepT H1 H2) : KeepT H H2 := fun x o n e => b x o n (a x o n e)
theorem KeepT.tup {H H' : Hp} {t : Addr} {xs : List V} (k : KeepT H H') (h : H t = some (.tup xs)) : H' t = some (.tup xs) := k _ _ (fun _ z => by cases z) h
end CP
namespace WP
open PySem L2 G
variable {C : Addr}
open CP (KeepT)
mutual
theorem WayAt.keep {C : Addr} {H H' : Hp} (s : CP.KeepT H H') : ∀ {w : M.Way} {a : Addr}, WayAt C H w a → WayAt C H' w a
  | .mk h st, a, x => by
    unfold WayAt at x ⊢
    obtain ⟨dx, t, xs, h1, h2, h3⟩ := x
    exact ⟨dx, t, xs, s _ _ (fun _ z => by cases z) h1, CP.KeepT.tup s h2, StepsAt.keep s h3⟩
theorem StepsAt.keep {C : Addr} {H H' : Hp} (s : CP.KeepT H H') : ∀ {st : List M.Step} {xs : List V}, StepsAt C H st xs → StepsAt C H' st xs
  | [], xs, x => by
    unfold StepsAt at x ⊢
    exact x
  | y :: r, xs, x => by
    unfold StepsAt at x ⊢
    obtain ⟨u, ys, e, h1, h2⟩ := x
    exact ⟨u, ys, e, StepAt.keep s h1, StepsAt.keep s h2⟩
theorem StepAt.keep {C : Addr} {H H' : Hp} (s : CP.KeepT H H') : ∀ {st : M.Step} {x : V}, StepAt C H st x → StepAt C H' st x
  | .road size ts lw, v, x => by
    unfold StepAt at x ⊢
    obtain ⟨t, e, h⟩ := x
    exact ⟨t, e, CP.KeepT.tup s h⟩
  | .join most, v, x => by
    unfold StepAt at x ⊢
    obtain ⟨t, e, h⟩ := x
    exact ⟨t, e, CP.KeepT.tup s h⟩
  | .tunnel w most tw, v, x => by
    unfold StepAt at x ⊢
    obtain ⟨t, a, e, h, h2⟩ := x
    exact ⟨t, a, e, CP.KeepT.tup s h, WayAt.keep s h2⟩
end
theorem StepsAt.snoc {C : Addr} {H : Hp} : ∀ {s : List M.Step} {xs : List V} {y : M.Step} {x : V}, StepsAt C H s xs → StepAt C H y x → StepsAt C H (s ++ [y]) (xs ++ [x])
  | [], xs, y, x, h, h2 => by
    unfold StepsAt at h
    subst h
    show StepsAt C H [y] [x]
    unfold StepsAt
    exact ⟨x, [], rfl, h2, by unfold StepsAt; rfl⟩
  | z :: s, xs, y, x, h, h2 => by
    unfold StepsAt at h
    obtain ⟨u, ys, rfl, h3, h4⟩ := h
    show StepsAt C H (z :: (s ++ [y])) (u :: (ys ++ [x]))
    unfold StepsAt
    exact ⟨u, ys ++ [x], rfl, h3, StepsAt.snoc h4 h2⟩
structure Mw (P : Program) (w : World) (K : PySem.W.Frag) (mg : Str → Option Value) (base : Heap) (C : Addr) : Prop where
  ex : ∃ (f : Addr) (fd : FuncData), FnOk P w K mg base CX0 6 f fd ["self", "head", "steps"] (spInit C) ∧ Mk K C f ∧ Binds K fd ["self", "head", "steps"] []
theorem made_way {H : Hp} {Q : VK} {E : XK} {l : Addr} {h : Nat} {xs : List V} {st : List M.Step} (hl : SAt H l xs) (hs : StepsAt C H st xs) (hf : M.Way.fine (.mk h st)) (k : ∀ x H', Same H H' → WayAt C H' (.mk h st) x → Q (.ref x) H') :
    ∀ x dx, H x = none → H dx = none → dx ≠ x → spInit C (.ref x :: ([.int (h : Int), .ref l] ++ [])) (upd (upd H dx (.own x)) x (.ins C dx [])) (fun v H2 => v = .non ∧ Q (.ref x) H2) E := fun x dx hx hdx ne =>
  ⟨x, l, dx, h, xs, st, H, rfl, upd_same, hx, (Same.of_upd hdx).trans (Same.of_upd (by rw [upd_ne ne.symm]; exact hx)), hl, hs, hf, fun H' s wa => ⟨rfl, k x H' s wa⟩⟩
theorem StepsAt.app {C : Addr} {H : Hp} : ∀ {s r : List M.Step} {xs ys : List V}, StepsAt C H s xs → StepsAt C H r ys → StepsAt C H (s ++ r) (xs ++ ys)
  | [], r, xs, ys, a, b => by
    unfold StepsAt at a
    subst a
    exact b
  | x :: s, r, xs, ys, a, b => by
    unfold StepsAt at a
    obtain ⟨u, us, rfl, h1, h2⟩ := a
    show StepsAt C H (x :: (s ++ r)) (u :: (us ++ ys))
    unfold StepsAt
    exact ⟨u, us ++ ys, rfl, h1, h2.app b⟩
theorem StepsAt.ne {C : Addr} {H : Hp} {s : List M.Step} {xs : List V} (h : StepsAt C H s xs) (n : 1 ≤ s.length) : xs ≠ [] := fun e => by
  have := h.len
  rw [e] at this
  simp at this
  rw [← this] at n
  simp at n
theorem StepsAt.take {C : Addr} {H : Hp} : ∀ {s : List M.Step} {xs : List V} (i : Nat), StepsAt C H s xs → StepsAt C H (s.take i) (xs.take i)
  | s, xs, 0, _ => by
    rw [List.take_zero, List.take_zero]
    unfold StepsAt
    rfl
  | [], xs, i + 1, h => by
    unfold StepsAt at h
    subst h
    unfold StepsAt
    rfl
  | y :: s, xs, i + 1, h => by
    unfold StepsAt at h
    obtain ⟨u, us, rfl, h1, h2⟩ := h
    rw [List.take_succ_cons, List.take_succ_cons]
    unfold StepsAt
    exact ⟨u, us.take i, rfl, h1, h2.take i⟩
theorem StepsAt.drop {C : Addr} {H : Hp} : ∀ {s : List M.Step} {xs : List V} (i : Nat), StepsAt C H s xs → StepsAt C H (s.drop i) (xs.drop i)
  | s, xs, 0, h => by
    rw [List.drop_zero, List.drop_zero]
    exact h
  | [], xs, i + 1, h => by
    unfold StepsAt at h
    subst h
    unfold StepsAt
    rfl
  | y :: s, xs, i + 1, h => by
    unfold StepsAt at h
    obtain ⟨u, us, rfl, h1, h2⟩ := h
    rw [List.drop_succ_cons, List.drop_succ_cons]
    exact h2.drop i
theorem sl_any {K : PySem.W.Frag} {H : Hp} {Q : VK} {t : Addr} {xs : List V} {lo hi : Option Int} (h : H t = some (.tup xs)) (k : ∀ u G, Same H G → G u = some (.tup (cutV xs lo hi)) → Q (.ref u) G) : rSlA K (.ref t) lo hi H Q :=
  ⟨t, xs, rfl, SqT.of h, fun z => k t H (Same.refl H) (by
    unfold cutV
    rw [z.1, z.2, List.drop_zero, Nat.sub_zero, List.take_length]
    exact h), fun _ p hp => k p _ (Same.of_upd hp) upd_same⟩
theorem catA_own {K : PySem.W.Frag} {H : Hp} {Q : VK} {a b : Addr} {xs ys : List V} (ha : H a = some (.tup xs)) (hb : H b = some (.tup ys)) (hl : xs.length + ys.length ≤ sizeLine) (k : ∀ c H', Same H H' → H' c = some (.tup (xs ++ ys)) → Q (.ref c) H') : rCatA K (.ref a) (.ref b) H Q :=
  ⟨a, b, xs, ys, rfl, rfl, SqT.of ha, SqT.of hb, hl, fun z => k b H (Same.refl H) (by rw [z]; exact hb), fun _ z => k a H (Same.refl H) (by rw [z, List.append_nil]; exact ha), fun _ _ p hp => k p _ (Same.of_upd hp) upd_same⟩
theorem cut_lo (xs : List V) (k : Nat) : cutV xs (some (k : Int)) none = xs.drop k := Y.cut_from xs k
theorem cut_hi (xs : List V) (k : Nat) : cutV xs none (some (k : Int)) = xs.take k := by
  unfold cutV
  rw [HT.sIx_nat, HT.sIx_none, List.drop_zero, Nat.sub_zero]
  by_cases h : k ≤ xs.length
  · rw [Nat.min_eq_left h]
  · rw [Nat.min_eq_right (by omega), List.take_of_length_le (Nat.le_refl _), List.take_of_length_le (by omega)]
section
variable {P : Program} {w : World} {K : PySem.W.Frag} {mg : Str → Option Value} {base : Heap} {C : Addr}
def spLenW (C : Addr) : Sp := fun vs H Q _ => ∃ a wy, vs = [.ref a] ∧ WayAt C H wy a ∧ Q (.int ((M.Way.steps wy).length : Nat)) H
theorem scLW : FnScope ["self"] ["self"] (defScope sLen) := ⟨rfl, rfl, rfl, by decide +kernel, rfl, by decide +kernel, by decide +kernel⟩
theorem ok_len {f : Addr} {fd : FuncData} (F : Fun K "__len__" "Way.__len__" sLen f fd) (B : Bn mg) (T : Wt K mg C) : FnOk P w K mg base CX0 1 f fd ["self"] (spLenW C) := by
  refine F.ok scLW (fun vs H Q E h => ?_) (fun cdv A outer s H vs Q E hr h => ?_)
  · obtain ⟨a, wy, rfl, _⟩ := h
    rfl
  · obtain ⟨a, wy, rfl, hw, k⟩ := h
    obtain ⟨dx, fs, t, xs, h1, h2, h3, h4⟩ := steps_fld hw
    refine ⟨_, pss_one (ps_ret (pe_callB call_len_seq (by rfl) B.len PySem.boot_len (pa_cons (pe_fld (pv 0) rfl) pa_nil))), ?_⟩
    refine ⟨_, rfl, a, C, dx, fs, _, rfl, h1, T.cl, T.nS, h2, t, xs, rfl, .inr (SqT.of h3), ?_⟩
    rw [h4.len]
    exact k
end
theorem line2 : 2 ≤ sizeLine ∧ 3 ≤ sizeLine ∧ 1 ≤ sizeLine ∧ 0 ≤ sizeLine := by decide
theorem catT_of {K : PySem.W.Frag} {H : Hp} {a b : Addr} {xs ys : List V} {Q : VK} (ha : H a = some (.tup xs)) (hb : H b = some (.tup ys)) (ne : xs ≠ []) (hl : xs.length + ys.length ≤ sizeLine) (k : ∀ u G, Same H G → G u = some (.tup (xs ++ ys)) → Q (.ref u) G) : rCatT K (.ref a) (.ref b) H Q :=
  ⟨a, b, xs, ys, rfl, rfl, SqT.of ha, SqT.of hb, ne, hl, fun e => k a H (Same.refl _) (by rw [e, List.append_nil]; exact ha), fun _ p hp => k p _ (Same.of_upd hp) upd_same⟩
theorem depth_pos (wy : M.Way) : 1 ≤ wy.depth := M.depth_pos wy
end WP

end
section
set_option autoImplicit false
set_option Elab.async false
set_option linter.all false
set_option maxRecDepth 100000
set_option maxHeartbeats 4000000
/-! ## is_integer, is_within of any value; promises joined -/
namespace L2
open PySem PySem.Spec PyProof.Rows
section
variable {P : Program} {w : World} {K : PySem.W.Frag} {mg : Str → Option Value} {base : Heap} {CX : CXT} {k : Nat} {f : Addr} {fd : FuncData} {ps : List Str} {a b sp : Sp}
def orSp (a b : Sp) : Sp := fun vs H Q E => a vs H Q E ∨ b vs H Q E
theorem FnOk.or (F : FnOk P w K mg base CX k f fd ps a) (G : FnOk P w K mg base CX k f fd ps b) : FnOk P w K mg base CX k f fd ps (orSp a b) :=
  ⟨fun vs H Q E h => h.elim (F.len vs H Q E) (G.len vs H Q E), fun A outer s H args us vs Q E hr he hb hv h => h.elim (F.run A outer s H args us vs Q E hr he hb hv) (G.run A outer s H args us vs Q E hr he hb hv)⟩
/-- what lets nothing out keeps its promise wherever something may be let out -/
theorem FnOk.lift (F : FnOk P w K mg base CX0 k f fd ps sp) : FnOk P w K mg base CX k f fd ps sp :=
  ⟨F.len, fun A outer s H args us vs Q E hr he hb hv h => codeAny_mono (F.run A outer s H args us vs Q E hr he hb hv h) fun r s' z => by
    cases r with
    | error e => exact (z : False).elim
    | ok fl => cases fl <;> exact z⟩
end
end L2
namespace G
open PySem PySem.Spec PyProof.Rows L2
section
variable {X : Cx} {CX : CXT} {k : Nat} {f C : Addr} {fd : FuncData} {ps : List Str} {sp : Sp} {E : L2.St → XK} {x : Str} {p pos : Pos} {e : Expr} {es : List Expr} {t : TA} {ds : List Value} {dvs : List V}
/-- C(e, ..), what its __init__ may let out told at the slots -/
def tMakeS (C : Addr) (sp : Sp) (dvs : List V) (E : L2.St → XK) (t : TA) : TE := fun σ H Q => t σ H fun vs H1 => ∀ x dx, H1 x = none → H1 dx = none → dx ≠ x → sp (.ref x :: (vs ++ dvs)) (upd (upd H1 dx (.own x)) x (.ins C dx [])) (fun v H2 => v = .non ∧ Q (.ref x) H2) (E σ)
theorem pe_makeS (M : L2.Mk X.K C f) (F : FnOk X.prog X.w X.K X.mg X.base CX k f fd ps sp) (hr : Room (k + 1) X.A) (hg : Gl X x) (hm : X.mg x = some (.ref C)) (hb : Binds X.K fd ps ds) (hd : Vals dvs ds) (hx : ∀ σ, PassesAt CX X σ (E σ)) (ha : PA X (e :: es) t) (hdb : (x == ("__debug__" : Str)) = false := by decide)
    (he : starEach (e :: es) X.env = (false, eval e X.env) :: starEach es X.env := by rfl) (hpl : (backTo pos (starEach es X.env)).any (·.1) = false := by rfl) : PE X (.Call (.Name x p) (e :: es) [] pos) (tMakeS C sp dvs E t) := by
  refine ⟨fun pins s σ H Q I h => wpAny_Call_Name_kw (ld_glob I hg hm ?_ hdb)⟩
  refine PySem.W.callWith_K (h₀ := X.base) I.ok.mod.kin M.kp (thn (ha.run pos pins s σ H _ I h) fun us s1 hh => ?_) he hpl
  obtain ⟨vs, H1, I1, r, q⟩ := hh
  refine ⟨I1.kIn, ?_⟩
  have hq := q (s1.heap.objs.size + 1) s1.heap.objs.size (I1.hok.fresh (Nat.le_succ _)) (I1.hok.fresh (Nat.le_refl _)) (Nat.ne_of_lt (Nat.lt_succ_self _))
  have I2 := Inv.made (C := C) I1
  have r2 : Vals (V.ref (s1.heap.objs.size + 1) :: (vs ++ dvs)) (Value.ref (s1.heap.objs.size + 1) :: (us ++ ds)) := .cons rfl (r.append hd)
  have hl : (Value.ref (s1.heap.objs.size + 1) :: us ++ ds).length = ps.length := by
    have e := r2.length
    rw [F.len _ _ _ _ hq] at e
    exact e.symm
  refine wpAny_call (make_map (f := f) I1.kIn M.makes M.init (beq_iff_eq.mp M.fn) (codeAny_mono (F.run _ X.stack _ _ ⟨Value.ref (s1.heap.objs.size + 1) :: us, []⟩ (Value.ref (s1.heap.objs.size + 1) :: (us ++ ds)) _ _ (E σ) (hr.make C us [])
    (I2.env0.make C us []) (hb _ (Value.ref (s1.heap.objs.size + 1) :: us) I2.kIn hl) r2 hq) fun rr s' hq' => ?_))
  match rr, hq' with
  | .error er, z => exact hx σ pins _ _ er s' I2 z
  | .ok (.ret u), z =>
    obtain ⟨v, H', I3, rv, ev, q3⟩ := I2.after z
    subst ev
    exact ⟨rv, ⟨V.ref (s1.heap.objs.size + 1), H', I3, rfl, q3⟩⟩
  | .ok .next, z => exact z.elim
  | .ok .brk, z => exact z.elim
  | .ok .cont, z => exact z.elim
end
end G
namespace CP
open PySem L2 G Y
/-- a value that is no integer: a bool, or of another kind -/
def NI (K : PySem.W.Frag) (H : Hp) (v : V) : Prop := (∃ b, v = .bl b) ∨ ∃ t, TyX K H v t ∧ PySem.W.kitOne K t (.type "int") = some false
theorem tyX_mono {K : PySem.W.Frag} {H H' : Hp} (s : Same H H') {v : V} {t : Value} (h : TyX K H v t) : TyX K H' v t := by
  cases h with
  | base b =>
    refine .base ?_
    cases b with
    | non => exact .non
    | bl x => exact .bl x
    | int i => exact .int i
    | str x => exact .str x
    | flt x => exact .flt x
    | lst e => exact .lst (s _ _ e)
    | frz e => exact .frz (s _ _ e)
    | tup e => exact .tup (s _ _ e)
    | dK e => exact .dK (s _ _ e)
    | dT e => exact .dT (s _ _ e)
    | ins e cl ha hn htk hm => exact .ins (s _ _ e) cl ha hn htk hm
  | byt b => exact .byt b
  | set e => exact .set (s _ _ e)
  | kList e c => exact .kList e c
  | kTuple e c => exact .kTuple e c
  | kDict e c => exact .kDict e c
  | fTuple e => exact .fTuple (s _ _ e)
  | fDict e => exact .fDict (s _ _ e)
theorem NI.mono {K : PySem.W.Frag} {H H' : Hp} (s : Same H H') {v : V} (h : NI K H v) : NI K H' v := by
  rcases h with h | ⟨t, ty, e⟩
  · exact .inl h
  · exact .inr ⟨t, tyX_mono s ty, e⟩
section
variable {P : Program} {w : World} {K : PySem.W.Frag} {mg : Str → Option Value} {base : Heap} {C CW CB : Addr}
def spInt2 (K : PySem.W.Frag) : Sp := fun vs H Q _ => ∃ v, vs = [v] ∧ ((∃ i, v = .int i ∧ Q (.bl true) H) ∨ (NI K H v ∧ Q (.bl false) H))
theorem ok_int2 {f : Addr} {fd : FuncData} (F : Fun K "is_integer" "is_integer" sInteger f fd) (B : Bn mg) : FnOk P w K mg base CX0 1 f fd ["value"] (spInt2 K) := by
  refine F.ok scIn (fun vs H Q E h => ?_) (fun cdv A outer s H vs Q E hr h => ?_)
  · obtain ⟨v, rfl, _⟩ := h
    rfl
  · obtain ⟨v, rfl, h⟩ := h
    refine ⟨_, pss_one (ps_ret (pe_and (pe_callB call_isi (by rfl) B.isi (by decide +kernel) (pa_cons (pv 0) (pa_cons (pe_bltn (v := .ty "int") (by rfl) B.int (by decide +kernel) rfl) pa_nil)))
      (pe_one (pe_not (pe_callB call_isi (by rfl) B.isi (by decide +kernel) (pa_cons (pv 0) (pa_cons (pe_bltn (v := .ty "bool") (by rfl) B.bool (by decide +kernel) rfl) pa_nil))))))), ?_⟩
    rcases h with ⟨i, rfl, k⟩ | ⟨⟨b, rfl⟩ | ⟨t, ty, e⟩, k⟩
    · exact ⟨_, rfl, _, _, _, _, _, rfl, .ty _, .base (.int _), kit_ty (r := true) (by decide +kernel), _, rfl, iteT ⟨_, rfl, _, _, _, _, _, rfl, .ty _, .base (.int _), kit_ty (r := false) (by decide +kernel), _, rfl, k⟩⟩
    · exact ⟨_, rfl, _, _, _, _, _, rfl, .ty _, .base (.bl _), kit_ty (r := true) (by decide +kernel), _, rfl, iteT ⟨_, rfl, _, _, _, _, _, rfl, .ty _, .base (.bl _), kit_ty (r := true) (by decide +kernel), _, rfl, k⟩⟩
    · exact ⟨_, rfl, _, _, _, _, _, rfl, .ty _, ty, e, _, rfl, iteF k⟩
def spWithin2 (K : PySem.W.Frag) : Sp := fun vs H Q _ => ∃ (v : V) (a b : Int), vs = [v, .int a, .int b] ∧ ((∃ i, v = .int i ∧ Q (.bl (decide (a ≤ i ∧ i ≤ b))) H) ∨ (NI K H v ∧ Q (.bl false) H))
theorem ok_within2 {f : Addr} {fd : FuncData} (F : Fun K "is_within" "is_within" sWithin f fd) (DI : Df P w K mg base 1 "is_integer" ["value"] (spInt2 K)) : FnOk P w K mg base CX0 2 f fd ["value", "least", "greatest"] (spWithin2 K) := by
  obtain ⟨fI, fdI, GI, gI, kI, bI⟩ := DI.ex
  refine F.ok sc3 (fun vs H Q E h => ?_) (fun cdv A outer s H vs Q E hr h => ?_)
  · obtain ⟨v, a, b, rfl, _⟩ := h
    rfl
  · obtain ⟨v, a, b, rfl, h⟩ := h
    refine ⟨_, pss_one (ps_ret (pe_and (pe_call GI hr rfl gI kI bI .nil pass0 (pa_cons (pv 0) pa_nil)) (pe_one (pe_chain op_le op_le (pv 1) (pv 0) (pv 2))))), ?_⟩
    rcases h with ⟨v, rfl, k⟩ | ⟨ni, k⟩
    · refine ⟨_, rfl, _, rfl, .inl ⟨v, rfl, _, rfl, iteT ⟨_, rfl, _, rfl, _, _, rfl, rfl, _, rfl, ?_⟩⟩⟩
      refine ite2 (fun h1 => ⟨_, rfl, _, _, rfl, rfl, ?_⟩) (fun h1 => ?_)
      · have e1 : a ≤ v := of_decide_eq_true h1
        rw [show decide (a ≤ v ∧ v ≤ b) = decide (v ≤ b) from decide_eq_decide.mpr ⟨fun z => z.2, fun z => ⟨e1, z⟩⟩] at k
        exact k
      · rw [show decide (a ≤ v ∧ v ≤ b) = false from decide_eq_false fun q => h1 (decide_eq_true q.1)] at k
        exact k
    · exact ⟨_, rfl, v, rfl, .inr ⟨ni, _, rfl, iteF k⟩⟩
end
end CP

end
section
set_option autoImplicit false
set_option Elab.async false
set_option linter.all false
set_option maxRecDepth 100000
set_option maxHeartbeats 4000000
/-! ## Way.__init__ that refuses: too many steps or none, too great -/
namespace WP
open PySem L2 G
/-- the raise of an own error with the very value -/
def RaiV (CB : Addr) (f : Str) (v : V) (H : Hp) (E : XK) : Prop := ∀ H' d, Same H H' → H' d = none → E (.ref CB) (some d) (upd H' d (.xd [(f, v)]))
theorem RaiV.mono {CB : Addr} {f : Str} {v : V} {H H1 : Hp} {E : XK} (s : Same H H1) (h : RaiV CB f v H E) : RaiV CB f v H1 E := fun H' d s2 => h H' d (s.trans s2)
section
variable {P : Program} {w : World} {K : PySem.W.Frag} {mg : Str → Option Value} {base : Heap} {C CB CG : Addr}
def spListN : Sp := fun vs H Q _ => ∃ (l : Addr) (xs : List V), vs = [.ref l] ∧ H l = some (.tup xs) ∧ ¬ (1 ≤ xs.length ∧ xs.length ≤ 12) ∧ ∀ H', Same H H' → Q (.bl false) H'
theorem ok_listN {f : Addr} {fd : FuncData} (F : Fun K "is_step_list" "is_step_list" sList f fd) (B : Bn mg) (T : Wt K mg C) : FnOk P w K mg base CX0 1 f fd ["value"] spListN := by
  obtain ⟨t1, g1⟩ := T.gSteps
  refine F.ok scLi (fun vs H Q E h => ?_) (fun cdv A outer s H vs Q E hr h => ?_)
  · obtain ⟨l, xs, rfl, _⟩ := h
    rfl
  · obtain ⟨l, xs, rfl, hl, hn, k⟩ := h
    refine ⟨_, pss_one (ps_ret (pe_and (pe_callB call_isiT (by rfl) B.isi (by decide +kernel) (pa_cons (pv 0) (pa_cons (pe_tup (pa_cons (pe_bltn (v := .ty "list") (by rfl) B.list (by decide +kernel) rfl) (pa_cons (pe_bltn (v := .ty "tuple") (by rfl) B.tuple (by decide +kernel) rfl) pa_nil))) pa_nil)))
      (pe_one (pe_chain op_le op_le pe_int (pe_callB call_len_seq (by rfl) B.len PySem.boot_len (pa_cons (pv 0) pa_nil)) (pe_glob (v := .int 12) rfl g1 ⟨_, rfl⟩))))), ?_⟩
    refine ⟨_, rfl, by show 2 ≤ sizeLine; decide, fun p np => ?_⟩
    have sp : Same H (upd H p (.tup [.ty "list", .ty "tuple"])) := Same.of_upd np
    have kt : PySem.W.kitAny K (.type "tuple") [.type "list", .type "tuple"] = some true := by
      unfold PySem.W.kitAny
      rw [kit_ty (r := false) (by decide +kernel)]
      unfold PySem.W.kitAny
      rw [kit_ty (r := true) (by decide +kernel)]
    refine ⟨_, p, _, _, _, _, rfl, upd_same, .cons (.ty _) (.cons (.ty _) .nil), .base (.tup (sp _ _ hl)), kt, _, rfl, iteT ⟨_, rfl, l, xs, rfl, .inr (SqT.of (sp _ _ hl)), _, _, rfl, rfl, _, rfl, ?_⟩⟩
    by_cases h1 : 1 ≤ xs.length
    · rw [decide_eq_true (show (1 : Int) ≤ (xs.length : Int) by omega)]
      refine iteT ⟨_, _, rfl, rfl, ?_⟩
      dsimp only
      rw [decide_eq_false (show ¬ (xs.length : Int) ≤ 12 by omega)]
      exact k _ sp
    · rw [decide_eq_false (show ¬ (1 : Int) ≤ (xs.length : Int) by omega)]
      exact iteF (k _ sp)
/-- no steps, or more than twelve -/
def spInitB (CB : Addr) : Sp := fun vs H Q E => ∃ (x l : Addr) (h : Nat) (xs : List V), vs = [.ref x, .int (h : Int), .ref l] ∧ 1 ≤ h ∧ h ≤ 40 ∧ H l = some (.tup xs) ∧ ¬ (1 ≤ xs.length ∧ xs.length ≤ 12) ∧ RaiV CB "value" (.ref l) H E
theorem ok_initB {f : Addr} {fd : FuncData} (F : Fun K "__init__" "Way.__init__" sInit f fd) (T : Wt K mg C) (ME : G.Mk P w K mg base CB "value") (gE : mg "BadSteps" = some (.ref CB)) (W : Df P w K mg base 3 "is_head" ["value"] (spIn1 1 40)) (WL : Df P w K mg base 1 "is_step_list" ["value"] spListN) :
    FnOk P w K mg base (L2.CX P w) 6 f fd ["self", "head", "steps"] (spInitB CB) := by
  obtain ⟨fW, fdW, GW, gW, kW, bW⟩ := W.ex
  obtain ⟨fL, fdL, GL, gL, kL, bL⟩ := WL.ex
  refine F.okX scI (fun vs H Q E h => ?_) (fun cdv A outer s H vs Q E hr h => ?_)
  · obtain ⟨x, l, h, xs, rfl, _⟩ := h
    rfl
  · obtain ⟨x, l, h, xs, rfl, h1, h2, hl, hn, ke⟩ := h
    refine ⟨_, pss_cons (ps_if (pt_not (pt_val (pe_call GW (hr.mono (by decide)) rfl gW kW bW .nil pass0 (pa_cons (pv 1) pa_nil)))) ps_dead pss_nil)
      (pss_cons (ps_if (pt_not (pt_val (pe_call GL (hr.mono (by decide)) rfl gL kL bL .nil pass0 (pa_cons (pv 2) pa_nil)))) (pss_one (ps_raiseE rfl ME (hr.mono (by decide)) (takes_of rfl rfl rfl rfl) rfl gE (pa_cons (pv 2) pa_nil))) pss_nil) ps_dead), ?_⟩
    refine ⟨_, rfl, (h : Int), rfl, ?_⟩
    rw [decide_eq_true (by omega)]
    exact ⟨_, rfl, iteF ⟨_, rfl, l, xs, rfl, hl, hn, fun H1 s1 => ⟨_, rfl, iteT ⟨_, rfl, mkO_of fun d hd => ke H1 d s1 hd⟩⟩⟩⟩
/-- too great a way -/
def spInitG (C CG : Addr) : Sp := fun vs H Q E => ∃ (x l : Addr) (h : Nat) (xs : List V) (st : List M.Step), vs = [.ref x, .int (h : Int), .ref l] ∧ 1 ≤ h ∧ h ≤ 40 ∧ H l = some (.tup xs) ∧ 1 ≤ xs.length ∧ xs.length ≤ 12 ∧ StepsAt C H st xs ∧ M.Step.fineAll h st ∧ 1 + M.Step.deepest st ≤ 3 ∧ ¬ st.length + M.Step.inner st ≤ 40 ∧
  RaiV CG "size" (.int ((st.length + M.Step.inner st : Nat) : Int)) H E
theorem ok_initG {f : Addr} {fd : FuncData} (F : Fun K "__init__" "Way.__init__" sInit f fd) (B : Bn mg) (T : Wt K mg C) (ME : G.Mk P w K mg base CG "size") (gE : mg "TooGreat" = some (.ref CG)) (W : Df P w K mg base 3 "is_head" ["value"] (spIn1 1 40)) (WL : Df P w K mg base 1 "is_step_list" ["value"] (spList K)) (WS : Df P w K mg base 5 "_is_step" ["value", "head"] (spStep C)) :
    FnOk P w K mg base (L2.CX P w) 6 f fd ["self", "head", "steps"] (spInitG C CG) := by
  obtain ⟨fW, fdW, GW, gW, kW, bW⟩ := W.ex
  obtain ⟨fL, fdL, GL, gL, kL, bL⟩ := WL.ex
  obtain ⟨fS, fdS, GS, gS, kS, bS⟩ := WS.ex
  obtain ⟨t2, g2⟩ := T.gDepth
  obtain ⟨t3, g3⟩ := T.gSize
  refine F.okX scI (fun vs H Q E h => ?_) (fun cdv A outer s H vs Q E hr h => ?_)
  · obtain ⟨x, l, h, xs, st, rfl, _⟩ := h
    rfl
  · obtain ⟨x, l, h, xs, st, rfl, h1, h2, hl0, n1, n2, hs, hall, hd, hz, ke⟩ := h
    have r1 := hr.mono (by decide : 1 ≤ 5)
    have r0 := hr.mono (by decide : 3 ≤ 5)
    have hl : SAt H l xs := .inr hl0
    refine ⟨_, pss_cons (ps_if (pt_not (pt_val (pe_call GW r0 rfl gW kW bW .nil pass0 (pa_cons (pv 1) pa_nil)))) ps_dead pss_nil)
      (pss_cons (ps_if (pt_not (pt_val (pe_call GL r1 rfl gL kL bL .nil pass0 (pa_cons (pv 2) pa_nil)))) ps_dead pss_nil)
      (pss_cons (ps_for (passes_of rfl) rfl (pi_or (pi_enum (by rfl) B.enum (pa_cons (pv 2) pa_nil)) (pi_et (by rfl) B.enum (pa_cons (pv 2) pa_nil))) (pg_tup (by rfl) (pgs_cons (pg_name (i := 3) scI.nd rfl (Or.inl rfl)) (pgs_cons (pg_name (i := 4) scI.nd rfl (Or.inl rfl)) pgs_nil)))
        (pss_one (ps_if (pt_not (pt_val (pe_call GS hr rfl gS kS bS .nil pass0 (pa_cons (pv 4) (pa_cons (pv 1) pa_nil))))) ps_dead pss_nil)))
      (pss_cons (ps_setLc (i := 5) (own := [("step", 4)]) (g := gName 4) (tt := tTest (tOp rEq (tOp (rIxT K) (tVar 4) (tC (.int 0))) (tC (.str "tunnel")))) (te := tOp (rIxT K) (tVar 4) (tC (.int 1))) rfl scI.nd rfl rfl (sw_true rfl rfl rfl (by decide +kernel)) (pi_or (pi_list (pv 2)) (pi_tup (pv 2))) (blkOk_by (N := NI) (sc := defScope sInit) (by decide +kernel))
          (fun _ _ _ _ _ => pg_name (i := 4) scI.nd rfl (Or.inl rfl)) (fun _ _ _ _ _ => pts_one (by exact pt_cmpR op_eq (pe_ix ix_tup (pv 4) pe_int (fun _ _ => rfl)) pe_str (nomark _))) (fun _ _ _ _ _ => by exact pe_ix ix_tup (pv 4) pe_int (fun _ _ => rfl)))
      (pss_cons (ps_set (i := 6) scI.nd rfl (Or.inl rfl) (pe_op op_add pe_int (pe_callBK (G.call_maxID rfl hr.units) (by rfl) B.max (by decide +kernel) (pa_cons (pe_lc (own := [("inner", 8)]) (g := gName 8) (tt := tYes) (te := tFld K (tVar 8) "depth") rfl scI.nd (pi_list (pv 5)) (blkOk_by (N := NI) (sc := defScope sInit) (by decide +kernel))
          (fun _ _ _ _ _ => pg_name (i := 8) scI.nd rfl (Or.inl rfl)) (fun _ _ _ _ _ => pts_nil) (fun _ _ _ _ _ => by exact pe_fld (pv 8) rfl)) pa_nil) (pk_cons pe_int pk_nil))))
      (pss_cons (ps_if (pt_cmpR op_gt (pv 6) (pe_glob (v := .int 3) rfl g2 ⟨_, rfl⟩) (nomark _)) ps_dead pss_nil)
      (pss_cons (ps_set (i := 7) scI.nd rfl (Or.inl rfl) (pe_op op_add (pe_callB call_len_seq (by rfl) B.len PySem.boot_len (pa_cons (pv 2) pa_nil)) (pe_callB (cr_sum rfl) (by rfl) B.sum (by decide +kernel) (pa_cons (pe_lc (own := [("inner", 8)]) (g := gName 8) (tt := tYes) (te := tFld K (tVar 8) "size") rfl scI.nd (pi_list (pv 5)) (blkOk_by (N := NI) (sc := defScope sInit) (by decide +kernel))
          (fun _ _ _ _ _ => pg_name (i := 8) scI.nd rfl (Or.inl rfl)) (fun _ _ _ _ _ => pts_nil) (fun _ _ _ _ _ => by exact pe_fld (pv 8) rfl)) pa_nil))))
      (pss_cons (ps_if (pt_cmpR op_gt (pv 7) (pe_glob (v := .int 40) rfl g3 ⟨_, rfl⟩) (nomark _)) (pss_one (ps_raiseE rfl ME (hr.mono (by decide)) (takes_of rfl rfl rfl rfl) rfl gE (pa_cons (pv 7) pa_nil))) pss_nil) ps_dead))))))), ?_⟩
    have ln := hs.len
    refine ⟨_, rfl, (h : Int), rfl, ?_⟩
    rw [decide_eq_true (by omega)]
    refine ⟨_, rfl, iteF ⟨_, rfl, l, xs, rfl, hl, n1, n2, fun H1 s1 => ⟨_, rfl, iteF ?_⟩⟩⟩
    refine or_enum (fun Q h => ⟨_, rfl, h⟩) (hl.mono s1) fun J Gd hG wk => ?_
    refine for_it wk (fun i σ G => Same H1 G ∧ ∃ p q, σ = [some (.ref x), some (.int (h : Int)), some (.ref l), p, q, none, none, none, none]) ⟨Same.refl _, _, _, rfl⟩ (fun i σ G _ z => hG G z.1) ?_ ?_
    · rintro i v σ G G' hi ⟨s, p, q, rfl⟩ ⟨t, a, b, rfl, nt, rfl, e1, hb⟩
      cases e1
      obtain ⟨sp, hsp, hst⟩ := hs.get hb
      have s2 : Same H1 (upd G t (.tup [V.int (i : Nat), b])) := s.trans (Same.of_upd nt)
      refine ⟨t, _, rfl, SqT.of upd_same, rfl, _, _, rfl, _, _, rfl, rfl, ?_⟩
      exact ⟨_, rfl, _, rfl, b, h, sp, rfl, hst.mono (s1.trans s2), fine_get hall hsp, _, rfl, iteF ⟨s2, _, _, rfl⟩⟩
    · rintro σ G ⟨s, p, q, rfl⟩
      have S2 := s1.trans s
      dsimp only
      refine set_then (te := tTuns K) (i := 5) ?_
      refine tuns_run (st := st) (xs := xs) rfl (hl.mono S2) (hs.mono S2) (by omega) fun D0 vs H2 s3 hD0 hW => ?_
      have lw : vs.length ≤ 1000 := by
        have e1 := hW.len
        have e2 := M.tuns_len st
        omega
      refine set_then (i := 6) ?_
      refine add_of (i := 1) (maxD_of (tl := tFlds K "depth") ?_)
      refine flds_run (f := "depth") (g := fun w => ((w.depth : Nat) : Int)) T T.nD (fun H wy a => depth_fld H wy a) rfl hD0 (hW.mono s3) lw fun D1 H3 s4 hD1 => ?_
      refine maxID_at (M.deep_max _) (SqL.of hD1) ⟨_, _, rfl, rfl, ?_⟩
      rw [← M.deepest_eq]
      refine ⟨_, rfl, _, _, rfl, rfl, _, rfl, ?_⟩
      rw [decide_eq_false (by omega)]
      refine iteF ?_
      unfold tNext
      dsimp only
      have s5 := s3.trans s4
      refine set_then (i := 7) (len_add (l := l) (xs := xs) (tl := tFlds K "size") rfl (hl.mono (S2.trans s5)) ?_)
      refine flds_run (f := "size") (g := fun w => ((w.size : Nat) : Int)) T T.nZ (fun H wy a => size_fld H wy a) rfl (s4 _ _ hD0) (hW.mono s5) lw fun D2 H4 s6 hD2 => ?_
      refine ⟨D2, _, rfl, SqL.of hD2, _, _, rfl, rfl, ?_⟩
      rw [M.sum_cast, ← M.inner_eq]
      refine ⟨_, rfl, _, _, rfl, rfl, _, rfl, ?_⟩
      rw [decide_eq_true (by omega)]
      have S4 : Same H H4 := S2.trans (s5.trans s6)
      have e2 : ((xs.length : Nat) : Int) + ((M.Step.inner st : Nat) : Int) = ((st.length + M.Step.inner st : Nat) : Int) := by omega
      rw [e2]
      exact iteT ⟨_, rfl, mkO_of fun d hd => ke H4 d S4 hd⟩
end
end WP

end
section
set_option autoImplicit false
set_option Elab.async false
set_option linter.all false
set_option maxRecDepth 100000
set_option maxHeartbeats 4000000
/-! ## Way.__add__, __getitem__, without that may refuse -/
namespace WP
open PySem L2 G
abbrev sAddW : Stmt := inClass (top 32) 5
abbrev sWGet : Stmt := inClass (top 32) 2
abbrev sWithout : Stmt := inClass (top 32) 6
/-- what comes of making a way of these steps -/
def MadeIn (C CB CG : Addr) (h : Nat) (st : List M.Step) (H : Hp) (Q : VK) (E : XK) : Prop :=
  (M.Way.fine (.mk h st) ∧ ∀ c H', Same H H' → WayAt C H' (.mk h st) c → Q (.ref c) H') ∨
  (¬ (1 ≤ st.length ∧ st.length ≤ 12) ∧ ∀ l xs H1, Same H H1 → H1 l = some (.tup xs) → StepsAt C H1 st xs → RaiV CB "value" (.ref l) H1 E) ∨
  (1 ≤ st.length ∧ st.length ≤ 12 ∧ ¬ st.length + M.Step.inner st ≤ 40 ∧ RaiV CG "size" (.int ((st.length + M.Step.inner st : Nat) : Int)) H E)
section
variable {P : Program} {w : World} {K : PySem.W.Frag} {mg : Str → Option Value} {base : Heap} {C CB CG CO CN : Addr}
def spInit3 (C CB CG : Addr) : Sp := orSp (spInit C) (orSp (spInitB CB) (spInitG C CG))
structure M3 (P : Program) (w : World) (K : PySem.W.Frag) (mg : Str → Option Value) (base : Heap) (C CB CG : Addr) : Prop where
  ex : ∃ (f : Addr) (fd : FuncData), FnOk P w K mg base (L2.CX P w) 6 f fd ["self", "head", "steps"] (spInit3 C CB CG) ∧ L2.Mk K C f ∧ Binds K fd ["self", "head", "steps"] []
theorem made3 {H : Hp} {Q : VK} {E : XK} {l : Addr} {h : Nat} {xs : List V} {st : List M.Step} (h1 : 1 ≤ h) (h2 : h ≤ 40) (hl : H l = some (.tup xs)) (hs : StepsAt C H st xs) (ha : M.Step.fineAll h st) (hd : 1 + M.Step.deepest st ≤ 3) (m : MadeIn C CB CG h st H Q E) :
    ∀ x dx, H x = none → H dx = none → dx ≠ x → spInit3 C CB CG (.ref x :: ([.int (h : Int), .ref l] ++ [])) (upd (upd H dx (.own x)) x (.ins C dx [])) (fun v H2 => v = .non ∧ Q (.ref x) H2) E := fun x dx hx hdx ne => by
  have s0 : Same H (upd (upd H dx (.own x)) x (.ins C dx [])) := (Same.of_upd hdx).trans (Same.of_upd (by rw [upd_ne ne.symm]; exact hx))
  have ln := hs.len
  rcases m with ⟨hf, k⟩ | ⟨hn, k⟩ | ⟨n1, n2, hz, k⟩
  · exact .inl (made_way (E := E) (.inr hl) hs hf k x dx hx hdx ne)
  · exact .inr (.inl ⟨x, l, h, xs, rfl, h1, h2, s0 _ _ hl, by rw [ln]; exact hn, k l xs _ s0 (s0 _ _ hl) (hs.mono s0)⟩)
  · exact .inr (.inr ⟨x, l, h, xs, st, rfl, h1, h2, s0 _ _ hl, by omega, by omega, hs.mono s0, ha, hd, hz, k.mono s0⟩)
def spAddW (C CB CG CO : Addr) : Sp := fun vs H Q E => ∃ a b w1 w2, vs = [.ref a, .ref b] ∧ WayAt C H w1 a ∧ WayAt C H w2 b ∧ M.Way.fine w1 ∧ M.Way.fine w2 ∧
  ((w1.head ≠ w2.head ∧ RaiV CO "head" (.int ((w2.head : Nat) : Int)) H E) ∨ (w1.head = w2.head ∧ MadeIn C CB CG w1.head (w1.steps ++ w2.steps) H Q E))
theorem fineAll_app {h : Nat} : ∀ {s r : List M.Step}, M.Step.fineAll h s → M.Step.fineAll h r → M.Step.fineAll h (s ++ r)
  | [], r, _, b => b
  | x :: s, r, a, b => by
    unfold M.Step.fineAll at a
    show M.Step.fineAll h (x :: (s ++ r))
    unfold M.Step.fineAll
    exact ⟨a.1, fineAll_app a.2 b⟩
theorem deep_app : ∀ {s r : List M.Step} {d : Nat}, M.Step.deepest s ≤ d → M.Step.deepest r ≤ d → M.Step.deepest (s ++ r) ≤ d
  | [], r, d, _, b => b
  | x :: s, r, d, a, b => by
    rw [M.deep_cons] at a
    show M.Step.deepest (x :: (s ++ r)) ≤ d
    rw [M.deep_cons]
    have := deep_app (s := s) (r := r) (d := d) (by omega) b
    omega
theorem fine_parts {wy : M.Way} (h : wy.fine) : 1 ≤ wy.head ∧ wy.head ≤ 40 ∧ 1 ≤ wy.steps.length ∧ wy.steps.length ≤ 12 ∧ M.Step.fineAll wy.head wy.steps ∧ 1 + M.Step.deepest wy.steps ≤ 3 ∧ wy.steps.length + M.Step.inner wy.steps ≤ 40 := by
  obtain ⟨g, s⟩ := wy
  unfold M.Way.fine at h
  exact ⟨h.1.1, h.1.2, h.2.1.1, h.2.1.2, h.2.2.1, h.2.2.2.1, h.2.2.2.2⟩
theorem scAW : FnScope ["self", "other"] ["self", "other"] (defScope sAddW) := ⟨rfl, rfl, rfl, by decide +kernel, rfl, by decide +kernel, by decide +kernel⟩
theorem ok_addW {f : Addr} {fd : FuncData} (F : Fun K "__add__" "Way.__add__" sAddW f fd) (T : Wt K mg C) (ME : G.Mk P w K mg base CO "head") (gE : mg "OtherHead" = some (.ref CO)) (MW : M3 P w K mg base C CB CG) : FnOk P w K mg base (L2.CX P w) 8 f fd ["self", "other"] (spAddW C CB CG CO) := by
  obtain ⟨fI, fdI, GI, MK, bI⟩ := MW.ex
  refine F.okX scAW (fun vs H Q E h => ?_) (fun cdv A outer s H vs Q E hr h => ?_)
  · obtain ⟨a, b, w1, w2, rfl, _⟩ := h
    rfl
  · obtain ⟨a, b, w1, w2, rfl, h1, h2, f1, f2, hh⟩ := h
    refine ⟨_, pss_cons (ps_if (pt_cmpR op_ne (pe_fld (pv 1) rfl) (pe_fld (pv 0) rfl) (nomark _)) (pss_one (ps_raiseE rfl ME (hr.mono (by decide)) (takes_of rfl rfl rfl rfl) rfl gE (pa_cons (pe_fld (pv 1) rfl) pa_nil))) pss_nil)
      (pss_one (ps_ret (pe_makeS MK GI hr rfl T.g bI .nil (fun σ => passAt (takes_of rfl rfl rfl rfl) σ) (pa_cons (pe_fld (pv 0) rfl) (pa_cons (pe_op op_catA (pe_fld (pv 0) rfl) (pe_fld (pv 1) rfl)) pa_nil))))), ?_⟩
    obtain ⟨da, fa, a1, a2⟩ := head_fld h1
    obtain ⟨db, fb, b1, b2⟩ := head_fld h2
    obtain ⟨dc, fc, t1, xs, c1, c2, c3, c4⟩ := steps_fld h1
    obtain ⟨de, fe, t2, ys, e1, e2, e3, e4⟩ := steps_fld h2
    refine ⟨_, rfl, b, C, db, fb, _, rfl, b1, T.cl, T.nH, b2, _, rfl, a, C, da, fa, _, rfl, a1, T.cl, T.nH, a2, rfl, _, rfl, ?_⟩
    rcases hh with ⟨ne, ke⟩ | ⟨eh, m⟩
    · refine CP.iteNT (fun z => ne ?_) ⟨_, rfl, b, C, db, fb, _, rfl, b1, T.cl, T.nH, b2, mkO_of fun d hd => ke H d (Same.refl H) hd⟩
      injection z with z
      omega
    · rw [show (!decide (V.int ((w2.head : Nat) : Int) = V.int ((w1.head : Nat) : Int))) = false by rw [eh, decide_eq_true rfl]; rfl]
      refine iteF ?_
      refine ⟨_, rfl, a, C, da, fa, _, rfl, a1, T.cl, T.nH, a2, ?_⟩
      refine ⟨_, rfl, a, C, dc, fc, _, rfl, c1, T.cl, T.nS, c2, _, rfl, b, C, de, fe, _, rfl, e1, T.cl, T.nS, e2, ?_⟩
      obtain ⟨p1, p2, p3, p4, p5, p6, p7⟩ := fine_parts f1
      obtain ⟨q1, q2, q3, q4, q5, q6, q7⟩ := fine_parts f2
      have lx := c4.len
      have ly := e4.len
      refine catA_own c3 e3 (Nat.le_trans (show _ ≤ 24 by omega) (by decide)) fun u G s hu => ?_
      refine made3 p1 p2 hu ((c4.mono s).app (e4.mono s)) (fineAll_app p5 (by rw [eh]; exact q5)) (by have := deep_app (s := w1.steps) (r := w2.steps) (d := 2) (by omega) (by omega); omega) ?_
      rcases m with ⟨mf, k⟩ | ⟨mn, k⟩ | ⟨m1, m2, m3, k⟩
      · exact .inl ⟨mf, fun c H' s2 wa => k c H' (s.trans s2) wa⟩
      · exact .inr (.inl ⟨mn, fun l xs H1 s2 => k l xs H1 (s.trans s2)⟩)
      · exact .inr (.inr ⟨m1, m2, m3, k.mono s⟩)
/-- no position of a step -/
def NoPos (K : PySem.W.Frag) (H : Hp) (v : V) (n : Nat) : Prop := CP.NI K H v ∨ ∃ i : Int, v = .int i ∧ ¬ (0 ≤ i ∧ i ≤ (n : Int) - 1)
def spWGet (K : PySem.W.Frag) (C CN : Addr) : Sp := fun vs H Q E => ∃ (a : Addr) (v : V) (wy : M.Way) (t : Addr) (xs : List V) (dx : Addr) (fs : List (Str × V)), vs = [.ref a, v] ∧ WayAt C H wy a ∧ H a = some (.ins C dx fs) ∧ fs.lookup ("steps" : Str) = some (.ref t) ∧ H t = some (.tup xs) ∧ xs.length = wy.steps.length ∧
  ((∃ (i : Nat) (x : V), v = .int (i : Int) ∧ xs[i]? = some x ∧ Q x H) ∨ (NoPos K H v wy.steps.length ∧ RaiV CN "value" v H E))
theorem scWG : FnScope ["self", "at"] ["self", "at"] (defScope sWGet) := ⟨rfl, rfl, rfl, by decide +kernel, rfl, by decide +kernel, by decide +kernel⟩
theorem ok_wget {f : Addr} {fd : FuncData} (F : Fun K "__getitem__" "Way.__getitem__" sWGet f fd) (B : Bn mg) (T : Wt K mg C) (ME : G.Mk P w K mg base CN "value") (gE : mg "NoStep" = some (.ref CN)) (W : Y.Df P w K mg base 2 "is_within" ["value", "least", "greatest"] (CP.spWithin2 K)) : FnOk P w K mg base (L2.CX P w) 3 f fd ["self", "at"] (spWGet K C CN) := by
  obtain ⟨fW, fdW, GW, gW, kW, bW⟩ := W.ex
  refine F.okX scWG (fun vs H Q E h => ?_) (fun cdv A outer s H vs Q E hr h => ?_)
  · obtain ⟨a, v, wy, t, xs, dx, fs, rfl, _⟩ := h
    rfl
  · obtain ⟨a, v, wy, t, xs, dx, fs, rfl, hw, i1, i2, i3, ln, hh⟩ := h
    refine ⟨_, pss_cons (ps_if (pt_not (pt_val (pe_call GW hr rfl gW kW bW .nil pass0 (pa_cons (pv 1) (pa_cons pe_int (pa_cons (pe_op op_sub (pe_callB call_len_seq (by rfl) B.len PySem.boot_len (pa_cons (pe_fld (pv 0) rfl) pa_nil)) pe_int) pa_nil)))))) (pss_one (ps_raiseE rfl ME hr (takes_of rfl rfl rfl rfl) rfl gE (pa_cons (pv 1) pa_nil))) pss_nil)
      (pss_one (ps_ret (pe_ix ix_tup (pe_fld (pv 0) rfl) (pv 1) (fun _ _ => rfl)))), ?_⟩
    refine ⟨_, rfl, _, rfl, a, C, dx, fs, _, rfl, i1, T.cl, T.nS, i2, t, xs, rfl, .inr (SqT.of i3), _, _, rfl, rfl, v, 0, (xs.length : Int) - 1, rfl, ?_⟩
    rcases hh with ⟨i, x, rfl, hx, k⟩ | ⟨ni | ⟨i, rfl, hi⟩, ke⟩
    · have hi : i < xs.length := (List.getElem?_eq_some_iff.mp hx).1
      refine .inl ⟨(i : Int), rfl, ?_⟩
      rw [decide_eq_true (by omega)]
      exact ⟨_, rfl, iteF ⟨_, rfl, a, C, dx, fs, _, rfl, i1, T.cl, T.nS, i2, _, rfl, t, xs, _, _, rfl, rfl, SqT.of i3, atI_nat hx, k⟩⟩
    · exact .inr ⟨ni, _, rfl, iteT ⟨_, rfl, mkO_of fun d hd => ke H d (Same.refl H) hd⟩⟩
    · refine .inl ⟨i, rfl, ?_⟩
      rw [decide_eq_false (by omega)]
      exact ⟨_, rfl, iteT ⟨_, rfl, mkO_of fun d hd => ke H d (Same.refl H) hd⟩⟩
def spOutW (K : PySem.W.Frag) (C CB CG CN : Addr) : Sp := fun vs H Q E => ∃ (a : Addr) (v : V) (wy : M.Way), vs = [.ref a, v] ∧ WayAt C H wy a ∧ M.Way.fine wy ∧
  ((∃ i : Nat, v = .int (i : Int) ∧ i < wy.steps.length ∧ MadeIn C CB CG wy.head (wy.steps.take i ++ wy.steps.drop (i + 1)) H Q E) ∨ (NoPos K H v wy.steps.length ∧ RaiV CN "value" v H E))
theorem scOW : FnScope ["self", "position"] ["self", "position"] (defScope sWithout) := ⟨rfl, rfl, rfl, by decide +kernel, rfl, by decide +kernel, by decide +kernel⟩
theorem fineAll_sub {h : Nat} : ∀ {s : List M.Step}, M.Step.fineAll h s → ∀ i, M.Step.fineAll h (s.take i) ∧ M.Step.fineAll h (s.drop i)
  | [], _, i => by
    rw [List.take_nil, List.drop_nil]
    exact ⟨by unfold M.Step.fineAll; trivial, by unfold M.Step.fineAll; trivial⟩
  | x :: s, a, 0 => by
    rw [List.take_zero, List.drop_zero]
    exact ⟨by unfold M.Step.fineAll; trivial, a⟩
  | x :: s, a, i + 1 => by
    unfold M.Step.fineAll at a
    obtain ⟨b, c⟩ := fineAll_sub a.2 i
    rw [List.take_succ_cons, List.drop_succ_cons]
    exact ⟨by unfold M.Step.fineAll; exact ⟨a.1, b⟩, c⟩
theorem deep_sub : ∀ {s : List M.Step} {d : Nat}, M.Step.deepest s ≤ d → ∀ i, M.Step.deepest (s.take i) ≤ d ∧ M.Step.deepest (s.drop i) ≤ d
  | [], d, h, i => by
    rw [List.take_nil, List.drop_nil]
    exact ⟨h, h⟩
  | x :: s, d, h, 0 => by
    rw [List.take_zero, List.drop_zero]
    exact ⟨by unfold M.Step.deepest; omega, h⟩
  | x :: s, d, h, i + 1 => by
    rw [M.deep_cons] at h
    obtain ⟨b, c⟩ := deep_sub (s := s) (d := d) (by omega) i
    rw [List.take_succ_cons, List.drop_succ_cons, M.deep_cons]
    exact ⟨by omega, c⟩
theorem ok_outW {f : Addr} {fd : FuncData} (F : Fun K "without" "Way.without" sWithout f fd) (B : Bn mg) (T : Wt K mg C) (ME : G.Mk P w K mg base CN "value") (gE : mg "NoStep" = some (.ref CN)) (MW : M3 P w K mg base C CB CG) (W : Y.Df P w K mg base 2 "is_within" ["value", "least", "greatest"] (CP.spWithin2 K)) : FnOk P w K mg base (L2.CX P w) 8 f fd ["self", "position"] (spOutW K C CB CG CN) := by
  obtain ⟨fI, fdI, GI, MK, bI⟩ := MW.ex
  obtain ⟨fW, fdW, GW, gW, kW, bW⟩ := W.ex
  refine F.okX scOW (fun vs H Q E h => ?_) (fun cdv A outer s H vs Q E hr h => ?_)
  · obtain ⟨a, v, wy, rfl, _⟩ := h
    rfl
  · obtain ⟨a, v, wy, rfl, hw, hf, hh⟩ := h
    refine ⟨_, pss_cons (ps_if (pt_not (pt_val (pe_call GW (hr.mono (by decide)) rfl gW kW bW .nil pass0 (pa_cons (pv 1) (pa_cons pe_int (pa_cons (pe_op op_sub (pe_callB call_len_seq (by rfl) B.len PySem.boot_len (pa_cons (pe_fld (pv 0) rfl) pa_nil)) pe_int) pa_nil)))))) (pss_one (ps_raiseE rfl ME (hr.mono (by decide)) (takes_of rfl rfl rfl rfl) rfl gE (pa_cons (pv 1) pa_nil))) pss_nil)
      (pss_one (ps_ret (pe_makeS MK GI hr rfl T.g bI .nil (fun σ => passAt (takes_of rfl rfl rfl rfl) σ) (pa_cons (pe_fld (pv 0) rfl) (pa_cons (pe_op op_catA (pe_slice sl_tupA (pe_fld (pv 0) rfl) po_none (po_some (pv 1))) (pe_slice sl_tupA (pe_fld (pv 0) rfl) (po_some (pe_op op_add (pv 1) pe_int)) po_none)) pa_nil))))), ?_⟩
    obtain ⟨da, fa, a1, a2⟩ := head_fld hw
    obtain ⟨dc, fc, t1, xs, c1, c2, c3, c4⟩ := steps_fld hw
    have lx := c4.len
    obtain ⟨p1, p2, p3, p4, p5, p6, p7⟩ := fine_parts hf
    refine ⟨_, rfl, _, rfl, a, C, dc, fc, _, rfl, c1, T.cl, T.nS, c2, t1, _, rfl, .inr (SqT.of c3), _, _, rfl, rfl, v, 0, (xs.length : Int) - 1, rfl, ?_⟩
    rcases hh with ⟨i, rfl, hi, m⟩ | ⟨ni | ⟨i, rfl, hi⟩, ke⟩
    · refine .inl ⟨(i : Int), rfl, ?_⟩
      rw [decide_eq_true (by omega)]
      refine ⟨_, rfl, iteF ?_⟩
      refine ⟨_, rfl, a, C, da, fa, _, rfl, a1, T.cl, T.nH, a2, ?_⟩
      refine ⟨_, rfl, a, C, dc, fc, _, rfl, c1, T.cl, T.nS, c2, ?_⟩
      dsimp only [tNoPart]
      refine ⟨_, rfl, _, rfl, ?_⟩
      refine sl_any c3 fun u1 G1 s1 h1 => ?_
      refine ⟨_, rfl, a, C, dc, fc, _, rfl, s1 _ _ c1, T.cl, T.nS, c2, _, rfl, _, _, rfl, rfl, _, rfl, ?_⟩
      dsimp only [tNoPart]
      refine sl_any (s1 _ _ c3) fun u2 G2 s2 h2 => ?_
      rw [cut_hi] at h1
      rw [show ((i : Int) + 1) = ((i + 1 : Nat) : Int) from rfl, cut_lo] at h2
      refine catA_own (s2 _ _ h1) h2 (by rw [List.length_take, List.length_drop]; exact Nat.le_trans (show _ ≤ 200 by omega) (by decide)) fun c G3 s3 hc => ?_
      have s4 := (s1.trans s2).trans s3
      have dd := deep_sub (s := wy.steps) (d := 2) (by omega)
      refine made3 p1 p2 hc ((((c4.mono s4)).take i).app ((c4.mono s4).drop (i + 1))) (fineAll_app (fineAll_sub p5 i).1 (fineAll_sub p5 (i + 1)).2) (by have := deep_app (dd i).1 (dd (i + 1)).2; omega) ?_
      rcases m with ⟨mf, k⟩ | ⟨mn, k⟩ | ⟨m1, m2, m3, k⟩
      · exact .inl ⟨mf, fun c H' s5 wa => k c H' (s4.trans s5) wa⟩
      · exact .inr (.inl ⟨mn, fun l xs H1 s5 => k l xs H1 (s4.trans s5)⟩)
      · exact .inr (.inr ⟨m1, m2, m3, k.mono s4⟩)
    · exact .inr ⟨ni, _, rfl, iteT ⟨_, rfl, mkO_of fun d hd => ke H d (Same.refl H) hd⟩⟩
    · refine .inl ⟨i, rfl, ?_⟩
      rw [decide_eq_false (by omega)]
      exact ⟨_, rfl, iteT ⟨_, rfl, mkO_of fun d hd => ke H d (Same.refl H) hd⟩⟩
end
end WP

end
section
set_option autoImplicit false
set_option Elab.async false
set_option linter.all false
set_option maxRecDepth 100000
set_option maxHeartbeats 4000000
/-! ## x + y, x[i], x.m(..) of own classes where a wish depends on the slots -/
namespace WO
open PySem PySem.Spec PyProof.Rows L2
section
variable {X : Cx} {CX : CXT} {n : Nat} {f C : Addr} {fd : FuncData} {ps : List Str} {sp : Sp} {E : L2.St → XK}
theorem run_ownS {A : Around} {pins : List (Addr × Obj)} {s : Shared} {σ : L2.St} {H : Hp} {xs : List V} {us : List Value} {Z : VK} {G : Value → Shared → Prop} (F : FnOk X.prog X.w X.K X.mg X.base CX n f fd ps sp) (sb : Sub X n A) (hb : Binds X.K fd ps []) (hx : PassesAt CX X σ (E σ))
    (I : Inv X pins σ H s) (r : Vals xs us) (hsp : sp xs H Z (E σ)) (k : ∀ z u H1 s1, Inv X pins σ H1 s1 → RelV z u → Z z H1 → G u s1) : wpAny (model X.prog X.w) A (call (.ref f) us) G X.xe s := by
  have hl := F.len _ _ _ _ hsp
  have lu : us.length = ps.length := by rw [← r.length]; exact hl
  have env : Env0 X.prog X.w X.K X.mg X.base A X.stack s H := by
    have e := I.env0
    exact ⟨by rw [sb.fr]; exact e.frames, e.mod, e.bs, e.bsz, e.funs, e.frf, e.hok, e.bare⟩
  refine wpAny_call (codeAny_mono (F.run A X.stack s H ⟨us, []⟩ us xs _ (E σ) sb.room env (by simpa using hb s us I.kIn (by simpa using lu)) r hsp) fun res s1 hq => ?_)
  match res, hq with
  | .error e, hq => exact hx pins H s e s1 I hq
  | .ok (.ret u), hq =>
    obtain ⟨z, H1, I1, rz, q⟩ := I.after hq
    exact k z u H1 s1 I1 rz q
  | .ok .next, hq => exact hq.elim
  | .ok .brk, hq => exact hq.elim
  | .ok .cont, hq => exact hq.elim
def tAddS (C : Addr) (sp : Sp) (E : L2.St → XK) (ta tb : TE) : TE := fun σ H Q => ta σ H fun x H1 => tb σ H1 fun y H2 => ∃ a b, x = .ref a ∧ y = .ref b ∧ InsC C H2 a ∧ InsC C H2 b ∧ sp [.ref a, .ref b] H2 (fun v H3 => ∃ c, v = .ref c ∧ Q (.ref c) H3) (E σ)
theorem pe_addS {a b : Expr} {ta tb : TE} {pos : Pos} (F : FnOk X.prog X.w X.K X.mg X.base CX n f fd ps sp) (hr : Room n X.A) (O : Own X.K C f "__add__") (hc : PySem.W.selfFirst X.K C = true) (hb : Binds X.K fd ps []) (hx : ∀ σ, PassesAt CX X σ (E σ)) (ha : PE X a ta) (hb2 : PE X b tb) : PE X (.BinOp a .Add b pos) (tAddS C sp E ta tb) := by
  refine ⟨fun pins s σ H Q I h => wpAny_BinOp (binT ha hb2 I h fun v u s2 x y H2 J rx ry q => ?_)⟩
  obtain ⟨p, q', rfl, rfl, ⟨dx, fs, hp⟩, ⟨dy, gs, hq⟩, hsp⟩ := q
  cases rx
  cases ry
  obtain ⟨_, Z, _⟩ := ins_get J.hok hp
  obtain ⟨_, Z', _⟩ := ins_get J.hok hq
  obtain ⟨od, Z, _⟩ := Z.look
  obtain ⟨od', Z', _⟩ := Z'.look
  obtain ⟨m, hF⟩ := J.fr
  refine PySem.W.binop_K (op := .Add) hF J.ok.mod.kin Z Z'.type hc O.at' O.fn (run_ownS F (A := X.A) (xs := [.ref p, .ref q']) ⟨hr, rfl⟩ hb (hx σ) J (.cons rfl (.cons rfl .nil)) hsp fun z u H1 s1 I1 rz w => ?_)
  obtain ⟨c, rfl, w⟩ := w
  cases rz
  exact ⟨.ref c, H1, I1, rfl, w⟩
def tIxS (C : Addr) (sp : Sp) (E : L2.St → XK) (ta tb : TE) : TE := fun σ H Q => ta σ H fun x H1 => tb σ H1 fun y H2 => ∃ a, x = .ref a ∧ InsC C H2 a ∧ sp [.ref a, y] H2 Q (E σ)
theorem pe_ixS {a b : Expr} {ta tb : TE} {pos : Pos} (F : FnOk X.prog X.w X.K X.mg X.base CX n f fd ps sp) (hr : Room (n + 1) X.A) (O : Own X.K C f "__getitem__") (hf : PySem.W.fnIn X.K f = true) (hb : Binds X.K fd ps []) (hx : ∀ σ, PassesAt CX X σ (E σ)) (ha : PE X a ta) (hi : PE X b tb)
    (hs : ∀ v i, subscripted b true v i = runValue (.builtin "lifetime.subscript" ⟨[v, i], []⟩)) : PE X (.Subscript a b pos) (tIxS C sp E ta tb) := by
  refine ⟨fun pins s σ H Q I h => Subscript_ (binT ha hi I h fun v u s2 x y H2 J rx ry q => ?_)⟩
  obtain ⟨p, rfl, ⟨dx, fs, hp⟩, hsp⟩ := q
  cases rx
  obtain ⟨_, Z, _⟩ := ins_get J.hok hp
  obtain ⟨od, Z, _⟩ := Z.look
  obtain ⟨m, hF⟩ := J.fr
  exact PySem.W.sub_K hF J.ok.mod.kin Z O.at' hf O.fn (run_ownS F (A := X.A.in1) (xs := [.ref p, y]) ⟨hr.in1, rfl⟩ hb (hx σ) J (.cons rfl (.cons ry .nil)) hsp fun z u H1 s1 I1 rz q => ⟨z, H1, I1, rz, q⟩) (hs _ _)
/-- o.m(e, ..), what the method may let out told at the slots -/
def tMethS (C : Addr) (m : Str) (sp : Sp) (E : L2.St → XK) (ta : TE) (t : TA) : TE := fun σ H Q => ta σ H fun x H1 => ∃ a dx fs, x = .ref a ∧ H1 a = some (.ins C dx fs) ∧ fs.lookup m = none ∧ t σ H1 fun vs H2 => sp (x :: vs) H2 Q (E σ)
theorem pe_methS {m : Str} {o e : Expr} {es : List Expr} {ta : TE} {t : TA} {pos apos : Pos} {pl : Sem Bool} (he : PE X o ta) (c : Cls X.K C) (hm : Meth X.K C m f) (F : FnOk X.prog X.w X.K X.mg X.base CX n f fd ps sp) (hr : Room n X.A) (hb : Binds X.K fd ps []) (hx : ∀ σ, PassesAt CX X σ (E σ)) (ha : PA X (e :: es) t)
    (h1 : starEach (e :: es) X.env = (false, eval e X.env) :: starEach es X.env := by rfl) (h2 : (backTo pos (starEach es X.env)).any (·.1) = false := by rfl)
    (h3 : eval (.Call (.Attribute o m apos) (e :: es) [] pos) X.env = (do let ov ← eval o X.env; standAt apos.atName; let (g, front) ← holding [ov] (getMethod ov m pl); callWith pos g front (backTo pos (starEach (e :: es) X.env)) (backToKw pos (keywordEach [] X.env))) := by rfl) :
    PE X (.Call (.Attribute o m apos) (e :: es) [] pos) (tMethS C m sp E ta t) := by
  refine ⟨fun pins s σ H Q I h => PySem.W.methodCall_KW (pl := pl) (thn (he.run pins s σ H _ I h) fun u s1 ⟨x, H1, J1, rx, a, dx, fs, ex, ea, l, q⟩ => ?_) h3⟩
  subst ex
  obtain rfl : u = Value.ref a := rx
  refine getmeth_ok J1 ea c hm l (PySem.W.callWith_K (first := [.ref a]) (h₀ := X.base) I.ok.mod.kin hm.kp (thn (ha.run pos pins s1 σ H1 _ J1 q) fun us s2 ⟨vs, H2, J2, r, q2⟩ => ⟨J2.kIn, ?_⟩) h1 h2)
  exact run_fnS (us := .ref a :: us) (vs := .ref a :: vs) F hr hb (hx σ) J2 (.cons rfl r) q2
end
end WO

end
section
set_option autoImplicit false
set_option Elab.async false
set_option linter.all false
set_option maxRecDepth 100000
set_option maxHeartbeats 4000000
/-! ## != of an own class that says only == -/
namespace WO
open PySem PySem.Spec PyProof.Rows L2
section
variable {prog : Program} {w : World} {A : Around} {E : Value → Shared → Prop} {s : Shared} {K : PySem.W.Frag} {x y C f : Addr} {ox : Obj} {od : Option Obj}
theorem bound_ne {M : Model} {args : List Value} {Q : Option Value → Shared → Prop} (X : K.In s.heap) (I : PySem.W.InstAt s.heap x ox C od) (hs : PySem.W.findIn K (.ref C) "__ne__" = some (some (.builtin "object.__ne__")))
    (h : wpAny M A (call (.builtin "object.__ne__") (.ref x :: args)) (fun v => Q (some v)) E s) : wpAny M A (callSpecialIfBound? (.ref x) "__ne__" args) Q E s := by
  simp only [callSpecialIfBound?, bindSpecialIfBound?]
  refine wpAny_holding (wpAny_bind (wpAny_bind (wpAny_bind (I.type.here ((PySem.W.looks_findIn X hs).here ?_)))))
  refine wpAny_bind (wpAny_askSetting (wpAny_ite ?_))
  have e : wpAny M A (call (.builtin "object.__ne__") ([.ref x] ++ args) >>= fun v => pure (some v)) Q E s := wpAny_bind (wpAny_mono h (fun v s' q => wpAny_pure q) fun _ _ q => q)
  split
  · exact wpAny_bind (wpAny_of_eq (F.cmp_object.ne.bind _) (wpAny_pure (by exact e)))
  · exact wpAny_tryCatch (wpAny_bind (wpAny_of_eq (F.cmp_object.ne.bind _) (wpAny_pure (by exact e))))
theorem entry_ne {Q : Fin → Shared → Prop} (hu : A.units < cLine) (X : K.In s.heap) (I : PySem.W.InstAt s.heap x ox C od) (he : PySem.W.findIn K (.ref C) "__eq__" = some (some (.ref f))) (hf : PySem.W.isFn K (.ref f) = true)
    (h : wpAny (model prog w) A (call (.ref f) [.ref x, .ref y]) (fun v s' => ∃ b, v = .bool b ∧ Q (.done (.ret (.bool (!b)))) s') E s) : wpAny (model prog w) A (Builtin.«object.__ne__» ⟨[.ref x, .ref y], []⟩) Q E s := by
  unfold Builtin.«object.__ne__»
  repeat (first
    | with_reducible refine wpAny_cRoomFor hu ?_
    | (refine wpAny_bind (m := callSpecialIfBound? (.ref x) (Str.ofString "__eq__") [.ref y]) (PySem.W.ifBound_K X I he hf (wpAny_mono h (fun r s' hr => by
          obtain ⟨b, rfl, hq⟩ := hr
          repeat (first | exact hq | exact wpAny_pure hq | exact wpAny_truthy_bool hq | (refine wpAny_bind (m := truthy (.bool _)) (wpAny_truthy_bool ?_)) | wp_step)) fun _ _ e => e)))
    | wp_step)
theorem rich_ne {Q : Value → Shared → Prop} (hu : A.units + 1 < cLine) (X : K.In s.heap) (I : PySem.W.InstAt s.heap x ox C od) (hy : PySem.W.Looks (model prog w) s.heap (typeOf (.ref y)) (.ref C)) (hm : PySem.W.mroIn K C (.type "object") = some true)
    (hs : PySem.W.findIn K (.ref C) "__ne__" = some (some (.builtin "object.__ne__"))) (he : PySem.W.findIn K (.ref C) "__eq__" = some (some (.ref f))) (hf : PySem.W.isFn K (.ref f) = true)
    (h : wpAny (model prog w) A.in1 (call (.ref f) [.ref x, .ref y]) (fun v s' => ∃ b, v = .bool b ∧ Q (.bool (!b)) s') E s) : wpAny (model prog w) A (richCompare .NotEq (.ref x) (.ref y)) Q E s := by
  have one : wpAny (model prog w) A (tryCompare (.ref x) "__ne__" (.ref y)) (fun r s' => ∃ v, r = some v ∧ Q v s') E s := by
    unfold tryCompare
    refine wpAny_bind (bound_ne X I hs (wpAny_call (codeAny_call_builtin F.cmp_object.ne.plain F.cmpEntry_ne (PySem.W.check_slot F.cmpKind_ne F.cmpSplit_ne (I.type.andThen (PySem.W.looks_mroIn X hm)) (F.cmpArgs_ne _ _)
      (entry_ne (A := A.in1) hu X I he hf (wpAny_mono h (fun v s' hv => ?_) fun _ _ e => e))))))
    obtain ⟨b, rfl, hq⟩ := hv
    exact ⟨b, rfl, wpAny_pure ⟨_, rfl, hq⟩⟩
  unfold richCompare
  simp only [oneThing_ref]
  refine wpAny_holding (wpAny_bind (wpAny_cRoomFor (Nat.lt_of_succ_lt hu) ?_))
  refine wpAny_bind (I.type.here (wpAny_bind (hy.here ?_)))
  split
  · rename_i q
    simp at q
  · refine wpAny_bind (wpAny_pure ?_)
    simp only [Bool.false_eq_true, if_false]
    refine wpAny_bind (wpAny_mono one (fun r s' z => ?_) fun _ _ e => e)
    obtain ⟨v, rfl, hq⟩ := z
    exact wpAny_pure hq
end
section
variable {X : Cx} {CX : CXT} {n : Nat} {C f : Addr} {fd : FuncData} {ps : List Str} {sp : Sp} {E : XK}
/-- != by the own __eq__ -/
def rNeO (C : Addr) (sp : Sp) (E : XK) : R2 := fun x y H Q => ∃ a b, x = .ref a ∧ y = .ref b ∧ InsC C H a ∧ InsC C H b ∧ sp [.ref a, .ref b] H (fun v H1 => ∃ c, v = .bl c ∧ Q (.bl (!c)) H1) E
theorem op_neO (F : FnOk X.prog X.w X.K X.mg X.base CX n f fd ps sp) (hr : Room (n + 1) X.A) (O : Own X.K C f "__eq__") (hm : PySem.W.mroIn X.K C (.type "object") = some true) (hs : PySem.W.findIn X.K (.ref C) "__ne__" = some (some (.builtin "object.__ne__")))
    (hb : Binds X.K fd ps []) (hx : Passes CX X E) : OpR X (compareOp .NotEq) (rNeO C sp E) := by
  intro pins s σ H x y v u Q I rx ry h
  obtain ⟨a, b, rfl, rfl, ⟨dx, fs, ha⟩, ⟨dy, gs, hb'⟩, hsp⟩ := h
  cases rx
  cases ry
  obtain ⟨_, J, _⟩ := ins_get I.hok ha
  obtain ⟨_, J', _⟩ := ins_get I.hok hb'
  obtain ⟨od, J, _⟩ := J.look
  obtain ⟨od', J', _⟩ := J'.look
  show wpAny (model X.prog X.w) X.A (richCompare .NotEq (.ref a) (.ref b)) (EP X pins σ Q) X.xe s
  refine rich_ne hr.in1.units0 I.kIn J J'.type hm hs O.at' O.fn (run_own F (A := X.A.in1) (xs := [.ref a, .ref b]) ⟨hr.in1, rfl⟩ hb hx I (.cons rfl (.cons rfl .nil)) hsp fun z u H1 s1 I1 rz q => ?_)
  obtain ⟨c, rfl, q⟩ := q
  cases rz
  exact ⟨c, rfl, .bl (!c), H1, I1, rfl, q⟩
end
end WO

end
section
set_option autoImplicit false
set_option Elab.async false
set_option linter.all false
set_option maxRecDepth 100000
set_option maxHeartbeats 4000000
/-! ## == and != of tuples with own objects among their items; ways against ways -/
namespace NQ
open PySem PySem.Spec PyProof.Rows L2
open AutoSeq1 (wpAny_loadPart')
section
variable {prog : Program} {w : World} {A : Around} {R : Result → Shared → Prop}
theorem ne_run {a b : Addr} {ia ib : Array Value} {ka kb : Nat} {da db : Option Addr} {sa sb : Array (Option Value)} (sz : ia.size = ib.size) (J : Nat → Shared → Prop)
    (step : ∀ k (p : k < ia.size) (q : k < ib.size) t, J k t → wpAny (model prog w) A.in1 (eqBool ia[k] ib[k]) (fun r t' => r = true ∧ J (k + 1) t') (fun e t' => R (.error e) t') t)
    (stop : ∀ t, J ia.size t → R (.ok (.ret (.bool false))) t) {t : Shared} (ga : t.heap.get? a = some { cls := .type "tuple", dict := da, data := .seq ia ka, slots := sa })
    (gb : t.heap.get? b = some { cls := .type "tuple", dict := db, data := .seq ib kb, slots := sb }) (go : J 0 t) :
    wpAny (model prog w) A.in1 (Builtin.«tuple.__ne__» ⟨[.ref a, .ref b], []⟩) (GQ.FinOf prog w A R) (fun e t' => R (.error e) t') t := by
  have sub := AutoSeq1.sub_tuple_tuple
  have zl : (ia.toList.zip ib.toList).length = ia.size := by simp [sz]
  have go' := go
  obtain ⟨t1, t2, t3, t4, t5⟩ := t
  wp_walk using wpAny_loadPart' ga, wpAny_loadPart' gb, wpAny_forIn_list _ (fun more z t' => z.1 = none ∧ ∃ k, more = (ia.toList.zip ib.toList).drop k ∧ k ≤ ia.size ∧ J k t') _
  case turn =>
    rintro ⟨u, v⟩ more z t' ⟨hz, k, em, hk, hJ⟩
    have kl : k < (ia.toList.zip ib.toList).length := Nat.lt_of_not_le fun g => by
      rw [List.drop_of_length_le g] at em
      cases em
    have k1 : k < ia.size := zl ▸ kl
    have k2 : k < ib.size := sz ▸ k1
    rw [List.drop_eq_getElem_cons kl] at em
    injection em with e1 e2
    have eu : u = ia[k] := by simpa using congrArg Prod.fst e1
    have ev : v = ib[k] := by simpa using congrArg Prod.snd e1
    subst eu ev
    refine wpAny_bind (wpAny_mono (step k k1 k2 t' hJ) (fun r t2 q2 => ?_) fun _ _ x => x)
    obtain ⟨er, q2⟩ := q2
    subst er
    wp_walk
    exact ⟨rfl, k + 1, e2, k1, q2⟩
  case fin =>
    rintro ⟨z1, z2⟩ t' ⟨hz, k, em, hk, hJ⟩
    simp only at hz
    subst hz
    have kg : ia.size ≤ k := Nat.le_of_not_lt fun g => by
      rw [List.drop_eq_getElem_cons (zl.symm ▸ g)] at em
      cases em
    have ek : k = ia.size := Nat.le_antisymm hk kg
    have done := stop t' (ek ▸ hJ)
    wp_walk
    simpa [Builtin.Tuple.tupleCompareSizes, sz] using done
  case h =>
    exact ⟨rfl, 0, rfl, Nat.zero_le _, go'⟩
end
section
variable {prog : Program} {w : World} {A : Around} {E : Value → Shared → Prop} {t : Shared}
theorem rc_ne {a b : Addr} {ia ib : Array Value} {Q : Value → Shared → Prop} (sz : ia.size = ib.size) (hu : A.units < cLine) (J : Nat → Shared → Prop) (ta : t.heap.IsTuple a ia) (tb : t.heap.IsTuple b ib)
    (step : ∀ k (p : k < ia.size) (q : k < ib.size) t, J k t → wpAny (model prog w) A.in1 (eqBool ia[k] ib[k]) (fun r t' => r = true ∧ J (k + 1) t') E t)
    (stop : ∀ t, J ia.size t → Q (.bool false) t) (go : J 0 t) : wpAny (model prog w) A (richCompare .NotEq (.ref a) (.ref b)) Q E t := by
  obtain ⟨⟨ca, da, pa, sa⟩, ga, qa, na, va⟩ := id ta
  obtain ⟨⟨cb, db, pb, sb⟩, gb, qb, nb, vb⟩ := id tb
  simp only at qa va qb vb
  subst qa va qb vb
  refine wpAny_richCompare_same_room (op := .NotEq) ⟨_, ga, rfl⟩ ⟨_, gb, rfl⟩ F.slot_tuple_ne (GQ.call_here F.slot_tuple_ne ⟨_, ga, rfl⟩ F.entry_tuple_ne (F.args_tuple_ne_2 _ _) ?_) hu
  exact ne_run (R := wants (fun v t' => v ≠ .notImplemented ∧ Q v t') E) sz J step (fun t' q => ⟨(fun x => nomatch x), stop t' q⟩) ga gb go
end
section
variable {X : Cx} {n : Nat} {D : Eqv}
/-- x != y of tuples that are equal item by item -/
def rNeT (K : PySem.W.Frag) (D : Eqv) : R2 := fun x y H Q => DTup K D x y H ∧ ∀ H', Ext H H' → Q (.bl false) H'
theorem op_neT (hD : Mon D) (h : EqG X n D) (hr : Room (n + 1) X.A) : OpR X (compareOp .NotEq) (rNeT X.K D) := by
  intro pins s σ H x y v u Q I rx ry hq
  obtain ⟨⟨a, b, xs, ys, rfl, rfl, ha, hb, p⟩, q⟩ := hq
  cases rx
  cases ry
  obtain ⟨ia, ra, ea, -⟩ := I.tuple ha
  obtain ⟨ib, rb, eb, -⟩ := I.tuple hb
  have sz : ia.toArray.size = ib.toArray.size := by
    have := p.1
    rw [ra.length, rb.length] at this
    rw [List.size_toArray, List.size_toArray]
    exact this
  show wpAny (model X.prog X.w) X.A (richCompare .NotEq (.ref a) (.ref b)) (EP X pins σ Q) X.xe s
  refine rc_ne sz hr.units0 (fun _ t => LoopI X pins σ H t) ea eb (fun i h1 h2 t l => turnG hD h ⟨hr, rfl⟩ p ra rb i h1 h2 t l) (fun t l => ?_) ⟨H, I, Ext.rfl'⟩
  obtain ⟨H1, I1, x1⟩ := l
  exact ⟨.bl false, H1, I1, rfl, q H1 x1⟩
end
end NQ
namespace EB
open PySem PySem.Spec PyProof.Rows L2
open AutoSeq1 (wpAny_loadPart')
section
variable {prog : Program} {w : World} {A : Around} {R : Result → Shared → Prop}
theorem eq_run {a b : Addr} {ia ib : Array Value} {ka kb : Nat} {da db : Option Addr} {sa sb : Array (Option Value)} (J : Nat → Shared → Prop)
    (step : ∀ k (p : k < ia.size) (q : k < ib.size) t, J k t → wpAny (model prog w) A.in1 (eqBool ia[k] ib[k]) (fun r t' => (r = true ∧ J (k + 1) t') ∨ (r = false ∧ R (.ok (.ret (.bool false))) t')) (fun e t' => R (.error e) t') t)
    (stop : ∀ t, J (min ia.size ib.size) t → R (.ok (.ret (.bool (ia.size == ib.size)))) t) {t : Shared} (ga : t.heap.get? a = some { cls := .type "tuple", dict := da, data := .seq ia ka, slots := sa })
    (gb : t.heap.get? b = some { cls := .type "tuple", dict := db, data := .seq ib kb, slots := sb }) (go : J 0 t) :
    wpAny (model prog w) A.in1 (Builtin.«tuple.__eq__» ⟨[.ref a, .ref b], []⟩) (GQ.FinOf prog w A R) (fun e t' => R (.error e) t') t := by
  have sub := AutoSeq1.sub_tuple_tuple
  have zl : (ia.toList.zip ib.toList).length = min ia.size ib.size := by simp
  have go' := go
  obtain ⟨t1, t2, t3, t4, t5⟩ := t
  wp_walk using wpAny_loadPart' ga, wpAny_loadPart' gb, wpAny_forIn_list _ (fun more z t' => z.1 = none ∧ ∃ k, more = (ia.toList.zip ib.toList).drop k ∧ k ≤ min ia.size ib.size ∧ J k t') _
  case turn =>
    rintro ⟨u, v⟩ more z t' ⟨hz, k, em, hk, hJ⟩
    have kl : k < (ia.toList.zip ib.toList).length := Nat.lt_of_not_le fun g => by
      rw [List.drop_of_length_le g] at em
      cases em
    have k0 : k < min ia.size ib.size := zl ▸ kl
    have k1 : k < ia.size := Nat.lt_of_lt_of_le k0 (Nat.min_le_left _ _)
    have k2 : k < ib.size := Nat.lt_of_lt_of_le k0 (Nat.min_le_right _ _)
    rw [List.drop_eq_getElem_cons kl] at em
    injection em with e1 e2
    have eu : u = ia[k] := by simpa using congrArg Prod.fst e1
    have ev : v = ib[k] := by simpa using congrArg Prod.snd e1
    subst eu ev
    refine wpAny_bind (wpAny_mono (step k k1 k2 t' hJ) (fun r t2 q2 => ?_) fun _ _ x => x)
    rcases q2 with ⟨er, q2⟩ | ⟨er, q2⟩
    · subst er
      wp_walk
      exact ⟨rfl, k + 1, e2, k0, q2⟩
    · subst er
      wp_walk
      exact q2
  case fin =>
    rintro ⟨z1, z2⟩ t' ⟨hz, k, em, hk, hJ⟩
    simp only at hz
    subst hz
    have kg : min ia.size ib.size ≤ k := Nat.le_of_not_lt fun g => by
      rw [List.drop_eq_getElem_cons (zl.symm ▸ g)] at em
      cases em
    have ek : k = min ia.size ib.size := Nat.le_antisymm hk kg
    have done := stop t' (ek ▸ hJ)
    wp_walk
    simpa [Builtin.Tuple.tupleCompareSizes] using done
  case h =>
    exact ⟨rfl, 0, rfl, Nat.zero_le _, go'⟩
end
section
variable {prog : Program} {w : World} {A : Around} {E : Value → Shared → Prop} {t : Shared}
theorem rc_eq {a b : Addr} {ia ib : Array Value} {Q : Value → Shared → Prop} (hu : A.units < cLine) (J : Nat → Shared → Prop) (ta : t.heap.IsTuple a ia) (tb : t.heap.IsTuple b ib)
    (step : ∀ k (p : k < ia.size) (q : k < ib.size) t, J k t → wpAny (model prog w) A.in1 (eqBool ia[k] ib[k]) (fun r t' => (r = true ∧ J (k + 1) t') ∨ (r = false ∧ Q (.bool false) t')) E t)
    (stop : ∀ t, J (min ia.size ib.size) t → Q (.bool (ia.size == ib.size)) t) (go : J 0 t) : wpAny (model prog w) A (richCompare .Eq (.ref a) (.ref b)) Q E t := by
  obtain ⟨⟨ca, da, pa, sa⟩, ga, qa, na, va⟩ := id ta
  obtain ⟨⟨cb, db, pb, sb⟩, gb, qb, nb, vb⟩ := id tb
  simp only at qa va qb vb
  subst qa va qb vb
  refine wpAny_richCompare_same_room (op := .Eq) ⟨_, ga, rfl⟩ ⟨_, gb, rfl⟩ F.slot_tuple_eq (GQ.call_here F.slot_tuple_eq ⟨_, ga, rfl⟩ F.entry_tuple_eq (F.args_tuple_eq_2 _ _) ?_) hu
  refine eq_run (R := wants (fun v t' => v ≠ .notImplemented ∧ Q v t') E) J (fun k p q t j => wpAny_mono (step k p q t j) (fun r t' h => h.imp id fun h => ⟨h.1, (fun x => nomatch x), h.2⟩) fun _ _ x => x) (fun t' q => ⟨(fun x => nomatch x), stop t' q⟩) ga gb go
end
/-- how two values compare, by the abstract heap -/
abbrev Cmp := V → V → Bool → Hp → Prop
def MonB (D : Cmp) : Prop := ∀ x y c H H', Ext H H' → D x y c H → D x y c H'
def EqB (X : Cx) (n : Nat) (D : Cmp) : Prop :=
  ∀ (A : Around) (pins : List (Addr × Obj)) (s : Shared) (σ : L2.St) (H : Hp) (x y : V) (u v : Value) (c : Bool), Sub X n A → Inv X pins σ H s → RelV x u → RelV y v → D x y c H →
    wpAny (model X.prog X.w) A (eqBool u v) (fun r s' => r = c ∧ ∃ H', Inv X pins σ H' s' ∧ Ext H H') X.xe s
def RcB (X : Cx) (n : Nat) (D : Cmp) : Prop :=
  ∀ (A : Around) (pins : List (Addr × Obj)) (s : Shared) (σ : L2.St) (H : Hp) (x y : V) (u v : Value) (c : Bool), Sub X n A → Inv X pins σ H s → RelV x u → RelV y v → D x y c H →
    wpAny (model X.prog X.w) A (richCompare .Eq u v) (fun r s' => r = .bool c ∧ ∃ H', Inv X pins σ H' s' ∧ Ext H H') X.xe s
def BFlat : Cmp := fun x y c _ => flatV x = true ∧ flatV y = true ∧ eqV x y = c
structure PrB (D : Cmp) (xs ys : List V) (cs : List Bool) (H : Hp) : Prop where
  len : cs.length = min xs.length ys.length
  at' : ∀ (i : Nat) x y c, (∀ j, j < i → cs[j]? = some true) → xs[i]? = some x → ys[i]? = some y → cs[i]? = some c → D x y c H
def BTup (K : PySem.W.Frag) (D : Cmp) : Cmp := fun x y c H => ∃ a b xs ys cs, x = .ref a ∧ y = .ref b ∧ SqT K H a xs ∧ SqT K H b ys ∧ PrB D xs ys cs H ∧ c = (cs.all id && decide (xs.length = ys.length))
/-- the same object is equal to itself -/
def BSm (D : Cmp) : Cmp := fun x y c H => D x y c H ∧ (x = y → c = true)
section
variable {X : Cx} {n m : Nat} {D D' : Cmp}
theorem mon_flat : MonB BFlat := fun _ _ _ _ _ _ d => d
theorem mon_sm (h : MonB D) : MonB (BSm D) := fun x y c H H' e d => ⟨h x y c H H' e d.1, d.2⟩
theorem mon_tup {K : PySem.W.Frag} (h : MonB D) : MonB (BTup K D) := fun x y c H H' e d => by
  obtain ⟨a, b, xs, ys, cs, hx, hy, h1, h2, p, hc⟩ := d
  exact ⟨a, b, xs, ys, cs, hx, hy, h1.ext e, h2.ext e, ⟨p.len, fun i x y c g0 g1 g2 g3 => h x y c H H' e (p.at' i x y c g0 g1 g2 g3)⟩, hc⟩
theorem mon_or (h : MonB D) (h' : MonB D') : MonB (fun x y c H => D x y c H ∨ D' x y c H) := fun x y c H H' e d => d.elim (fun d => .inl (h x y c H H' e d)) fun d => .inr (h' x y c H H' e d)
theorem eqB_flat : EqB X 0 BFlat := by
  intro A pins s σ H x y u v c sb I rx ry d
  obtain ⟨fx, fy, e⟩ := d
  have q := eqAt_V (A := A) (s := s) rx ry fx fy
  rw [e] at q
  exact q X.prog X.w X.xe _ ⟨rfl, H, I, Ext.rfl'⟩
theorem EqB.or (h : EqB X n D) (h' : EqB X n D') : EqB X n (fun x y c H => D x y c H ∨ D' x y c H) := fun A pins s σ H x y u v c sb I rx ry d => by
  rcases d with d | d
  · exact h A pins s σ H x y u v c sb I rx ry d
  · exact h' A pins s σ H x y u v c sb I rx ry d
theorem EqB.mono (h : EqB X n D) (hn : n ≤ m) : EqB X m D := fun A pins s σ H x y u v c sb => h A pins s σ H x y u v c (sb.mono hn)
theorem rcB_tup (hD : MonB D) (h : EqB X n D) : RcB X (n + 1) (BTup X.K D) := by
  intro A pins s σ H x y u v c sb I rx ry d
  obtain ⟨a, b, xs, ys, cs, rfl, rfl, ha, hb, p, hc⟩ := d
  cases rx
  cases ry
  obtain ⟨ia, ra, ea, -⟩ := I.tuple ha
  obtain ⟨ib, rb, eb, -⟩ := I.tuple hb
  have za : ia.toArray.size = xs.length := by rw [List.size_toArray, ra.length]
  have zb : ib.toArray.size = ys.length := by rw [List.size_toArray, rb.length]
  refine rc_eq sb.room.units0 (fun k t => (∀ j, j < k → cs[j]? = some true) ∧ LoopI X pins σ H t) ea eb (fun k k1 k2 t j => ?_) (fun t j => ?_) ⟨fun j hj => by omega, H, I, Ext.rfl'⟩
  · obtain ⟨j0, H1, I1, x1⟩ := j
    have q1 : k < xs.length := by omega
    have q2 : k < ys.length := by omega
    have q3 : k < cs.length := by rw [p.len]; omega
    obtain ⟨u, hu, ru⟩ := ra.get (List.getElem?_eq_getElem q1)
    obtain ⟨v, hv, rv⟩ := rb.get (List.getElem?_eq_getElem q2)
    have g1 : ia[k]? = some ia.toArray[k] := by simp
    have g2 : ib[k]? = some ib.toArray[k] := by simp
    rw [g1] at hu
    rw [g2] at hv
    rw [Option.some.inj hu, Option.some.inj hv]
    refine wpAny_mono (h A.in1 pins t σ H1 _ _ u v cs[k] sb.in1 I1 ru rv (hD _ _ _ _ _ x1 (p.at' k _ _ _ j0 (List.getElem?_eq_getElem q1) (List.getElem?_eq_getElem q2) (List.getElem?_eq_getElem q3)))) (fun r t2 q => ?_) fun _ _ x => x
    obtain ⟨hr, H2, I2, x2⟩ := q
    cases ec : cs[k] with
    | true =>
      refine .inl ⟨hr.trans ec, fun j hj => ?_, H2, I2, x1.trans x2⟩
      by_cases z : j = k
      · rw [z, List.getElem?_eq_getElem q3, ec]
      · exact j0 j (by omega)
    | false =>
      refine .inr ⟨hr.trans ec, ?_, H2, I2, x1.trans x2⟩
      have : cs.all id = false := by
        rw [List.all_eq_false]
        exact ⟨cs[k], List.getElem_mem q3, by rw [ec]; decide⟩
      rw [hc, this]
      rfl
  · obtain ⟨j0, l⟩ := j
    refine ⟨?_, l⟩
    have : cs.all id = true := by
      rw [List.all_eq_true]
      intro z hz
      obtain ⟨i, hi, rfl⟩ := List.getElem_of_mem hz
      have := j0 i (by rw [p.len] at hi; omega)
      rw [List.getElem?_eq_getElem hi] at this
      exact Option.some.inj this
    rw [hc, this, Bool.true_and, za, zb]
    congr 1
theorem RcB.eqB (h : RcB X n D) (hr : ∀ x y c H, D x y c H → ∃ a b, x = .ref a ∧ y = .ref b) : EqB X n (BSm D) := by
  intro A pins s σ H x y u v c sb I rx ry d
  obtain ⟨d, hs⟩ := d
  obtain ⟨a, b, rfl, rfl⟩ := hr _ _ _ _ d
  cases rx
  cases ry
  by_cases hab : a = b
  · subst hab
    rw [hs rfl]
    exact SeqAt.EqAt.same (A := A) (s := s) (.ref a) X.prog X.w X.xe _ ⟨rfl, H, I, Ext.rfl'⟩
  · refine GQ.eqBool_refG hab (wpAny_mono (h A pins s σ H (.ref a) (.ref b) _ _ c sb I rfl rfl d) (fun r s' q => ?_) fun _ _ x => x)
    exact ⟨c, q.1, rfl, q.2⟩
theorem eqB_tup (hD : MonB D) (h : EqB X n D) : EqB X (n + 1) (BSm (BTup X.K D)) := (rcB_tup hD h).eqB fun _ _ _ _ d => let ⟨a, b, _, _, _, hx, hy, _⟩ := d; ⟨a, b, hx, hy⟩
/-- x == y as an expression -/
def rEqB (D : Cmp) : R2 := fun x y H Q => ∃ c, D x y c H ∧ ∀ H', Ext H H' → Q (.bl c) H'
theorem op_eqB (h : RcB X n D) (hr : Room n X.A) : OpR X (compareOp .Eq) (rEqB D) := by
  intro pins s σ H x y v u Q I rx ry hq
  obtain ⟨c, d, q⟩ := hq
  show wpAny (model X.prog X.w) X.A (richCompare .Eq v u) (EP X pins σ Q) X.xe s
  refine wpAny_mono (h X.A pins s σ H x y v u c ⟨hr, rfl⟩ I rx ry d) (fun r t z => ?_) fun _ _ x => x
  obtain ⟨e, H1, I1, x1⟩ := z
  subst e
  exact ⟨.bl c, H1, I1, rfl, q H1 x1⟩
end
end EB
namespace CP
open PySem L2 G Y
mutual
/-- a plan as data -/
def dWay : M.Way → PyData
  | .mk h s => .tuple [.int (h : Int), .tuple (dSteps s)]
def dSteps : List M.Step → List PyData
  | [] => []
  | s :: r => dStep s :: dSteps r
def dStep : M.Step → PyData
  | .road size ts lw => .tuple [.str "road", .int (size : Int), .str (WP.sdS ts), .str (WP.lwS lw)]
  | .join most => .tuple [.str "join", .int (most : Int)]
  | .tunnel w most t => .tuple [.str "tunnel", dWay w, .int (most : Int), .str (WP.twS t)]
end
theorem lay_words : (∀ ts, (PyData.str (WP.sdS ts)).canLay0 = true) ∧ (∀ lw, (PyData.str (WP.lwS lw)).canLay0 = true) ∧ (∀ t, (PyData.str (WP.twS t)).canLay0 = true) ∧ (PyData.str "road").canLay0 = true ∧ (PyData.str "join").canLay0 = true ∧ (PyData.str "tunnel").canLay0 = true := by
  refine ⟨fun ts => ?_, fun lw => ?_, fun t => ?_, by decide +kernel, by decide +kernel, by decide +kernel⟩
  · cases ts <;> decide +kernel
  · cases lw <;> decide +kernel
  · cases t <;> decide +kernel
mutual
theorem lay_way : ∀ w : M.Way, (dWay w).canLay0 = true ∧ (dWay w).depth ≤ 3 * w.depth
  | .mk h s => by
    obtain ⟨a, b⟩ := lay_steps s
    unfold dWay M.Way.depth
    refine ⟨by simp only [PyData.canLay0, PyData.canLayAll0, a, Bool.and_self], ?_⟩
    simp only [PyData.depth, PyData.depthAll]
    omega
theorem lay_steps : ∀ s : List M.Step, PyData.canLayAll0 (dSteps s) = true ∧ PyData.depthAll (dSteps s) ≤ 3 * M.Step.deepest s + 1
  | [] => by
    unfold dSteps
    exact ⟨rfl, by simp only [PyData.depthAll]; omega⟩
  | y :: r => by
    obtain ⟨a, b⟩ := lay_step y
    obtain ⟨c, d⟩ := lay_steps r
    unfold dSteps
    rw [M.deep_cons]
    refine ⟨by simp only [PyData.canLayAll0, a, c, Bool.and_self], ?_⟩
    simp only [PyData.depthAll]
    omega
theorem lay_step : ∀ s : M.Step, (dStep s).canLay0 = true ∧ (dStep s).depth ≤ 3 * M.Step.dep s + 1
  | .road size ts lw => by
    unfold dStep
    refine ⟨by simp only [PyData.canLayAll0, show ∀ l, (PyData.tuple l).canLay0 = PyData.canLayAll0 l from fun l => by simp only [PyData.canLay0], lay_words.1, lay_words.2.1, lay_words.2.2.2.1, show (PyData.int (size : Int)).canLay0 = true from rfl, Bool.and_self], ?_⟩
    simp only [PyData.depth, PyData.depthAll]
    omega
  | .join most => by
    unfold dStep
    refine ⟨by simp only [PyData.canLayAll0, show ∀ l, (PyData.tuple l).canLay0 = PyData.canLayAll0 l from fun l => by simp only [PyData.canLay0], lay_words.2.2.2.2.1, show (PyData.int (most : Int)).canLay0 = true from rfl, Bool.and_self], ?_⟩
    simp only [PyData.depth, PyData.depthAll]
    omega
  | .tunnel w most t => by
    obtain ⟨a, b⟩ := lay_way w
    unfold dStep
    refine ⟨by simp only [PyData.canLayAll0, show ∀ l, (PyData.tuple l).canLay0 = PyData.canLayAll0 l from fun l => by simp only [PyData.canLay0], lay_words.2.2.1, lay_words.2.2.2.2.2, a, show (PyData.int (most : Int)).canLay0 = true from rfl, Bool.and_self], ?_⟩
    simp only [PyData.depth, PyData.depthAll]
    have e : M.Step.dep (.tunnel w most t) = w.depth := rfl
    omega
end
theorem shp_way {w : M.Way} (h : w.depth ≤ 3) : SeqAt.shaped (dWay w) = true := by
  obtain ⟨a, b⟩ := lay_way w
  unfold SeqAt.shaped
  rw [a, Bool.true_and]
  exact decide_eq_true (by omega)
theorem eqv_str {x y : Str} (h : PyData.eqv (.str x) (.str y) = true) : x = y := by
  simp only [PyData.eqv] at h
  exact eq_of_beq h
theorem eqv_nat {x y : Nat} (h : PyData.eqv (.int (x : Int)) (.int (y : Int)) = true) : x = y := by
  simp only [PyData.eqv] at h
  have := eq_of_beq h
  omega
theorem eqv_cons {x y : PyData} {xs ys : List PyData} (h : PyData.eqvAll (x :: xs) (y :: ys) = true) : PyData.eqv x y = true ∧ PyData.eqvAll xs ys = true := by
  simp only [PyData.eqvAll] at h
  exact Bool.and_eq_true_iff.mp h
theorem eqv_tp {xs ys : List PyData} (h : PyData.eqv (.tuple xs) (.tuple ys) = true) : PyData.eqvAll xs ys = true := by
  simp only [PyData.eqv] at h
  exact h
theorem sd_inj {a b : Bool} (h : WP.sdS a = WP.sdS b) : a = b := by
  cases a <;> cases b <;> first | rfl | exact absurd h (by decide +kernel)
theorem lw_inj {a b : M.LW} (h : WP.lwS a = WP.lwS b) : a = b := by
  cases a <;> cases b <;> first | rfl | exact absurd h (by decide +kernel)
theorem tw_inj {a b : M.TW} (h : WP.twS a = WP.twS b) : a = b := by
  cases a <;> cases b <;> first | rfl | exact absurd h (by decide +kernel)
theorem kinds_ne : ("road" : Str) ≠ "join" ∧ ("road" : Str) ≠ "tunnel" ∧ ("join" : Str) ≠ "road" ∧ ("join" : Str) ≠ "tunnel" ∧ ("tunnel" : Str) ≠ "road" ∧ ("tunnel" : Str) ≠ "join" := by decide +kernel
mutual
theorem way_inj : ∀ {w u : M.Way}, PyData.eqv (dWay w) (dWay u) = true → w = u
  | .mk h s, .mk g r, e => by
    unfold dWay at e
    obtain ⟨e1, e2⟩ := eqv_cons (eqv_tp e)
    obtain ⟨e3, _⟩ := eqv_cons e2
    rw [eqv_nat e1, steps_inj (eqv_tp e3)]
theorem steps_inj : ∀ {s r : List M.Step}, PyData.eqvAll (dSteps s) (dSteps r) = true → s = r
  | [], [], e => rfl
  | [], y :: r, e => by
    unfold dSteps at e
    simp only [PyData.eqvAll] at e
    cases e
  | x :: s, [], e => by
    unfold dSteps at e
    simp only [PyData.eqvAll] at e
    cases e
  | x :: s, y :: r, e => by
    unfold dSteps at e
    obtain ⟨e1, e2⟩ := eqv_cons e
    rw [step_inj e1, steps_inj e2]
theorem step_inj : ∀ {s r : M.Step}, PyData.eqv (dStep s) (dStep r) = true → s = r
  | .road a b c, .road a' b' c', e => by
    unfold dStep at e
    obtain ⟨_, e2⟩ := eqv_cons (eqv_tp e)
    obtain ⟨e3, e4⟩ := eqv_cons e2
    obtain ⟨e5, e6⟩ := eqv_cons e4
    obtain ⟨e7, _⟩ := eqv_cons e6
    rw [eqv_nat e3, sd_inj (eqv_str e5), lw_inj (eqv_str e7)]
  | .join a, .join b, e => by
    unfold dStep at e
    obtain ⟨_, e2⟩ := eqv_cons (eqv_tp e)
    obtain ⟨e3, _⟩ := eqv_cons e2
    rw [eqv_nat e3]
  | .tunnel w a b, .tunnel w' a' b', e => by
    unfold dStep at e
    obtain ⟨_, e2⟩ := eqv_cons (eqv_tp e)
    obtain ⟨e3, e4⟩ := eqv_cons e2
    obtain ⟨e5, e6⟩ := eqv_cons e4
    obtain ⟨e7, _⟩ := eqv_cons e6
    rw [way_inj e3, eqv_nat e5, tw_inj (eqv_str e7)]
  | .road a b c, .join d, e => by unfold dStep at e; exact absurd (eqv_str (eqv_cons (eqv_tp e)).1) kinds_ne.1
  | .road a b c, .tunnel x y z, e => by unfold dStep at e; exact absurd (eqv_str (eqv_cons (eqv_tp e)).1) kinds_ne.2.1
  | .join d, .road a b c, e => by unfold dStep at e; exact absurd (eqv_str (eqv_cons (eqv_tp e)).1) kinds_ne.2.2.1
  | .join d, .tunnel x y z, e => by unfold dStep at e; exact absurd (eqv_str (eqv_cons (eqv_tp e)).1) kinds_ne.2.2.2.1
  | .tunnel x y z, .road a b c, e => by unfold dStep at e; exact absurd (eqv_str (eqv_cons (eqv_tp e)).1) kinds_ne.2.2.2.2.1
  | .tunnel x y z, .join d, e => by unfold dStep at e; exact absurd (eqv_str (eqv_cons (eqv_tp e)).1) kinds_ne.2.2.2.2.2
end
theorem eqv_rfl (w : M.Way) : PyData.eqv (dWay w) (dWay w) = true := SeqAt.eqv_refl _ (lay_way w).1
def weq (a b : M.Way) : Bool := PyData.eqv (dWay a) (dWay b)
def seq (a b : M.Step) : Bool := PyData.eqv (dStep a) (dStep b)
theorem weq_iff {a b : M.Way} : weq a b = true ↔ a = b := ⟨way_inj, fun e => by rw [e]; exact eqv_rfl b⟩
theorem seq_refl (a : M.Step) : seq a a = true := SeqAt.eqv_refl _ (lay_step a).1
theorem seq_iff {a b : M.Step} : seq a b = true ↔ a = b := ⟨step_inj, fun e => by rw [e]; exact seq_refl b⟩
theorem all_steps : ∀ (s r : List M.Step), PyData.eqvAll (dSteps s) (dSteps r) = ((List.zipWith seq s r).all id && decide (s.length = r.length))
  | [], [] => by unfold dSteps; rfl
  | [], y :: r => by
    unfold dSteps
    simp only [PyData.eqvAll, List.zipWith_nil_left, List.length_nil, List.length_cons]
    simp
  | x :: s, [] => by
    unfold dSteps
    simp only [PyData.eqvAll, List.zipWith_nil_right, List.length_nil, List.length_cons]
    simp
  | x :: s, y :: r => by
    have ih := all_steps s r
    unfold dSteps
    simp only [PyData.eqvAll, List.zipWith_cons_cons, List.all_cons, id, List.length_cons, Nat.add_right_cancel_iff]
    rw [ih, Bool.and_assoc]
    rfl
theorem weq_mk (h g : Nat) (s r : List M.Step) : weq (.mk h s) (.mk g r) = (decide (h = g) && ((List.zipWith seq s r).all id && decide (s.length = r.length))) := by
  unfold weq dWay
  simp only [PyData.eqv, PyData.eqvAll, Bool.and_true]
  rw [all_steps]
  congr 1
  by_cases e : h = g
  · subst e
    simp
  · rw [decide_eq_false e]
    exact beq_eq_false_iff_ne.mpr (by omega)
end CP
namespace WP
open PySem L2 G
mutual
/-- what stands at a place is one way -/
theorem way_fun {C : Addr} {H : Hp} : ∀ {w u : M.Way} {a : Addr}, WayAt C H w a → WayAt C H u a → w = u
  | .mk h s, .mk g r, a, x, y => by
    unfold WayAt at x y
    obtain ⟨dx, t, xs, a1, a2, a3⟩ := x
    obtain ⟨dy, u, ys, b1, b2, b3⟩ := y
    rw [a1] at b1
    have e := HO.ins.inj (Option.some.inj b1)
    have e1 := flds_head (h : Int) t ((1 + M.Step.deepest s : Nat) : Int) ((s.length + M.Step.inner s : Nat) : Int)
    have e2 := flds_steps (h : Int) t ((1 + M.Step.deepest s : Nat) : Int) ((s.length + M.Step.inner s : Nat) : Int)
    rw [e.2.2, flds_head] at e1
    rw [e.2.2, flds_steps] at e2
    have e1 := V.int.inj (Option.some.inj e1)
    have e2 := V.ref.inj (Option.some.inj e2)
    subst e2
    rw [a2] at b2
    cases b2
    rw [show h = g by omega, steps_fun a3 b3]
theorem steps_fun {C : Addr} {H : Hp} : ∀ {s r : List M.Step} {xs : List V}, StepsAt C H s xs → StepsAt C H r xs → s = r
  | [], [], xs, _, _ => rfl
  | [], y :: r, xs, a, b => by
    unfold StepsAt at a b
    obtain ⟨_, _, e, _⟩ := b
    rw [a] at e
    cases e
  | x :: s, [], xs, a, b => by
    unfold StepsAt at a b
    obtain ⟨_, _, e, _⟩ := a
    rw [b] at e
    cases e
  | x :: s, y :: r, xs, a, b => by
    unfold StepsAt at a b
    obtain ⟨u, us, rfl, a1, a2⟩ := a
    obtain ⟨v, vs, e, b1, b2⟩ := b
    cases e
    rw [step_fun a1 b1, steps_fun a2 b2]
theorem step_fun {C : Addr} {H : Hp} : ∀ {s r : M.Step} {x : V}, StepAt C H s x → StepAt C H r x → s = r
  | .road a b c, .road a' b' c', x, h, k => by
    unfold StepAt at h k
    obtain ⟨t, rfl, h⟩ := h
    obtain ⟨u, e, k⟩ := k
    cases e
    rw [h] at k
    have e := HO.tup.inj (Option.some.inj k)
    simp only [List.cons.injEq, V.int.injEq, V.str.injEq, and_true, true_and] at e
    rw [show a = a' by omega, CP.sd_inj e.2.1, CP.lw_inj e.2.2]
  | .join a, .join b, x, h, k => by
    unfold StepAt at h k
    obtain ⟨t, rfl, h⟩ := h
    obtain ⟨u, e, k⟩ := k
    cases e
    rw [h] at k
    have e := HO.tup.inj (Option.some.inj k)
    simp only [List.cons.injEq, V.int.injEq, and_true, true_and] at e
    rw [show a = b by omega]
  | .tunnel w a b, .tunnel w' a' b', x, h, k => by
    unfold StepAt at h k
    obtain ⟨t, i, rfl, h, h2⟩ := h
    obtain ⟨u, j, e, k, k2⟩ := k
    cases e
    rw [h] at k
    have e := HO.tup.inj (Option.some.inj k)
    simp only [List.cons.injEq, V.int.injEq, V.str.injEq, V.ref.injEq, and_true, true_and] at e
    obtain ⟨e1, e2, e3⟩ := e
    subst e1
    rw [way_fun h2 k2, show a = a' by omega, CP.tw_inj e3]
  | .road a b c, .join d, x, h, k => by
    unfold StepAt at h k
    obtain ⟨t, rfl, h⟩ := h
    obtain ⟨u, e, k⟩ := k
    cases e
    rw [h] at k
    exact absurd (congrArg List.length (HO.tup.inj (Option.some.inj k))) (by simp)
  | .join d, .road a b c, x, h, k => by
    unfold StepAt at h k
    obtain ⟨t, rfl, h⟩ := h
    obtain ⟨u, e, k⟩ := k
    cases e
    rw [h] at k
    exact absurd (congrArg List.length (HO.tup.inj (Option.some.inj k))) (by simp)
  | .tunnel w a b, .join d, x, h, k => by
    unfold StepAt at h k
    obtain ⟨t, i, rfl, h, _⟩ := h
    obtain ⟨u, e, k⟩ := k
    cases e
    rw [h] at k
    exact absurd (congrArg List.length (HO.tup.inj (Option.some.inj k))) (by simp)
  | .join d, .tunnel w a b, x, h, k => by
    unfold StepAt at h k
    obtain ⟨t, rfl, h⟩ := h
    obtain ⟨u, i, e, k, _⟩ := k
    cases e
    rw [h] at k
    exact absurd (congrArg List.length (HO.tup.inj (Option.some.inj k))) (by simp)
  | .road a b c, .tunnel w d e0, x, h, k => by
    unfold StepAt at h k
    obtain ⟨t, rfl, h⟩ := h
    obtain ⟨u, i, e, k, _⟩ := k
    cases e
    rw [h] at k
    have e := HO.tup.inj (Option.some.inj k)
    simp only [List.cons.injEq, V.str.injEq] at e
    exact absurd e.1 (by decide +kernel)
  | .tunnel w d e0, .road a b c, x, h, k => by
    unfold StepAt at h k
    obtain ⟨t, i, rfl, h, _⟩ := h
    obtain ⟨u, e, k⟩ := k
    cases e
    rw [h] at k
    have e := HO.tup.inj (Option.some.inj k)
    simp only [List.cons.injEq, V.str.injEq] at e
    exact absurd e.1 (by decide +kernel)
end
end WP
namespace WP
open PySem L2 G
abbrev sWEq : Stmt := inClass (top 32) 4
theorem scWEq : FnScope ["self", "other"] ["self", "other"] (defScope sWEq) := ⟨rfl, rfl, rfl, by decide +kernel, rfl, by decide +kernel, by decide +kernel⟩
end WP
namespace EB
open PySem PySem.Spec PyProof.Rows L2 WP
def BWy (C : Addr) (n : Nat) : Cmp := fun x y c H => ∃ a b w1 w2, x = .ref a ∧ y = .ref b ∧ WayAt C H w1 a ∧ WayAt C H w2 b ∧ w1.depth ≤ n ∧ c = CP.weq w1 w2
theorem mon_wy {C : Addr} {n : Nat} : MonB (BWy C n) := fun x y c H H' e d => by
  obtain ⟨a, b, w1, w2, hx, hy, h1, h2, hd, hc⟩ := d
  exact ⟨a, b, w1, w2, hx, hy, h1.mono e, h2.mono e, hd, hc⟩
def BIt (C : Addr) (n : Nat) : Cmp := fun x y c H => BFlat x y c H ∨ BSm (BWy C n) x y c H
theorem mon_bit {C : Addr} {n : Nat} : MonB (BIt C n) := mon_or mon_flat (mon_sm mon_wy)
def spWEB (C : Addr) (n : Nat) : Sp := fun vs H Q _ => ∃ (a b : Addr) (w1 w2 : M.Way), vs = [.ref a, .ref b] ∧ WayAt C H w1 a ∧ WayAt C H w2 b ∧ w1.depth ≤ n ∧ ∀ H', Ext H H' → Q (.bl (CP.weq w1 w2)) H'
section
variable {X : Cx} {n m : Nat}
theorem rcB_wy {C f : Addr} {fd : FuncData} (F : FnOk X.prog X.w X.K X.mg X.base CX0 n f fd ["self", "other"] (spWEB C m)) (O : WO.Own X.K C f "__eq__") (hb : Binds X.K fd ["self", "other"] []) : RcB X n (BWy C m) := by
  intro A pins s σ H x y u v c sb I rx ry d
  obtain ⟨a, b, w1, w2, rfl, rfl, h1, h2, hd, hc⟩ := d
  cases rx
  cases ry
  obtain ⟨da, fa, g1, _⟩ := head_fld h1
  obtain ⟨db, fb, g2, _⟩ := head_fld h2
  obtain ⟨_, J, _⟩ := ins_get I.hok g1
  obtain ⟨_, J', _⟩ := ins_get I.hok g2
  obtain ⟨od, J, _⟩ := J.look
  obtain ⟨ow, J', _⟩ := J'.look
  obtain ⟨m0, hF⟩ := I.fr
  refine PySem.W.cmp_K (op := .Eq) (tb := .ref C) sb.room.units0 hF I.ok.mod.kin J J'.type (by simp [PySem.W.notFirst]) O.at' O.fn (WO.run_own F (A := A) (xs := [.ref a, .ref b]) (Z := fun v H1 => v = .bl c ∧ Ext H H1) (E := E0) sb hb pass0 I (.cons rfl (.cons rfl .nil)) ⟨a, b, w1, w2, rfl, h1, h2, hd, fun H' e => ⟨by rw [hc], e⟩⟩ fun z u H1 s1 I1 rz q => ?_)
  obtain ⟨rfl, q⟩ := q
  cases rz
  exact ⟨rfl, H1, I1, q⟩
end
theorem fl_s (a b : Str) (H : Hp) : BFlat (.str a) (.str b) (a == b) H := ⟨rfl, rfl, rfl⟩
theorem fl_i (a b : Int) (H : Hp) : BFlat (.int a) (.int b) (a == b) H := ⟨rfl, rfl, rfl⟩
section
variable {K : PySem.W.Frag} {C : Addr}
/-- the first items differ: nothing more is asked -/
theorem prs_ne {H : Hp} {D : Cmp} {x y : V} {xs ys : List V} (h : D x y false H) : PrB D (x :: xs) (y :: ys) (false :: List.replicate (min xs.length ys.length) true) H := by
  refine ⟨by rw [List.length_cons, List.length_replicate, List.length_cons, List.length_cons]; omega, fun i x' y' c g0 g1 g2 g3 => ?_⟩
  cases i with
  | zero =>
    cases g1
    cases g2
    cases g3
    exact h
  | succ i =>
    have := g0 0 (Nat.succ_pos i)
    cases this
theorem prs_nil {H : Hp} {D : Cmp} : PrB D [] [] [] H := ⟨rfl, fun i x y c _ g1 _ _ => by cases g1⟩
theorem prs_cons {H : Hp} {D : Cmp} {x y : V} {c : Bool} {xs ys : List V} {cs : List Bool} (h : D x y c H) (p : PrB D xs ys cs H) : PrB D (x :: xs) (y :: ys) (c :: cs) H := by
  refine ⟨by rw [List.length_cons, List.length_cons, List.length_cons, p.len]; omega, fun i x' y' c' g0 g1 g2 g3 => ?_⟩
  cases i with
  | zero =>
    cases g1
    cases g2
    cases g3
    exact h
  | succ i => exact p.at' i x' y' c' (fun j hj => g0 (j + 1) (by omega)) g1 g2 g3
theorem sne {a b : Str} (h : a ≠ b) (H : Hp) : BFlat (.str a) (.str b) false H := ⟨rfl, rfl, by
  show (a == b) = false
  exact beq_eq_false_iff_ne.mpr h⟩
theorem bsame (C : Addr) (H : Hp) {w1 w2 : M.Way} {n : Nat} {a b : Addr} (h1 : WayAt C H w1 a) (h2 : WayAt C H w2 b) (hd : w1.depth ≤ n) : BSm (BWy C n) (.ref a) (.ref b) (CP.weq w1 w2) H :=
  ⟨⟨a, b, w1, w2, rfl, rfl, h1, h2, hd, rfl⟩, fun e => by
    cases e
    exact CP.weq_iff.mpr (WP.way_fun h1 h2)⟩
theorem tup_step {n : Nat} {H : Hp} {x y : V} {c : Bool} {t u : Addr} {xs ys : List V} {cs : List Bool} (hx : x = .ref t) (hy : y = .ref u) (h1 : H t = some (.tup xs)) (h2 : H u = some (.tup ys)) (p : PrB (BIt C n) xs ys cs H) (hc : c = (cs.all id && decide (xs.length = ys.length))) : BTup K (BIt C n) x y c H :=
  ⟨t, u, xs, ys, cs, hx, hy, SqT.of h1, SqT.of h2, p, hc⟩
theorem step_b {H : Hp} {n : Nat} : ∀ {s r : M.Step} {x y : V}, M.Step.dep s ≤ n → StepAt C H s x → StepAt C H r y → BTup K (BIt C n) x y (CP.seq s r) H
  | .road a b c, .road a' b' c', x, y, d, h, k => by
    unfold StepAt at h k
    obtain ⟨t, e, h⟩ := h
    obtain ⟨u, f, k⟩ := k
    refine tup_step e f h k (prs_cons (.inl (fl_s _ _ H)) (prs_cons (.inl (fl_i _ _ H)) (prs_cons (.inl (fl_s _ _ H)) (prs_cons (.inl (fl_s _ _ H)) prs_nil)))) ?_
    unfold CP.seq CP.dStep
    simp only [PyData.eqv, PyData.eqvAll, List.all_cons, List.all_nil, id, List.length_cons, List.length_nil, decide_true, Bool.and_true]
  | .join a, .join b, x, y, d, h, k => by
    unfold StepAt at h k
    obtain ⟨t, e, h⟩ := h
    obtain ⟨u, f, k⟩ := k
    refine tup_step e f h k (prs_cons (.inl (fl_s _ _ H)) (prs_cons (.inl (fl_i _ _ H)) prs_nil)) ?_
    unfold CP.seq CP.dStep
    simp only [PyData.eqv, PyData.eqvAll, List.all_cons, List.all_nil, id, List.length_cons, List.length_nil, decide_true, Bool.and_true]
  | .tunnel w a b, .tunnel w' a' b', x, y, d, h, k => by
    unfold StepAt at h k
    obtain ⟨t, i, e, h, h2⟩ := h
    obtain ⟨u, j, f, k, k2⟩ := k
    refine tup_step e f h k (prs_cons (.inl (fl_s _ _ H)) (prs_cons (.inr (bsame C H h2 k2 d)) (prs_cons (.inl (fl_i _ _ H)) (prs_cons (.inl (fl_s _ _ H)) prs_nil)))) ?_
    unfold CP.seq CP.dStep CP.weq
    simp only [PyData.eqv, PyData.eqvAll, List.all_cons, List.all_nil, id, List.length_cons, List.length_nil, decide_true, Bool.and_true]
  | .road a b c, .join d0, x, y, d, h, k => by
    unfold StepAt at h k
    obtain ⟨t, e, h⟩ := h
    obtain ⟨u, f, k⟩ := k
    refine tup_step e f h k (prs_ne (.inl (sne CP.kinds_ne.1 H))) ?_
    exact Bool.eq_false_iff.mpr fun q => by cases CP.seq_iff.mp q
  | .join d0, .road a b c, x, y, d, h, k => by
    unfold StepAt at h k
    obtain ⟨t, e, h⟩ := h
    obtain ⟨u, f, k⟩ := k
    refine tup_step e f h k (prs_ne (.inl (sne CP.kinds_ne.2.2.1 H))) ?_
    exact Bool.eq_false_iff.mpr fun q => by cases CP.seq_iff.mp q
  | .tunnel w a b, .join d0, x, y, d, h, k => by
    unfold StepAt at h k
    obtain ⟨t, i, e, h, _⟩ := h
    obtain ⟨u, f, k⟩ := k
    refine tup_step e f h k (prs_ne (.inl (sne CP.kinds_ne.2.2.2.2.2 H))) ?_
    exact Bool.eq_false_iff.mpr fun q => by cases CP.seq_iff.mp q
  | .join d0, .tunnel w a b, x, y, d, h, k => by
    unfold StepAt at h k
    obtain ⟨t, e, h⟩ := h
    obtain ⟨u, i, f, k, _⟩ := k
    refine tup_step e f h k (prs_ne (.inl (sne CP.kinds_ne.2.2.2.1 H))) ?_
    exact Bool.eq_false_iff.mpr fun q => by cases CP.seq_iff.mp q
  | .road a b c, .tunnel w d0 e0, x, y, d, h, k => by
    unfold StepAt at h k
    obtain ⟨t, e, h⟩ := h
    obtain ⟨u, i, f, k, _⟩ := k
    refine tup_step e f h k (prs_ne (.inl (sne CP.kinds_ne.2.1 H))) ?_
    exact Bool.eq_false_iff.mpr fun q => by cases CP.seq_iff.mp q
  | .tunnel w d0 e0, .road a b c, x, y, d, h, k => by
    unfold StepAt at h k
    obtain ⟨t, i, e, h, _⟩ := h
    obtain ⟨u, f, k⟩ := k
    refine tup_step e f h k (prs_ne (.inl (sne CP.kinds_ne.2.2.2.2.1 H))) ?_
    exact Bool.eq_false_iff.mpr fun q => by cases CP.seq_iff.mp q
theorem step_sb {H : Hp} {n : Nat} {s r : M.Step} {x y : V} (d : M.Step.dep s ≤ n) (h : StepAt C H s x) (k : StepAt C H r y) : BSm (BTup K (BIt C n)) x y (CP.seq s r) H :=
  ⟨step_b d h k, fun e => by
    subst e
    exact CP.seq_iff.mpr (WP.step_fun h k)⟩
theorem steps_b {H : Hp} {n : Nat} : ∀ {s r : List M.Step} {xs ys : List V}, M.Step.deepest s ≤ n → StepsAt C H s xs → StepsAt C H r ys → PrB (BSm (BTup K (BIt C n))) xs ys (List.zipWith CP.seq s r) H
  | [], [], xs, ys, d, h1, h2 => by
    unfold StepsAt at h1 h2
    subst h1 h2
    exact prs_nil
  | [], _ :: _, xs, ys, d, h1, h2 => by
    unfold StepsAt at h1
    subst h1
    exact ⟨by simp, fun i x y c _ g1 _ _ => by cases g1⟩
  | _ :: _, [], xs, ys, d, h1, h2 => by
    unfold StepsAt at h2
    subst h2
    exact ⟨by simp, fun i x y c _ _ g2 _ => by cases g2⟩
  | s :: s', r :: r', xs, ys, d, h1, h2 => by
    rw [M.deep_cons] at d
    unfold StepsAt at h1 h2
    obtain ⟨x, xs, rfl, a1, a2⟩ := h1
    obtain ⟨y, ys, rfl, b1, b2⟩ := h2
    rw [List.zipWith_cons_cons]
    exact prs_cons (step_sb (by omega) a1 b1) (steps_b (by omega) a2 b2)
end
section
variable {P : Program} {w : World} {K : PySem.W.Frag} {mg : Str → Option Value} {base : Heap} {C : Addr}
theorem ok_weqB {k n : Nat} {f : Addr} {fd : FuncData} (F : Fun K "__eq__" "Way.__eq__" sWEq f fd) (B : Bn mg) (T : Wt K mg C) (G0 : FnOk P w K mg base CX0 k f fd ["self", "other"] (spWEB C n)) (O : WO.Own K C f "__eq__") (b : Binds K fd ["self", "other"] []) : FnOk P w K mg base CX0 (k + 3) f fd ["self", "other"] (spWEB C (n + 1)) := by
  refine F.ok scWEq (fun vs H Q E h => ?_) (fun cdv A outer s H vs Q E hr h => ?_)
  · obtain ⟨a, b, w1, w2, rfl, _⟩ := h
    rfl
  · obtain ⟨x, y, w1, w2, rfl, ha, hb, hd, kk⟩ := h
    refine ⟨_, pss_one (ps_ret (pe_and (pe_callB call_isi (by rfl) B.isi (by decide +kernel) (pa_cons (pv 1) (pa_cons (pe_glob (v := .ref C) rfl T.g rfl) pa_nil)))
      (pe_and (pe_cmpR op_eq (pe_fld (pv 0) rfl) (pe_fld (pv 1) rfl) (nomark _))
      (pe_one (pe_cmpR (op_eqB (rcB_tup (mon_sm (mon_tup mon_bit)) (eqB_tup mon_bit ((eqB_flat.mono (Nat.zero_le k)).or ((rcB_wy G0 O b).eqB fun _ _ _ _ d => let ⟨a, b, _, _, hx, hy, _⟩ := d; ⟨a, b, hx, hy⟩)))) hr) (pe_fld (pv 0) rfl) (pe_fld (pv 1) rfl) (nomark _)))))), ?_⟩
    obtain ⟨da, fa, a1, a2⟩ := head_fld ha
    obtain ⟨db, fb, b1, b2⟩ := head_fld hb
    obtain ⟨dc, fc, t1, xs, c1, c2, c3, c4⟩ := steps_fld ha
    obtain ⟨de, fe, t2, ys, e1, e2, e3, e4⟩ := steps_fld hb
    refine ⟨_, rfl, _, _, _, _, true, rfl, .own C, .base (.ins b1 T.cl T.iA T.iN T.iT T.iM), ?_, _, rfl, iteT ?_⟩
    · unfold PySem.W.kitOne
      rw [if_pos (by simp)]
    refine ⟨_, rfl, x, C, da, fa, _, rfl, a1, T.cl, T.nH, a2, _, rfl, y, C, db, fb, _, rfl, b1, T.cl, T.nH, b2, rfl, _, rfl, ?_⟩
    obtain ⟨g1, s1⟩ := w1
    obtain ⟨g2, s2⟩ := w2
    have hl := c4.len
    have hm := e4.len
    change xs.length = s1.length at hl
    change ys.length = s2.length at hm
    change StepsAt C H s1 xs at c4
    change StepsAt C H s2 ys at e4
    show (if _ then _ else _)
    by_cases eh : g1 = g2
    · rw [decide_eq_true (show V.int (((M.Way.mk g1 s1).head : Nat) : Int) = V.int (((M.Way.mk g2 s2).head : Nat) : Int) from congrArg (fun n : Nat => V.int (n : Int)) eh)]
      refine iteT ⟨_, rfl, x, C, dc, fc, _, rfl, c1, T.cl, T.nS, c2, _, rfl, y, C, de, fe, _, rfl, e1, T.cl, T.nS, e2, ?_⟩
      unfold M.Way.depth at hd
      refine ⟨_, ⟨t1, t2, xs, ys, _, rfl, rfl, SqT.of c3, SqT.of e3, steps_b (by omega) c4 e4, rfl⟩, fun H' x => ?_⟩
      have := kk H' x
      rw [CP.weq_mk, decide_eq_true eh, Bool.true_and] at this
      rw [hl, hm]
      exact this
    · rw [decide_eq_false (show ¬ V.int (((M.Way.mk g1 s1).head : Nat) : Int) = V.int (((M.Way.mk g2 s2).head : Nat) : Int) from fun q => eh (Int.ofNat.inj (V.int.inj q)))]
      refine iteF ?_
      have := kk H Ext.rfl'
      rw [CP.weq_mk, decide_eq_false eh, Bool.false_and] at this
      exact this
theorem df_weqB {f : Addr} {fd : FuncData} (F : Fun K "__eq__" "Way.__eq__" sWEq f fd) (B : Bn mg) (T : Wt K mg C) (O : WO.Own K C f "__eq__") (b : Binds K fd ["self", "other"] []) : ∀ n, FnOk P w K mg base CX0 (1 + 3 * n) f fd ["self", "other"] (spWEB C n)
  | 0 => F.ok scWEq (fun vs H Q E h => by
      obtain ⟨a, b, w1, w2, rfl, _⟩ := h
      rfl) (fun cdv A outer s H vs Q E hr h => by
      exfalso
      obtain ⟨a, b, w1, w2, _, _, _, hd, _⟩ := h
      have := M.depth_pos w1
      omega)
  | n + 1 => ok_weqB F B T (df_weqB F B T O b n) O b
end
end EB

end
section
set_option autoImplicit false
set_option Elab.async false
set_option linter.all false
set_option maxRecDepth 100000
set_option maxHeartbeats 4000000
/-! ## the law's draws of ways -/
namespace WP
open PySem L2 G
abbrev sLMost : Stmt := top 74
/-- all but the source at p stays -/
def Bt (p : Addr) (H H' : Hp) : Prop := (∀ a o, a ≠ p → H a = some o → H' a = some o) ∧ S.At H' p
theorem Bt.trans {p : Addr} {H H1 H2 : Hp} (a : Bt p H H1) (b : Bt p H1 H2) : Bt p H H2 := ⟨fun x o n e => b.1 x o n (a.1 x o n e), b.2⟩
theorem Bt.same {p : Addr} {H H' : Hp} (s : Same H H') (h : S.At H p) : Bt p H H' := by
  obtain ⟨r, m, e, f⟩ := h
  exact ⟨fun a o _ e2 => s _ _ e2, r, m, s _ _ e, f⟩
theorem Bt.put {p : Addr} {H : Hp} {r m : Int} (f : S.Fine r m) : Bt p H (upd H p (.lst (S.Two r m))) := ⟨fun a o n e => by rw [upd_ne n]; exact e, r, m, upd_same, f⟩
section
variable {P : Program} {w : World} {K : PySem.W.Frag} {mg : Str → Option Value} {base : Heap} {C : Addr}
def spLMost : Sp := fun vs H Q _ => ∃ p, vs = [.ref p] ∧ S.At H p ∧ ∀ (m : Nat) H', 1 ≤ m → m ≤ 1000000000000 → Bt p H H' → Q (.int (m : Int)) H'
theorem scLM : FnScope ["source"] ["source"] (defScope sLMost) := ⟨rfl, rfl, rfl, by decide +kernel, rfl, by decide +kernel, by decide +kernel⟩
theorem ok_lmost {f : Addr} {fd : FuncData} (F : Fun K "_law_most" "_law_most" sLMost f fd) (D : Df P w K mg base 1 "_law_draw" ["source", "span"] S.spDraw) (PK : Df P w K mg base 2 "_law_pick" ["source", "items"] (S.spPick K)) : FnOk P w K mg base CX0 3 f fd ["source"] spLMost := by
  obtain ⟨fD, fdD, GD, gD, kD, bD⟩ := D.ex
  obtain ⟨fP, fdP, GP, gP, kP, bP⟩ := PK.ex
  refine F.ok scLM (fun vs H Q E h => ?_) (fun cdv A outer s H vs Q E hr h => ?_)
  · obtain ⟨p, rfl, _⟩ := h
    rfl
  · obtain ⟨p, rfl, ⟨r, m, hp, hf⟩, kk⟩ := h
    refine ⟨_, pss_one (ps_ret (pe_call GP hr rfl gP kP bP .nil pass0 (pa_cons (pv 0) (pa_cons (pe_lst (pa_cons pe_int (pa_cons pe_int (pa_cons pe_int (pa_cons pe_int (pa_cons pe_int (pa_cons pe_int (pa_cons (pe_op op_powN pe_int pe_int) (pa_cons (pe_op op_add pe_int (pe_call GD (hr.mono (by decide)) rfl gD kD bD .nil pass0 (pa_cons (pv 0) (pa_cons pe_int pa_nil)))) pa_nil))))))))) pa_nil)))), ?_⟩
    refine ⟨_, rfl, 10, 12, rfl, rfl, ⟨by decide, by decide +kernel⟩, _, rfl, p, r, m, 30, rfl, hp, hf, by decide, by decide +kernel, fun j r1 m1 hf1 j0 j1 => ⟨_, _, rfl, rfl, (by show 8 ≤ sizeLine; decide), fun l hl => ?_⟩⟩
    have lp : l ≠ p := fun z => by
      rw [z, upd_same] at hl
      cases hl
    refine ⟨p, l, r1, m1, _, rfl, by rw [upd_ne lp.symm]; exact upd_same, hf1, lp, SqL.of upd_same, (by show 1 ≤ 8; decide), (by show 8 ≤ 1000; decide), fun i x r2 m2 hf2 hx => ?_⟩
    have bt : Bt p H (upd (upd (upd H p (.lst (S.Two r1 m1))) l (.lst [V.int 1, V.int 2, V.int 3, V.int 4, V.int 5, V.int 8, V.int (10 ^ (12 : Int).toNat), V.int (1 + j)])) p (.lst (S.Two r2 m2))) := (Bt.put hf1).trans ((Bt.same (Same.of_upd hl) ⟨r1, m1, upd_same, hf1⟩).trans (Bt.put hf2))
    have hi : i < 8 := (List.getElem?_eq_some_iff.mp hx).1
    have fin : ∀ n : Nat, x = .int (n : Int) → 1 ≤ n → n ≤ 1000000000000 → Q x _ := fun n e a b => by
      subst e
      exact kk n _ a b bt
    match i, hi, hx with
    | 0, _, hx => exact fin 1 (by cases hx; rfl) (by decide) (by decide)
    | 1, _, hx => exact fin 2 (by cases hx; rfl) (by decide) (by decide)
    | 2, _, hx => exact fin 3 (by cases hx; rfl) (by decide) (by decide)
    | 3, _, hx => exact fin 4 (by cases hx; rfl) (by decide) (by decide)
    | 4, _, hx => exact fin 5 (by cases hx; rfl) (by decide) (by decide)
    | 5, _, hx => exact fin 8 (by cases hx; rfl) (by decide) (by decide)
    | 6, _, hx => exact fin 1000000000000 (by cases hx; rfl) (by decide) (by decide)
    | 7, _, hx => exact fin (1 + j).toNat (by cases hx; exact congrArg V.int (by omega)) (by omega) (by omega)
    | i + 8, h, _ => exact absurd h (by omega)
end
end WP

end
section
set_option autoImplicit false
set_option Elab.async false
set_option linter.all false
set_option maxRecDepth 100000
set_option maxHeartbeats 4000000
namespace WP
open PySem L2 G
abbrev sLRoad : Stmt := top 75
section
variable {P : Program} {w : World} {K : PySem.W.Frag} {mg : Str → Option Value} {base : Heap} {C : Addr}
/-- 1 + a draw below n, as an item of a list -/
theorem draw_of {σ : St} {H : Hp} {Q : VK} {p : Addr} {E : XK} {i : Nat} {c n : Int} (hσ : σ[i]? = some (some (.ref p))) (h : S.At H p) (n1 : 1 ≤ n) (n2 : n.natAbs.log2 < 9000) (k : ∀ j H', 0 ≤ j → j < n → Bt p H H' → Q (.int (c + j)) H') :
    tOp (rI0 fun i j => .int (i + j)) (tC (.int c)) (tCall S.spDraw [] E (tCons (tVar i) (tCons (tC (.int n)) tNil))) σ H Q := by
  obtain ⟨r, m, hp, hf⟩ := h
  exact ⟨_, hσ, p, r, m, n, rfl, hp, hf, n1, n2, fun j r1 m1 f1 j0 j1 => ⟨_, _, rfl, rfl, k j _ j0 j1 (Bt.put f1)⟩⟩
/-- a pick from a list just made -/
theorem pick_at {H : Hp} {Q : VK} {p l : Addr} {E : XK} {xs : List V} (h : S.At H p) (hl : H l = none) (h1 : 1 ≤ xs.length) (h2 : xs.length ≤ 1000) (k : ∀ x H', x ∈ xs → Bt p H H' → Q x H') : S.spPick K [.ref p, .ref l] (upd H l (.lst xs)) Q E := by
  obtain ⟨r, m, hp, hf⟩ := h
  have lp : l ≠ p := fun z => by
    rw [z, hp] at hl
    cases hl
  exact ⟨p, l, r, m, xs, rfl, by rw [upd_ne lp.symm]; exact hp, hf, lp, SqL.of upd_same, h1, h2, fun j x r2 m2 f2 hx => k x _ (List.mem_of_getElem? hx) ((Bt.same (Same.of_upd hl) ⟨r, m, hp, hf⟩).trans (Bt.put f2))⟩
theorem pick_of {σ : St} {H : Hp} {Q : VK} {p : Addr} {E : XK} {i : Nat} {xs : List V} {ta : TA} (hσ : σ[i]? = some (some (.ref p))) (h : S.At H p) (h1 : 1 ≤ xs.length) (h2 : xs.length ≤ 1000) (ha : ∀ Q2 : List V → Hp → Prop, Q2 xs H → ta σ H Q2) (k : ∀ x H', x ∈ xs → Bt p H H' → Q x H') :
    tCall (S.spPick K) [] E (tCons (tVar i) (tCons (tLst ta) tNil)) σ H Q := ⟨_, hσ, ha _ ⟨Nat.le_trans h2 (by decide), fun l hl => pick_at (E := E) h hl h1 h2 k⟩⟩
theorem sd_of {x : V} (h : x ∈ [V.str "tell", V.str "drop"]) : ∃ ts, x = .str (sdS ts) := by
  rcases List.mem_cons.mp h with e | h
  · exact ⟨true, e⟩
  · have e : x = V.str "drop" := by simpa using h
    exact ⟨false, e⟩
theorem lw_of {x : V} (h : x ∈ [V.str "cut", V.str "cut", V.str "cut", V.str "tell", V.str "drop"]) : ∃ lw, x = .str (lwS lw) := by
  rcases List.mem_cons.mp h with e | h
  · exact ⟨.cut, e⟩
  rcases List.mem_cons.mp h with e | h
  · exact ⟨.cut, e⟩
  rcases List.mem_cons.mp h with e | h
  · exact ⟨.cut, e⟩
  rcases List.mem_cons.mp h with e | h
  · exact ⟨.tell, e⟩
  · have e : x = V.str "drop" := by simpa using h
    exact ⟨.drop, e⟩
def spLRoad : Sp := fun vs H Q _ => ∃ (p : Addr) (h : Nat), vs = [.ref p, .int (h : Int)] ∧ S.At H p ∧ ∀ t H' (c : Nat) (ts : Bool) (lw : M.LW), 1 ≤ c → c ≤ 70 → Bt p H H' → H' t = some (.tup [.str "road", .int ((h + c : Nat) : Int), .str (sdS ts), .str (lwS lw)]) → Q (.ref t) H'
theorem scLR : FnScope ["source", "head", "cut", "words"] ["source", "head"] (defScope sLRoad) := ⟨rfl, rfl, rfl, by decide +kernel, rfl, by decide +kernel, by decide +kernel⟩
theorem ok_lroad {f : Addr} {fd : FuncData} (F : Fun K "_law_road" "_law_road" sLRoad f fd) (D : Df P w K mg base 1 "_law_draw" ["source", "span"] S.spDraw) (PK : Df P w K mg base 2 "_law_pick" ["source", "items"] (S.spPick K)) : FnOk P w K mg base CX0 3 f fd ["source", "head"] spLRoad := by
  obtain ⟨fD, fdD, GD, gD, kD, bD⟩ := D.ex
  obtain ⟨fP, fdP, GP, gP, kP, bP⟩ := PK.ex
  refine F.ok scLR (fun vs H Q E h => ?_) (fun cdv A outer s H vs Q E hr h => ?_)
  · obtain ⟨p, h, rfl, _⟩ := h
    rfl
  · obtain ⟨p, h, rfl, hp, kk⟩ := h
    have r1 := hr.mono (by decide : 1 ≤ 2)
    refine ⟨_, pss_cons (ps_set (i := 2) scLR.nd rfl (Or.inl rfl) (pe_call GP hr rfl gP kP bP .nil pass0 (pa_cons (pv 0) (pa_cons (pe_lst (pa_cons (pe_op op_add pe_int (pe_call GD r1 rfl gD kD bD .nil pass0 (pa_cons (pv 0) (pa_cons pe_int pa_nil)))) (pa_cons (pe_op op_add pe_int (pe_call GD r1 rfl gD kD bD .nil pass0 (pa_cons (pv 0) (pa_cons pe_int pa_nil)))) (pa_cons (pe_op op_add pe_int (pe_call GD r1 rfl gD kD bD .nil pass0 (pa_cons (pv 0) (pa_cons pe_int pa_nil)))) pa_nil)))) pa_nil))))
      (pss_cons (ps_set (i := 3) scLR.nd rfl (Or.inl rfl) (pe_tup (pa_cons (pe_call GP hr rfl gP kP bP .nil pass0 (pa_cons (pv 0) (pa_cons (pe_lst (pa_cons pe_str (pa_cons pe_str pa_nil))) pa_nil))) (pa_cons (pe_call GP hr rfl gP kP bP .nil pass0 (pa_cons (pv 0) (pa_cons (pe_lst (pa_cons pe_str (pa_cons pe_str (pa_cons pe_str (pa_cons pe_str (pa_cons pe_str pa_nil)))))) pa_nil))) pa_nil))))
      (pss_one (ps_ret (pe_op op_catT (pe_tup (pa_cons pe_str (pa_cons (pe_op op_add (pv 1) (pv 2)) pa_nil))) (pv 3))))), ?_⟩
    refine ⟨_, rfl, draw_of rfl hp (by decide) (by decide +kernel) fun j1 H1 a0 a1 b1 => draw_of rfl b1.2 (by decide) (by decide +kernel) fun j2 H2 c0 c1 b2 => draw_of rfl b2.2 (by decide) (by decide +kernel) fun j3 H3 d0 d1 b3 => ⟨line2.2.1, fun l hl => pick_at (E := E) b3.2 hl (by show 1 ≤ 3; decide) (by show 3 ≤ 1000; decide) fun x H4 hx b4 => ?_⟩⟩
    obtain ⟨c, rfl, n1, n2⟩ : ∃ c : Nat, x = .int (c : Int) ∧ 1 ≤ c ∧ c ≤ 70 := by
      rcases List.mem_cons.mp hx with e | hx
      · exact ⟨(1 + j1).toNat, e.trans (congrArg V.int (by omega)), by omega, by omega⟩
      rcases List.mem_cons.mp hx with e | hx
      · exact ⟨(3 + j2).toNat, e.trans (congrArg V.int (by omega)), by omega, by omega⟩
      · have e : x = .int (10 + j3) := by simpa using hx
        exact ⟨(10 + j3).toNat, e.trans (congrArg V.int (by omega)), by omega, by omega⟩
    refine pick_of rfl b4.2 (by decide) (by decide) (fun Q2 q => q) fun y H5 hy b5 => pick_of rfl b5.2 (by decide) (by decide) (fun Q2 q => q) fun z H6 hz b6 => ⟨line2.1, fun u hu => ?_⟩
    obtain ⟨ts, rfl⟩ := sd_of hy
    obtain ⟨lw, rfl⟩ := lw_of hz
    refine ⟨_, rfl, _, rfl, _, _, rfl, rfl, line2.1, fun v hv => ⟨_, rfl, catT_of upd_same (Same.of_upd hv _ _ upd_same) (by simp) (by show 4 ≤ sizeLine; decide) fun t G sG hG => ?_⟩⟩
    have bt := b1.trans (b2.trans (b3.trans (b4.trans (b5.trans (b6.trans (Bt.same ((Same.of_upd hu).trans ((Same.of_upd hv).trans sG)) b6.2))))))
    refine kk t G c ts lw n1 n2 bt ?_
    rw [hG, Int.natCast_add]
    rfl
end
end WP

end
section
set_option autoImplicit false
set_option Elab.async false
set_option linter.all false
set_option maxRecDepth 100000
set_option maxHeartbeats 4000000
/-! ## rows of ways, as the law draws them -/
namespace WP
open PySem L2 G
abbrev sLInner : Stmt := top 76
mutual
/-- rows of a way: a head, a list of its steps; ways in tunnels are rows, too -/
def RowsAt (H : Hp) : M.Way → V → Prop
  | .mk h s, v => ∃ t L xs, v = .ref t ∧ H t = some (.tup [.int (h : Int), .ref L]) ∧ H L = some (.lst xs) ∧ RowAll H s xs
def RowAll (H : Hp) : List M.Step → List V → Prop
  | [], xs => xs = []
  | s :: r, xs => ∃ x ys, xs = x :: ys ∧ RowAt H s x ∧ RowAll H r ys
def RowAt (H : Hp) : M.Step → V → Prop
  | .road size ts lw, x => ∃ t, x = .ref t ∧ H t = some (.tup [.str "road", .int (size : Int), .str (sdS ts), .str (lwS lw)])
  | .join most, x => ∃ t, x = .ref t ∧ H t = some (.tup [.str "join", .int (most : Int)])
  | .tunnel w most tw, x => ∃ t v, x = .ref t ∧ H t = some (.tup [.str "tunnel", v, .int (most : Int), .str (twS tw)]) ∧ RowsAt H w v
end
theorem RowAt.ref {H : Hp} : ∀ {s : M.Step} {x : V}, RowAt H s x → ∃ t, x = .ref t
  | .road _ _ _, x, h => by unfold RowAt at h; obtain ⟨t, e, _⟩ := h; exact ⟨t, e⟩
  | .join _, x, h => by unfold RowAt at h; obtain ⟨t, e, _⟩ := h; exact ⟨t, e⟩
  | .tunnel _ _ _, x, h => by unfold RowAt at h; obtain ⟨t, v, e, _⟩ := h; exact ⟨t, e⟩
theorem RowAll.not_two {H : Hp} {s : List M.Step} {xs : List V} {r m : Int} (h : RowAll H s xs) : xs ≠ S.Two r m := fun e => by
  subst e
  cases s with
  | nil => unfold RowAll at h; cases h
  | cons a l =>
    unfold RowAll at h
    obtain ⟨x, ys, e, h1, _⟩ := h
    obtain ⟨t, rfl⟩ := h1.ref
    unfold S.Two at e
    injection e with e1 _
    cases e1
theorem bt_tup {p t : Addr} {H H' : Hp} {xs : List V} (b : Bt p H H') (hp : S.At H p) (h : H t = some (.tup xs)) : H' t = some (.tup xs) := by
  refine b.1 t _ (fun e => ?_) h
  obtain ⟨r, m, e2, _⟩ := hp
  rw [e, e2] at h
  cases h
theorem bt_rows {p L : Addr} {H H' : Hp} {s : List M.Step} {xs : List V} (b : Bt p H H') (hp : S.At H p) (h : H L = some (.lst xs)) (hr : RowAll H s xs) : H' L = some (.lst xs) := by
  refine b.1 L _ (fun e => ?_) h
  obtain ⟨r, m, e2, _⟩ := hp
  rw [e, e2] at h
  injection h with h
  injection h with h
  exact hr.not_two h.symm
mutual
theorem RowsAt.bt {p : Addr} {H H' : Hp} (b : Bt p H H') (hp : S.At H p) : ∀ {w : M.Way} {v : V}, RowsAt H w v → RowsAt H' w v
  | .mk h s, v, x => by
    unfold RowsAt at x ⊢
    obtain ⟨t, L, xs, e, h1, h2, h3⟩ := x
    exact ⟨t, L, xs, e, bt_tup b hp h1, bt_rows b hp h2 h3, RowAll.bt b hp h3⟩
theorem RowAll.bt {p : Addr} {H H' : Hp} (b : Bt p H H') (hp : S.At H p) : ∀ {s : List M.Step} {xs : List V}, RowAll H s xs → RowAll H' s xs
  | [], xs, x => by
    unfold RowAll at x ⊢
    exact x
  | y :: r, xs, x => by
    unfold RowAll at x ⊢
    obtain ⟨u, ys, e, h1, h2⟩ := x
    exact ⟨u, ys, e, RowAt.bt b hp h1, RowAll.bt b hp h2⟩
theorem RowAt.bt {p : Addr} {H H' : Hp} (b : Bt p H H') (hp : S.At H p) : ∀ {s : M.Step} {x : V}, RowAt H s x → RowAt H' s x
  | .road size ts lw, v, x => by
    unfold RowAt at x ⊢
    obtain ⟨t, e, h⟩ := x
    exact ⟨t, e, bt_tup b hp h⟩
  | .join most, v, x => by
    unfold RowAt at x ⊢
    obtain ⟨t, e, h⟩ := x
    exact ⟨t, e, bt_tup b hp h⟩
  | .tunnel w most tw, v, x => by
    unfold RowAt at x ⊢
    obtain ⟨t, u, e, h, h2⟩ := x
    exact ⟨t, u, e, bt_tup b hp h, RowsAt.bt b hp h2⟩
end
theorem RowAll.snoc {H : Hp} : ∀ {s : List M.Step} {xs : List V} {y : M.Step} {x : V}, RowAll H s xs → RowAt H y x → RowAll H (s ++ [y]) (xs ++ [x])
  | [], xs, y, x, a, b => by
    unfold RowAll at a
    subst a
    show RowAll H [y] [x]
    unfold RowAll
    exact ⟨x, [], rfl, b, by unfold RowAll; rfl⟩
  | z :: s, xs, y, x, a, b => by
    unfold RowAll at a
    obtain ⟨u, us, rfl, h1, h2⟩ := a
    show RowAll H (z :: (s ++ [y])) (u :: (us ++ [x]))
    unfold RowAll
    exact ⟨u, us ++ [x], rfl, h1, h2.snoc b⟩
theorem RowAll.len {H : Hp} : ∀ {s : List M.Step} {xs : List V}, RowAll H s xs → xs.length = s.length
  | [], xs, h => by
    unfold RowAll at h
    subst h
    rfl
  | y :: r, xs, h => by
    unfold RowAll at h
    obtain ⟨u, ys, rfl, _, h2⟩ := h
    exact congrArg Nat.succ h2.len
theorem RowAll.get {H : Hp} : ∀ {s : List M.Step} {xs : List V} {i : Nat} {x : V}, RowAll H s xs → xs[i]? = some x → ∃ y, s[i]? = some y ∧ RowAt H y x
  | [], xs, i, x, h, e => by
    unfold RowAll at h
    subst h
    cases e
  | y :: r, xs, 0, x, h, e => by
    unfold RowAll at h
    obtain ⟨u, ys, rfl, h1, _⟩ := h
    cases e
    exact ⟨y, rfl, h1⟩
  | y :: r, xs, i + 1, x, h, e => by
    unfold RowAll at h
    obtain ⟨u, ys, rfl, _, h2⟩ := h
    obtain ⟨s, a, b⟩ := RowAll.get (i := i) h2 e
    exact ⟨s, a, b⟩
/-- roads alone -/
def Roads (h : Nat) (s : List M.Step) : Prop := ∀ y ∈ s, ∃ size ts lw, y = .road size ts lw ∧ h < size ∧ size ≤ 1000
theorem RowAll.roads {H H' : Hp} {h : Nat} (k : ∀ a ys, H a = some (.tup ys) → H' a = some (.tup ys)) : ∀ {s : List M.Step} {xs : List V}, Roads h s → RowAll H s xs → RowAll H' s xs
  | [], xs, _, x => by
    unfold RowAll at x ⊢
    exact x
  | y :: r, xs, q, x => by
    unfold RowAll at x ⊢
    obtain ⟨u, ys, e, h1, h2⟩ := x
    refine ⟨u, ys, e, ?_, RowAll.roads k (fun z hz => q z (List.mem_cons_of_mem _ hz)) h2⟩
    obtain ⟨size, ts, lw, rfl, _⟩ := q y List.mem_cons_self
    unfold RowAt at h1 ⊢
    obtain ⟨t, e, h3⟩ := h1
    exact ⟨t, e, k _ _ h3⟩
theorem add_tup {G : Hp} {L : Addr} {xs zs : List V} (hL : G L = some (.lst xs)) : ∀ a ys, G a = some (.tup ys) → (upd G L (.lst zs)) a = some (.tup ys) := fun a ys h => by
  rw [upd_ne (fun e => by rw [e, hL] at h; cases h)]
  exact h
/-- the heap with a new object: what is known of it -/
theorem Bt.new {p u : Addr} {H : Hp} (o : HO) (h : S.At H p) (hu : H u = none) : Bt p H (upd H u o) := Bt.same (Same.of_upd hu) h
theorem draw_at {H : Hp} {Q : VK} {E : XK} {p : Addr} {n : Int} (h : S.At H p) (n1 : 1 ≤ n) (n2 : n.natAbs.log2 < 9000) (k : ∀ j H', 0 ≤ j → j < n → Bt p H H' → Q (.int j) H') : S.spDraw [.ref p, .int n] H Q E := by
  obtain ⟨r, m, hp, hf⟩ := h
  exact ⟨p, r, m, n, rfl, hp, hf, n1, n2, fun j r1 m1 f1 j0 j1 => k j _ j0 j1 (Bt.put f1)⟩
/-- a draw as it stands in an expression -/
theorem draw_vv {σ : St} {H : Hp} {Q : VK} {E : XK} {p : Addr} {i : Nat} {n : Int} (hσ : σ[i]? = some (some (.ref p))) (h : S.At H p) (n1 : 1 ≤ n) (n2 : n.natAbs.log2 < 9000) (k : ∀ j H', 0 ≤ j → j < n → Bt p H H' → Q (.int j) H') : tCall S.spDraw [] E (tCons (tVar i) (tCons (tC (.int n)) tNil)) σ H Q := ⟨_, hσ, draw_at (E := E) h n1 n2 k⟩
/-- all but the list at L stays -/
def Kp (L : Addr) (H H' : Hp) : Prop := ∀ a o, a ≠ L → H a = some o → H' a = some o
theorem Kp.put {L : Addr} {H : Hp} {o : HO} : Kp L H (upd H L o) := fun a u ne e => by rw [upd_ne ne]; exact e
theorem Kp.tup {L : Addr} {H H' : Hp} {xs : List V} (k : Kp L H H') (hL : H L = some (.lst xs)) : ∀ a ys, H a = some (.tup ys) → H' a = some (.tup ys) := fun a ys h => k a _ (fun e => by rw [e, hL] at h; cases h) h
theorem Kp.at {p L : Addr} {H H' : Hp} (k : Kp L H H') (ne : L ≠ p) (h : S.At H p) : S.At H' p := by
  obtain ⟨r, m, e, f⟩ := h
  exact ⟨r, m, k p _ ne.symm e, f⟩
theorem Kp.bt {p L : Addr} {H0 H H' : Hp} (k : Kp L H H') (ne : L ≠ p) (hL : H0 L = none) (b : Bt p H0 H) : Bt p H0 H' := ⟨fun a o n e => k a o (fun z => by rw [z, hL] at e; cases e) (b.1 a o n e), k.at ne b.2⟩
theorem at_ne {H : Hp} {p L : Addr} (h : S.At H p) (hL : H L = none) : L ≠ p := fun e => by
  obtain ⟨r, m, e2, _⟩ := h
  rw [e, e2] at hL
  cases hL
theorem bt_lst {p L : Addr} {H H' : Hp} {xs : List V} (b : Bt p H H') (ne : L ≠ p) (h : H L = some (.lst xs)) : H' L = some (.lst xs) := b.1 L _ ne h
section
variable {P : Program} {w : World} {K : PySem.W.Frag} {mg : Str → Option Value} {base : Heap} {C : Addr}
def spLInner : Sp := fun vs H Q _ => ∃ (p : Addr) (h low : Nat), vs = [.ref p, .int (h : Int), .int (low : Int)] ∧ S.At H p ∧ 1 ≤ low ∧ h + low ≤ 900 ∧
  ∀ t L xs s H', Bt p H H' → H L = none → H' t = some (.tup [.int (h : Int), .ref L]) → H' L = some (.lst xs) → RowAll H' s xs → Roads h s → 1 ≤ s.length → s.length ≤ 2 → Q (.ref t) H'
abbrev NIn : List Str := ["source", "head", "low", "roads", "turn", "words"]
theorem scLIn : FnScope NIn ["source", "head", "low"] (defScope sLInner) := ⟨rfl, rfl, rfl, by decide +kernel, rfl, by decide +kernel, by decide +kernel⟩
theorem lw_of4 {x : V} (h : x ∈ [V.str "cut", V.str "cut", V.str "tell", V.str "drop"]) : ∃ lw, x = .str (lwS lw) := lw_of (List.mem_cons_of_mem _ h)
theorem ok_linner {f : Addr} {fd : FuncData} (F : Fun K "_law_inner_road" "_law_inner_road" sLInner f fd) (rng : mg "range" = none) (D : Df P w K mg base 1 "_law_draw" ["source", "span"] S.spDraw) (PK : Df P w K mg base 2 "_law_pick" ["source", "items"] (S.spPick K)) : FnOk P w K mg base CX0 3 f fd ["source", "head", "low"] spLInner := by
  obtain ⟨fD, fdD, GD, gD, kD, bD⟩ := D.ex
  obtain ⟨fP, fdP, GP, gP, kP, bP⟩ := PK.ex
  refine F.ok scLIn (fun vs H Q E h => ?_) (fun cdv A outer s H vs Q E hr h => ?_)
  · obtain ⟨p, h, low, rfl, _⟩ := h
    rfl
  · obtain ⟨p, h, low, rfl, hp, l1, l2, k⟩ := h
    have r1 := hr.mono (by decide : 1 ≤ 2)
    refine ⟨_, pss_cons (ps_set (i := 3) scLIn.nd rfl (Or.inl rfl) (pe_lst pa_nil))
      (pss_cons (ps_for PassesOwn.never rfl (pi_range1 (by rfl) rng (pa_cons (pe_op op_add pe_int (pe_call GD r1 rfl gD kD bD .nil pass0 (pa_cons (pv 0) (pa_cons pe_int pa_nil)))) pa_nil)) (pg_name (i := 4) scLIn.nd rfl (Or.inl rfl))
        (pss_cons (ps_set (i := 5) scLIn.nd rfl (Or.inl rfl) (pe_tup (pa_cons (pe_call GP hr rfl gP kP bP .nil pass0 (pa_cons (pv 0) (pa_cons (pe_lst (pa_cons pe_str (pa_cons pe_str pa_nil))) pa_nil))) (pa_cons (pe_call GP hr rfl gP kP bP .nil pass0 (pa_cons (pv 0) (pa_cons (pe_lst (pa_cons pe_str (pa_cons pe_str (pa_cons pe_str (pa_cons pe_str pa_nil))))) pa_nil))) pa_nil))))
        (pss_one (ps_expr (pe_bm PySem.F.plainAttrs_list PySem.F.slot_list_append PySem.F.type_list_append mt_append (pv 3) (pa_cons (pe_op op_catT (pe_tup (pa_cons pe_str (pa_cons (pe_op op_add (pe_op op_add (pv 1) (pv 2)) (pe_call GD r1 rfl gD kD bD .nil pass0 (pa_cons (pv 0) (pa_cons pe_int pa_nil)))) pa_nil))) (pv 5)) pa_nil))))))
      (pss_one (ps_ret (pe_tup (pa_cons (pv 1) (pa_cons (pv 3) pa_nil)))))), ?_⟩
    refine ⟨line2.2.2.2, fun L hL => ?_⟩
    have ne := at_ne hp hL
    have b0 := Bt.new (.lst []) hp hL
    refine draw_of rfl b0.2 (by decide) (by decide +kernel) fun j H1 j0 j1 b1 => ⟨_, rfl, by omega, by omega, ?_⟩
    refine for_range (n := (1 + j).toNat) (fun i σ G => Bt p H G ∧ ∃ xs s q1 q2, σ = [some (.ref p), some (.int (h : Int)), some (.int (low : Int)), some (.ref L), q1, q2] ∧ G L = some (.lst xs) ∧ RowAll G s xs ∧ s.length = i ∧ Roads h s)
      ⟨b0.trans b1, [], [], _, _, rfl, bt_lst b1 ne upd_same, by unfold RowAll; rfl, rfl, fun y hy => by cases hy⟩ ?_ ?_
    · rintro i σ G hi ⟨bG, xs, s, q1, q2, rfl, hLG, hR, hs, hRo⟩
      dsimp only
      refine pick_of rfl bG.2 (by decide) (by decide) (fun Q2 q => q) fun y H5 hy b5 => pick_of rfl b5.2 (by decide) (by decide) (fun Q2 q => q) fun z H6 hz b6 => ⟨line2.1, fun u hu => ?_⟩
      obtain ⟨ts, rfl⟩ := sd_of hy
      obtain ⟨lw, rfl⟩ := lw_of4 hz
      have b7 := (b5.trans b6).trans (Bt.new (.tup [.str (sdS ts), .str (lwS lw)]) b6.2 hu)
      refine ⟨_, rfl, .inl ⟨rfl, _, SqL.of (bt_lst b7 ne hLG)⟩, ?_⟩
      refine ⟨_, rfl, _, rfl, _, _, rfl, rfl, ?_⟩
      refine draw_vv rfl b7.2 (by decide) (by decide +kernel) fun d H8 d0 d1 b8 => ⟨_, _, rfl, rfl, line2.1, fun v hv => ?_⟩
      have b9 := b8.trans (Bt.new (.tup [.str "road", .int ((h : Int) + (low : Int) + d)]) b8.2 hv)
      refine ⟨_, rfl, catT_of upd_same (bt_tup b9 b7.2 upd_same) (by simp) (by show 4 ≤ sizeLine; decide) fun t G2 sG hG => ?_⟩
      have b10 := (b7.trans b9).trans (Bt.same sG b9.2)
      have hL10 := bt_lst b10 ne hLG
      have lx := hR.len
      have kp : Kp L G2 (upd G2 L (.lst (xs ++ [.ref t]))) := Kp.put
      refine ⟨L, xs, _, rfl, rfl, hL10, small1000 (by omega), kp.bt ne hL (bG.trans b10), _, s ++ [.road (h + low + d.toNat) ts lw], _, _, rfl, upd_same, ?_, by simp; exact hs, ?_⟩
      · refine ((hR.bt b10 bG.2).roads (kp.tup hL10) hRo).snoc ?_
        unfold RowAt
        refine ⟨t, rfl, kp.tup hL10 _ _ ?_⟩
        rw [hG]
        show some (HO.tup [V.str "road", V.int ((h : Int) + (low : Int) + d), V.str (sdS ts), V.str (lwS lw)]) = _
        rw [show (h : Int) + (low : Int) + d = ((h + low + d.toNat : Nat) : Int) by omega]
      · intro y hy
        rcases List.mem_append.mp hy with q | q
        · exact hRo y q
        · exact ⟨_, ts, lw, List.mem_singleton.mp q, by omega, by omega⟩
    · rintro σ G ⟨bG, xs, s, q1, q2, rfl, hLG, hR, hs, hRo⟩
      refine ⟨_, rfl, _, rfl, line2.1, fun t ht => ?_⟩
      have b2 := Bt.new (.tup [.int (h : Int), .ref L]) bG.2 ht
      exact k t L xs s _ (bG.trans b2) hL upd_same (bt_lst b2 ne hLG) (hR.bt b2 bG.2) hRo (by omega) (by omega)
end
end WP

end
section
set_option autoImplicit false
set_option Elab.async false
set_option linter.all false
set_option maxRecDepth 100000
set_option maxHeartbeats 4000000
/-! ## the law's fitting rows -/
namespace M
def FitStep (h : Nat) (y : Step) : Prop := Step.fine h y ∧ Step.dep y ≤ 2 ∧ isz y ≤ 4
theorem fit_all {h : Nat} : ∀ {s : List Step}, (∀ y ∈ s, FitStep h y) → Step.fineAll h s ∧ Step.deepest s ≤ 2 ∧ Step.inner s ≤ 4 * s.length
  | [], _ => ⟨by unfold Step.fineAll; trivial, by unfold Step.deepest; omega, by unfold Step.inner; omega⟩
  | y :: r, q => by
    obtain ⟨a, b, c⟩ := q y List.mem_cons_self
    obtain ⟨d, e, f⟩ := fit_all (s := r) fun z hz => q z (List.mem_cons_of_mem _ hz)
    refine ⟨by unfold Step.fineAll; exact ⟨a, d⟩, by rw [deep_cons]; omega, ?_⟩
    rw [inner_cons, List.length_cons]
    omega
theorem fit_way {h : Nat} {s : List Step} (h1 : 1 ≤ h) (h2 : h ≤ 8) (l1 : 1 ≤ s.length) (l2 : s.length ≤ 7) (q : ∀ y ∈ s, FitStep h y) : (Way.mk h s).fine := by
  obtain ⟨a, b, c⟩ := fit_all q
  unfold Way.fine
  exact ⟨by omega, by omega, a, by omega, by omega⟩
theorem flat_all : ∀ {s : List Step}, (∀ y ∈ s, Step.dep y = 0 ∧ isz y = 0) → Step.deepest s = 0 ∧ Step.inner s = 0
  | [], _ => ⟨by unfold Step.deepest; rfl, by unfold Step.inner; rfl⟩
  | y :: r, q => by
    obtain ⟨a, b⟩ := q y List.mem_cons_self
    obtain ⟨c, d⟩ := flat_all (s := r) fun z hz => q z (List.mem_cons_of_mem _ hz)
    rw [deep_cons, inner_cons, a, b, c, d]
    exact ⟨rfl, rfl⟩
/-- a way of one or two roads -/
theorem roads_flat {h : Nat} {s : List Step} (q : ∀ y ∈ s, ∃ size ts lw, y = .road size ts lw ∧ h < size ∧ size ≤ 1000) : ∀ y ∈ s, Step.fine h y ∧ Step.dep y = 0 ∧ isz y = 0 := by
  intro y hy
  obtain ⟨size, ts, lw, rfl, a, b⟩ := q y hy
  exact ⟨by unfold Step.fine; exact ⟨a, b⟩, rfl, rfl⟩
/-- roads, and a way of roads behind them -/
theorem deep_way {h : Nat} {s : List Step} {w : Way} {m : Nat} {tw : TW} (h1 : 1 ≤ h) (h2 : h ≤ 8) (l2 : s.length ≤ 1) (q : ∀ y ∈ s, ∃ size ts lw, y = .road size ts lw ∧ h < size ∧ size ≤ 1000) (wf : w.fine) (wd : w.depth = 1) (ws : w.size ≤ 2) (m1 : 1 ≤ m) (m2 : m ≤ 1000000000000) :
    Way.fine (.mk h (s ++ [.tunnel w m tw])) ∧ Way.depth (.mk h (s ++ [.tunnel w m tw])) ≤ 2 ∧ Way.size (.mk h (s ++ [.tunnel w m tw])) ≤ 4 := by
  have all : ∀ y ∈ s ++ [Step.tunnel w m tw], Step.fine h y ∧ Step.dep y ≤ 1 ∧ isz y ≤ 2 := by
    intro y hy
    rcases List.mem_append.mp hy with e | e
    · obtain ⟨a, b, c⟩ := roads_flat q y e
      exact ⟨a, by omega, by omega⟩
    · rw [List.mem_singleton.mp e]
      refine ⟨by unfold Step.fine; exact ⟨wf, m1, m2⟩, ?_, ws⟩
      show w.depth ≤ 1
      omega
  have inn : Step.inner (s ++ [.tunnel w m tw]) ≤ 2 := by
    match s, l2, q with
    | [], _, _ =>
      show Step.inner [Step.tunnel w m tw] ≤ 2
      rw [inner_cons]
      have e : isz (.tunnel w m tw) = w.size := rfl
      have e2 : Step.inner [] = 0 := by unfold Step.inner; rfl
      omega
    | [y], _, q =>
      show Step.inner [y, Step.tunnel w m tw] ≤ 2
      rw [inner_cons, inner_cons]
      have e : isz (.tunnel w m tw) = w.size := rfl
      have e2 : Step.inner [] = 0 := by unfold Step.inner; rfl
      have e3 := (roads_flat q y List.mem_cons_self).2.2
      omega
    | _ :: _ :: _, l2, _ => simp at l2
  have fa : ∀ {l : List Step}, (∀ y ∈ l, Step.fine h y ∧ Step.dep y ≤ 1 ∧ isz y ≤ 2) → Step.fineAll h l ∧ Step.deepest l ≤ 1 := by
    intro l
    induction l with
    | nil => exact fun _ => ⟨by unfold Step.fineAll; trivial, by unfold Step.deepest; omega⟩
    | cons y r ih =>
      intro q
      obtain ⟨a, b⟩ := ih fun z hz => q z (List.mem_cons_of_mem _ hz)
      obtain ⟨c, d, _⟩ := q y List.mem_cons_self
      exact ⟨by unfold Step.fineAll; exact ⟨c, a⟩, by rw [deep_cons]; omega⟩
  obtain ⟨f1, f2⟩ := fa all
  have ll : (s ++ [Step.tunnel w m tw]).length = s.length + 1 := by rw [List.length_append, List.length_singleton]
  refine ⟨?_, by unfold Way.depth; omega, by unfold Way.size; omega⟩
  unfold Way.fine
  exact ⟨by omega, by omega, f1, by omega, by omega⟩
theorem roads_way {h : Nat} {s : List Step} (h1 : 1 ≤ h) (h2 : h ≤ 8) (l1 : 1 ≤ s.length) (l2 : s.length ≤ 3) (q : ∀ y ∈ s, ∃ size ts lw, y = .road size ts lw ∧ h < size ∧ size ≤ 1000) : Way.fine (.mk h s) ∧ Way.depth (.mk h s) = 1 ∧ Way.size (.mk h s) = s.length := by
  have q2 := roads_flat q
  obtain ⟨a, _, _⟩ := fit_all fun y hy => (⟨(q2 y hy).1, by have := (q2 y hy).2.1; omega, by have := (q2 y hy).2.2; omega⟩ : FitStep h y)
  obtain ⟨c, d⟩ := flat_all fun y hy => (q2 y hy).2
  refine ⟨?_, by unfold Way.depth; rw [c], by unfold Way.size; rw [d]; rfl⟩
  unfold Way.fine
  rw [c, d]
  exact ⟨by omega, by omega, a, by omega, by omega⟩
end M
namespace WP
open PySem L2 G
abbrev sLFit : Stmt := top 77
/-- the heap without what stands at L -/
def hid (G : Hp) (L : Addr) : Hp := fun a => if a = L then none else G a
theorem hid_at {G : Hp} {L a : Addr} (n : a ≠ L) : hid G L a = G a := if_neg n
theorem hid_put {G : Hp} {L : Addr} {o : HO} : hid (upd G L o) L = hid G L := by
  funext a
  unfold hid
  by_cases e : a = L
  · rw [if_pos e, if_pos e]
  · rw [if_neg e, if_neg e, upd_ne e]
theorem hid_same {G : Hp} {L : Addr} : Same (hid G L) G := fun a o e => by
  unfold hid at e
  by_cases q : a = L
  · rw [if_pos q] at e
    cases e
  · rwa [if_neg q] at e
theorem hid_bt {p L : Addr} {G G2 : Hp} (ne : L ≠ p) (b : Bt p G G2) : Bt p (hid G L) (hid G2 L) := by
  refine ⟨fun a o n e => ?_, ?_⟩
  · by_cases q : a = L
    · unfold hid at e
      rw [if_pos q] at e
      cases e
    · rw [hid_at q] at e ⊢
      exact b.1 a o n e
  · obtain ⟨r, m, e, f⟩ := b.2
    exact ⟨r, m, by rw [hid_at ne.symm]; exact e, f⟩
theorem hid_S {p L : Addr} {G : Hp} (ne : L ≠ p) (h : S.At G p) : S.At (hid G L) p := by
  obtain ⟨r, m, e, f⟩ := h
  exact ⟨r, m, by rw [hid_at ne.symm]; exact e, f⟩
theorem hid_tup {G : Hp} {L a : Addr} {xs ys : List V} (hL : G L = some (.lst xs)) (h : G a = some (.tup ys)) : hid G L a = some (.tup ys) := by
  rw [hid_at (fun e => by rw [e, hL] at h; cases h)]
  exact h
theorem fit_next {p L t : Addr} {H G G2 : Hp} {s : List M.Step} {xs : List V} {y : M.Step} (ne : L ≠ p) (hL : H L = none) (bG : Bt p H G) (b : Bt p G G2) (hR : RowAll (hid G L) s xs) (hy : RowAt (hid G2 L) y (.ref t)) :
    Bt p H (upd G2 L (.lst (xs ++ [.ref t]))) ∧ RowAll (hid (upd G2 L (.lst (xs ++ [.ref t]))) L) (s ++ [y]) (xs ++ [.ref t]) := by
  refine ⟨Kp.bt Kp.put ne hL (bG.trans b), ?_⟩
  rw [hid_put]
  exact (hR.bt (hid_bt ne b) (hid_S ne bG.2)).snoc hy
theorem inner_hid {p L L2 t : Addr} {G0 G1 G2 : Hp} {s : List M.Step} {xs ys : List V} {h : Nat} (hp : S.At G0 p) (b1 : Bt p G0 G1) (b2 : Bt p G1 G2) (hL : G0 L = some (.lst ys)) (ne : L ≠ p) (n2 : G0 L2 = none) (ht : G1 t = some (.tup [.int (h : Int), .ref L2])) (h2 : G1 L2 = some (.lst xs)) (hR : RowAll G1 s xs) (hr : Roads h s) : RowsAt (hid G2 L) (.mk h s) (.ref t) := by
  have hL2 := bt_lst (b1.trans b2) ne hL
  unfold RowsAt
  refine ⟨t, L2, xs, rfl, hid_tup hL2 (bt_tup b2 b1.2 ht), ?_, hR.roads (fun a zs e => hid_tup hL2 (bt_tup b2 b1.2 e)) hr⟩
  rw [hid_at (fun e => by rw [e, hL] at n2; cases n2)]
  exact bt_lst b2 (at_ne hp n2) h2
theorem draw_w {σ : St} {H : Hp} {Q : VK} {E : XK} {p : Addr} {i j : Nat} {c n : Int} (hσ : σ[i]? = some (some (.ref p))) (hj : σ[j]? = some (some (.int n))) (h : S.At H p) (n1 : 1 ≤ n) (n2 : n.natAbs.log2 < 9000) (k : ∀ x H', 0 ≤ x → x < n → Bt p H H' → Q (.int (c + x)) H') :
    tOp (rI0 fun i j => .int (i + j)) (tC (.int c)) (tCall S.spDraw [] E (tCons (tVar i) (tCons (tVar j) tNil))) σ H Q := by
  obtain ⟨r, m, hp, hf⟩ := h
  exact ⟨_, hσ, _, hj, p, r, m, n, rfl, hp, hf, n1, n2, fun x r1 m1 f1 j0 j1 => ⟨_, _, rfl, rfl, k x _ j0 j1 (Bt.put f1)⟩⟩
theorem tw_of {x : V} (h : x ∈ [V.str "turn", V.str "turn", V.str "keep", V.str "lose"]) : ∃ tw, x = .str (twS tw) := by
  rcases List.mem_cons.mp h with e | h
  · exact ⟨.turn, e⟩
  rcases List.mem_cons.mp h with e | h
  · exact ⟨.turn, e⟩
  rcases List.mem_cons.mp h with e | h
  · exact ⟨.keep, e⟩
  · have e : x = V.str "lose" := by simpa using h
    exact ⟨.lose, e⟩
section
variable {P : Program} {w : World} {K : PySem.W.Frag} {mg : Str → Option Value} {base : Heap} {C : Addr}
theorem tw_of3 {x : V} (h : x ∈ [V.str "turn", V.str "keep", V.str "lose"]) : ∃ tw, x = .str (twS tw) := tw_of (List.mem_cons_of_mem _ h)
theorem RowAll.take {H : Hp} : ∀ {s : List M.Step} {xs : List V} (i : Nat), RowAll H s xs → RowAll H (s.take i) (xs.take i)
  | s, xs, 0, _ => by
    rw [List.take_zero, List.take_zero]
    unfold RowAll
    rfl
  | [], xs, i + 1, h => by
    unfold RowAll at h
    subst h
    unfold RowAll
    rfl
  | y :: s, xs, i + 1, h => by
    unfold RowAll at h
    obtain ⟨u, us, rfl, h1, h2⟩ := h
    rw [List.take_succ_cons, List.take_succ_cons]
    unfold RowAll
    exact ⟨u, us.take i, rfl, h1, h2.take i⟩
/-- an inner way of rows: what the outer one may hold -/
def InAt (G : Hp) (L : Addr) (v : V) : Prop := ∃ wy, RowsAt (hid G L) wy v ∧ wy.fine ∧ wy.depth ≤ 2 ∧ wy.size ≤ 4
theorem InAt.bt {p L : Addr} {G G2 : Hp} {v : V} (ne : L ≠ p) (hp : S.At G p) (b : Bt p G G2) (h : InAt G L v) : InAt G2 L v := by
  obtain ⟨wy, h1, h2⟩ := h
  exact ⟨wy, h1.bt (hid_bt ne b) (hid_S ne hp), h2⟩
def spLFit : Sp := fun vs H Q _ => ∃ (p : Addr) (many : Nat), vs = [.ref p, .int 3, .int (many : Int)] ∧ 1 ≤ many ∧ many ≤ 7 ∧ S.At H p ∧ ∀ wy v H', Bt p H H' → RowsAt H' wy v → wy.fine → wy.head ≤ 8 → Q v H'
abbrev NFi : List Str := ["source", "depth", "many", "head", "steps", "turn", "kind", "inner", "deep", "tunnel"]
theorem scFi : FnScope NFi ["source", "depth", "many"] (defScope sLFit) := ⟨rfl, rfl, rfl, by decide +kernel, rfl, by decide +kernel, by decide +kernel⟩
theorem ok_lfit {f : Addr} {fd : FuncData} (F : Fun K "_law_fitting" "_law_fitting" sLFit f fd) (B : Y.Bn mg) (DD : Df P w K mg base 1 "_law_draw" ["source", "span"] S.spDraw) (PK : Df P w K mg base 2 "_law_pick" ["source", "items"] (S.spPick K))
    (DI : Df P w K mg base 3 "_law_inner_road" ["source", "head", "low"] spLInner) (DM : Df P w K mg base 3 "_law_most" ["source"] spLMost) (DR : Df P w K mg base 3 "_law_road" ["source", "head"] spLRoad) : FnOk P w K mg base CX0 4 f fd ["source", "depth", "many"] spLFit := by
  obtain ⟨fD, fdD, GD, gD, kD, bD⟩ := DD.ex
  obtain ⟨fP, fdP, GP, gP, kP, bP⟩ := PK.ex
  obtain ⟨fI, fdI, GI, gI, kI, bI⟩ := DI.ex
  obtain ⟨fM, fdM, GM, gM, kM, bM⟩ := DM.ex
  obtain ⟨fR, fdR, GR, gR, kR, bR⟩ := DR.ex
  refine F.ok scFi (fun vs H Q E h => ?_) (fun cdv A outer s H vs Q E hr h => ?_)
  · obtain ⟨p, many, rfl, _⟩ := h
    rfl
  · obtain ⟨p, many, rfl, my1, my2, hp, k⟩ := h
    refine ⟨_, pss_cons (ps_set (i := 3) scFi.nd rfl (Or.inl rfl) (pe_op (op_add) (pe_int) (pe_call GD (hr.mono (by omega)) rfl gD kD bD .nil pass0 (pa_cons (pv 0) (pa_cons (pe_int) pa_nil)))))
      (pss_cons (ps_set (i := 4) scFi.nd rfl (Or.inl rfl) (pe_lst pa_nil))
      (pss_cons (ps_for PassesOwn.never rfl (pi_range1 (by rfl) B.range (pa_cons (pe_op (op_add) (pe_int) (pe_call GD (hr.mono (by omega)) rfl gD kD bD .nil pass0 (pa_cons (pv 0) (pa_cons (pv 2) pa_nil)))) pa_nil)) (pg_name (i := 5) scFi.nd rfl (Or.inl rfl)) (pss_cons (ps_set (i := 6) scFi.nd rfl (Or.inl rfl) (pe_call GD (hr.mono (by omega)) rfl gD kD bD .nil pass0 (pa_cons (pv 0) (pa_cons (pe_int) pa_nil))))
      (pss_one (ps_if (pt_cmpR (op_eq) (pv 6) (pe_int) (nomark _)) (pss_one (ps_expr (pe_bm PySem.F.plainAttrs_list PySem.F.slot_list_append PySem.F.type_list_append mt_append (pv 4) (pa_cons (pe_tup (pa_cons (pe_str) (pa_cons (pe_call GM (hr.mono (by omega)) rfl gM kM bM .nil pass0 (pa_cons (pv 0) pa_nil)) pa_nil))) pa_nil)))) (pss_one (ps_if (PW.pt (pw_and (pt_cmpR (op_le) (pv 6) (pe_int) (nomark _)) (pw_and1 (pt_cmpR (op_gt) (pv 1) (pe_int) (nomark _))))) (pss_cons (ps_set (i := 7) scFi.nd rfl (Or.inl rfl) (pe_call GI (hr.mono (by omega)) rfl gI kI bI .nil pass0 (pa_cons (pv 0) (pa_cons (pe_op (op_add) (pe_int) (pe_call GD (hr.mono (by omega)) rfl gD kD bD .nil pass0 (pa_cons (pv 0) (pa_cons (pe_int) pa_nil)))) (pa_cons (pe_op (op_add) (pv 3) (pe_int)) pa_nil)))))
      (pss_cons (ps_if (PW.pt (pw_and (pt_cmpR (op_gt) (pv 1) (pe_int) (nomark _)) (pw_and1 (pt_cmpR (op_eq) (pe_call GD (hr.mono (by omega)) rfl gD kD bD .nil pass0 (pa_cons (pv 0) (pa_cons (pe_int) pa_nil))) (pe_int) (nomark _))))) (pss_cons (ps_set (i := 8) scFi.nd rfl (Or.inl rfl) (pe_call GI (hr.mono (by omega)) rfl gI kI bI .nil pass0 (pa_cons (pv 0) (pa_cons (pe_op (op_add) (pe_int) (pe_call GD (hr.mono (by omega)) rfl gD kD bD .nil pass0 (pa_cons (pv 0) (pa_cons (pe_int) pa_nil)))) (pa_cons (pe_op (op_add) (pe_op (op_add) (pe_ix ix_tup (pv 7) (pe_int) (fun _ _ => rfl)) (pv 3)) (pe_int)) pa_nil)))))
      (pss_cons (ps_set (i := 9) scFi.nd rfl (Or.inl rfl) (pe_tup (pa_cons (pe_str) (pa_cons (pv 8) (pa_cons (pe_call GM (hr.mono (by omega)) rfl gM kM bM .nil pass0 (pa_cons (pv 0) pa_nil)) (pa_cons (pe_call GP (hr.mono (by omega)) rfl gP kP bP .nil pass0 (pa_cons (pv 0) (pa_cons (pe_lst (pa_cons (pe_str) (pa_cons (pe_str) (pa_cons (pe_str) pa_nil)))) pa_nil))) pa_nil))))))
      (pss_one (ps_set (i := 7) scFi.nd rfl (Or.inl rfl) (pe_tup (pa_cons (pe_ix ix_tup (pv 7) (pe_int) (fun _ _ => rfl)) (pa_cons (pe_op (op_cat) (pe_slice sl_list (pe_ix ix_tup (pv 7) (pe_int) (fun _ _ => rfl)) po_none (po_some (pe_call GD (hr.mono (by omega)) rfl gD kD bD .nil pass0 (pa_cons (pv 0) (pa_cons (pe_int) pa_nil))))) (pe_lst (pa_cons (pv 9) pa_nil))) pa_nil))))))) (pss_nil))
      (pss_one (ps_expr (pe_bm PySem.F.plainAttrs_list PySem.F.slot_list_append PySem.F.type_list_append mt_append (pv 4) (pa_cons (pe_tup (pa_cons (pe_str) (pa_cons (pv 7) (pa_cons (pe_call GM (hr.mono (by omega)) rfl gM kM bM .nil pass0 (pa_cons (pv 0) pa_nil)) (pa_cons (pe_call GP (hr.mono (by omega)) rfl gP kP bP .nil pass0 (pa_cons (pv 0) (pa_cons (pe_lst (pa_cons (pe_str) (pa_cons (pe_str) (pa_cons (pe_str) (pa_cons (pe_str) pa_nil))))) pa_nil))) pa_nil))))) pa_nil)))))) (pss_one (ps_expr (pe_bm PySem.F.plainAttrs_list PySem.F.slot_list_append PySem.F.type_list_append mt_append (pv 4) (pa_cons (pe_call GR (hr.mono (by omega)) rfl gR kR bR .nil pass0 (pa_cons (pv 0) (pa_cons (pv 3) pa_nil))) pa_nil))))))))))
      (pss_one (ps_ret (pe_tup (pa_cons (pv 3) (pa_cons (pv 4) pa_nil))))))), ?_⟩
    refine set_then (i := 3) (draw_of rfl hp (by decide) (by decide +kernel) fun j0 H0 a0 a1 b0 => ?_)
    obtain ⟨h, eh, h1, h2⟩ : ∃ h : Nat, 1 + j0 = (h : Int) ∧ 1 ≤ h ∧ h ≤ 8 := ⟨(1 + j0).toNat, by omega, by omega, by omega⟩
    rw [eh]
    refine ⟨line2.2.2.2, fun L hL => ?_⟩
    have ne := at_ne b0.2 hL
    have hL0 : H L = none := by
      cases q : H L with
      | none => rfl
      | some o => rw [b0.1 L o ne q] at hL; cases hL
    have bL := b0.trans (Bt.new (.lst []) b0.2 hL)
    refine draw_w rfl rfl bL.2 (by omega) (PySem.Flt.log2_lt_of (k := 9000) (by decide) (Nat.lt_of_lt_of_le (by omega : _ < 8) (Nat.le_trans (by decide : 8 ≤ 2 ^ 3) (Nat.pow_le_pow_right (by decide) (by decide))))) fun j H1 c0 c1 b1 => ⟨_, rfl, by omega, by omega, ?_⟩
    refine for_range (n := (1 + j).toNat) (fun i σ G => Bt p H G ∧ ∃ xs s q1 q2 q3 q4 q5, σ = [some (.ref p), some (.int 3), some (.int (many : Int)), some (.int (h : Int)), some (.ref L), q1, q2, q3, q4, q5] ∧ G L = some (.lst xs) ∧ RowAll (hid G L) s xs ∧ s.length = i ∧ ∀ y ∈ s, M.FitStep h y)
      ⟨bL.trans b1, [], [], _, _, _, _, _, rfl, bt_lst b1 ne upd_same, by unfold RowAll; rfl, rfl, fun y hy => by cases hy⟩ ?_ ?_
    · rintro i σ G hi ⟨bG, xs, s, q1, q2, q3, q4, q5, rfl, hLG, hR, hs, hSm⟩
      have lx := hR.len
      have hlt : xs.length < sizeLine := small1000 (by omega)
      have hall : ∀ y, M.FitStep h y → ∀ z ∈ s ++ [y], M.FitStep h z := fun y hy z hz => (List.mem_append.mp hz).elim (hSm z) fun e => by rw [List.mem_singleton.mp e]; exact hy
      dsimp only
      refine set_then (i := 6) (draw_vv rfl bG.2 (by decide) (by decide +kernel) fun d G1 d0 d1 b2 => ?_)
      refine ⟨_, rfl, rfl, _, rfl, ite2 (fun e0 => ?_) (fun e0 => ?_)⟩
      · refine ⟨_, rfl, .inl ⟨rfl, _, SqL.of (bt_lst b2 ne hLG)⟩, _, rfl, p, rfl, b2.2, fun m G2 m1 m2 b3 => ⟨line2.1, fun t ht => ?_⟩⟩
        have b4 := b3.trans (Bt.new (.tup [.str "join", .int (m : Int)]) b3.2 ht)
        have b5 := b2.trans b4
        refine ⟨L, xs, _, rfl, rfl, bt_lst b5 ne hLG, hlt, ?_⟩
        obtain ⟨f1, f2⟩ := fit_next (y := .join m) (t := t) ne hL0 bG b5 hR (by unfold RowAt; exact ⟨t, rfl, hid_tup (bt_lst b5 ne hLG) upd_same⟩)
        exact ⟨f1, _, _, _, _, _, _, _, rfl, upd_same, f2, by simp; exact hs, hall _ ⟨by unfold M.Step.fine; exact ⟨m1, m2⟩, by show 0 ≤ 2; omega, by show 0 ≤ 4; omega⟩⟩
      · refine ⟨_, rfl, _, _, rfl, rfl, _, rfl, ?_⟩
        refine ite2 (fun e1 => ?_) (fun e1 => ?_)
        · refine ⟨_, rfl, _, _, rfl, rfl, _, rfl, ite2 (fun _ => ?_) (fun e => absurd (by decide) e)⟩
          -- the inner rows
          refine set_then (i := 7) ?_
          refine ⟨_, rfl, draw_of rfl b2.2 (by decide) (by decide +kernel) fun x G2 x0 x1 b3 => ⟨_, rfl, _, _, rfl, rfl, ?_⟩⟩
          refine ⟨p, (1 + x).toNat, h + 1, ?_, b3.2, by omega, by omega, fun t1 L2 ys s2 G3 b4 n2 ht1 hL2 hR2 hRo l1 l2 => ?_⟩
          · show [V.ref p, V.int (1 + x), V.int ((h : Int) + 1)] = _
            rw [show (1 : Int) + x = (((1 + x).toNat : Nat) : Int) by omega]
            rfl
          have q0 := M.roads_way (h := (1 + x).toNat) (by omega) (by omega) l1 (by omega) hRo
          have bt3 := (b2.trans b3).trans b4
          have in0 : InAt G3 L (.ref t1) := ⟨_, inner_hid b3.2 b4 (Bt.same (Same.refl _) b4.2) (bt_lst (b2.trans b3) ne hLG) ne n2 ht1 hL2 hR2 hRo, q0.1, by omega, by omega⟩
          refine CP.if_then (fun σ' G' => ∃ (t : Addr) (q4 q5 q6 q7 : Option V), σ' = [some (.ref p), some (.int 3), some (.int (many : Int)), some (.int (h : Int)), some (.ref L), q4, q5, some (.ref t), q6, q7] ∧ Bt p G G' ∧ InAt G' L (.ref t)) ?rest ?ask
          case rest =>
            rintro σ' G' ⟨t1, q4, q5, q6, q7, rfl, bG', ⟨w2, in1, in2, in3, in4⟩⟩
            refine ⟨_, rfl, .inl ⟨rfl, _, SqL.of (bt_lst bG' ne hLG)⟩, _, rfl, _, rfl, p, rfl, bG'.2, fun m G4 m1 m2 b5 => ?_⟩
            refine pick_of rfl b5.2 (by decide) (by decide) (fun Q2 q => q) fun z G5 hz b6 => ⟨(by show 4 ≤ sizeLine; decide), fun t ht => ?_⟩
            obtain ⟨tw, rfl⟩ := tw_of hz
            have b7 := Bt.new (.tup [.str "tunnel", .ref t1, .int (m : Int), .str (twS tw)]) b6.2 ht
            have b8 := (b5.trans b6).trans b7
            have b9 := bG'.trans b8
            refine ⟨L, xs, _, rfl, rfl, bt_lst b9 ne hLG, hlt, ?_⟩
            obtain ⟨f1, f2⟩ := fit_next (y := .tunnel w2 m tw) (t := t) ne hL0 bG b9 hR (by
              unfold RowAt
              exact ⟨t, .ref t1, rfl, hid_tup (bt_lst b9 ne hLG) upd_same, in1.bt (hid_bt ne b8) (hid_S ne bG'.2)⟩)
            exact ⟨f1, _, _, _, _, _, _, _, rfl, upd_same, f2, by simp; exact hs, hall _ ⟨by unfold M.Step.fine; exact ⟨in2, m1, m2⟩, in3, in4⟩⟩
          case ask =>
            intro kk
            have plain : ∀ G', Bt p G3 G' → InAt G' L (.ref t1) := fun G' b => in0.bt ne b4.2 b
            refine ⟨_, rfl, _, _, rfl, rfl, _, rfl, ite2 (fun _ => ?_) (fun e => absurd (by decide) e)⟩
            refine draw_vv rfl b4.2 (by decide) (by decide +kernel) fun z G4 z0 z1 b5 => ⟨rfl, _, rfl, ite2 (fun e2 => ?_) (fun e2 => ?_)⟩
            · -- deep
              refine set_then (i := 8) ?_
              refine ⟨_, rfl, draw_of rfl b5.2 (by decide) (by decide +kernel) fun x2 G5 y0 y1 b6 => ?_⟩
              have b56 := b5.trans b6
              refine ⟨_, rfl, t1, _, _, _, rfl, rfl, SqT.of (bt_tup b56 b4.2 ht1), (by exact atI_nat (xs := [V.int (((1 + x).toNat : Nat) : Int), V.ref L2]) (j := 0) rfl), _, rfl, _, _, rfl, rfl, _, _, rfl, rfl, ?_⟩
              refine ⟨p, (1 + x2).toNat, (1 + x).toNat + h + 1, ?_, b6.2, by omega, by omega, fun td Ld zs s3 G6 b7 n3 htd hLd hR3 hRo3 l3 l4 => ?_⟩
              · show [V.ref p, V.int (1 + x2), V.int ((((1 + x).toNat : Nat) : Int) + (h : Int) + 1)] = _
                rw [show (1 : Int) + x2 = (((1 + x2).toNat : Nat) : Int) by omega]
                rfl
              have q1 := M.roads_way (h := (1 + x2).toNat) (by omega) (by omega) l3 (by omega) hRo3
              refine set_then (i := 9) ⟨_, rfl, _, rfl, p, rfl, b7.2, fun m G7 m1 m2 b8 => ?_⟩
              refine pick_of rfl b8.2 (by decide) (by decide) (fun Q2 q => q) fun z2 G8 hz b9 => ⟨(by show 4 ≤ sizeLine; decide), fun tt htt => ?_⟩
              obtain ⟨tw, rfl⟩ := tw_of3 hz
              have b10 := Bt.new (.tup [.str "tunnel", .ref td, .int (m : Int), .str (twS tw)]) b9.2 htt
              have eT : upd G8 tt (.tup [.str "tunnel", .ref td, .int (m : Int), .str (twS tw)]) tt = some (.tup [.str "tunnel", .ref td, .int (m : Int), .str (twS tw)]) := upd_same
              generalize upd G8 tt (.tup [.str "tunnel", .ref td, .int (m : Int), .str (twS tw)]) = G9 at b10 eT ⊢
              have b810 := (b8.trans b9).trans b10
              have b710 := b7.trans b810
              have hL6 := bt_lst (bt3.trans (b56)) ne hLG
              have hL9 := bt_lst b710 ne hL6
              have ht9 : G9 t1 = some (.tup [V.int (((1 + x).toNat : Nat) : Int), V.ref L2]) := bt_tup (b56.trans b710) b4.2 ht1
              have p2 := at_ne b3.2 n2
              have hL29 : G9 L2 = some (.lst ys) := bt_lst (b56.trans b710) p2 hL2
              refine set_then (i := 7) ?_
              refine ⟨_, rfl, t1, _, _, _, rfl, rfl, SqT.of ht9, (by exact atI_nat (xs := [V.int (((1 + x).toNat : Nat) : Int), V.ref L2]) (j := 0) rfl), ?_⟩
              refine ⟨_, rfl, t1, _, _, _, rfl, rfl, SqT.of ht9, (by exact atI_nat (xs := [V.int (((1 + x).toNat : Nat) : Int), V.ref L2]) (j := 1) rfl), ?_⟩
              dsimp only [tNoPart, tPart]
              refine draw_vv rfl b10.2 (by decide) (by decide +kernel) fun u G10 u0 u1 b11 => ⟨_, rfl, ?_⟩
              obtain ⟨un, rfl⟩ := Int.eq_ofNat_of_zero_le u0
              refine ⟨L2, ys, rfl, SqL.of (bt_lst b11 p2 hL29), fun L3 nL3 => ?_⟩
              rw [cut_hi]
              have b12 := Bt.new (.lst (ys.take un)) b11.2 nL3
              refine ⟨_, rfl, line2.2.2.1, fun L4 nL4 => ?_⟩
              have b13 := Bt.new (.lst [.ref tt]) b12.2 nL4
              have e3 : (upd (upd G10 L3 (.lst (ys.take un))) L4 (.lst [.ref tt])) L3 = some (.lst (ys.take un)) := (Same.of_upd nL4) _ _ upd_same
              have ylen := hR2.len
              refine ⟨L3, L4, _, _, rfl, rfl, e3, upd_same, by rw [List.length_take, List.length_singleton]; exact Nat.le_trans (show _ ≤ 4 by omega) (by decide), fun L5 nL5 => ⟨line2.1, fun t5 nt5 => ?_⟩⟩
              have b14 := Bt.new (.lst (ys.take un ++ [.ref tt])) b13.2 nL5
              have b15 := Bt.new (.tup [V.int (((1 + x).toNat : Nat) : Int), V.ref L5]) b14.2 nt5
              have bx := (b11.trans (b12.trans (b13.trans (b14.trans b15))))
              have e5 : (upd (upd (upd (upd G10 L3 (.lst (ys.take un))) L4 (.lst [.ref tt])) L5 (.lst (ys.take un ++ [.ref tt]))) t5 (.tup [V.int (((1 + x).toNat : Nat) : Int), V.ref L5])) L5 = some (.lst (ys.take un ++ [.ref tt])) := (Same.of_upd nt5) _ _ upd_same
              have e6 : (upd (upd (upd (upd G10 L3 (.lst (ys.take un))) L4 (.lst [.ref tt])) L5 (.lst (ys.take un ++ [.ref tt]))) t5 (.tup [V.int (((1 + x).toNat : Nat) : Int), V.ref L5])) t5 = some (.tup [V.int (((1 + x).toNat : Nat) : Int), V.ref L5]) := upd_same
              have n5 : L5 ≠ L := fun z => by
                have := bt_lst (b11.trans (b12.trans b13)) ne hL9
                rw [z, this] at nL5
                cases nL5
              generalize upd (upd (upd (upd G10 L3 (.lst (ys.take un))) L4 (.lst [.ref tt])) L5 (.lst (ys.take un ++ [.ref tt]))) t5 (.tup [V.int (((1 + x).toNat : Nat) : Int), V.ref L5]) = G15 at bx e5 e6 ⊢
              have hL15 := bt_lst bx ne hL9
              refine kk _ _ ⟨t5, _, _, _, _, rfl, ((bt3.trans b56).trans b710).trans bx, ?_⟩
              have deepAt := inner_hid b6.2 b7 (b810.trans bx) hL6 ne n3 htd hLd hR3 hRo3
              have dw := M.deep_way (h := (1 + x).toNat) (s := s2.take un) (w := .mk (1 + x2).toNat s3) (m := m) (tw := tw) (by omega) (by omega) (by rw [List.length_take]; omega) (fun y hy => hRo y (List.mem_of_mem_take hy)) q1.1 q1.2.1 (by rw [q1.2.2]; exact l4) m1 m2
              refine ⟨.mk (1 + x).toNat (s2.take un ++ [.tunnel (.mk (1 + x2).toNat s3) m tw]), ?_, dw⟩
              unfold RowsAt
              refine ⟨t5, L5, _, rfl, hid_tup hL15 e6, by rw [hid_at n5]; exact e5, ?_⟩
              refine (RowAll.roads (fun a zs e => hid_tup hL15 (bt_tup ((b56.trans b710).trans bx) b4.2 e)) hRo hR2).take un |>.snoc ?_
              unfold RowAt
              exact ⟨tt, .ref td, rfl, hid_tup hL15 (bt_tup bx b10.2 eT), deepAt⟩
            · exact kk _ _ ⟨t1, _, _, _, _, rfl, bt3.trans b5, plain _ b5⟩
        · refine ⟨_, rfl, .inl ⟨rfl, _, SqL.of (bt_lst b2 ne hLG)⟩, _, rfl, _, rfl, p, h, rfl, b2.2, fun t G2 c ts lw c1 c2 b3 ht => ?_⟩
          have b5 := b2.trans b3
          refine ⟨L, xs, _, rfl, rfl, bt_lst b5 ne hLG, hlt, ?_⟩
          obtain ⟨f1, f2⟩ := fit_next (y := .road (h + c) ts lw) (t := t) ne hL0 bG b5 hR (by unfold RowAt; exact ⟨t, rfl, hid_tup (bt_lst b5 ne hLG) ht⟩)
          exact ⟨f1, _, _, _, _, _, _, _, rfl, upd_same, f2, by simp; exact hs, hall _ ⟨by unfold M.Step.fine; omega, by show 0 ≤ 2; omega, by show 0 ≤ 4; omega⟩⟩
    · rintro σ G ⟨bG, xs, s, q1, q2, q3, q4, q5, rfl, hLG, hR, hs, hSm⟩
      refine ⟨_, rfl, _, rfl, line2.1, fun t ht => ?_⟩
      have b2 := Bt.new (.tup [.int (h : Int), .ref L]) bG.2 ht
      refine k (.mk h s) _ _ (bG.trans b2) ?_ (M.fit_way h1 h2 (by omega) (by omega) hSm) h2
      unfold RowsAt
      exact ⟨t, L, xs, rfl, upd_same, bt_lst b2 ne hLG, (hR.bt (Bt.same hid_same (hid_S ne bG.2)) (hid_S ne bG.2)).bt b2 bG.2⟩
end
end WP

end
section
set_option autoImplicit false
set_option Elab.async false
set_option linter.all false
set_option maxRecDepth 100000
set_option maxHeartbeats 4000000
/-! ## ways made of rows -/
namespace WP
open PySem L2 G
abbrev sLMade : Stmt := top 78
open CP (KeepT)
theorem Kp.keepT {L : Addr} {H H' : Hp} {xs : List V} (k : Kp L H H') (hL : H L = some (.lst xs)) : KeepT H H' := fun a o n e => k a o (fun z => by rw [z, hL] at e; cases e; exact n _ rfl) e
theorem Same.keepT {H H' : Hp} (s : Same H H') : KeepT H H' := fun a o _ e => s a o e
mutual
theorem RowsAt.mono {H H' : Hp} (s : Same H H') : ∀ {w : M.Way} {v : V}, RowsAt H w v → RowsAt H' w v
  | .mk h st, v, x => by
    unfold RowsAt at x ⊢
    obtain ⟨t, L, xs, e, h1, h2, h3⟩ := x
    exact ⟨t, L, xs, e, s _ _ h1, s _ _ h2, RowAll.mono s h3⟩
theorem RowAll.mono {H H' : Hp} (s : Same H H') : ∀ {st : List M.Step} {xs : List V}, RowAll H st xs → RowAll H' st xs
  | [], xs, x => by
    unfold RowAll at x ⊢
    exact x
  | y :: r, xs, x => by
    unfold RowAll at x ⊢
    obtain ⟨u, ys, e, h1, h2⟩ := x
    exact ⟨u, ys, e, RowAt.mono s h1, RowAll.mono s h2⟩
theorem RowAt.mono {H H' : Hp} (s : Same H H') : ∀ {st : M.Step} {x : V}, RowAt H st x → RowAt H' st x
  | .road size ts lw, v, x => by
    unfold RowAt at x ⊢
    obtain ⟨t, e, h⟩ := x
    exact ⟨t, e, s _ _ h⟩
  | .join most, v, x => by
    unfold RowAt at x ⊢
    obtain ⟨t, e, h⟩ := x
    exact ⟨t, e, s _ _ h⟩
  | .tunnel w most tw, v, x => by
    unfold RowAt at x ⊢
    obtain ⟨t, u, e, h, h2⟩ := x
    exact ⟨t, u, e, s _ _ h, RowsAt.mono s h2⟩
end
theorem at0 {y0 : V} {ys : List V} : atI (y0 :: ys) (0 : Int) = some y0 := by exact atI_nat (xs := y0 :: ys) (j := 0) rfl
theorem at1 {y0 y1 : V} {ys : List V} : atI (y0 :: y1 :: ys) (1 : Int) = some y1 := by exact atI_nat (xs := y0 :: y1 :: ys) (j := 1) rfl
theorem at2 {y0 y1 y2 : V} {ys : List V} : atI (y0 :: y1 :: y2 :: ys) (2 : Int) = some y2 := by exact atI_nat (xs := y0 :: y1 :: y2 :: ys) (j := 2) rfl
theorem at3 {y0 y1 y2 y3 : V} {ys : List V} : atI (y0 :: y1 :: y2 :: y3 :: ys) (3 : Int) = some y3 := by exact atI_nat (xs := y0 :: y1 :: y2 :: y3 :: ys) (j := 3) rfl
theorem yesS {a : Str} : decide (V.str a = V.str a) = true := decide_eq_true rfl
theorem noS {a b : Str} (h : a ≠ b) : decide (V.str a = V.str b) = false := decide_eq_false fun z => h (V.str.inj z)
/-- s[0] == kind, of a step's row -/
def kindOf : M.Step → Str
  | .road _ _ _ => "road"
  | .join _ => "join"
  | .tunnel _ _ _ => "tunnel"
theorem RowAt.kind {H : Hp} : ∀ {s : M.Step} {x : V}, RowAt H s x → ∃ t y ys, x = .ref t ∧ H t = some (.tup (.str (kindOf s) :: y :: ys))
  | .road _ _ _, x, h => by unfold RowAt at h; obtain ⟨t, e, h⟩ := h; exact ⟨t, _, _, e, h⟩
  | .join _, x, h => by unfold RowAt at h; obtain ⟨t, e, h⟩ := h; exact ⟨t, _, _, e, h⟩
  | .tunnel _ _ _, x, h => by unfold RowAt at h; obtain ⟨t, v, e, h, _⟩ := h; exact ⟨t, _, _, e, h⟩
section
variable {P : Program} {w : World} {K : PySem.W.Frag} {mg : Str → Option Value} {base : Heap} {C : Addr}
def spLMade (C : Addr) (n : Nat) : Sp := fun vs H Q _ => ∃ v wy, vs = [v] ∧ RowsAt H wy v ∧ M.Way.fine wy ∧ wy.depth ≤ n ∧ ∀ a H', Same H H' → WayAt C H' wy a → Q (.ref a) H'
theorem scMd : FnScope ["rows", "head", "steps", "found", "step"] ["rows"] (defScope sLMade) := ⟨rfl, rfl, rfl, by decide +kernel, rfl, by decide +kernel, by decide +kernel⟩
theorem ok_lmade {k n : Nat} {f : Addr} {fd : FuncData} (F : Fun K "_law_made" "_law_made" sLMade f fd) (T : Wt K mg C) (MW : Mw P w K mg base C) (hk : 7 ≤ k) (W : Df P w K mg base k "_law_made" ["rows"] (spLMade C n)) : FnOk P w K mg base CX0 (k + 1) f fd ["rows"] (spLMade C (n + 1)) := by
  obtain ⟨fI, fdI, GI, MK, bI⟩ := MW.ex
  obtain ⟨fW, fdW, GW, gW, kW, bW⟩ := W.ex
  refine F.ok scMd (fun vs H Q E h => ?_) (fun cdv A outer s H vs Q E hr h => ?_)
  · obtain ⟨v, wy, rfl, _⟩ := h
    rfl
  · obtain ⟨v, wy, rfl, hR, hf, hd, kk⟩ := h
    refine ⟨_, pss_cons (ps_asg (pv 0) (pg_tup (by rfl) (pgs_cons (pg_name (i := 1) scMd.nd rfl (.inl rfl)) (pgs_cons (pg_name (i := 2) scMd.nd rfl (.inl rfl)) pgs_nil))))
      (pss_cons (ps_set (i := 3) scMd.nd rfl (Or.inl rfl) (pe_lst pa_nil))
      (pss_cons (ps_for PassesOwn.never rfl (pi_list (pv 2)) (pg_name (i := 4) scMd.nd rfl (Or.inl rfl))
        (pss_one (ps_expr (pe_bm PySem.F.plainAttrs_list PySem.F.slot_list_append PySem.F.type_list_append mt_append (pv 3) (pa_cons (pe_ifExp (pt_cmpR op_eq (pe_ix ix_tup (pv 4) pe_int (fun _ _ => rfl)) pe_str (nomark _))
          (pe_tup (pa_cons pe_str (pa_cons (pe_call GW hr rfl gW kW bW .nil pass0 (pa_cons (pe_ix ix_tup (pv 4) pe_int (fun _ _ => rfl)) pa_nil)) (pa_cons (pe_ix ix_tup (pv 4) pe_int (fun _ _ => rfl)) (pa_cons (pe_ix ix_tup (pv 4) pe_int (fun _ _ => rfl)) pa_nil))))) (pv 4)) pa_nil)))))
      (pss_one (ps_ret (pe_make MK GI (hr.mono hk) rfl T.g bI .nil pass0 (pa_cons (pv 1) (pa_cons (pv 3) pa_nil))))))), ?_⟩
    obtain ⟨h, st⟩ := wy
    unfold RowsAt at hR
    obtain ⟨t, L, xs, rfl, ht, hL, hA⟩ := hR
    have hf0 := hf
    unfold M.Way.fine at hf
    obtain ⟨hh, hl, hall, hdd, hzz⟩ := hf
    unfold M.Way.depth at hd
    have lx := hA.len
    refine ⟨_, rfl, t, _, rfl, SqT.of ht, rfl, _, _, rfl, _, _, rfl, rfl, ?_⟩
    refine ⟨line2.2.2.2, fun D hD => ?_⟩
    have s0 : Same H (upd H D (.lst [])) := Same.of_upd hD
    refine ⟨_, rfl, L, rfl, ⟨_, SqL.of (s0 _ _ hL)⟩, for_list (K := K) (a := L) (xs := xs) (fun i σ G => Same H G ∧ ∃ acc q, σ = [some (.ref t), some (.int (h : Int)), some (.ref L), some (.ref D), q] ∧ G D = some (.lst acc) ∧ StepsAt C G (st.take i) acc)
      ⟨s0, [], _, rfl, upd_same, by unfold StepsAt; rfl⟩ (fun i σ G _ z => SqL.of (z.1 _ _ hL)) ?_ ?_⟩
    · rintro i x σ G hx ⟨s1, acc, q, rfl, hAc, hSt⟩
      obtain ⟨y, hy, hat⟩ := hA.get hx
      have la := hSt.len
      have et := take_snoc hy
      have lt : acc.length < sizeLine := small1000 (by rw [la, List.length_take]; omega)
      have fin : ∀ (G2 : Hp) (u : V), Same G G2 → StepAt C G2 y u → Same H (upd G2 D (.lst (acc ++ [u]))) ∧ ∃ acc2 q, [some (V.ref t), some (.int (h : Int)), some (.ref L), some (.ref D), some x] = [some (.ref t), some (.int (h : Int)), some (.ref L), some (.ref D), q] ∧ (upd G2 D (.lst (acc ++ [u]))) D = some (.lst acc2) ∧ StepsAt C (upd G2 D (.lst (acc ++ [u]))) (st.take (i + 1)) acc2 := fun G2 u s2 hu => by
        refine ⟨fun a o e => ?_, _, _, rfl, upd_same, ?_⟩
        · rw [upd_ne (fun z => by rw [z, hD] at e; cases e)]
          exact s2 _ _ (s1 _ _ e)
        · rw [et]
          have kp : KeepT G2 (upd G2 D (.lst (acc ++ [u]))) := Kp.keepT Kp.put (s2 _ _ hAc)
          exact ((hSt.keep (Same.keepT s2)).keep kp).snoc (hu.keep kp)
      dsimp only
      refine ⟨_, rfl, .inl ⟨rfl, _, SqL.of hAc⟩, ?_⟩
      obtain ⟨tx, y0, ys0, rfl, hk0⟩ := hat.kind
      refine ⟨_, rfl, tx, _, _, _, rfl, rfl, SqT.of (s1 _ _ hk0), at0, rfl, _, rfl, ?_⟩
      cases y with
      | road size ts lw =>
        rw [show decide (V.str (kindOf (.road size ts lw)) = V.str "tunnel") = false from noS kinds.2.1]
        refine iteF ⟨_, rfl, D, acc, _, rfl, rfl, hAc, lt, fin G _ (Same.refl _) ?_⟩
        unfold RowAt at hat
        unfold StepAt
        obtain ⟨t2, e2, h2⟩ := hat
        exact ⟨t2, e2, s1 _ _ h2⟩
      | join most =>
        rw [show decide (V.str (kindOf (.join most)) = V.str "tunnel") = false from noS kinds.2.2.1]
        refine iteF ⟨_, rfl, D, acc, _, rfl, rfl, hAc, lt, fin G _ (Same.refl _) ?_⟩
        unfold RowAt at hat
        unfold StepAt
        obtain ⟨t2, e2, h2⟩ := hat
        exact ⟨t2, e2, s1 _ _ h2⟩
      | tunnel wi most tw =>
        rw [show decide (V.str (kindOf (.tunnel wi most tw)) = V.str "tunnel") = true from yesS]
        unfold RowAt at hat
        obtain ⟨t2, v2, e2, h2, hin⟩ := hat
        cases e2
        have fi := fine_get hall hy
        unfold M.Step.fine at fi
        have di := M.dep_le hy
        have h3 := SqT.of (K := K) (s1 _ _ h2)
        refine iteT ⟨_, rfl, tx, _, _, _, rfl, rfl, h3, at1, v2, wi, rfl, hin.mono s1, fi.1, ?_, fun a G2 s2 hwa => ?_⟩
        · have e : M.Step.dep (.tunnel wi most tw) = wi.depth := rfl
          omega
        have h4 := SqT.of (K := K) (s2 _ _ (s1 _ _ h2))
        refine ⟨_, rfl, tx, _, _, _, rfl, rfl, h4, at2, _, rfl, tx, _, _, _, rfl, rfl, h4, at3, (by show 4 ≤ sizeLine; decide), fun u hu => ?_⟩
        have s3 : Same G2 (upd G2 u (.tup [.str "tunnel", .ref a, .int (most : Int), .str (twS tw)])) := Same.of_upd hu
        refine ⟨D, acc, _, rfl, rfl, s3 _ _ (s2 _ _ hAc), lt, fin _ _ (s2.trans s3) ?_⟩
        unfold StepAt
        exact ⟨u, a, rfl, upd_same, hwa.mono s3⟩
    · rintro σ G ⟨s1, acc, q, rfl, hAc, hSt⟩
      have e : st.take xs.length = st := by rw [lx]; exact List.take_length
      rw [e] at hSt
      refine ⟨_, rfl, _, rfl, ?_⟩
      exact made_way (.inl hAc) hSt hf0 fun x H' s2 wa => kk x H' (s1.trans s2) wa
/-- a def as it stands behind the top -/
structure Fd (K : PySem.W.Frag) (mg : Str → Option Value) (x : Str) (st : Stmt) (ps : List Str) : Prop where
  ex : ∃ (f : Addr) (fd : FuncData), Fun K x x st f fd ∧ mg x = some (.ref f) ∧ PySem.W.keepIn K (.ref f) = true ∧ Binds K fd ps []
theorem Fd.df {x : Str} {st : Stmt} {ps : List Str} {k : Nat} {sp : Sp} (h : Fd K mg x st ps) (ok : ∀ f fd, Fun K x x st f fd → FnOk P w K mg base CX0 k f fd ps sp) : Df P w K mg base k x ps sp := by
  obtain ⟨f, fd, h1, h2, h3, h4⟩ := h.ex
  exact ⟨f, fd, ok f fd h1, h2, h3, h4⟩
theorem df_made (T : Wt K mg C) (MW : Mw P w K mg base C) (Z : Fd K mg "_law_made" sLMade ["rows"]) : ∀ n, Df P w K mg base (8 + n) "_law_made" ["rows"] (spLMade C n)
  | 0 => Z.df fun f fd F => F.ok scMd (fun vs H Q E h => by
      obtain ⟨v, wy, rfl, _⟩ := h
      rfl) (fun cdv A outer s H vs Q E hr h => by
      exfalso
      obtain ⟨v, wy, _, _, _, hd, _⟩ := h
      have := depth_pos wy
      omega)
  | n + 1 => Z.df fun f fd F => ok_lmade F T MW (by show 7 ≤ 8 + n; omega) (df_made T MW Z n)
end
end WP

end
section
set_option autoImplicit false
set_option Elab.async false
set_option linter.all false
set_option maxRecDepth 100000
set_option maxHeartbeats 4000000
/-! ## rows as data; != of tuples that are equal; what the law's tries tell -/
namespace CP
open PySem L2 G Y
mutual
/-- rows as data -/
def dRow : M.Way → PyData
  | .mk h s => .tuple [.int (h : Int), .list (dRows s)]
def dRows : List M.Step → List PyData
  | [] => []
  | s :: r => dRst s :: dRows r
def dRst : M.Step → PyData
  | .road size ts lw => .tuple [.str "road", .int (size : Int), .str (WP.sdS ts), .str (WP.lwS lw)]
  | .join most => .tuple [.str "join", .int (most : Int)]
  | .tunnel w most t => .tuple [.str "tunnel", dRow w, .int (most : Int), .str (WP.twS t)]
end
mutual
theorem dp_row {K : PySem.W.Frag} {H : Hp} : ∀ {w : M.Way} {v : V}, WP.RowsAt H w v → Dp K H v (dRow w)
  | .mk h s, v, x => by
    unfold WP.RowsAt at x
    unfold dRow
    obtain ⟨t, L, xs, rfl, h1, h2, h3⟩ := x
    exact .tup (SqT.of h1) (.cons (.int _) (.cons (.lst (SqL.of h2) (dp_rows h3)) .nil))
theorem dp_rows {K : PySem.W.Frag} {H : Hp} : ∀ {s : List M.Step} {xs : List V}, WP.RowAll H s xs → DpAll K H xs (dRows s)
  | [], xs, x => by
    unfold WP.RowAll at x
    unfold dRows
    subst x
    exact .nil
  | y :: r, xs, x => by
    unfold WP.RowAll at x
    unfold dRows
    obtain ⟨u, ys, rfl, h1, h2⟩ := x
    exact .cons (dp_rst h1) (dp_rows h2)
theorem dp_rst {K : PySem.W.Frag} {H : Hp} : ∀ {s : M.Step} {v : V}, WP.RowAt H s v → Dp K H v (dRst s)
  | .road size ts lw, v, x => by
    unfold WP.RowAt at x
    unfold dRst
    obtain ⟨t, rfl, h⟩ := x
    exact .tup (SqT.of h) (.cons (.str _) (.cons (.int _) (.cons (.str _) (.cons (.str _) .nil))))
  | .join most, v, x => by
    unfold WP.RowAt at x
    unfold dRst
    obtain ⟨t, rfl, h⟩ := x
    exact .tup (SqT.of h) (.cons (.str _) (.cons (.int _) .nil))
  | .tunnel w most tw, v, x => by
    unfold WP.RowAt at x
    unfold dRst
    obtain ⟨t, u, rfl, h, h2⟩ := x
    exact .tup (SqT.of h) (.cons (.str _) (.cons (dp_row h2) (.cons (.int _) (.cons (.str _) .nil))))
end
mutual
theorem lay_row : ∀ w : M.Way, (dRow w).canLay0 = (dWay w).canLay0 ∧ (dRow w).depth = (dWay w).depth
  | .mk h s => by
    obtain ⟨a, b⟩ := lay_rows s
    unfold dRow dWay
    exact ⟨by simp only [PyData.canLay0, PyData.canLayAll0, a], by simp only [PyData.depth, PyData.depthAll, b]⟩
theorem lay_rows : ∀ s : List M.Step, PyData.canLayAll0 (dRows s) = PyData.canLayAll0 (dSteps s) ∧ PyData.depthAll (dRows s) = PyData.depthAll (dSteps s)
  | [] => by
    unfold dRows dSteps
    exact ⟨rfl, rfl⟩
  | y :: r => by
    obtain ⟨a, b⟩ := lay_rst y
    obtain ⟨c, d⟩ := lay_rows r
    unfold dRows dSteps
    exact ⟨by simp only [PyData.canLayAll0, a, c], by simp only [PyData.depthAll, b, d]⟩
theorem lay_rst : ∀ s : M.Step, (dRst s).canLay0 = (dStep s).canLay0 ∧ (dRst s).depth = (dStep s).depth
  | .road size ts lw => by unfold dRst dStep; exact ⟨rfl, rfl⟩
  | .join most => by unfold dRst dStep; exact ⟨rfl, rfl⟩
  | .tunnel w most t => by
    obtain ⟨a, b⟩ := lay_row w
    unfold dRst dStep
    exact ⟨by simp only [PyData.canLay0, PyData.canLayAll0, a], by simp only [PyData.depth, PyData.depthAll, b]⟩
end
theorem ne_kind {a b : Str} (h : a ≠ b) {xs ys : List PyData} : PyData.eqv (.tuple (.str a :: xs)) (.tuple (.str b :: ys)) = false := by
  have e : (a == b) = false := beq_eq_false_iff_ne.mpr h
  simp only [PyData.eqv, PyData.eqvAll, e, Bool.false_and]
mutual
theorem eqv_row : ∀ (w u : M.Way), PyData.eqv (dRow w) (dRow u) = PyData.eqv (dWay w) (dWay u)
  | .mk h s, .mk g r => by
    have e := eqv_rows s r
    unfold dRow dWay
    simp only [PyData.eqv, PyData.eqvAll, e]
  termination_by w => sizeOf w
theorem eqv_rows : ∀ (s r : List M.Step), PyData.eqvAll (dRows s) (dRows r) = PyData.eqvAll (dSteps s) (dSteps r)
  | [], [] => by unfold dRows dSteps; rfl
  | [], y :: r => by unfold dRows dSteps; simp only [PyData.eqvAll]
  | x :: s, [] => by unfold dRows dSteps; simp only [PyData.eqvAll]
  | x :: s, y :: r => by
    have e1 := eqv_rst x y
    have e2 := eqv_rows s r
    unfold dRows dSteps
    simp only [PyData.eqvAll, e1, e2]
  termination_by s => sizeOf s
theorem eqv_rst : ∀ (s r : M.Step), PyData.eqv (dRst s) (dRst r) = PyData.eqv (dStep s) (dStep r)
  | .road a b c, .road a' b' c' => by unfold dRst dStep; rfl
  | .join a, .join b => by unfold dRst dStep; rfl
  | .tunnel w a b, .tunnel w' a' b' => by
    have e := eqv_row w w'
    unfold dRst dStep
    simp only [PyData.eqv, PyData.eqvAll, e]
  | .road a b c, .join d => by unfold dRst dStep; rfl
  | .road a b c, .tunnel x y z => by
    unfold dRst dStep
    rw [ne_kind kinds_ne.2.1, ne_kind kinds_ne.2.1]
  | .join d, .road a b c => by unfold dRst dStep; rfl
  | .join d, .tunnel x y z => by
    unfold dRst dStep
    rw [ne_kind kinds_ne.2.2.2.1, ne_kind kinds_ne.2.2.2.1]
  | .tunnel x y z, .road a b c => by
    unfold dRst dStep
    rw [ne_kind kinds_ne.2.2.2.2.1, ne_kind kinds_ne.2.2.2.2.1]
  | .tunnel x y z, .join d => by
    unfold dRst dStep
    rw [ne_kind kinds_ne.2.2.2.2.2, ne_kind kinds_ne.2.2.2.2.2]
  termination_by s => sizeOf s
end
theorem shp_row {w : M.Way} (h : w.depth ≤ 3) : SeqAt.shaped (dRow w) = true := by
  obtain ⟨a, b⟩ := lay_row w
  have c := shp_way h
  unfold SeqAt.shaped at c ⊢
  rw [a, b]
  exact c
end CP
namespace EB
open PySem PySem.Spec PyProof.Rows L2
/-- x != y of tuples that are equal item by item -/
def rNeB (K : PySem.W.Frag) (D : Cmp) : R2 := fun x y H Q => ∃ a b xs ys, x = .ref a ∧ y = .ref b ∧ SqT K H a xs ∧ SqT K H b ys ∧ xs.length = ys.length ∧ (∀ (i : Nat) x y, xs[i]? = some x → ys[i]? = some y → D x y true H) ∧ ∀ H', Ext H H' → Q (.bl false) H'
section
variable {X : Cx} {n : Nat} {D : Cmp}
theorem op_neB (hD : MonB D) (h : EqB X n D) (hr : Room (n + 1) X.A) : OpR X (compareOp .NotEq) (rNeB X.K D) := by
  intro pins s σ H x y v u Q I rx ry hq
  obtain ⟨a, b, xs, ys, rfl, rfl, ha, hb, el, p, q⟩ := hq
  cases rx
  cases ry
  obtain ⟨ia, ra, ea, -⟩ := I.tuple ha
  obtain ⟨ib, rb, eb, -⟩ := I.tuple hb
  have za : ia.toArray.size = xs.length := by rw [List.size_toArray, ra.length]
  have zb : ib.toArray.size = ys.length := by rw [List.size_toArray, rb.length]
  have sb : Sub X (n + 1) X.A := ⟨hr, rfl⟩
  show wpAny (model X.prog X.w) X.A (richCompare .NotEq (.ref a) (.ref b)) (EP X pins σ Q) X.xe s
  refine NQ.rc_ne (by rw [za, zb, el]) hr.units0 (fun _ t => LoopI X pins σ H t) ea eb (fun k k1 k2 t j => ?_) (fun t l => ?_) ⟨H, I, Ext.rfl'⟩
  · obtain ⟨H1, I1, x1⟩ := j
    have q1 : k < xs.length := by omega
    have q2 : k < ys.length := by omega
    obtain ⟨u, hu, ru⟩ := ra.get (List.getElem?_eq_getElem q1)
    obtain ⟨v, hv, rv⟩ := rb.get (List.getElem?_eq_getElem q2)
    have g1 : ia[k]? = some ia.toArray[k] := by simp
    have g2 : ib[k]? = some ib.toArray[k] := by simp
    rw [g1] at hu
    rw [g2] at hv
    rw [Option.some.inj hu, Option.some.inj hv]
    refine wpAny_mono (h X.A.in1 pins t σ H1 _ _ u v true sb.in1 I1 ru rv (hD _ _ _ _ _ x1 (p k _ _ (List.getElem?_eq_getElem q1) (List.getElem?_eq_getElem q2)))) (fun r t2 q => ?_) fun _ _ x => x
    obtain ⟨hr, H2, I2, x2⟩ := q
    exact ⟨hr, H2, I2, x1.trans x2⟩
  · obtain ⟨H1, I1, x1⟩ := l
    exact ⟨.bl false, H1, I1, rfl, q H1 x1⟩
end
end EB

end
section
set_option autoImplicit false
set_option Elab.async false
set_option linter.all false
set_option maxRecDepth 100000
set_option maxHeartbeats 4000000
/-! ## _law_sum, _law_less, _law_at -/
namespace WP
open PySem L2 G
abbrev sLSum : Stmt := top 79
abbrev sLLess : Stmt := top 80
abbrev sLAt : Stmt := top 81
/-- the own errors of ways: which clause takes which -/
structure Exs (K : PySem.W.Frag) (mg : Str → Option Value) (CO CB CG CN : Addr) : Prop where
  gO : mg "OtherHead" = some (.ref CO)
  gB : mg "BadSteps" = some (.ref CB)
  gG : mg "TooGreat" = some (.ref CG)
  gN : mg "NoStep" = some (.ref CN)
  lO : G.Cl K CO "head"
  lB : G.Cl K CB "value"
  lG : G.Cl K CG "size"
  lN : G.Cl K CN "value"
  oo : PySem.W.exmOne K (.ref CO) (.ref CO) = some true
  bo : PySem.W.exmOne K (.ref CB) (.ref CO) = some false
  bb : PySem.W.exmOne K (.ref CB) (.ref CB) = some true
  go : PySem.W.exmOne K (.ref CG) (.ref CO) = some false
  gb : PySem.W.exmOne K (.ref CG) (.ref CB) = some false
  gg : PySem.W.exmOne K (.ref CG) (.ref CG) = some true
  nn : PySem.W.exmOne K (.ref CN) (.ref CN) = some true
  bn : PySem.W.exmOne K (.ref CB) (.ref CN) = some false
/-- return (word, error.f) -/
def tEr (K : PySem.W.Frag) (i : Nat) (wd : Str) (D : Addr) (f : Str) : Suit := fun a k d => tRet (tTup (tCons (tC (.str wd)) (tCons (tXf a k d D f (tVar i)) tNil)))
theorem er_of {K : PySem.W.Frag} {i : Nat} {wd f : Str} {CE : Addr} {a d : Addr} {v : V} {D : Ends} {σ : L2.St} {G : Hp} (hi : i < σ.length) (hd : G d = some (.xd [(f, v)])) (k : ∀ t G', Same G G' → G' t = some (.tup [.str wd, v]) → D.rt (.ref t) G') : tEr K i wd CE f a (.ref CE) (some d) (gone i D) (σ.set i (some (.ref a))) G := by
  refine ⟨.ref a, by rw [List.getElem?_set_self hi], rfl, rfl, d, _, v, rfl, hd, look_one, line2.1, fun t ht => k t _ (Same.of_upd ht) upd_same⟩
section
variable {P : Program} {w : World} {K : PySem.W.Frag} {mg : Str → Option Value} {base : Heap} {C CB CG CO CN : Addr}
/-- what is told of a sum -/
def spLSum (C : Addr) : Sp := fun vs H Q _ => ∃ a b w1 w2, vs = [.ref a, .ref b] ∧ WayAt C H w1 a ∧ WayAt C H w2 b ∧ M.Way.fine w1 ∧ M.Way.fine w2 ∧
  (∀ t H', Same H H' →
    (w1.head ≠ w2.head ∧ H' t = some (.tup [.str "head", .int ((w2.head : Nat) : Int)])) ∨
    (w1.head = w2.head ∧ ¬ (w1.steps ++ w2.steps).length ≤ 12 ∧ ∃ l xs, H' t = some (.tup [.str "steps", .ref l]) ∧ H' l = some (.tup xs) ∧ StepsAt C H' (w1.steps ++ w2.steps) xs) ∨
    (w1.head = w2.head ∧ (w1.steps ++ w2.steps).length ≤ 12 ∧ ¬ (w1.steps ++ w2.steps).length + M.Step.inner (w1.steps ++ w2.steps) ≤ 40 ∧ H' t = some (.tup [.str "great", .int (((w1.steps ++ w2.steps).length + M.Step.inner (w1.steps ++ w2.steps) : Nat) : Int)])) ∨
    (w1.head = w2.head ∧ M.Way.fine (.mk w1.head (w1.steps ++ w2.steps)) ∧ ∃ c, H' t = some (.tup [.str "made", .ref c]) ∧ WayAt C H' (.mk w1.head (w1.steps ++ w2.steps)) c) → Q (.ref t) H')
theorem app_len {s r : List M.Step} : (s ++ r).length = s.length + r.length := List.length_append
theorem scLS : FnScope ["one", "two", "error"] ["one", "two"] (defScope sLSum) := ⟨rfl, rfl, rfl, by decide +kernel, rfl, by decide +kernel, by decide +kernel⟩
structure Ax (P : Program) (w : World) (K : PySem.W.Frag) (mg : Str → Option Value) (base : Heap) (C : Addr) (k : Nat) (m : Str) (ps : List Str) (sp : Sp) : Prop where
  ex : ∃ (f : Addr) (fd : FuncData), FnOk P w K mg base (L2.CX P w) k f fd ps sp ∧ WO.Own K C f m ∧ Binds K fd ps []
theorem ok_lsum {f : Addr} {fd : FuncData} (F : Fun K "_law_sum" "_law_sum" sLSum f fd) (X : Exs K mg CO CB CG CN) (sfW : PySem.W.selfFirst K C = true) (DA : Ax P w K mg base C 8 "__add__" ["self", "other"] (spAddW C CB CG CO)) : FnOk P w K mg base CX0 9 f fd ["one", "two"] (spLSum C) := by
  obtain ⟨fA, fdA, GA, OA, bA⟩ := DA.ex
  refine F.ok scLS (fun vs H Q E h => ?_) (fun cdv A outer s H vs Q E hr h => ?_)
  · obtain ⟨a, b, w1, w2, rfl, _⟩ := h
    rfl
  · obtain ⟨a, b, w1, w2, rfl, h1, h2, f1, f2, kk⟩ := h
    refine ⟨_, pss_one (ps_try_all (i := 2) (tq := fun W => tRet (tTup (tCons (tC (.str "made")) (tCons (WO.tAddS C (spAddW C CB CG CO) (WE W) (tVar 0) (tVar 1)) tNil)))) (l := [(.ref CO, tEr K 2 "head" CO "head"), (.ref CB, tEr K 2 "steps" CB "value"), (.ref CG, tEr K 2 "great" CG "size")]) (W0 := fun _ _ _ _ => False) rfl rfl scLS.nd rfl rfl takes0
      (fun W pz xz tk _ => pss_one (ps_ret (by exact pe_tup (pa_cons pe_str (pa_cons (WO.pe_addS GA hr OA sfW bA (fun σ => passAt tk σ) (pv 0) (pv 1)) pa_nil)))))
      (.cons ⟨rfl, by decide, Or.inl X.gO⟩ (fun a oz k d pz hz hf => pss_one (ps_ret (by exact pe_tup (pa_cons pe_str (pa_cons (pe_xf (xf_of X.lO) X.lO.no hz hf (pv 2)) pa_nil)))))
      (.cons ⟨rfl, by decide, Or.inl X.gB⟩ (fun a oz k d pz hz hf => pss_one (ps_ret (by exact pe_tup (pa_cons pe_str (pa_cons (pe_xf (xf_of X.lB) X.lB.no hz hf (pv 2)) pa_nil)))))
      (.cons ⟨rfl, by decide, Or.inl X.gG⟩ (fun a oz k d pz hz hf => pss_one (ps_ret (by exact pe_tup (pa_cons pe_str (pa_cons (pe_xf (xf_of X.lG) X.lG.no hz hf (pv 2)) pa_nil))))) .nil)))), ?_⟩
    have i1 : WO.InsC C H a := by obtain ⟨da, fa, a1, _⟩ := head_fld h1; exact ⟨da, fa, a1⟩
    have i2 : WO.InsC C H b := by obtain ⟨da, fa, a1, _⟩ := head_fld h2; exact ⟨da, fa, a1⟩
    have n1 := (fine_parts f1).2.2.1
    refine ⟨_, rfl, _, rfl, a, b, rfl, rfl, i1, i2, a, b, w1, w2, rfl, h1, h2, f1, f2, ?_⟩
    by_cases eh : w1.head = w2.head
    · refine .inr ⟨eh, ?_⟩
      have ln : 1 ≤ (w1.steps ++ w2.steps).length := by rw [app_len]; omega
      by_cases h12 : (w1.steps ++ w2.steps).length ≤ 12
      · by_cases h40 : (w1.steps ++ w2.steps).length + M.Step.inner (w1.steps ++ w2.steps) ≤ 40
        · have ff : M.Way.fine (.mk w1.head (w1.steps ++ w2.steps)) := by
            obtain ⟨p1, p2, p3, p4, p5, p6, p7⟩ := fine_parts f1
            obtain ⟨q1, q2, q3, q4, q5, q6, q7⟩ := fine_parts f2
            unfold M.Way.fine
            exact ⟨⟨p1, p2⟩, ⟨ln, h12⟩, fineAll_app p5 (by rw [eh]; exact q5), by have := deep_app (s := w1.steps) (r := w2.steps) (d := 2) (by omega) (by omega); omega, h40⟩
          exact .inl ⟨ff, fun c H' s wa => ⟨c, rfl, line2.1, fun t ht => kk t _ (s.trans (Same.of_upd ht)) (.inr (.inr (.inr ⟨eh, ff, c, upd_same, wa.mono (Same.of_upd ht)⟩)))⟩⟩
        · refine .inr (.inr ⟨ln, h12, h40, fun H' d s hd => ⟨false, X.go, fun q => Bool.noConfusion q, fun _ => ⟨false, X.gb, fun q => Bool.noConfusion q, fun _ => ⟨true, X.gg, fun _ a0 _ => ?_, fun q => Bool.noConfusion q⟩⟩⟩⟩)
          exact er_of (K := K) (by show 2 < 3; decide) upd_same fun t G' s' ht => kk t G' ((s.trans (Same.of_upd hd)).trans s') (.inr (.inr (.inl ⟨eh, h12, h40, ht⟩)))
      · refine .inr (.inl ⟨fun z => h12 z.2, fun l xs H1 s1 hl hs H' d s hd => ⟨false, X.bo, fun q => Bool.noConfusion q, fun _ => ⟨true, X.bb, fun _ a0 _ => ?_, fun q => Bool.noConfusion q⟩⟩⟩)
        refine er_of (K := K) (by show 2 < 3; decide) upd_same fun t G' s' ht => kk t G' (((s1.trans s).trans (Same.of_upd hd)).trans s') (.inr (.inl ⟨eh, h12, l, xs, ht, s' _ _ (Same.of_upd hd _ _ (s _ _ hl)), hs.mono ((s.trans (Same.of_upd hd)).trans s')⟩))
    · refine .inl ⟨eh, fun H' d s hd => ⟨true, X.oo, fun _ a0 _ => ?_, fun q => Bool.noConfusion q⟩⟩
      exact er_of (K := K) (by show 2 < 3; decide) upd_same fun t G' s' ht => kk t G' ((s.trans (Same.of_upd hd)).trans s') (.inl ⟨eh, ht⟩)
/-- way.without(at) tried -/
def spLLess (K : PySem.W.Frag) (C : Addr) : Sp := fun vs H Q _ => ∃ (a : Addr) (v : V) (wy : M.Way), vs = [.ref a, v] ∧ WayAt C H wy a ∧ M.Way.fine wy ∧
  ((∃ i : Nat, v = .int (i : Int) ∧ i < wy.steps.length ∧ ∀ t H', Same H H' →
      (wy.steps.length = 1 ∧ ∃ l, H' t = some (.tup [.str "steps", .ref l]) ∧ H' l = some (.tup [])) ∨
      (2 ≤ wy.steps.length ∧ ∃ c, H' t = some (.tup [.str "made", .ref c]) ∧ WayAt C H' (.mk wy.head (wy.steps.take i ++ wy.steps.drop (i + 1))) c ∧ M.Way.fine (.mk wy.head (wy.steps.take i ++ wy.steps.drop (i + 1)))) → Q (.ref t) H') ∨
   (NoPos K H v wy.steps.length ∧ ∀ t H', Same H H' → H' t = some (.tup [.str "step", v]) → Q (.ref t) H'))
theorem inner_cut : ∀ (s : List M.Step) (i : Nat), M.Step.inner (s.take i ++ s.drop (i + 1)) ≤ M.Step.inner s
  | [], i => by rw [List.take_nil, List.drop_nil]; exact Nat.le_refl _
  | x :: s, 0 => by
    rw [List.take_zero, List.drop_succ_cons, List.drop_zero, List.nil_append, M.inner_cons]
    omega
  | x :: s, i + 1 => by
    have := inner_cut s i
    rw [List.take_succ_cons, List.drop_succ_cons]
    show M.Step.inner (x :: (s.take i ++ s.drop (i + 1))) ≤ _
    rw [M.inner_cons, M.inner_cons]
    omega
theorem cut_len {s : List M.Step} {i : Nat} (h : i < s.length) : (s.take i ++ s.drop (i + 1)).length = s.length - 1 := by
  rw [List.length_append, List.length_take, List.length_drop]
  omega
theorem scLL : FnScope ["way", "at", "error"] ["way", "at"] (defScope sLLess) := ⟨rfl, rfl, rfl, by decide +kernel, rfl, by decide +kernel, by decide +kernel⟩
structure Mx (P : Program) (w : World) (K : PySem.W.Frag) (mg : Str → Option Value) (base : Heap) (C : Addr) (k : Nat) (m : Str) (ps : List Str) (sp : Sp) : Prop where
  ex : ∃ (f : Addr) (fd : FuncData), FnOk P w K mg base (L2.CX P w) k f fd ps sp ∧ Meth K C m f ∧ Binds K fd ps []
theorem flds_no {m : Str} (h : ¬ (("head" : Str) = m) ∧ ¬ (("steps" : Str) = m) ∧ ¬ (("depth" : Str) = m) ∧ ¬ (("size" : Str) = m)) (z : Int) (t : Addr) (D Z : Int) : (flds z t D Z).lookup m = none := by
  unfold flds
  rw [lookup_putF, if_neg (fun e => h.2.2.2 e.symm), lookup_putF, if_neg (fun e => h.2.2.1 e.symm), lookup_putF, if_neg (fun e => h.2.1 e.symm), lookup_putF, if_neg (fun e => h.1 e.symm)]
  rfl
theorem way_no {H : Hp} {wy : M.Way} {a : Addr} (h : WayAt C H wy a) (m : Str) (hm : ¬ (("head" : Str) = m) ∧ ¬ (("steps" : Str) = m) ∧ ¬ (("depth" : Str) = m) ∧ ¬ (("size" : Str) = m)) : ∃ dx fs, H a = some (.ins C dx fs) ∧ fs.lookup m = none := by
  obtain ⟨wh, ws⟩ := wy
  unfold WayAt at h
  obtain ⟨dx, t, xs, h1, _⟩ := h
  exact ⟨dx, _, h1, flds_no hm _ _ _ _⟩
theorem ok_lless {f : Addr} {fd : FuncData} (F : Fun K "_law_less" "_law_less" sLLess f fd) (T : Wt K mg C) (X : Exs K mg CO CB CG CN) (DM : Mx P w K mg base C 8 "without" ["self", "position"] (spOutW K C CB CG CN)) : FnOk P w K mg base CX0 9 f fd ["way", "at"] (spLLess K C) := by
  obtain ⟨fM, fdM, GM, mM, bM⟩ := DM.ex
  refine F.ok scLL (fun vs H Q E h => ?_) (fun cdv A outer s H vs Q E hr h => ?_)
  · obtain ⟨a, v, wy, rfl, _⟩ := h
    rfl
  · obtain ⟨a, v, wy, rfl, hw, hf, hh⟩ := h
    refine ⟨_, pss_one (ps_try_all (i := 2) (tq := fun W => tRet (tTup (tCons (tC (.str "made")) (tCons (WO.tMethS C "without" (spOutW K C CB CG CN) (WE W) (tVar 0) (tCons (tVar 1) tNil)) tNil)))) (l := [(.ref CN, tEr K 2 "step" CN "value"), (.ref CB, tEr K 2 "steps" CB "value")]) (W0 := fun _ _ _ _ => False) rfl rfl scLL.nd rfl rfl takes0
      (fun W pz xz tk _ => pss_one (ps_ret (by exact pe_tup (pa_cons pe_str (pa_cons (WO.pe_methS (pv 0) T.cl mM GM hr bM (fun σ => passAt tk σ) (pa_cons (pv 1) pa_nil)) pa_nil)))))
      (.cons ⟨rfl, by decide, Or.inl X.gN⟩ (fun a oz k d pz hz hf => pss_one (ps_ret (by exact pe_tup (pa_cons pe_str (pa_cons (pe_xf (xf_of X.lN) X.lN.no hz hf (pv 2)) pa_nil)))))
      (.cons ⟨rfl, by decide, Or.inl X.gB⟩ (fun a oz k d pz hz hf => pss_one (ps_ret (by exact pe_tup (pa_cons pe_str (pa_cons (pe_xf (xf_of X.lB) X.lB.no hz hf (pv 2)) pa_nil))))) .nil))), ?_⟩
    obtain ⟨dx, fs, i1, i2⟩ := way_no hw "without" (by decide +kernel)
    refine ⟨_, rfl, a, dx, fs, rfl, i1, i2, _, rfl, a, v, wy, rfl, hw, hf, ?_⟩
    rcases hh with ⟨i, rfl, hi, kk⟩ | ⟨np, kk⟩
    · refine .inl ⟨i, rfl, hi, ?_⟩
      obtain ⟨p1, p2, p3, p4, p5, p6, p7⟩ := fine_parts hf
      have cl := cut_len hi
      have ci := inner_cut wy.steps i
      by_cases h1 : wy.steps.length = 1
      · refine .inr (.inl ⟨by omega, fun l xs H1 s1 hl hs H' d s hd => ⟨false, X.bn, fun q => Bool.noConfusion q, fun _ => ⟨true, X.bb, fun _ a0 _ => ?_, fun q => Bool.noConfusion q⟩⟩⟩)
        have xn : xs = [] := List.length_eq_zero_iff.mp (by rw [hs.len]; omega)
        subst xn
        exact er_of (K := K) (by show 2 < 3; decide) upd_same fun t G' s' ht => kk t G' (((s1.trans s).trans (Same.of_upd hd)).trans s') (.inl ⟨h1, l, ht, s' _ _ (Same.of_upd hd _ _ (s _ _ hl))⟩)
      · have ff : M.Way.fine (.mk wy.head (wy.steps.take i ++ wy.steps.drop (i + 1))) := by
          have dd := deep_sub (s := wy.steps) (d := 2) (by omega)
          unfold M.Way.fine
          exact ⟨⟨p1, p2⟩, ⟨by omega, by omega⟩, fineAll_app (fineAll_sub p5 i).1 (fineAll_sub p5 (i + 1)).2, by have := deep_app (dd i).1 (dd (i + 1)).2; omega, by omega⟩
        exact .inl ⟨ff, fun c H' s wa => ⟨line2.1, fun t ht => kk t _ (s.trans (Same.of_upd ht)) (.inr ⟨by omega, c, upd_same, wa.mono (Same.of_upd ht), ff⟩)⟩⟩
    · refine .inr ⟨np, fun H' d s hd => ⟨true, X.nn, fun _ a0 _ => ?_, fun q => Bool.noConfusion q⟩⟩
      exact er_of (K := K) (by show 2 < 3; decide) upd_same fun t G' s' ht => kk t G' ((s.trans (Same.of_upd hd)).trans s') ht
/-- way[at] tried -/
def spLAt (K : PySem.W.Frag) (C : Addr) : Sp := fun vs H Q _ => ∃ (a : Addr) (v : V) (wy : M.Way) (t : Addr) (xs : List V) (dx : Addr) (fs : List (Str × V)), vs = [.ref a, v] ∧ WayAt C H wy a ∧ H a = some (.ins C dx fs) ∧ fs.lookup ("steps" : Str) = some (.ref t) ∧ H t = some (.tup xs) ∧ xs.length = wy.steps.length ∧
  ((∃ (i : Nat) (x : V), v = .int (i : Int) ∧ xs[i]? = some x ∧ ∀ u H', Same H H' → H' u = some (.tup [.str "made", x]) → Q (.ref u) H') ∨ (NoPos K H v wy.steps.length ∧ ∀ u H', Same H H' → H' u = some (.tup [.str "step", v]) → Q (.ref u) H'))
theorem scLA : FnScope ["way", "at", "error"] ["way", "at"] (defScope sLAt) := ⟨rfl, rfl, rfl, by decide +kernel, rfl, by decide +kernel, by decide +kernel⟩
theorem ok_lat {f : Addr} {fd : FuncData} (F : Fun K "_law_at" "_law_at" sLAt f fd) (X : Exs K mg CO CB CG CN) (DG : Ax P w K mg base C 3 "__getitem__" ["self", "at"] (spWGet K C CN)) (nf : ∀ f, WO.Own K C f "__getitem__" → PySem.W.fnIn K f = true) : FnOk P w K mg base CX0 5 f fd ["way", "at"] (spLAt K C) := by
  obtain ⟨fG, fdG, GG, OG, bG⟩ := DG.ex
  refine F.ok scLA (fun vs H Q E h => ?_) (fun cdv A outer s H vs Q E hr h => ?_)
  · obtain ⟨a, v, wy, t, xs, dx, fs, rfl, _⟩ := h
    rfl
  · obtain ⟨a, v, wy, t, xs, dx, fs, rfl, hw, i1, i2, i3, ln, hh⟩ := h
    refine ⟨_, pss_one (ps_try_all (i := 2) (tq := fun W => tRet (tTup (tCons (tC (.str "made")) (tCons (WO.tIxS C (spWGet K C CN) (WE W) (tVar 0) (tVar 1)) tNil)))) (l := [(.ref CN, tEr K 2 "step" CN "value")]) (W0 := fun _ _ _ _ => False) rfl rfl scLA.nd rfl rfl takes0
      (fun W pz xz tk _ => pss_one (ps_ret (by exact pe_tup (pa_cons pe_str (pa_cons (WO.pe_ixS GG hr OG (nf _ OG) bG (fun σ => passAt tk σ) (pv 0) (pv 1) (fun _ _ => rfl)) pa_nil)))))
      (.cons ⟨rfl, by decide, Or.inl X.gN⟩ (fun a oz k d pz hz hf => pss_one (ps_ret (by exact pe_tup (pa_cons pe_str (pa_cons (pe_xf (xf_of X.lN) X.lN.no hz hf (pv 2)) pa_nil))))) .nil)), ?_⟩
    refine ⟨_, rfl, _, rfl, a, rfl, ⟨dx, fs, i1⟩, a, v, wy, t, xs, dx, fs, rfl, hw, i1, i2, i3, ln, ?_⟩
    rcases hh with ⟨i, x, rfl, hx, kk⟩ | ⟨np, kk⟩
    · exact .inl ⟨i, x, rfl, hx, line2.1, fun u hu => kk u _ (Same.of_upd hu) upd_same⟩
    · refine .inr ⟨np, fun H' d s hd => ⟨true, X.nn, fun _ a0 _ => ?_, fun q => Bool.noConfusion q⟩⟩
      exact er_of (K := K) (by show 2 < 3; decide) upd_same fun t G' s' ht => kk t G' ((s.trans (Same.of_upd hd)).trans s') ht
end
end WP

end
section
set_option autoImplicit false
set_option Elab.async false
set_option linter.all false
set_option maxRecDepth 100000
set_option maxHeartbeats 4000000
/-! ## _law_sum_right -/
namespace EB
open PySem PySem.Spec PyProof.Rows L2 WP
/-- a step; steps; what a try tells -/
def D2 (K : PySem.W.Frag) (C : Addr) : Cmp := BSm (BTup K (BIt C 3))
def D3 (K : PySem.W.Frag) (C : Addr) : Cmp := BSm (BTup K (D2 K C))
def D4 (K : PySem.W.Frag) (C : Addr) : Cmp := fun x y c H => BFlat x y c H ∨ (D3 K C x y c H ∨ D2 K C x y c H)
section
variable {K : PySem.W.Frag} {C : Addr}
theorem mon_d2 : MonB (D2 K C) := mon_sm (mon_tup mon_bit)
theorem mon_d3 : MonB (D3 K C) := mon_sm (mon_tup mon_d2)
theorem mon_d4 : MonB (D4 K C) := mon_or mon_flat (mon_or mon_d3 mon_d2)
theorem fs (s : Str) (H : Hp) : BFlat (.str s) (.str s) true H := ⟨rfl, rfl, by simp [eqV]⟩
theorem fi (i : Int) (H : Hp) : BFlat (.int i) (.int i) true H := ⟨rfl, rfl, by simp [eqV]⟩
theorem all_same : ∀ s : List M.Step, (List.zipWith CP.seq s s).all id = true
  | [] => rfl
  | x :: s => by
    rw [List.zipWith_cons_cons, List.all_cons, all_same s, id, CP.seq_refl]
    rfl
theorem d3_same {H : Hp} {l m : Addr} {s : List M.Step} {xs ys : List V} (hd : M.Step.deepest s ≤ 3) (h1 : H l = some (.tup xs)) (h2 : H m = some (.tup ys)) (a : StepsAt C H s xs) (b : StepsAt C H s ys) : D3 K C (.ref l) (.ref m) true H :=
  ⟨⟨l, m, xs, ys, _, rfl, rfl, SqT.of h1, SqT.of h2, steps_b hd a b, by rw [all_same, a.len, b.len]; simp⟩, fun _ => rfl⟩
theorem d2_same {H : Hp} {x y : V} {s : M.Step} (hd : M.Step.dep s ≤ 3) (a : StepAt C H s x) (b : StepAt C H s y) : D2 K C x y true H := by
  have := step_sb (K := K) hd a b
  rw [CP.seq_refl] at this
  exact this
/-- a couple of a word and a value against the like -/
theorem couple {H : Hp} {t u : Addr} {w : Str} {x y : V} (h1 : H t = some (.tup [.str w, x])) (h2 : H u = some (.tup [.str w, y])) (d : D4 K C x y true H) : BTup K (D4 K C) (.ref t) (.ref u) true H :=
  ⟨t, u, _, _, [true, true], rfl, rfl, SqT.of h1, SqT.of h2, prs_cons (.inl (fs w H)) (prs_cons d prs_nil), rfl⟩
end
section
variable {X : Cx} {C f : Addr} {fd : FuncData}
theorem eqB_it (F : FnOk X.prog X.w X.K X.mg X.base CX0 10 f fd ["self", "other"] (spWEB C 3)) (O : WO.Own X.K C f "__eq__") (b : Binds X.K fd ["self", "other"] []) : EqB X 10 (BIt C 3) :=
  (eqB_flat.mono (Nat.zero_le 10)).or ((rcB_wy F O b).eqB fun _ _ _ _ d => let ⟨a, b, _, _, hx, hy, _⟩ := d; ⟨a, b, hx, hy⟩)
theorem eqB_d2 (F : FnOk X.prog X.w X.K X.mg X.base CX0 10 f fd ["self", "other"] (spWEB C 3)) (O : WO.Own X.K C f "__eq__") (b : Binds X.K fd ["self", "other"] []) : EqB X 11 (D2 X.K C) := eqB_tup mon_bit (eqB_it F O b)
theorem eqB_d3 (F : FnOk X.prog X.w X.K X.mg X.base CX0 10 f fd ["self", "other"] (spWEB C 3)) (O : WO.Own X.K C f "__eq__") (b : Binds X.K fd ["self", "other"] []) : EqB X 12 (D3 X.K C) := eqB_tup mon_d2 (eqB_d2 F O b)
theorem eqB_d4 (F : FnOk X.prog X.w X.K X.mg X.base CX0 10 f fd ["self", "other"] (spWEB C 3)) (O : WO.Own X.K C f "__eq__") (b : Binds X.K fd ["self", "other"] []) : EqB X 12 (D4 X.K C) := (eqB_flat.mono (Nat.zero_le 12)).or ((eqB_d3 F O b).or ((eqB_d2 F O b).mono (by decide)))
end
end EB
namespace M
theorem inner_ap : ∀ (a b : List Step), Step.inner (a ++ b) = Step.inner a + Step.inner b
  | [], b => by
    show Step.inner b = Step.inner [] + Step.inner b
    rw [show Step.inner [] = 0 by unfold Step.inner; rfl, Nat.zero_add]
  | x :: a, b => by
    show Step.inner (x :: (a ++ b)) = _
    rw [inner_cons, inner_cons, inner_ap a b]
    omega
theorem deep_ap : ∀ (a b : List Step), Step.deepest (a ++ b) = max (Step.deepest a) (Step.deepest b)
  | [], b => by
    show Step.deepest b = max (Step.deepest []) (Step.deepest b)
    rw [show Step.deepest [] = 0 by unfold Step.deepest; rfl, Nat.zero_max]
  | x :: a, b => by
    show Step.deepest (x :: (a ++ b)) = _
    rw [deep_cons, deep_cons, deep_ap a b, Nat.max_assoc]
end M
namespace WP
open PySem L2 G
open Y (Bn)
abbrev sLSumR : Stmt := top 82
section
variable {P : Program} {w : World} {K : PySem.W.Frag} {mg : Str → Option Value} {base : Heap} {C : Addr}
structure EwB (P : Program) (w : World) (K : PySem.W.Frag) (mg : Str → Option Value) (base : Heap) (C : Addr) : Prop where
  ex : ∃ (f : Addr) (fd : FuncData), FnOk P w K mg base CX0 10 f fd ["self", "other"] (EB.spWEB C 3) ∧ WO.Own K C f "__eq__" ∧ Binds K fd ["self", "other"] []
theorem iteNF {x y : V} {A B : Prop} (h : x = y) (b : B) : if (!decide (x = y)) = true then A else B := by
  rw [decide_eq_true h]
  exact b
theorem wdim (wy : M.Way) : wy.size = wy.steps.length + M.Step.inner wy.steps ∧ wy.depth = 1 + M.Step.deepest wy.steps := by
  obtain ⟨h, s⟩ := wy
  exact ⟨by unfold M.Way.size; rfl, by unfold M.Way.depth; rfl⟩
def spLSumR (C : Addr) : Sp := fun vs H Q _ => ∃ a b w1 w2, vs = [.ref a, .ref b] ∧ WayAt C H w1 a ∧ WayAt C H w2 b ∧ M.Way.fine w1 ∧ M.Way.fine w2 ∧ ∀ H', Same H H' → Q (.bl true) H'
abbrev NSR : List Str := ["one", "two", "told", "steps"]
theorem scSR : FnScope NSR ["one", "two"] (defScope sLSumR) := ⟨rfl, rfl, rfl, by decide +kernel, rfl, by decide +kernel, by decide +kernel⟩
theorem ok_lsumr {f : Addr} {fd : FuncData} (F : Fun K "_law_sum_right" "_law_sum_right" sLSumR f fd) (B : Bn mg) (T : Wt K mg C) (GE : EwB P w K mg base C) (DS : Df P w K mg base 9 "_law_sum" ["one", "two"] (spLSum C)) : FnOk P w K mg base CX0 14 f fd ["one", "two"] (spLSumR C) := by
  obtain ⟨fE, fdE, GE, OE, bE⟩ := GE.ex
  obtain ⟨fS, fdS, GS, gS, kS, bS⟩ := DS.ex
  refine F.ok scSR (fun vs H Q E h => ?_) (fun cdv A outer s H vs Q E hr h => ?_)
  · obtain ⟨a, b, w1, w2, rfl, _⟩ := h
    rfl
  · obtain ⟨a, b, w1, w2, rfl, h1, h2, f1, f2, k⟩ := h
    refine ⟨_, pss_cons (ps_par (i := 2) (j := 3) (by rfl) scSR.nd rfl rfl (by decide) rfl rfl (pa_cons (pe_call GS (hr.mono (by decide)) rfl gS kS bS .nil pass0 (pa_cons (pv 0) (pa_cons (pv 1) pa_nil))) (pa_cons (pe_op (op_catA) (pe_fld (pv 0) rfl) (pe_fld (pv 1) rfl)) pa_nil)) (by rfl))
      (pss_cons (ps_if (pt_cmpR (op_ne) (pe_fld (pv 0) rfl) (pe_fld (pv 1) rfl) (nomark _)) (pss_one (ps_ret (pe_cmpR (EB.op_eqB (EB.rcB_tup EB.mon_d4 (EB.eqB_d4 GE OE bE)) (hr.mono (by decide))) (pv 2) (pe_tup (pa_cons (pe_str) (pa_cons (pe_fld (pv 1) rfl) pa_nil))) (nomark _)))) (pss_nil))
      (pss_cons (ps_if (pt_cmpR (op_gt) (pe_callB call_len_seq (by rfl) B.len PySem.boot_len (pa_cons (pv 3) pa_nil)) (pe_int) (nomark _)) (pss_one (ps_ret (pe_cmpR (EB.op_eqB (EB.rcB_tup EB.mon_d4 (EB.eqB_d4 GE OE bE)) (hr.mono (by decide))) (pv 2) (pe_tup (pa_cons (pe_str) (pa_cons (pv 3) pa_nil))) (nomark _)))) (pss_nil))
      (pss_cons (ps_if (pt_cmpR (op_gt) (pe_op (op_add) (pe_fld (pv 0) rfl) (pe_fld (pv 1) rfl)) (pe_int) (nomark _)) (pss_one (ps_ret (pe_cmpR (EB.op_eqB (EB.rcB_tup EB.mon_d4 (EB.eqB_d4 GE OE bE)) (hr.mono (by decide))) (pv 2) (pe_tup (pa_cons (pe_str) (pa_cons (pe_op (op_add) (pe_fld (pv 0) rfl) (pe_fld (pv 1) rfl)) pa_nil))) (nomark _)))) (pss_nil))
      (pss_cons (ps_if (PW.pt (pw_or (pt_cmpR (op_ne) (pe_ix ix_tup (pv 2) (pe_int) (fun _ _ => rfl)) (pe_str) (nomark _)) (pw_or (pt_cmpR (op_ne) (pe_fld (pe_ix ix_tup (pv 2) (pe_int) (fun _ _ => rfl)) rfl) (pe_fld (pv 0) rfl) (nomark _)) (pw_or1 (pt_cmpR (EB.op_neB EB.mon_d2 (EB.eqB_d2 GE OE bE) (hr.mono (by decide))) (pe_fld (pe_ix ix_tup (pv 2) (pe_int) (fun _ _ => rfl)) rfl) (pv 3) (nomark _)))))) (pss_one (ps_ret (pe_bl))) (pss_nil))
      (pss_one (ps_ret (pe_and (pe_cmpR (op_eq) (pe_fld (pe_ix ix_tup (pv 2) (pe_int) (fun _ _ => rfl)) rfl) (pe_op (op_add) (pe_fld (pv 0) rfl) (pe_fld (pv 1) rfl)) (nomark _)) (pe_one (pe_cmpR (op_eq) (pe_fld (pe_ix ix_tup (pv 2) (pe_int) (fun _ _ => rfl)) rfl) (pe_callB (call_max2 rfl) (by rfl) B.max (by decide +kernel) (pa_cons (pe_fld (pv 0) rfl) (pa_cons (pe_fld (pv 1) rfl) pa_nil))) (nomark _)))))))))), ?_⟩
    obtain ⟨p1, p2, p3, p4, p5, p6, p7⟩ := fine_parts f1
    obtain ⟨q1, q2, q3, q4, q5, q6, q7⟩ := fine_parts f2
    refine ⟨_, rfl, _, rfl, a, b, w1, w2, rfl, h1, h2, f1, f2, fun t H1 s1 told => ?_⟩
    obtain ⟨dc, fc, t1, xs, c1, c2, c3, c4⟩ := steps_fld (h1.mono s1)
    obtain ⟨de, fe, t2, ys, e1, e2, e3, e4⟩ := steps_fld (h2.mono s1)
    have lx := c4.len
    have ly := e4.len
    refine ⟨_, rfl, a, C, dc, fc, _, rfl, c1, T.cl, T.nS, c2, _, rfl, b, C, de, fe, _, rfl, e1, T.cl, T.nS, e2, ?_⟩
    refine catA_own c3 e3 (Nat.le_trans (show _ ≤ 24 by omega) (by decide)) fun u H2 s2 hu => ?_
    have s02 := s1.trans s2
    have sa := (c4.mono s2).app (e4.mono s2)
    obtain ⟨da, fa, a1, a2⟩ := head_fld (h1.mono s02)
    obtain ⟨db, fb, b1, b2⟩ := head_fld (h2.mono s02)
    refine ⟨_, _, rfl, ?_⟩
    dsimp only
    refine ⟨_, rfl, a, C, da, fa, _, rfl, a1, T.cl, T.nH, a2, _, rfl, b, C, db, fb, _, rfl, b1, T.cl, T.nH, b2, rfl, _, rfl, ?_⟩
    rcases told with ⟨eh, ht⟩ | ⟨eh, h12, l, zs, ht, hl, hz⟩ | ⟨eh, h12, h40, ht⟩ | ⟨eh, ff, c, ht, hc⟩
    · refine CP.iteNT (fun z => eh (by injection z with z; omega)) ?_
      refine ⟨_, rfl, _, rfl, b, C, db, fb, _, rfl, b1, T.cl, T.nH, b2, line2.1, fun v hv => ?_⟩
      have s3 := Same.of_upd (o := .tup [V.str "head", V.int ((w2.head : Nat) : Int)]) hv
      exact ⟨true, EB.couple (s3 _ _ (s2 _ _ ht)) upd_same (.inl (EB.fi _ _)), fun H' x => k H' ((s02.trans s3).trans x)⟩
    · refine iteNF (by rw [eh]) ?_
      refine ⟨_, rfl, u, _, rfl, .inr (SqT.of hu), _, _, rfl, rfl, _, rfl, ?_⟩
      have la : (xs ++ ys).length = (w1.steps ++ w2.steps).length := by rw [List.length_append, List.length_append]; omega
      rw [la, decide_eq_true (by omega)]
      refine iteT ⟨_, rfl, _, rfl, line2.1, fun v hv => ?_⟩
      have s3 := Same.of_upd (o := .tup [V.str "steps", V.ref u]) hv
      have dp := deep_app (s := w1.steps) (r := w2.steps) (d := 3) (by omega) (by omega)
      exact ⟨true, EB.couple (s3 _ _ (s2 _ _ ht)) upd_same (.inr (.inl (EB.d3_same dp (s3 _ _ (s2 _ _ hl)) (s3 _ _ hu) (hz.mono (s2.trans s3)) (sa.mono s3)))), fun H' x => k H' ((s02.trans s3).trans x)⟩
    all_goals
      refine iteNF (by rw [eh]) ?_
      refine ⟨_, rfl, u, _, rfl, .inr (SqT.of hu), _, _, rfl, rfl, _, rfl, ?_⟩
      have la : (xs ++ ys).length = (w1.steps ++ w2.steps).length := by rw [List.length_append, List.length_append]; omega
      have lb : (w1.steps ++ w2.steps).length = w1.steps.length + w2.steps.length := List.length_append
      have li := M.inner_ap w1.steps w2.steps
      have d1 := wdim w1
      have d2 := wdim w2
      obtain ⟨dg, fg, g1, g2⟩ := size_fld H2 w1 a (h1.mono s02)
      obtain ⟨dk, fk, k1, k2⟩ := size_fld H2 w2 b (h2.mono s02)
    · rw [la, decide_eq_false (by omega)]
      refine iteF ?_
      refine ⟨_, rfl, a, C, dg, fg, _, rfl, g1, T.cl, T.nZ, g2, _, rfl, b, C, dk, fk, _, rfl, k1, T.cl, T.nZ, k2, _, _, rfl, rfl, _, _, rfl, rfl, _, rfl, ?_⟩
      rw [decide_eq_true (by omega)]
      refine iteT ⟨_, rfl, _, rfl, a, C, dg, fg, _, rfl, g1, T.cl, T.nZ, g2, _, rfl, b, C, dk, fk, _, rfl, k1, T.cl, T.nZ, k2, _, _, rfl, rfl, line2.1, fun v hv => ?_⟩
      have s3 := Same.of_upd (o := .tup [V.str "great", V.int (((w1.size : Nat) : Int) + ((w2.size : Nat) : Int))]) hv
      refine ⟨true, EB.couple (s3 _ _ (s2 _ _ ht)) upd_same (.inl ?_), fun H' x => k H' ((s02.trans s3).trans x)⟩
      rw [show (((w1.steps ++ w2.steps).length + M.Step.inner (w1.steps ++ w2.steps) : Nat) : Int) = ((w1.size : Nat) : Int) + ((w2.size : Nat) : Int) by omega]
      exact EB.fi _ _
    · have ff2 := ff
      unfold M.Way.fine at ff2
      rw [la, decide_eq_false (by omega)]
      refine iteF ?_
      refine ⟨_, rfl, a, C, dg, fg, _, rfl, g1, T.cl, T.nZ, g2, _, rfl, b, C, dk, fk, _, rfl, k1, T.cl, T.nZ, k2, _, _, rfl, rfl, _, _, rfl, rfl, _, rfl, ?_⟩
      rw [decide_eq_false (by omega)]
      refine iteF ?_
      have hc2 := hc.mono s2
      have ht2 := SqT.of (K := K) (s2 _ _ ht)
      obtain ⟨dm, fm, m1, m2⟩ := head_fld hc2
      obtain ⟨dn, fn, t5, ws, n1, n2, n3, n4⟩ := steps_fld hc2
      obtain ⟨do', fo, o1, o2⟩ := size_fld H2 _ c hc2
      obtain ⟨dq, fq, r1, r2⟩ := depth_fld H2 _ c hc2
      obtain ⟨dr, fr, v1, v2⟩ := depth_fld H2 w1 a (h1.mono s02)
      obtain ⟨ds, fs, y1, y2⟩ := depth_fld H2 w2 b (h2.mono s02)
      have dp := deep_app (s := w1.steps) (r := w2.steps) (d := 3) (by omega) (by omega)
      refine ⟨_, rfl, t, _, _, _, rfl, rfl, ht2, at0, rfl, _, rfl, ?_⟩
      refine iteNF rfl ?_
      refine ⟨_, rfl, t, _, _, _, rfl, rfl, ht2, at1, c, C, dm, fm, _, rfl, m1, T.cl, T.nH, m2, _, rfl, a, C, da, fa, _, rfl, a1, T.cl, T.nH, a2, rfl, _, rfl, ?_⟩
      refine iteNF rfl ?_
      refine ⟨_, rfl, t, _, _, _, rfl, rfl, ht2, at1, c, C, dn, fn, _, rfl, n1, T.cl, T.nS, n2, _, rfl, t5, u, ws, _, rfl, rfl, SqT.of n3, SqT.of hu, by rw [n4.len, sa.len]; rfl, fun i x y hx hy => ?_, fun H3 s3 => ⟨_, rfl, ?_⟩⟩
      · obtain ⟨st, hst, sx⟩ := n4.get hx
        obtain ⟨st', hst', sy⟩ := sa.get hy
        rw [show M.Way.steps (.mk w1.head (w1.steps ++ w2.steps)) = w1.steps ++ w2.steps from rfl, hst'] at hst
        cases hst
        exact EB.d2_same (Nat.le_trans (M.dep_le hst') dp) sx sy
      refine iteF ?_
      have ht3 := SqT.of (K := K) (s3 _ _ (s2 _ _ ht))
      have e1 : (M.Way.size (.mk w1.head (w1.steps ++ w2.steps)) : Nat) = w1.size + w2.size := by
        have := (wdim (.mk w1.head (w1.steps ++ w2.steps))).1
        rw [this]
        show (w1.steps ++ w2.steps).length + M.Step.inner (w1.steps ++ w2.steps) = _
        omega
      have e2 : (M.Way.depth (.mk w1.head (w1.steps ++ w2.steps)) : Nat) = max w1.depth w2.depth := by
        have := (wdim (.mk w1.head (w1.steps ++ w2.steps))).2
        rw [this]
        show 1 + M.Step.deepest (w1.steps ++ w2.steps) = _
        rw [M.deep_ap]
        omega
      refine ⟨_, rfl, t, _, _, _, rfl, rfl, ht3, at1, c, C, do', fo, _, rfl, s3 _ _ o1, T.cl, T.nZ, o2, _, rfl, a, C, dg, fg, _, rfl, s3 _ _ g1, T.cl, T.nZ, g2, _, rfl, b, C, dk, fk, _, rfl, s3 _ _ k1, T.cl, T.nZ, k2, _, _, rfl, rfl, rfl, _, rfl, ?_⟩
      rw [decide_eq_true (congrArg V.int (by omega))]
      refine iteT ⟨_, rfl, t, _, _, _, rfl, rfl, ht3, at1, c, C, dq, fq, _, rfl, s3 _ _ r1, T.cl, T.nD, r2, _, rfl, a, C, dr, fr, _, rfl, s3 _ _ v1, T.cl, T.nD, v2, _, rfl, b, C, ds, fs, _, rfl, s3 _ _ y1, T.cl, T.nD, y2, _, _, rfl, rfl, ?_⟩
      rw [decide_eq_true (congrArg V.int (by rw [e2]; split <;> omega))]
      exact k H3 (s02.trans s3)
end
end WP

end
section
set_option autoImplicit false
set_option Elab.async false
set_option linter.all false
set_option maxRecDepth 100000
set_option maxHeartbeats 4000000
set_option pp.maxSteps 900
/-! ## _law_positions_right -/
namespace G
open PySem PySem.Spec PyProof.Rows L2
/-- a value and its text: data that holds lists or dicts, not both -/
inductive ShD (K : PySem.W.Frag) (H : Hp) : V → Str → Prop
  | non : ShD K H .non "None"
  | bl (b : Bool) : ShD K H (.bl b) (if b then "True" else "False")
  | int (i : Int) : i.natAbs.log2 < 1920 → ShD K H (.int i) (toString i)
  | str (x : Str) : (reprText x).length ≤ sizeLine → ShD K H (.str x) (reprText x)
  | ref {a : Addr} {m : Bool} {d : PyData} : Dr K H m (.ref a) d → d.showable = true → d.depth ≤ 20 → d.shown.length ≤ sizeLine → ShD K H (.ref a) d.shown
def rReprD (K : PySem.W.Frag) : List V → Hp → VK → Prop := fun xs H Q => ∃ x t, xs = [x] ∧ ShD K H x t ∧ Q (.str t) H
theorem call_reprD {X : Cx} (hg : X.A.guards = some []) (hu : X.A.units + 64 < cLine) : CallR X (.builtin "repr") (rReprD X.K) := by
  intro pins s σ H xs us Q I r h
  obtain ⟨x, t, rfl, hs, q⟩ := h
  cases hs with
  | non => exact call_reprF pins s σ H _ us Q I r (.inl ⟨rfl, q⟩)
  | bl b => exact call_reprF pins s σ H _ us Q I r (.inr (.inl ⟨b, rfl, q⟩))
  | int i hi => exact call_reprF pins s σ H _ us Q I r (.inr (.inr ⟨i, rfl, hi, q⟩))
  | str z hz =>
    cases r with
    | cons rx rr =>
      cases rr
      obtain ⟨tk, rfl⟩ := rx
      exact PySem.P.repr_of_str ⟨.str _, H, I.tok _, ⟨_, rfl⟩, q⟩ hz
  | @ref a m d hd h1 h2 h3 =>
    cases r with
    | cons rx rr =>
      cases rr
      cases rx
      obtain ⟨as, hr, hn⟩ := Dr.reads I d _ _ hd rfl
      refine repr_of_reads' hr h1 (fun z => ?_) hg (by omega) (fun _ _ e => e) (fun h' u tk k => ⟨.str d.shown, H, I.kept (t' := tk) k, ⟨u, rfl⟩, q⟩) h3
      cases m with
      | true =>
        rw [Dr.noDict d _ hd] at z
        cases z
      | false => exact hn rfl
end G
namespace WP
open PySem L2 G
abbrev sLPosR : Stmt := top 83
/-- the values that are no position -/
inductive Odp (n : Nat) (H : Hp) : V → Prop
  | non : Odp n H .non
  | tru : Odp n H (.bl true)
  | str : Odp n H (.str "0")
  | tup {t : Addr} : H t = some (.tup [.int 0]) → Odp n H (.ref t)
  | lst {t : Addr} : H t = some (.lst [.int 0]) → Odp n H (.ref t)
  | dic {t : Addr} : H t = some (.dK []) → Odp n H (.ref t)
  | int {i : Int} : ¬ (0 ≤ i ∧ i ≤ (n : Int) - 1) → i.natAbs ≤ 10 ^ 30 → Odp n H (.int i)
theorem Odp.mono {n : Nat} {H H' : Hp} (s : Same H H') {v : V} (h : Odp n H v) : Odp n H' v := by
  cases h with
  | non => exact .non
  | tru => exact .tru
  | str => exact .str
  | tup h => exact .tup (s _ _ h)
  | lst h => exact .lst (s _ _ h)
  | dic h => exact .dic (s _ _ h)
  | int a b => exact .int a b
theorem Odp.np {n : Nat} {K : PySem.W.Frag} {H : Hp} {v : V} (h : Odp n H v) : NoPos K H v n := by
  cases h with
  | non => exact .inl (.inr ⟨_, .base .non, kit_ty (r := false) (by decide +kernel)⟩)
  | tru => exact .inl (.inl ⟨true, rfl⟩)
  | str => exact .inl (.inr ⟨_, .base (.str _), kit_ty (r := false) (by decide +kernel)⟩)
  | tup h => exact .inl (.inr ⟨_, .base (.tup h), kit_ty (r := false) (by decide +kernel)⟩)
  | lst h => exact .inl (.inr ⟨_, .base (.lst h), kit_ty (r := false) (by decide +kernel)⟩)
  | dic h => exact .inl (.inr ⟨_, .base (.dK h), kit_ty (r := false) (by decide +kernel)⟩)
  | int a b => exact .inr ⟨_, rfl, a⟩
theorem Odp.rp {n : Nat} {K : PySem.W.Frag} {H : Hp} {v : V} (h : Odp n H v) : ∃ t, G.ShD K H v t := by
  cases h with
  | non => exact ⟨_, .non⟩
  | tru => exact ⟨_, .bl true⟩
  | str => exact ⟨_, .str _ (by decide +kernel)⟩
  | tup h => exact ⟨_, .ref (m := true) (.tup (SqT.of h) (.cons (.int _) .nil)) (by decide +kernel) (by decide +kernel) (by decide +kernel)⟩
  | lst h => exact ⟨_, .ref (.lst (SqL.of h) (.cons (.int _) .nil)) (by decide +kernel) (by decide +kernel) (by decide +kernel)⟩
  | dic h => exact ⟨_, .ref (.dic h .nil) (by decide +kernel) (by decide +kernel) (by decide +kernel)⟩
  | int a b => exact ⟨_, .int _ (Nat.lt_of_lt_of_le (PySem.Flt.log2_lt_of (k := 110) (by decide) (Nat.lt_of_le_of_lt b (by decide))) (by decide))⟩
abbrev l10 (n : Int) (o1 o2 o3 : Addr) : List V := [V.int (0 - 1), V.int n, V.int (n + 1), .non, .bl true, .str "0", .ref o1, .ref o2, .ref o3, V.int (10 ^ (30 : Int).toNat)]
theorem l10_odp {n : Nat} {m : Int} {G : Hp} {o1 o2 o3 : Addr} (e : m = (n : Int)) (h1 : G o1 = some (.tup [.int 0])) (h2 : G o2 = some (.lst [.int 0])) (h3 : G o3 = some (.dK [])) (b : n ≤ 12) : ∀ x ∈ l10 m o1 o2 o3, Odp n G x := by
  subst e
  intro x hx
  simp only [l10, List.mem_cons, List.not_mem_nil, or_false] at hx
  rcases hx with rfl | rfl | rfl | rfl | rfl | rfl | rfl | rfl | rfl | rfl
  · exact .int (by omega) (by decide)
  · exact .int (by omega) (by omega)
  · exact .int (by omega) (by omega)
  · exact .non
  · exact .tru
  · exact .str
  · exact .tup h1
  · exact .lst h2
  · exact .dic h3
  · refine .int ?_ (by decide +kernel)
    have : (12 : Int) < 10 ^ (30 : Int).toNat := by decide +kernel
    omega
section
variable {P : Program} {w : World} {K : PySem.W.Frag} {mg : Str → Option Value} {base : Heap} {C : Addr}
def spLPosR (C : Addr) : Sp := fun vs H Q _ => ∃ a wy, vs = [.ref a] ∧ WayAt C H wy a ∧ M.Way.fine wy ∧ ∀ H', Same H H' → Q (.bl true) H'
abbrev NPR : List Str := ["way", "many", "at", "rest", "told", "same"]
theorem scPR : FnScope NPR ["way"] (defScope sLPosR) := ⟨rfl, rfl, rfl, by decide +kernel, rfl, by decide +kernel, by decide +kernel⟩
structure Lx (P : Program) (w : World) (K : PySem.W.Frag) (mg : Str → Option Value) (base : Heap) (C : Addr) : Prop where
  ex : ∃ (f : Addr) (fd : FuncData), FnOk P w K mg base CX0 1 f fd ["self"] (spLenW C) ∧ WO.Own K C f "__len__" ∧ Binds K fd ["self"] []
theorem ok_lposr {f : Addr} {fd : FuncData} (F : Fun K "_law_positions_right" "_law_positions_right" sLPosR f fd) (B : Y.Bn mg) (hrep : mg "repr" = none) (T : Wt K mg C) (ne : PySem.W.findIn K (.ref C) "__ne__" = some (some (.builtin "object.__ne__"))) (GE : EwB P w K mg base C) (GL : Lx P w K mg base C) (MW : Mw P w K mg base C)
    (DA : Df P w K mg base 5 "_law_at" ["way", "at"] (spLAt K C)) (DL : Df P w K mg base 9 "_law_less" ["way", "at"] (spLLess K C)) : G.Ok P w K mg base CX0 14 f fd ["way"] (spLPosR C) := by
  obtain ⟨fE, fdE, GE, OE, bE⟩ := GE.ex
  obtain ⟨fN, fdN, GN, ON, bN⟩ := GL.ex
  obtain ⟨fI, fdI, GI, MI, bI⟩ := MW.ex
  obtain ⟨fA, fdA, GA, gA, kA, bA⟩ := DA.ex
  obtain ⟨fL, fdL, GL, gL, kL, bL⟩ := DL.ex
  have gI := T.g
  refine G.mk F scPR (fun vs H Q E h => ?_) (fun cdv A outer s H vs Q E hg hr h => ?_)
  · obtain ⟨a, wy, rfl, _⟩ := h
    rfl
  · obtain ⟨a, wy, rfl, hw, hf, k⟩ := h
    refine ⟨_, pss_cons (ps_set (i := 1) scPR.nd rfl (Or.inl rfl) (pe_callB call_len_seq (by rfl) B.len PySem.boot_len (pa_cons (pe_fld (pv 0) rfl) pa_nil)))
      (pss_cons (ps_if (pt_cmpR (op_ne) (pe_callB (WO.call_lenO GN (hr.mono (by decide)) ON bN pass0) (by rfl) B.len PySem.boot_len (pa_cons (pv 0) pa_nil)) (pv 1) (nomark _)) (pss_one (ps_ret (pe_bl))) (pss_nil))
      (pss_cons (ps_for PassesOwn.never rfl (pi_range1 (by rfl) B.range (pa_cons (pv 1) pa_nil)) (pg_name (i := 2) scPR.nd rfl (Or.inl rfl)) (pss_cons (ps_if (pt_cmpR (EB.op_neB EB.mon_d4 (EB.eqB_d4 GE OE bE) (hr.mono (by decide))) (pe_call GA (hr.mono (by decide)) rfl gA kA bA .nil pass0 (pa_cons (pv 0) (pa_cons (pv 2) pa_nil))) (pe_tup (pa_cons (pe_str) (pa_cons (pe_ix ix_tup (pe_fld (pv 0) rfl) (pv 2) (fun _ _ => rfl)) pa_nil))) (nomark _)) (pss_one (ps_ret (pe_bl))) (pss_nil))
      (pss_cons (ps_set (i := 3) scPR.nd rfl (Or.inl rfl) (pe_op (op_catA) (pe_slice sl_tupA (pe_fld (pv 0) rfl) po_none (po_some (pv 2))) (pe_slice sl_tupA (pe_fld (pv 0) rfl) (po_some (pe_op (op_add) (pv 2) (pe_int))) po_none)))
      (pss_cons (ps_set (i := 4) scPR.nd rfl (Or.inl rfl) (pe_call GL (hr.mono (by decide)) rfl gL kL bL .nil pass0 (pa_cons (pv 0) (pa_cons (pv 2) pa_nil))))
      (pss_cons (ps_if (PW.pt (pw_and (pt_cmpR (op_eq) (pv 1) (pe_int) (nomark _)) (pw_and1 (pt_cmpR (EB.op_neB EB.mon_d4 (EB.eqB_d4 GE OE bE) (hr.mono (by decide))) (pv 4) (pe_tup (pa_cons (pe_str) (pa_cons (pe_tup pa_nil) pa_nil))) (nomark _))))) (pss_one (ps_ret (pe_bl))) (pss_nil))
      (pss_cons (ps_if (PW.pt (pw_and (pt_cmpR (op_gt) (pv 1) (pe_int) (nomark _)) (pw_and1 (PW.pt (pw_or (pt_cmpR (op_ne) (pe_ix ix_tup (pv 4) (pe_int) (fun _ _ => rfl)) (pe_str) (nomark _)) (pw_or (pt_cmpR (EB.op_neB EB.mon_d2 (EB.eqB_d2 GE OE bE) (hr.mono (by decide))) (pe_fld (pe_ix ix_tup (pv 4) (pe_int) (fun _ _ => rfl)) rfl) (pv 3) (nomark _)) (pw_or1 (pt_cmpR (op_ne) (pe_fld (pe_ix ix_tup (pv 4) (pe_int) (fun _ _ => rfl)) rfl) (pe_fld (pv 0) rfl) (nomark _))))))))) (pss_one (ps_ret (pe_bl))) (pss_nil))
      (pss_one (ps_if (pt_cmpR (op_gt) (pv 1) (pe_int) (nomark _)) (pss_cons (ps_set (i := 5) scPR.nd rfl (Or.inl rfl) (pe_make MI GI (hr.mono (by decide)) rfl gI bI .nil pass0 (pa_cons (pe_fld (pv 0) rfl) (pa_cons (pv 3) pa_nil))))
      (pss_one (ps_if (PW.pt (pw_or (pt_not (pt_cmpR (EB.op_eqB (EB.rcB_wy GE OE bE) (hr.mono (by decide))) (pe_ix ix_tup (pv 4) (pe_int) (fun _ _ => rfl)) (pv 5) (nomark _))) (pw_or1 (pt_cmpR (EB.op_neB EB.mon_flat EB.eqB_flat (hr.mono (by decide))) (pe_tup (pa_cons (pe_fld (pe_ix ix_tup (pv 4) (pe_int) (fun _ _ => rfl)) rfl) (pa_cons (pe_fld (pe_ix ix_tup (pv 4) (pe_int) (fun _ _ => rfl)) rfl) pa_nil))) (pe_tup (pa_cons (pe_fld (pv 5) rfl) (pa_cons (pe_fld (pv 5) rfl) pa_nil))) (nomark _))))) (pss_one (ps_ret (pe_bl))) (pss_nil)))) (pss_nil)))))))))
      (pss_cons (ps_set (i := 5) scPR.nd rfl (Or.inl rfl) (pe_make MI GI (hr.mono (by decide)) rfl gI bI .nil pass0 (pa_cons (pe_fld (pv 0) rfl) (pa_cons (pe_fld (pv 0) rfl) pa_nil))))
      (pss_cons (ps_if (PW.pt (pw_or (pt_cmpR (EB.op_neB EB.mon_flat EB.eqB_flat (hr.mono (by decide))) (pe_tup (pa_cons (pe_fld (pv 0) rfl) (pa_cons (pe_fld (pv 0) rfl) pa_nil))) (pe_tup (pa_cons (pe_fld (pv 5) rfl) (pa_cons (pe_fld (pv 5) rfl) pa_nil))) (nomark _)) (pw_or1 (pt_cmpR (WO.op_neO GE (hr.mono (by decide)) OE T.iM ne bE pass0) (pv 0) (pv 5) (nomark _))))) (pss_one (ps_ret (pe_bl))) (pss_nil))
      (pss_cons (ps_for PassesOwn.never rfl (pi_list (pe_lst (pa_cons (pe_op (op_sub) (pe_int) (pe_int)) (pa_cons (pv 1) (pa_cons (pe_op (op_add) (pv 1) (pe_int)) (pa_cons (pe_non) (pa_cons (pe_bl) (pa_cons (pe_str) (pa_cons (pe_tup (pa_cons (pe_int) pa_nil)) (pa_cons (pe_lst (pa_cons (pe_int) pa_nil)) (pa_cons (pe_dnewK) (pa_cons (pe_op (op_powN) (pe_int) (pe_int)) pa_nil)))))))))))) (pg_name (i := 2) scPR.nd rfl (Or.inl rfl)) (pss_one (ps_for PassesOwn.never rfl (pi_list (pe_lst (pa_cons (pe_call GA (hr.mono (by decide)) rfl gA kA bA .nil pass0 (pa_cons (pv 0) (pa_cons (pv 2) pa_nil))) (pa_cons (pe_call GL (hr.mono (by decide)) rfl gL kL bL .nil pass0 (pa_cons (pv 0) (pa_cons (pv 2) pa_nil))) pa_nil)))) (pg_name (i := 4) scPR.nd rfl (Or.inl rfl)) (pss_one (ps_if (PW.pt (pw_or (pt_cmpR (op_ne) (pe_ix ix_tup (pv 4) (pe_int) (fun _ _ => rfl)) (pe_str) (nomark _)) (pw_or1 (pt_cmpR (op_ne) (pe_callB (G.call_reprD hg hr.units) (by rfl) hrep (by decide +kernel) (pa_cons (pe_ix ix_tup (pv 4) (pe_int) (fun _ _ => rfl)) pa_nil)) (pe_callB (G.call_reprD hg hr.units) (by rfl) hrep (by decide +kernel) (pa_cons (pv 2) pa_nil)) (nomark _))))) (pss_one (ps_ret (pe_bl))) (pss_nil))))))
      (pss_one (ps_ret (pe_bl)))))))), ?_⟩
    obtain ⟨p1, p2, p3, p4, p5, p6, p7⟩ := fine_parts hf
    obtain ⟨dc, fc, t1, xs, c1, c2, c3, c4⟩ := steps_fld hw
    have lx := c4.len
    refine set_then (i := 1) ⟨_, rfl, a, C, dc, fc, _, rfl, c1, T.cl, T.nS, c2, t1, _, rfl, .inr (SqT.of c3), ?_⟩
    refine ⟨_, rfl, a, rfl, ⟨dc, fc, c1⟩, a, wy, rfl, hw, wy.steps.length, rfl, by omega, _, rfl, rfl, _, rfl, iteNF (by rw [← lx]) ?_⟩
    dsimp only
    refine ⟨_, rfl, _, rfl, by omega, by omega, ?_⟩
    refine for_range (n := xs.length) (fun i σ G => Same H G ∧ ∃ q2 q3 q4 q5 : Option V, σ = [some (.ref a), some (.int (xs.length : Int)), q2, q3, q4, q5]) ⟨Same.refl H, _, _, _, _, rfl⟩ ?_ ?_
    · rintro i σ G hi ⟨s0, q2, q3, q4, q5, rfl⟩
      have hx : xs[i]? = some xs[i] := List.getElem?_eq_getElem hi
      obtain ⟨stp, hstp, hat⟩ := c4.get hx
      generalize xs[i] = x at hx hat
      have dpS : M.Step.dep stp ≤ 3 := Nat.le_trans (M.dep_le hstp) (by omega)
      have c1' := s0 _ _ c1
      have c3' := s0 _ _ c3
      dsimp only
      refine ⟨_, rfl, _, rfl, a, _, wy, t1, xs, dc, fc, rfl, hw.mono s0, c1', c2, c3', lx, .inl ⟨i, x, by rw [Int.zero_add], hx, fun u G1 s1 hu => ?_⟩⟩
      refine ⟨_, rfl, a, C, dc, fc, _, rfl, s1 _ _ c1', T.cl, T.nS, c2, _, rfl, t1, _, _, _, rfl, by rw [Int.zero_add], SqT.of (s1 _ _ c3'), atI_nat hx, line2.1, fun v hv => ?_⟩
      have s2 := Same.of_upd (o := .tup [.str "made", x]) hv
      have hat2 := hat.mono ((s0.trans s1).trans s2)
      refine ⟨u, v, _, _, rfl, rfl, SqT.of (s2 _ _ hu), SqT.of upd_same, rfl, fun j y z hy hz => ?_, fun G3 s3 => ⟨_, rfl, iteF ?_⟩⟩
      · match j, hy, hz with
        | 0, hy, hz => cases hy; cases hz; exact .inl (EB.fs _ _)
        | 1, hy, hz => cases hy; cases hz; exact .inr (.inr (EB.d2_same dpS hat2 hat2))
        | j + 2, hy, _ => cases hy
      have S3 := ((s0.trans s1).trans s2).trans s3
      unfold tNext
      dsimp only
      -- rest
      refine set_then (i := 3) ⟨_, rfl, a, C, dc, fc, _, rfl, s3 _ _ (s2 _ _ (s1 _ _ c1')), T.cl, T.nS, c2, ?_⟩
      dsimp only [tNoPart]
      refine ⟨_, rfl, _, rfl, sl_any (s3 _ _ (s2 _ _ (s1 _ _ c3'))) fun u1 G4 s4 h4 => ?_⟩
      refine ⟨_, rfl, a, C, dc, fc, _, rfl, s4 _ _ (s3 _ _ (s2 _ _ (s1 _ _ c1'))), T.cl, T.nS, c2, _, rfl, _, _, rfl, rfl, _, rfl, ?_⟩
      dsimp only [tNoPart]
      refine sl_any (s4 _ _ (s3 _ _ (s2 _ _ (s1 _ _ c3')))) fun u2 G5 s5 h5 => ?_
      rw [Int.zero_add, cut_hi] at h4
      rw [Int.zero_add, show ((i : Int) + 1) = ((i + 1 : Nat) : Int) from rfl, cut_lo] at h5
      refine catA_own (s5 _ _ h4) h5 (by rw [List.length_take, List.length_drop]; exact Nat.le_trans (show _ ≤ 200 by omega) (by decide)) fun c G6 s6 hc => ?_
      have S6 := ((S3.trans s4).trans s5).trans s6
      have hrest := ((c4.mono S6).take i).app ((c4.mono S6).drop (i + 1))
      refine set_then (i := 4) ⟨_, rfl, _, rfl, a, _, wy, rfl, hw.mono S6, hf, .inl ⟨i, by rw [Int.zero_add], by omega, fun t G7 s7 told => ?_⟩⟩
      have S7 := S6.trans s7
      have c17 := S7 _ _ c1
      have c37 := S7 _ _ c3
      rcases told with ⟨eh, l, ht, hl⟩ | ⟨eh, c8, ht, hw8, ff⟩
      · -- one step
        have eM : decide ((V.int (xs.length : Int)) = V.int 1) = true := decide_eq_true (congrArg V.int (by omega))
        have eG : decide ((1 : Int) < (xs.length : Int)) = false := decide_eq_false (by omega)
        refine ⟨_, rfl, rfl, _, rfl, ?_⟩
        rw [eM]
        refine iteT ⟨_, rfl, Nat.zero_le _, fun v1 h1 => ⟨line2.1, fun v2 h2 => ?_⟩⟩
        have z1 := Same.of_upd (o := .tup []) h1
        have z2 := Same.of_upd (o := .tup [V.str "steps", V.ref v1]) h2
        refine ⟨t, v2, _, _, rfl, rfl, SqT.of (z2 _ _ (z1 _ _ ht)), SqT.of upd_same, rfl, fun j y z hy hz => ?_, fun G8 s8 => ⟨_, rfl, iteF ?_⟩⟩
        · match j, hy, hz with
          | 0, hy, hz => cases hy; cases hz; exact .inl (EB.fs _ _)
          | 1, hy, hz => cases hy; cases hz; exact .inr (.inl (EB.d3_same (s := []) (by decide) (z2 _ _ (z1 _ _ hl)) (z2 _ _ upd_same) (by unfold StepsAt; rfl) (by unfold StepsAt; rfl)))
          | j + 2, hy, _ => cases hy
        have S8 := ((S7.trans z1).trans z2).trans s8
        dsimp only
        refine ⟨_, rfl, _, _, rfl, rfl, _, rfl, ?_⟩
        rw [eG]
        refine iteF ?_
        refine iteF ?_
        dsimp only
        refine ⟨_, rfl, _, _, rfl, rfl, _, rfl, ?_⟩
        rw [eG]
        exact iteF ⟨S8, _, _, _, _, rfl⟩
      · -- more
        have eM : decide ((V.int (xs.length : Int)) = V.int 1) = false := decide_eq_false (fun z => by injection z with z; omega)
        have eG : decide ((1 : Int) < (xs.length : Int)) = true := decide_eq_true (by omega)
        have hr7 := hrest.mono s7
        refine ⟨_, rfl, rfl, _, rfl, ?_⟩
        rw [eM]
        refine iteF (iteF ?_)
        dsimp only
        refine ⟨_, rfl, _, _, rfl, rfl, _, rfl, ?_⟩
        rw [eG]
        obtain ⟨dm, fm, m1, m2⟩ := head_fld hw8
        obtain ⟨dn, fn, t5, ws, n1, n2, n3, n4⟩ := steps_fld hw8
        obtain ⟨do', fo, o1, o2⟩ := size_fld G7 _ c8 hw8
        obtain ⟨dq, fq, r1, r2⟩ := depth_fld G7 _ c8 hw8
        obtain ⟨da, fa, a1, a2⟩ := head_fld (hw.mono S7)
        have ht2 := SqT.of (K := K) ht
        refine iteT ⟨_, rfl, t, _, _, _, rfl, rfl, ht2, at0, rfl, _, rfl, ?_⟩
        refine iteNF rfl ?_
        refine ⟨_, rfl, t, _, _, _, rfl, rfl, ht2, at1, c8, C, dn, fn, _, rfl, n1, T.cl, T.nS, n2, _, rfl, t5, c, ws, _, rfl, rfl, SqT.of n3, SqT.of (s7 _ _ hc), by rw [n4.len, hr7.len]; rfl, fun j y z hy hz => ?_, fun G8 s8 => ⟨_, rfl, iteF ?_⟩⟩
        · obtain ⟨st, hst, sx⟩ := n4.get hy
          obtain ⟨st', hst', sy⟩ := hr7.get hz
          rw [show M.Way.steps (.mk wy.head (wy.steps.take i ++ wy.steps.drop (i + 1))) = wy.steps.take i ++ wy.steps.drop (i + 1) from rfl, hst'] at hst
          cases hst
          have dd := deep_sub (s := wy.steps) (d := 3) (by omega)
          exact EB.d2_same (Nat.le_trans (M.dep_le hst') (deep_app (dd i).1 (dd (i + 1)).2)) sx sy
        have S8 := S7.trans s8
        refine ⟨_, rfl, t, _, _, _, rfl, rfl, SqT.of (s8 _ _ ht), at1, c8, C, dm, fm, _, rfl, s8 _ _ m1, T.cl, T.nH, m2, _, rfl, a, C, da, fa, _, rfl, s8 _ _ a1, T.cl, T.nH, a2, rfl, _, rfl, ?_⟩
        refine iteNF rfl ?_
        dsimp only
        refine ⟨_, rfl, _, _, rfl, rfl, _, rfl, ?_⟩
        rw [eG]
        refine iteT (set_then (i := 5) ⟨_, rfl, a, C, da, fa, _, rfl, s8 _ _ a1, T.cl, T.nH, a2, _, rfl, ?_⟩)
        have S9 := S7.trans s8
        refine fun z dz hz hdz nez => ⟨z, c, dz, wy.head, _, _, G8, rfl, upd_same, hz, (Same.of_upd hdz).trans (Same.of_upd (by rw [upd_ne nez.symm]; exact hz)), .inr (s8 _ _ (s7 _ _ hc)), hr7.mono s8, ff, fun G9 s9 wa => ⟨rfl, ?_⟩⟩
        have hwc := hw8.mono (s8.trans s9)
        have ht9 := SqT.of (K := K) ((s8.trans s9) _ _ ht)
        obtain ⟨e1, g1, k1, l1⟩ := size_fld G9 _ c8 hwc
        obtain ⟨e2, g2, k2, l2⟩ := depth_fld G9 _ c8 hwc
        obtain ⟨e3, g3, k3, l3⟩ := size_fld G9 _ z wa
        obtain ⟨e4, g4, k4, l4⟩ := depth_fld G9 _ z wa
        refine ⟨_, rfl, t, _, _, _, rfl, rfl, ht9, at1, _, rfl, true, ⟨c8, z, _, _, rfl, rfl, hwc, wa, ?_, ?_⟩, fun G10 s10 => ?_⟩
        · rw [(wdim _).2]
          exact (fine_parts ff).2.2.2.2.2.1
        · exact (SeqAt.eqv_refl _ (CP.lay_way _).1).symm
        have S10 := s8.trans (s9.trans s10)
        have ht10 := SqT.of (K := K) (S10 _ _ ht)
        refine ⟨_, rfl, iteF ?_⟩
        refine ⟨_, rfl, t, _, _, _, rfl, rfl, ht10, at1, c8, C, e2, g2, _, rfl, s10 _ _ k2, T.cl, T.nD, l2, _, rfl, t, _, _, _, rfl, rfl, ht10, at1, c8, C, e1, g1, _, rfl, s10 _ _ k1, T.cl, T.nZ, l1, line2.1, fun v1 h1 => ?_⟩
        have z1 : ∀ o, Same G10 (upd G10 v1 o) := fun o => Same.of_upd h1
        refine ⟨_, rfl, z, C, e4, g4, _, rfl, z1 _ _ _ (s10 _ _ k4), T.cl, T.nD, l4, _, rfl, z, C, e3, g3, _, rfl, z1 _ _ _ (s10 _ _ k3), T.cl, T.nZ, l3, line2.1, fun v2 h2 => ?_⟩
        have z2 : ∀ o, Same _ (upd _ v2 o) := fun o => Same.of_upd h2
        refine ⟨v1, v2, _, _, rfl, rfl, SqT.of (z2 _ _ _ upd_same), SqT.of upd_same, rfl, fun j y z hy hz => ?_, fun G8 s11 => ⟨_, rfl, iteF ?_⟩⟩
        · match j, hy, hz with
          | 0, hy, hz => cases hy; cases hz; exact EB.fi _ _
          | 1, hy, hz => cases hy; cases hz; exact EB.fi _ _
          | j + 2, hy, _ => cases hy
        exact ⟨(S7.trans S10).trans (((z1 _).trans (z2 _)).trans s11), _, _, _, _, rfl⟩
    · rintro σ G ⟨s0, q2, q3, q4, q5, rfl⟩
      have c1' := s0 _ _ c1
      have c3' := s0 _ _ c3
      have w0 := hw.mono s0
      have ewy : M.Way.mk wy.head wy.steps = wy := by cases wy; rfl
      obtain ⟨da, fa, a1, a2⟩ := head_fld w0
      dsimp only
      refine set_then (i := 5) ⟨_, rfl, a, C, da, fa, _, rfl, a1, T.cl, T.nH, a2, _, rfl, a, C, dc, fc, _, rfl, c1', T.cl, T.nS, c2, ?_⟩
      refine fun z dz hz hdz nez => ⟨z, t1, dz, wy.head, xs, wy.steps, G, rfl, upd_same, hz, (Same.of_upd hdz).trans (Same.of_upd (by rw [upd_ne nez.symm]; exact hz)), .inr c3', c4.mono s0, ewy ▸ hf, fun G9 s9 wa => ⟨rfl, ?_⟩⟩
      rw [ewy] at wa
      have hwc := w0.mono s9
      obtain ⟨e1, g1, k1, l1⟩ := size_fld G9 _ a hwc
      obtain ⟨e2, g2, k2, l2⟩ := depth_fld G9 _ a hwc
      obtain ⟨e3, g3, k3, l3⟩ := size_fld G9 _ z wa
      obtain ⟨e4, g4, k4, l4⟩ := depth_fld G9 _ z wa
      refine ⟨_, rfl, a, C, e2, g2, _, rfl, k2, T.cl, T.nD, l2, _, rfl, a, C, e1, g1, _, rfl, k1, T.cl, T.nZ, l1, line2.1, fun v1 h1 => ?_⟩
      have z1 : ∀ o, Same G9 (upd G9 v1 o) := fun o => Same.of_upd h1
      refine ⟨_, rfl, z, C, e4, g4, _, rfl, z1 _ _ _ k4, T.cl, T.nD, l4, _, rfl, z, C, e3, g3, _, rfl, z1 _ _ _ k3, T.cl, T.nZ, l3, line2.1, fun v2 h2 => ?_⟩
      have z2 : ∀ o, Same _ (upd _ v2 o) := fun o => Same.of_upd h2
      refine ⟨v1, v2, _, _, rfl, rfl, SqT.of (z2 _ _ _ upd_same), SqT.of upd_same, rfl, fun j y z hy hz => ?_, fun G8 s11 => ⟨_, rfl, iteF ?_⟩⟩
      · match j, hy, hz with
        | 0, hy, hz => cases hy; cases hz; exact EB.fi _ _
        | 1, hy, hz => cases hy; cases hz; exact EB.fi _ _
        | j + 2, hy, _ => cases hy
      have S9 := ((z1 _).trans (z2 _)).trans s11
      refine ⟨_, rfl, _, rfl, a, z, rfl, rfl, ⟨_, _, S9 _ _ k1⟩, ⟨_, _, S9 _ _ k3⟩, a, z, wy, wy, rfl, hwc.mono S9, wa.mono S9, by rw [(wdim _).2]; exact p6, fun G10 s10 => ?_⟩
      rw [show CP.weq wy wy = true from SeqAt.eqv_refl _ (CP.lay_way _).1]
      refine ⟨true, rfl, false, rfl, iteF ?_⟩
      have S10 := (s0.trans s9).trans (S9.trans s10)
      dsimp only
      -- odd values
      have ln : (xs.length : Int) = (wy.steps.length : Int) := by rw [lx]
      refine ⟨_, _, rfl, rfl, _, rfl, _, rfl, _, _, rfl, rfl, (by show 1 ≤ sizeLine; decide), fun o1 y1 => ⟨(by show 1 ≤ sizeLine; decide), fun o2 y2 => fun o3 y3 => ⟨_, _, rfl, rfl, ⟨by decide, by decide⟩, ?_⟩⟩⟩
      refine ⟨(by show 10 ≤ sizeLine; decide), fun L hL => ?_⟩
      have x1 : ∀ o, Same G10 (upd G10 o1 o) := fun o => Same.of_upd y1
      have x2 : ∀ o, Same _ (upd _ o2 o) := fun o => Same.of_upd y2
      have x3 : ∀ o, Same _ (upd _ o3 o) := fun o => Same.of_upd y3
      have x4 : ∀ o, Same _ (upd _ L o) := fun o => Same.of_upd hL
      refine ⟨L, rfl, ⟨_, SqL.of upd_same⟩, for_list (K := K) (a := L) (xs := l10 (xs.length : Int) o1 o2 o3) (fun i σ G => Same H G ∧ G L = some (.lst (l10 (xs.length : Int) o1 o2 o3)) ∧ (∀ x ∈ l10 (xs.length : Int) o1 o2 o3, Odp wy.steps.length G x) ∧ ∃ q2 q3 q4 q5 : Option V, σ = [some (.ref a), some (.int (xs.length : Int)), q2, q3, q4, q5])
        ⟨S10.trans (((x1 _).trans (x2 _)).trans ((x3 _).trans (x4 _))), upd_same, l10_odp ln (x4 _ _ _ (x3 _ _ _ (x2 _ _ _ upd_same))) (x4 _ _ _ (x3 _ _ _ upd_same)) (x4 _ _ _ upd_same) p4, _, _, _, _, rfl⟩ (fun i σ G _ z => SqL.of z.2.1) ?_ ?_⟩
      · rintro i x σ G hx ⟨s0, sq, od, q2, q3, q4, q5, rfl⟩
        have ox := od _ (List.mem_of_getElem? hx)
        have w0 := hw.mono s0
        refine ⟨_, rfl, _, rfl, a, x, wy, t1, xs, dc, fc, rfl, w0, s0 _ _ c1, c2, s0 _ _ c3, lx, .inr ⟨ox.np, fun u1 G1 s1 hu1 => ?_⟩⟩
        refine ⟨_, rfl, _, rfl, a, x, wy, rfl, w0.mono s1, hf, .inr ⟨(ox.mono s1).np, fun u2 G2 s2 hu2 => ?_⟩⟩
        refine ⟨line2.1, fun M hM => ?_⟩
        have s3 : ∀ o, Same G2 (upd G2 M o) := fun o => Same.of_upd hM
        refine ⟨M, rfl, ⟨_, SqL.of upd_same⟩, for_list (K := K) (a := M) (xs := [.ref u1, .ref u2]) (fun i σ G' => Same G G' ∧ SqL K G' M [.ref u1, .ref u2] ∧ G' u1 = some (.tup [.str "step", x]) ∧ G' u2 = some (.tup [.str "step", x]) ∧ ∃ q3 q4 q5 : Option V, σ = [some (.ref a), some (.int (xs.length : Int)), some x, q3, q4, q5])
          ⟨(s1.trans s2).trans (s3 _), SqL.of upd_same, s3 _ _ _ (s2 _ _ hu1), s3 _ _ _ hu2, _, _, _, rfl⟩ (fun i σ G _ z => z.2.1) ?_ ?_⟩
        · rintro j t σ G' ht ⟨sa, sb, sc, sd, q3, q4, q5, rfl⟩
          obtain ⟨u, rfl, hu⟩ : ∃ u, t = .ref u ∧ G' u = some (.tup [.str "step", x]) := by
            match j, ht with
            | 0, ht => cases ht; exact ⟨_, rfl, sc⟩
            | 1, ht => cases ht; exact ⟨_, rfl, sd⟩
            | j + 2, ht => cases ht
          obtain ⟨tx, rx⟩ := (ox.mono sa).rp (K := K)
          refine ⟨_, rfl, u, _, _, _, rfl, rfl, SqT.of hu, at0, rfl, _, rfl, iteNF rfl ?_⟩
          refine ⟨_, rfl, u, _, _, _, rfl, rfl, SqT.of hu, at1, x, tx, rfl, rx, _, rfl, x, tx, rfl, rx, rfl, _, rfl, iteNF rfl ?_⟩
          exact ⟨sa, sb, sc, sd, _, _, _, rfl⟩
        · rintro σ G' ⟨sa, sb, sc, sd, q3, q4, q5, rfl⟩
          exact ⟨s0.trans sa, sa _ _ sq, fun y hy => (od y hy).mono sa, _, _, _, _, rfl⟩
      · rintro σ G ⟨s0, sq, od, q2, q3, q4, q5, rfl⟩
        exact k _ s0
end
end WP

end
section
set_option autoImplicit false
set_option Elab.async false
set_option linter.all false
set_option maxRecDepth 100000
set_option maxHeartbeats 4000000
set_option pp.maxSteps 900
/-! ## a way and values that are no ways -/
namespace TH
open PySem L2 G
open WP (top)
abbrev sNInit : Stmt := inClass (top 69) 0
abbrev sNEq : Stmt := inClass (top 69) 1
abbrev sCEq : Stmt := inClass (top 42) 4
/-- what the head tells of the three classes -/
structure Cs (K : PySem.W.Frag) (C D N : Addr) : Prop where
  kn : PySem.W.kitOne K (.type "NoneType") (.ref C) = some false
  kb : PySem.W.kitOne K (.type "bool") (.ref C) = some false
  ki : PySem.W.kitOne K (.type "int") (.ref C) = some false
  ks : PySem.W.kitOne K (.type "str") (.ref C) = some false
  kt : PySem.W.kitOne K (.type "tuple") (.ref C) = some false
  kl : PySem.W.kitOne K (.type "list") (.ref C) = some false
  kd : PySem.W.kitOne K (.type "dict") (.ref C) = some false
  dc : PySem.W.kitOne K (.ref D) (.ref C) = some false
  nc : PySem.W.kitOne K (.ref N) (.ref C) = some false
  cd : PySem.W.kitOne K (.ref C) (.ref D) = some false
  cn : PySem.W.kitOne K (.ref C) (.ref N) = some false
  fd : PySem.W.notFirst K C (.ref D) = true
  fn : PySem.W.notFirst K C (.ref N) = true
  gd : PySem.W.notFirst K D (.ref C) = true
  gn : PySem.W.notFirst K N (.ref C) = true
  nk : WO.NoKin K C
  dA : PySem.W.findIn K (.ref D) "__class__" = some (some (.builtin "object.__class__"))
  dM : PySem.W.mroIn K D (.type "object") = some true
  nA : PySem.W.findIn K (.ref N) "__class__" = some (some (.builtin "object.__class__"))
  nM : PySem.W.mroIn K N (.type "object") = some true
/-- the class Net -/
structure Nt (K : PySem.W.Frag) (mg : Str → Option Value) (N : Addr) : Prop where
  g : mg "Net" = some (.ref N)
  cl : Cls K N
  nF : NoAttr K N "_facts"
  nC : NoAttr K N "_calls"
section
variable {P : Program} {w : World} {K : PySem.W.Frag} {mg : Str → Option Value} {base : Heap} {C D N : Addr}
/-- == with a value that is none of the class -/
def spEqN (K : PySem.W.Frag) (C : Addr) : Sp := fun vs H Q _ => ∃ (a : Addr) (y : V) (t : Value), vs = [.ref a, y] ∧ TyX K H y t ∧ PySem.W.kitOne K t (.ref C) = some false ∧ Q (.bl false) H
theorem scNE : FnScope ["self", "other"] ["self", "other"] (defScope sNEq) := ⟨rfl, rfl, rfl, by decide +kernel, rfl, by decide +kernel, by decide +kernel⟩
theorem scCE : FnScope ["self", "other"] ["self", "other"] (defScope sCEq) := ⟨rfl, rfl, rfl, by decide +kernel, rfl, by decide +kernel, by decide +kernel⟩
theorem ok_neqN {f : Addr} {fd : FuncData} (F : Fun K "__eq__" "Net.__eq__" sNEq f fd) (B : Y.Bn mg) (g : mg "Net" = some (.ref N)) : FnOk P w K mg base CX0 1 f fd ["self", "other"] (spEqN K N) := by
  refine F.ok scNE (fun vs H Q E h => ?_) (fun cdv A outer s H vs Q E hr h => ?_)
  · obtain ⟨a, y, t, rfl, _⟩ := h
    rfl
  · obtain ⟨a, y, t, rfl, ty, e, k⟩ := h
    refine ⟨_, pss_one (ps_ret (pe_and (pe_callB call_isi (by rfl) B.isi (by decide +kernel) (pa_cons (pv 1) (pa_cons (pe_glob (v := .ref N) rfl g rfl) pa_nil)))
      (pe_one (pe_cmpR (op_eqD hr.units) (pe_fld (pv 0) rfl) (pe_fld (pv 1) rfl) (nomark _))))), ?_⟩
    exact ⟨_, rfl, _, _, _, _, false, rfl, .own N, ty, e, _, rfl, iteF k⟩
theorem ok_ceqN {f : Addr} {fd : FuncData} (F : Fun K "__eq__" "Chain.__eq__" sCEq f fd) (B : Y.Bn mg) (g : mg "Chain" = some (.ref D)) : FnOk P w K mg base CX0 1 f fd ["self", "other"] (spEqN K D) := by
  refine F.ok scCE (fun vs H Q E h => ?_) (fun cdv A outer s H vs Q E hr h => ?_)
  · obtain ⟨a, y, t, rfl, _⟩ := h
    rfl
  · obtain ⟨a, y, t, rfl, ty, e, k⟩ := h
    refine ⟨_, pss_one (ps_ret (pe_and (pe_callB call_isi (by rfl) B.isi (by decide +kernel) (pa_cons (pv 1) (pa_cons (pe_glob (v := .ref D) rfl g rfl) pa_nil)))
      (pe_one (pe_cmpR (op_eqD hr.units) (pe_fld (pv 0) rfl) (pe_fld (pv 1) rfl) (nomark _))))), ?_⟩
    exact ⟨_, rfl, _, _, _, _, false, rfl, .own D, ty, e, _, rfl, iteF k⟩
theorem ok_weqN {f : Addr} {fd : FuncData} (F : Fun K "__eq__" "Way.__eq__" WP.sWEq f fd) (B : Y.Bn mg) (g : mg "Way" = some (.ref C)) : FnOk P w K mg base CX0 1 f fd ["self", "other"] (spEqN K C) := by
  refine F.ok WP.scWEq (fun vs H Q E h => ?_) (fun cdv A outer s H vs Q E hr h => ?_)
  · obtain ⟨a, y, t, rfl, _⟩ := h
    rfl
  · obtain ⟨a, y, t, rfl, ty, e, k⟩ := h
    refine ⟨_, pss_one (ps_ret (pe_and (pe_callB call_isi (by rfl) B.isi (by decide +kernel) (pa_cons (pv 1) (pa_cons (pe_glob (v := .ref C) rfl g rfl) pa_nil)))
      (pe_and (pe_cmpR op_eq (pe_fld (pv 0) rfl) (pe_fld (pv 1) rfl) (nomark _))
      (pe_one (pe_cmpR (op_eqD hr.units) (pe_fld (pv 0) rfl) (pe_fld (pv 1) rfl) (nomark _)))))), ?_⟩
    exact ⟨_, rfl, _, _, _, _, false, rfl, .own C, ty, e, _, rfl, iteF k⟩
/-- Net.__init__ at a new instance -/
def spNInit (N : Addr) : Sp := fun vs H Q _ => ∃ (x dx : Addr) (H0 : Hp), vs = [.ref x] ∧ H x = some (.ins N dx []) ∧ H0 x = none ∧ Same H0 H ∧ ∀ H', Same H0 H' → WO.InsC N H' x → Q .non H'
theorem scNI : FnScope ["self"] ["self"] (defScope sNInit) := ⟨rfl, rfl, rfl, by decide +kernel, rfl, by decide +kernel, by decide +kernel⟩
theorem ok_ninit {f : Addr} {fd : FuncData} (F : Fun K "__init__" "Net.__init__" sNInit f fd) (T : Nt K mg N) : FnOk P w K mg base CX0 1 f fd ["self"] (spNInit N) := by
  refine F.ok scNI (fun vs H Q E h => ?_) (fun cdv A outer s H vs Q E hr h => ?_)
  · obtain ⟨x, dx, H0, rfl, _⟩ := h
    rfl
  · obtain ⟨x, dx, H0, rfl, hx, hx0, s0, kk⟩ := h
    refine ⟨_, pss_cons (ps_fld (pv 0) pe_dnewK rfl) (pss_one (ps_fld (pv 0) (pe_lst pa_nil) rfl)), ?_⟩
    intro a ha
    have xa : x ≠ a := fun z => by
      rw [z, ha] at hx
      cases hx
    refine ⟨_, rfl, x, N, dx, _, rfl, by rw [upd_ne xa]; exact hx, T.cl, T.nF, by decide, ?_⟩
    refine ⟨Nat.zero_le _, fun b hb => ?_⟩
    have xb : x ≠ b := fun z => by
      rw [← z, upd_same] at hb
      cases hb
    refine ⟨_, rfl, x, N, dx, _, rfl, by rw [upd_ne xb]; exact upd_same, T.cl, T.nC, Nat.lt_of_lt_of_le (WP.len_put (show ([] : List (Str × V)).length < 998 by decide)) (by decide), ?_⟩
    refine kk _ (fun z o e => ?_) ⟨_, _, upd_same⟩
    have zx : z ≠ x := fun q => by
      rw [q, hx0] at e
      cases e
    have e1 := s0 _ _ e
    have za : z ≠ a := fun q => by
      rw [q, ha] at e1
      cases e1
    have zb : z ≠ b := fun q => by
      rw [← q, upd_ne zx, upd_ne za, e1] at hb
      cases hb
    rw [upd_ne zx, upd_ne zb, upd_ne zx, upd_ne za]
    exact e1
/-- what a way is compared with -/
inductive Th (D N : Addr) (H : Hp) : V → Prop
  | bk {v : V} (h : WO.Bk H v) : Th D N H v
  | ch {a : Addr} (h : WO.InsC D H a) : Th D N H (.ref a)
  | nt {a : Addr} (h : WO.InsC N H a) : Th D N H (.ref a)
theorem Th.mono {H H' : Hp} (s : Same H H') {v : V} (h : Th D N H v) : Th D N H' v := by
  cases h with
  | bk h => exact .bk (h.mono s)
  | ch h => obtain ⟨_, _, h⟩ := h; exact .ch ⟨_, _, s _ _ h⟩
  | nt h => obtain ⟨_, _, h⟩ := h; exact .nt ⟨_, _, s _ _ h⟩
theorem bk_ty {H : Hp} {v : V} (S : Cs K C D N) (h : WO.Bk H v) : ∃ t, TyX K H v t ∧ PySem.W.kitOne K t (.ref C) = some false ∧ PySem.W.notFirst K C t = true := by
  obtain ⟨f1, f2, f3, f4, f5, f6, f7⟩ := @WO.nf_kinds K C
  cases h with
  | non => exact ⟨_, .base .non, S.kn, f1⟩
  | bl b => exact ⟨_, .base (.bl b), S.kb, f2⟩
  | int i => exact ⟨_, .base (.int i), S.ki, f3⟩
  | str x => exact ⟨_, .base (.str x), S.ks, f4⟩
  | tup h => exact ⟨_, .base (.tup h), S.kt, f6⟩
  | lst h => exact ⟨_, .base (.lst h), S.kl, f5⟩
  | dic h => exact ⟨_, .base (.dK h), S.kd, f7⟩
/-- a way == a thing, a thing == a way -/
def rThL (C D N : Addr) : R2 := fun x y H Q => ∃ a, x = .ref a ∧ WO.InsC C H a ∧ Th D N H y ∧ Q (.bl false) H
def rThR (C D N : Addr) : R2 := fun x y H Q => ∃ a, y = .ref a ∧ WO.InsC C H a ∧ Th D N H x ∧ Q (.bl false) H
end
section
variable {X : Cx} {n : Nat} {C D N fW fD fN : Addr} {dW dD dN : FuncData}
theorem op_thL (S : Cs X.K C D N) (T : WP.Wt X.K X.mg C) (cD : Cls X.K D) (cN : Cls X.K N) (F : FnOk X.prog X.w X.K X.mg X.base CX0 1 fW dW ["self", "other"] (spEqN X.K C)) (O : WO.Own X.K C fW "__eq__") (b : Binds X.K dW ["self", "other"] []) (hr : Room 1 X.A) : OpR X (compareOp .Eq) (rThL C D N) := by
  intro pins s σ H x y v u Q I rx ry h
  obtain ⟨a, rfl, ha, th, q⟩ := h
  refine WO.op_eqA (E := E0) F hr O b pass0 pins s σ H _ y v u Q I rx ry ?_
  cases th with
  | bk h =>
    obtain ⟨t, t1, t2, t3⟩ := bk_ty S h
    exact ⟨a, t, rfl, ha, t1, t3, a, y, t, rfl, t1, t2, false, rfl, q⟩
  | ch h =>
    obtain ⟨dx, fs, h⟩ := h
    have t1 : TyX X.K H (.ref _) (.ref D) := .base (.ins h cD S.dA T.iN T.iT S.dM)
    exact ⟨a, _, rfl, ha, t1, S.fd, a, _, _, rfl, t1, S.dc, false, rfl, q⟩
  | nt h =>
    obtain ⟨dx, fs, h⟩ := h
    have t1 : TyX X.K H (.ref _) (.ref N) := .base (.ins h cN S.nA T.iN T.iT S.nM)
    exact ⟨a, _, rfl, ha, t1, S.fn, a, _, _, rfl, t1, S.nc, false, rfl, q⟩
theorem op_thR (S : Cs X.K C D N) (T : WP.Wt X.K X.mg C) (F : FnOk X.prog X.w X.K X.mg X.base CX0 1 fW dW ["self", "other"] (spEqN X.K C)) (O : WO.Own X.K C fW "__eq__") (b : Binds X.K dW ["self", "other"] [])
    (FD : FnOk X.prog X.w X.K X.mg X.base CX0 1 fD dD ["self", "other"] (spEqN X.K D)) (OD : WO.Own X.K D fD "__eq__") (bD : Binds X.K dD ["self", "other"] [])
    (FN : FnOk X.prog X.w X.K X.mg X.base CX0 1 fN dN ["self", "other"] (spEqN X.K N)) (ON : WO.Own X.K N fN "__eq__") (bN : Binds X.K dN ["self", "other"] []) (hr : Room 1 X.A) : OpR X (compareOp .Eq) (rThR C D N) := by
  intro pins s σ H x y v u Q I rx ry h
  obtain ⟨a, rfl, ⟨dx, fs, ha⟩, th, q⟩ := h
  have ty : TyX X.K H (.ref a) (.ref C) := .base (.ins ha T.cl T.iA T.iN T.iT T.iM)
  cases th with
  | bk h =>
    obtain ⟨t, t1, t2, t3⟩ := bk_ty S h
    exact WO.op_back (E := E0) F hr O S.nk b pass0 pins s σ H x _ v u Q I rx ry ⟨a, rfl, ⟨dx, fs, ha⟩, h, a, x, t, rfl, t1, t2, false, rfl, q⟩
  | ch h => exact WO.op_eqA (E := E0) FD hr OD bD pass0 pins s σ H _ _ v u Q I rx ry ⟨_, _, rfl, h, ty, S.gd, _, _, _, rfl, ty, S.cd, false, rfl, q⟩
  | nt h => exact WO.op_eqA (E := E0) FN hr ON bN pass0 pins s σ H _ _ v u Q I rx ry ⟨_, _, rfl, h, ty, S.gn, _, _, _, rfl, ty, S.cn, false, rfl, q⟩
end
end TH

end
section
set_option autoImplicit false
set_option Elab.async false
set_option linter.all false
set_option maxRecDepth 100000
set_option maxHeartbeats 4000000
set_option pp.maxSteps 900
/-! ## the law -/
namespace G
open PySem PySem.Spec PyProof.Rows L2
section
variable {X : Cx} {CX : CXT} {k : Nat} {f : Addr} {fd : FuncData} {ps : List Str} {sp : Sp} {E : XK} {x : Str} {p pos : Pos} {e : Expr} {es : List Expr} {t : TA}
theorem go_fn {pins : List (Addr × Obj)} {σ : L2.St} {H : Hp} {s : Shared} {Q : VK} {us : List Value} {vs : List V} (hg : X.A.guards = some []) (F : Ok X.prog X.w X.K X.mg X.base CX k f fd ps sp) (hr : Room k X.A) (hb : Binds X.K fd ps [])
    (hx : Passes CX X E) (I : Inv X pins σ H s) (rv : Vals vs us) (h : sp vs H Q E) : wpAny (model X.prog X.w) X.A (call (.ref f) us) (EP X pins σ Q) X.xe s := by
  have b := hb s us I.kIn (by rw [List.append_nil, ← rv.length]; exact F.len _ _ _ _ h)
  rw [List.append_nil] at b
  refine wpAny_call (codeAny_mono (F.go X.A hg X.stack s H ⟨us, []⟩ us vs Q E hr I.env0 b rv h) ?_)
  intro r s' z
  match r, z with
  | .error e, z => exact hx pins σ H s e s' I z
  | .ok (.ret u), z => exact I.after z
  | .ok .next, z => exact z.elim
  | .ok .brk, z => exact z.elim
  | .ok .cont, z => exact z.elim
theorem pe_callG (hgu : X.A.guards = some []) (F : Ok X.prog X.w X.K X.mg X.base CX k f fd ps sp) (hr : Room k X.A) (hl : Gl X x) (hm : X.mg x = some (.ref f)) (hk : PySem.W.keepIn X.K (.ref f) = true) (hb : Binds X.K fd ps []) (hx : Passes CX X E)
    (ha : PA X (e :: es) t) (hdb : (x == ("__debug__" : Str)) = false := by decide) (he : starEach (e :: es) X.env = (false, eval e X.env) :: starEach es X.env := by rfl) (hpl : (backTo pos (starEach es X.env)).any (·.1) = false := by rfl) :
    PE X (.Call (.Name x p) (e :: es) [] pos) (tCall sp [] E t) := ⟨fun pins s σ H Q I h =>
  wpAny_Call_Name_kw (ld_glob I hl hm (PySem.W.callWith_K (h₀ := X.base) I.ok.mod.kin hk (thn (ha.run pos pins s σ H _ I h) fun us s1 ⟨vs, H1, I1, r, q⟩ => ⟨I1.kIn,
    go_fn hgu F hr hb hx I1 r ((congrArg (fun z => sp z H1 Q E) (List.append_nil vs)).mp q)⟩) he hpl) hdb)⟩
end
structure Du (P : Program) (w : World) (K : PySem.W.Frag) (mg : Str → Option Value) (base : Heap) (k : Nat) (x : Str) (ps : List Str) (sp : Sp) : Prop where
  ex : ∃ (f : Addr) (fd : FuncData), Ok P w K mg base CX0 k f fd ps sp ∧ mg x = some (.ref f) ∧ PySem.W.keepIn K (.ref f) = true ∧ Binds K fd ps []
end G
namespace M
theorem row_way {h k : Nat} {s : List Step} (h1 : 1 ≤ h) (h2 : h ≤ 8) (l1 : 1 ≤ s.length) (l2 : s.length ≤ 7) (hk : k ≤ 2) (q : ∀ y ∈ s, ∃ size ts lw, y = .road size ts lw ∧ h < size ∧ size ≤ 1000) : (Way.mk h (s ++ List.replicate k (.join 5))).fine := by
  have all : ∀ y ∈ s ++ List.replicate k (Step.join 5), Step.fine h y ∧ Step.dep y = 0 ∧ isz y = 0 := fun y hy => by
    rcases List.mem_append.mp hy with e | e
    · exact roads_flat q y e
    · rw [(List.mem_replicate.mp e).2]
      exact ⟨by unfold Step.fine; omega, rfl, rfl⟩
  obtain ⟨a, b⟩ := flat_all fun y hy => (all y hy).2
  have f := (fit_all (h := h) fun y hy => ⟨(all y hy).1, by rw [(all y hy).2.1]; omega, by rw [(all y hy).2.2]; omega⟩).1
  have l : (s ++ List.replicate k (Step.join 5)).length = s.length + k := by rw [List.length_append, List.length_replicate]
  unfold Way.fine
  exact ⟨by omega, by omega, f, by omega, by omega⟩
end M
namespace WP
open PySem L2 G
abbrev sLaw : Stmt := top 84
theorem RowAll.app {H : Hp} : ∀ {s r : List M.Step} {xs ys : List V}, RowAll H s xs → RowAll H r ys → RowAll H (s ++ r) (xs ++ ys)
  | [], r, xs, ys, a, b => by
    unfold RowAll at a
    subst a
    exact b
  | x :: s, r, xs, ys, a, b => by
    unfold RowAll at a
    obtain ⟨u, us, rfl, h1, h2⟩ := a
    show RowAll H (x :: (s ++ r)) (u :: (us ++ ys))
    unfold RowAll
    exact ⟨u, us ++ ys, rfl, h1, h2.app b⟩
theorem RowAll.rep {H : Hp} {y : M.Step} {x : V} (h : RowAt H y x) : ∀ k, RowAll H (List.replicate k y) (List.replicate k x)
  | 0 => by
    show RowAll H [] []
    unfold RowAll
    rfl
  | k + 1 => by
    rw [List.replicate_succ, List.replicate_succ]
    unfold RowAll
    exact ⟨x, _, rfl, h, RowAll.rep h k⟩
theorem bt_updF {p C1 : Addr} {H G : Hp} {o : HO} (b : Bt p H G) (n : H C1 = none) (ne : C1 ≠ p) : Bt p H (upd G C1 o) := by
  refine ⟨fun x z nx ex => ?_, ?_⟩
  · rw [upd_ne (fun e => by rw [e, n] at ex; cases ex)]
    exact b.1 x z nx ex
  · obtain ⟨r, m, e1, f1⟩ := b.2
    exact ⟨r, m, by rw [upd_ne ne.symm]; exact e1, f1⟩
theorem sameBt {p : Addr} {H G G' : Hp} (s : Same H G) (n : H p = none) (b : Bt p G G') : Same H G' := fun a o e => b.1 a o (fun z => by rw [z, n] at e; cases e) (s a o e)
abbrev l11 (o1 o2 xc xn o4 : Addr) (h : Int) : List V := [.non, .str "", .str "5", .ref o1, .ref o2, .bl true, .int 0, .ref xc, .ref xn, .int h, .ref o4]
abbrev plainS (k : Nat) : List M.Step := (List.replicate k [M.Step.join 7, .road 900 true .cut]).flatten
theorem plain_at {C : Addr} {H : Hp} {u1 u2 : Addr} (e1 : H u1 = some (.tup [.str "join", .int 7])) (e2 : H u2 = some (.tup [.str "road", .int 900, .str "tell", .str "cut"])) : ∀ k, StepsAt C H (plainS k) (List.replicate k [V.ref u1, V.ref u2]).flatten
  | 0 => by
    show StepsAt C H [] []
    unfold StepsAt
    rfl
  | k + 1 => by
    unfold plainS
    rw [List.replicate_succ, List.replicate_succ, List.flatten_cons, List.flatten_cons]
    refine StepsAt.app ?_ (plain_at e1 e2 k)
    unfold StepsAt
    refine ⟨_, _, rfl, ?_, ?_⟩
    · unfold StepAt
      exact ⟨u1, rfl, e1⟩
    · unfold StepsAt
      refine ⟨_, _, rfl, ?_, by unfold StepsAt; rfl⟩
      unfold StepAt
      exact ⟨u2, rfl, e2⟩
theorem plain_fine {h k : Nat} (h1 : 1 ≤ h) (h2 : h ≤ 9) (k1 : 1 ≤ k) (k2 : k ≤ 6) : M.Way.fine (.mk h (plainS k)) := by
  have all : ∀ y ∈ plainS k, M.Step.fine h y ∧ M.Step.dep y = 0 ∧ M.isz y = 0 := fun y hy => by
    obtain ⟨l, hl, hy⟩ := List.mem_flatten.mp hy
    rw [(List.mem_replicate.mp hl).2] at hy
    simp only [List.mem_cons, List.not_mem_nil, or_false] at hy
    rcases hy with rfl | rfl
    · exact ⟨by unfold M.Step.fine; omega, rfl, rfl⟩
    · exact ⟨by unfold M.Step.fine; omega, rfl, rfl⟩
  obtain ⟨a, b⟩ := M.flat_all fun y hy => (all y hy).2
  have f := (M.fit_all (h := h) fun y hy => ⟨(all y hy).1, by rw [(all y hy).2.1]; omega, by rw [(all y hy).2.2]; omega⟩).1
  have l : (plainS k).length = k * 2 := by rw [List.length_flatten, List.map_replicate, List.sum_replicate_nat]; rfl
  unfold M.Way.fine
  exact ⟨by omega, by omega, f, by omega, by omega⟩
theorem flat_one {α : Type} {x : α} : ∀ k, (List.replicate k [x]).flatten = List.replicate k x
  | 0 => rfl
  | k + 1 => by rw [List.replicate_succ, List.flatten_cons, flat_one k]; rfl
section
variable {P : Program} {w : World} {K : PySem.W.Frag} {mg : Str → Option Value} {base : Heap} {C Ch Ne : Addr}
theorem join3 {R : L2.St → Hp → Prop} {J : V → M.Way → Hp → Option V → Prop} {X : Prop} (σf : V → Option V → L2.St) (f : (∀ v wy H q, J v wy H q → R (σf v q) H) → X) (g : ∀ v wy H q, J v wy H q → R (σf v q) H) : X := f g
def spLaw (K : PySem.W.Frag) : Sp := fun vs H Q _ => ∃ (a : Addr) (ns : List Int), vs = [.ref a] ∧ SqL K H a (ns.map V.int) ∧ ns.length ≤ 63 ∧ (∀ z ∈ ns, Builtin.Int.intBits z ≤ 1048576) ∧ ∀ H', Q (.bl true) H'
structure Eqn (P : Program) (w : World) (K : PySem.W.Frag) (mg : Str → Option Value) (base : Heap) (C : Addr) : Prop where
  ex : ∃ (f : Addr) (fd : FuncData), FnOk P w K mg base CX0 1 f fd ["self", "other"] (TH.spEqN K C) ∧ WO.Own K C f "__eq__" ∧ Binds K fd ["self", "other"] []
structure Mkc (P : Program) (w : World) (K : PySem.W.Frag) (mg : Str → Option Value) (base : Heap) (C : Addr) (k : Nat) (ps : List Str) (sp : Sp) : Prop where
  ex : ∃ (f : Addr) (fd : FuncData), FnOk P w K mg base CX0 k f fd ps sp ∧ Mk K C f ∧ Binds K fd ps []
abbrev NLa : List Str := ["script", "start", "source", "turn", "rows", "others", "roads", "one", "two", "things", "plain", "near", "far", "number", "thing"]
theorem scLa : FnScope NLa ["script"] (defScope sLaw) := ⟨rfl, rfl, rfl, by decide +kernel, rfl, by decide +kernel, by decide +kernel⟩
theorem ok_law {f : Addr} {fd : FuncData} (F : Fun K "law" "law" sLaw f fd) (B : Y.Bn mg) (T : Wt K mg C) (Z : TH.Cs K C Ch Ne) (cD : Cls K Ch) (TN : TH.Nt K mg Ne) (gC : mg "Chain" = some (.ref Ch)) (ne : PySem.W.findIn K (.ref C) "__ne__" = some (some (.builtin "object.__ne__")))
    (DU : Df P w K mg base 1 "_law_source" ["script", "start"] (S.spSource K)) (DD : Df P w K mg base 1 "_law_draw" ["source", "span"] S.spDraw) (DF : Df P w K mg base 4 "_law_fitting" ["source", "depth", "many"] spLFit) (DR : Df P w K mg base 3 "_law_road" ["source", "head"] spLRoad) (DM : Df P w K mg base 11 "_law_made" ["rows"] (spLMade C 3))
    (DS : Df P w K mg base 14 "_law_sum_right" ["one", "two"] (spLSumR C)) (DP : G.Du P w K mg base 14 "_law_positions_right" ["way"] (spLPosR C)) (MW : Mw P w K mg base C) (MC : Mkc P w K mg base Ch 4 ["self", "cuts"] (CP.spCInit Ch)) (MN : Mkc P w K mg base Ne 1 ["self"] (TH.spNInit Ne))
    (EW : EwB P w K mg base C) (EQ : Eqn P w K mg base C) (ED : Eqn P w K mg base Ch) (EN : Eqn P w K mg base Ne) : G.Ok P w K mg base CX0 15 f fd ["script"] (spLaw K) := by
  obtain ⟨fU, fdU, GU, gU, kU, bU⟩ := DU.ex
  obtain ⟨fD, fdD, GD, gD, kD, bD⟩ := DD.ex
  obtain ⟨fF, fdF, GF, gF, kF, bF⟩ := DF.ex
  obtain ⟨fR, fdR, GR, gR, kR, bR⟩ := DR.ex
  obtain ⟨fM, fdM, GM, gM, kM, bM⟩ := DM.ex
  obtain ⟨fSR, fdSR, GSR, gSR, kSR, bSR⟩ := DS.ex
  obtain ⟨fP, fdP, GP, gP, kP, bP⟩ := DP.ex
  obtain ⟨fI, fdI, GI, MI, bI⟩ := MW.ex
  obtain ⟨fC, fdC, GC, MC, bC⟩ := MC.ex
  obtain ⟨fNt, fdNt, GNt, MNt, bNt⟩ := MN.ex
  obtain ⟨fE, fdE, GE, OE, bE⟩ := EW.ex
  obtain ⟨fQ, fdQ, GQ, OQ, bQ⟩ := EQ.ex
  obtain ⟨fV, fdV, GV, OV, bV⟩ := ED.ex
  obtain ⟨fN, fdN, GN, ON, bN⟩ := EN.ex
  have gI := T.g
  have gNt := TN.g
  have cN := TN.cl
  refine G.mk F scLa (fun vs H Q E h => ?_) (fun cdv A outer s H vs Q E hg hr h => ?_)
  · obtain ⟨a, ns, rfl, _⟩ := h
    rfl
  · obtain ⟨a, ns, rfl, hS, hl, hb, k⟩ := h
    refine ⟨_, pss_cons (ps_for PassesOwn.never rfl (pi_range1 (by rfl) B.range (pa_cons (pe_callB (call_max2 rfl) (by rfl) B.max (by decide +kernel) (pa_cons (pe_int) (pa_cons (pe_callB (call_min2 rfl) (by rfl) B.min (by decide +kernel) (pa_cons (pe_int) (pa_cons (pe_callB call_len_seq (by rfl) B.len PySem.boot_len (pa_cons (pv 0) pa_nil)) pa_nil))) pa_nil))) pa_nil)) (pg_name (i := 1) scLa.nd rfl (Or.inl rfl)) (pss_cons (ps_set (i := 2) scLa.nd rfl (Or.inr rfl) (pe_call GU (hr.mono (by decide)) rfl gU kU bU .nil pass0 (pa_cons (pv 0) (pa_cons (pv 1) pa_nil))))
      (pss_one (ps_for PassesOwn.never rfl (pi_range1 (by rfl) B.range (pa_cons (pe_int) pa_nil)) (pg_name (i := 3) scLa.nd rfl (Or.inl rfl)) (pss_cons (ps_asg (pe_tup (pa_cons (pe_call GF (hr.mono (by decide)) rfl gF kF bF .nil pass0 (pa_cons (pv 2) (pa_cons (pe_int) (pa_cons (pe_int) pa_nil)))) (pa_cons (pe_call GF (hr.mono (by decide)) rfl gF kF bF .nil pass0 (pa_cons (pv 2) (pa_cons (pe_int) (pa_cons (pe_int) pa_nil)))) pa_nil))) (pg_tup (by rfl) (pgs_cons (pg_name (i := 4) scLa.nd rfl (Or.inr rfl)) (pgs_cons (pg_name (i := 5) scLa.nd rfl (Or.inl rfl)) pgs_nil))))
      (pss_cons (ps_if (pt_cmpR (op_gt) (pe_call GD (hr.mono (by decide)) rfl gD kD bD .nil pass0 (pa_cons (pv 2) (pa_cons (pe_int) pa_nil))) (pe_int) (nomark _)) (pss_cons (ps_setLc (i := 6) (own := [("number", 13)]) (g := gName 13) (tt := tYes) (te := tCall spLRoad [] E0 (tCons (tVar 2) (tCons (tOp (rIxT K) (tVar 4) (tC (.int 0))) tNil))) rfl scLa.nd rfl rfl (sw_true rfl rfl rfl (by decide +kernel)) (pi_range1 (by rfl) B.range (pa_cons (pe_op (op_add) (pe_int) (pe_call GD (hr.mono (by decide)) rfl gD kD bD .nil pass0 (pa_cons (pv 2) (pa_cons (pe_int) pa_nil)))) pa_nil)) (blkOk_by (N := NLa) (sc := defScope sLaw) (by decide +kernel))
          (fun _ _ _ _ _ => by exact pg_name (i := 13) scLa.nd rfl (Or.inl rfl)) (fun _ _ _ _ _ => pts_nil) (fun _ _ _ _ _ => by exact pe_call GR (hr.mono (by decide)) rfl gR kR bR .nil pass0 (pa_cons (pv 2) (pa_cons (pe_ix ix_tup (pv 4) (pe_int) (fun _ _ => rfl)) pa_nil))))
      (pss_one (ps_set (i := 5) scLa.nd rfl (Or.inl rfl) (pe_tup (pa_cons (pe_ix ix_tup (pv 4) (pe_int) (fun _ _ => rfl)) (pa_cons (pe_op (op_cat) (pv 6) (pe_op (op_rep) (pe_lst (pa_cons (pe_tup (pa_cons (pe_str) (pa_cons (pe_int) pa_nil))) pa_nil)) (pe_call GD (hr.mono (by decide)) rfl gD kD bD .nil pass0 (pa_cons (pv 2) (pa_cons (pe_int) pa_nil))))) pa_nil)))))) (pss_nil))
      (pss_cons (ps_asg (pe_tup (pa_cons (pe_call GM (hr.mono (by decide)) rfl gM kM bM .nil pass0 (pa_cons (pv 4) pa_nil)) (pa_cons (pe_call GM (hr.mono (by decide)) rfl gM kM bM .nil pass0 (pa_cons (pv 5) pa_nil)) pa_nil))) (pg_tup (by rfl) (pgs_cons (pg_name (i := 7) scLa.nd rfl (Or.inr rfl)) (pgs_cons (pg_name (i := 8) scLa.nd rfl (Or.inl rfl)) pgs_nil))))
      (pss_cons (ps_if (PW.pt (pw_or (pt_not (pt_val (pe_call GSR (hr.mono (by decide)) rfl gSR kSR bSR .nil pass0 (pa_cons (pv 7) (pa_cons (pv 8) pa_nil))))) (pw_or (pt_not (pt_val (pe_call GSR (hr.mono (by decide)) rfl gSR kSR bSR .nil pass0 (pa_cons (pv 8) (pa_cons (pv 7) pa_nil))))) (pw_or1 (pt_not (pt_val (pe_call GSR (hr.mono (by decide)) rfl gSR kSR bSR .nil pass0 (pa_cons (pv 7) (pa_cons (pv 7) pa_nil))))))))) (pss_one (ps_ret (pe_bl))) (pss_nil))
      (pss_cons (ps_if (PW.pt (pw_or (pt_not (pt_val (pe_callG hg GP (hr.mono (by decide)) rfl gP kP bP pass0 (pa_cons (pv 7) pa_nil)))) (pw_or1 (pt_not (pt_val (pe_callG hg GP (hr.mono (by decide)) rfl gP kP bP pass0 (pa_cons (pv 8) pa_nil))))))) (pss_one (ps_ret (pe_bl))) (pss_nil))
      (pss_cons (ps_if (PW.pt (pw_or (pt_not (pt_cmpR (EB.op_eqB (EB.rcB_wy GE OE bE) (hr.mono (by decide))) (pv 7) (pe_call GM (hr.mono (by decide)) rfl gM kM bM .nil pass0 (pa_cons (pv 4) pa_nil)) (nomark _))) (pw_or (pt_cmpR (op_ne) (pe_cmpR (EB.op_eqB (EB.rcB_wy GE OE bE) (hr.mono (by decide))) (pv 7) (pv 8) (nomark _)) (pe_cmpR (op_eqD hr.units) (pv 4) (pv 5) (nomark _)) (nomark _)) (pw_or1 (pt_cmpR (TH.op_thL Z T cD cN GQ OQ bQ (hr.mono (by decide))) (pv 7) (pe_fld (pv 7) rfl) (nomark _)))))) (pss_one (ps_ret (pe_bl))) (pss_nil))
      (pss_cons (ps_set (i := 9) scLa.nd rfl (Or.inl rfl) (pe_lst (pa_cons (pe_non) (pa_cons (pe_str) (pa_cons (pe_str) (pa_cons (pe_tup (pa_cons (pe_int) pa_nil)) (pa_cons (pe_dnewK) (pa_cons (pe_bl) (pa_cons (pe_int) (pa_cons (pe_make MC GC (hr.mono (by decide)) rfl gC bC .nil pass0 (pa_cons (pe_lst (pa_cons (pe_int) pa_nil)) pa_nil)) (pa_cons (pe_make0 MNt GNt (hr.mono (by decide)) rfl gNt bNt .nil pass0) (pa_cons (pe_fld (pv 7) rfl) (pa_cons (pe_lst (pa_cons (pv 7) pa_nil)) pa_nil)))))))))))))
      (pss_cons (ps_if (pt_cmpR (op_neD hr.units) (pe_lc (own := [("thing", 14)]) (g := gName 14) (tt := tOr (tTest (tOp (TH.rThL C Ch Ne) (tVar 7) (tVar 14))) (tTest (tOp (TH.rThR C Ch Ne) (tVar 14) (tVar 7)))) (te := tVar 14) rfl scLa.nd (pi_list (pv 9)) (blkOk_by (N := NLa) (sc := defScope sLaw) (by decide +kernel))
          (fun _ _ _ _ _ => by exact pg_name (i := 14) scLa.nd rfl (Or.inl rfl)) (fun _ _ _ _ _ => pts_one (by exact PW.pt (pw_or (pt_cmpR (TH.op_thL Z T cD cN GQ OQ bQ (hr.mono (by decide))) (pv 7) (pv 14) (nomark _)) (pw_or1 (pt_cmpR (TH.op_thR Z T GQ OQ bQ GV OV bV GN ON bN (hr.mono (by decide))) (pv 14) (pv 7) (nomark _)))))) (fun _ _ _ _ _ => by exact pv 14)) (pe_lst pa_nil) (nomark _)) (pss_one (ps_ret (pe_bl))) (pss_nil))
      (pss_cons (ps_set (i := 10) scLa.nd rfl (Or.inl rfl) (pe_op (op_rep) (pe_lst (pa_cons (pe_tup (pa_cons (pe_str) (pa_cons (pe_int) pa_nil))) (pa_cons (pe_tup (pa_cons (pe_str) (pa_cons (pe_int) (pa_cons (pe_str) (pa_cons (pe_str) pa_nil))))) pa_nil))) (pe_op (op_add) (pe_int) (pe_call GD (hr.mono (by decide)) rfl gD kD bD .nil pass0 (pa_cons (pv 2) (pa_cons (pe_int) pa_nil))))))
      (pss_cons (ps_par (i := 11) (j := 12) (by rfl) scLa.nd rfl rfl (by decide) rfl rfl (pa_cons (pe_make MI GI (hr.mono (by decide)) rfl gI bI .nil pass0 (pa_cons (pe_fld (pv 7) rfl) (pa_cons (pv 10) pa_nil))) (pa_cons (pe_make MI GI (hr.mono (by decide)) rfl gI bI .nil pass0 (pa_cons (pe_op (op_add) (pe_op (op_mod) (pe_fld (pv 7) rfl) (pe_int)) (pe_int)) (pa_cons (pv 10) pa_nil))) pa_nil)) (by rfl))
      (pss_cons (ps_if (PW.pt (pw_or (pt_cmpR (WO.op_neO GE (hr.mono (by decide)) OE T.iM ne bE pass0) (pv 7) (pe_call GM (hr.mono (by decide)) rfl gM kM bM .nil pass0 (pa_cons (pv 4) pa_nil)) (nomark _)) (pw_or (pt_cmpR (EB.op_eqB (EB.rcB_wy GE OE bE) (hr.mono (by decide))) (pv 11) (pv 12) (nomark _)) (pw_or (pt_not (pt_cmpR (WO.op_neO GE (hr.mono (by decide)) OE T.iM ne bE pass0) (pv 11) (pv 12) (nomark _))) (pw_or (pt_cmpR (TH.op_thL Z T cD cN GQ OQ bQ (hr.mono (by decide))) (pv 7) (pe_lst (pa_cons (pe_fld (pv 7) rfl) pa_nil)) (nomark _)) (pw_or1 (pt_cmpR (TH.op_thL Z T cD cN GQ OQ bQ (hr.mono (by decide))) (pv 11) (pe_fld (pv 11) rfl) (nomark _)))))))) (pss_one (ps_ret (pe_bl))) (pss_nil))
      (pss_one (ps_if (PW.pt (pw_or (pt_not (pt_val (pe_call GSR (hr.mono (by decide)) rfl gSR kSR bSR .nil pass0 (pa_cons (pv 11) (pa_cons (pv 12) pa_nil))))) (pw_or (pt_not (pt_val (pe_call GSR (hr.mono (by decide)) rfl gSR kSR bSR .nil pass0 (pa_cons (pv 12) (pa_cons (pv 11) pa_nil))))) (pw_or1 (pt_not (pt_val (pe_call GSR (hr.mono (by decide)) rfl gSR kSR bSR .nil pass0 (pa_cons (pv 11) (pa_cons (pv 11) pa_nil))))))))) (pss_one (ps_ret (pe_bl))) (pss_nil))))))))))))))))))
      (pss_one (ps_ret (pe_bl))), ?_⟩
    refine ⟨_, rfl, a, _, rfl, .inl hS, _, _, rfl, _, _, rfl, _, rfl, by split <;> omega, by split <;> (try split) <;> omega, for_range (n := Int.toNat _) (fun i σ G => Same H G ∧ ∃ q1 q2 q3 q4 q5 q6 q7 q8 q9 q10 q11 q12, σ = [some (.ref a), q1, q2, q3, q4, q5, q6, q7, q8, q9, q10, q11, q12, none, none])
      ⟨Same.refl H, _, _, _, _, _, _, _, _, _, _, _, _, rfl⟩ ?_ ?_⟩
    · rintro i σ G hi ⟨s0, q1, q2, q3, q4, q5, q6, q7, q8, q9, q10, q11, q12, rfl⟩
      dsimp only
      refine set_then (i := 2) ⟨_, rfl, _, rfl, a, ns, i, by show [V.ref a, V.int (0 + (i : Int))] = _; rw [Int.zero_add], ?_, s0.seq hS, hl, hb, fun p r m hp hf => ?_⟩
      · split at hi <;> (try split at hi) <;> omega
      have hp0 : H p = none := s0.free hp
      have s1 : Same H (upd G p (.lst (S.Two r m))) := s0.trans (Same.of_upd hp)
      have at1 : S.At (upd G p (.lst (S.Two r m))) p := ⟨r, m, upd_same, hf⟩
      generalize upd G p (.lst (S.Two r m)) = G1 at s1 at1 ⊢
      clear hp hf
      dsimp only
      refine ⟨6, rfl, by decide, by decide, for_range (n := 6) (fun i2 σ G => Bt p G1 G ∧ ∃ q3 q4 q5 q6 q7 q8 q9 q10 q11 q12, σ = [some (.ref a), some (.int (0 + (i : Int))), some (.ref p), q3, q4, q5, q6, q7, q8, q9, q10, q11, q12, none, none])
        ⟨Bt.same (Same.refl _) at1, _, _, _, _, _, _, _, _, _, _, rfl⟩ ?_ ?_⟩
      · rintro i2 σ G2 hi2 ⟨b2, q3, q4, q5, q6, q7, q8, q9, q10, q11, q12, rfl⟩
        have a2 := b2.2
        dsimp only
        refine ⟨_, rfl, p, 6, rfl, by decide, by decide, a2, fun w1 v1 G3 b3 r1 f1 h1 => ⟨_, rfl, p, 7, rfl, by decide, by decide, b3.2, fun w2 v2 G4 b4 r2 f2 h2 => ⟨line2.1, fun u hu => ⟨u, _, rfl, SqT.of upd_same, rfl, ?_⟩⟩⟩⟩
        refine ⟨_, _, rfl, _, _, rfl, rfl, ?_⟩
        have n5 := Bt.new (.tup [v1, v2]) b4.2 hu
        have b5 := (b3.trans b4).trans n5
        have R1 := (r1.bt b4 b3.2).bt n5 b4.2
        have R2 := r2.bt n5 b4.2
        generalize upd G4 u (.tup [v1, v2]) = G5 at b5 R1 R2 ⊢
        clear n5 b4 b3 r1 r2 hu
        dsimp only
        refine draw_vv rfl b5.2 (by decide) (by decide +kernel) fun j G6 j0 j1 b6 => ?_
        refine ⟨_, _, rfl, rfl, _, rfl, ?_⟩
        have R1 := R1.bt b6 b5.2
        have R2 := R2.bt b6 b5.2
        have b7 := b5.trans b6
        clear b5 b6
        obtain ⟨h, st⟩ := w1
        have h1 : h ≤ 8 := h1
        have h0 : 1 ≤ h := (fine_parts f1).1
        have zz := R1
        unfold RowsAt at zz
        obtain ⟨t1, L1, xs1, rfl, z1, -⟩ := zz
        apply join3 (J := fun v wy G q => Bt p G2 G ∧ RowsAt G (.mk h st) (.ref t1) ∧ RowsAt G wy v ∧ wy.fine ∧ wy.head ≤ 40) (fun v q => [some (V.ref a), some (V.int (0 + (i : Int))), some (V.ref p), some (V.int (0 + (i2 : Int))), some (.ref t1), some v, q, q7, q8, q9, q10, q11, q12, none, none])
        · intro go
          by_cases hj : ¬ (0 : Int) < j
          · rw [decide_eq_false hj]
            refine iteF ?_
            exact go v2 w2 G6 q6 ⟨b7, R1, R2, f2, by omega⟩
          · rw [decide_eq_true (Classical.not_not.mp hj)]
            refine iteT ?_
            refine set_then (i := 6) (draw_of rfl b7.2 (by decide) (by decide +kernel) fun n G7 n0 n1 b8 => ⟨_, rfl, by omega, by omega, fun C1 nC => ?_⟩)
            have neC := at_ne b8.2 nC
            have y1 := bt_tup b8 b7.2 z1
            refine lc_range (lo := 0) (n := (1 + n).toNat) (fun i G => Bt p G7 G ∧ ∃ us sts, G C1 = some (.lst us) ∧ RowAll G sts us ∧ Roads h sts ∧ us.length = i) ⟨Bt.new (.lst []) b8.2 nC, [], [], upd_same, (by unfold RowAll; rfl), (fun y hy => by cases hy), rfl⟩ ?_ ?_
            · rintro i4 G hi4 ⟨bG, us, sts, e, rf, rd, l4⟩
              refine ⟨rfl, _, rfl, _, rfl, t1, _, _, _, rfl, rfl, SqT.of (bt_tup bG b8.2 y1), at0, p, h, rfl, bG.2, fun t H' c ts lw c1 c2 b e2 => ⟨us, bt_lst b neC e, small1000 (by omega), bt_updF (bG.trans b) nC neC, us ++ [.ref t], sts ++ [.road (h + c) ts lw], upd_same, ?_, ?_, by rw [List.length_append, l4]; rfl⟩⟩
              · refine RowAll.snoc ((rf.bt b bG.2).roads (h := h) (add_tup (bt_lst b neC e)) rd) ?_
                unfold RowAt
                exact ⟨t, rfl, add_tup (bt_lst b neC e) _ _ e2⟩
              · intro y hy
                rcases List.mem_append.mp hy with q | q
                · exact rd y q
                · rw [List.mem_singleton.mp q]
                  exact ⟨_, _, _, rfl, by omega, by omega⟩
            · rintro G8 ⟨b9, us, sts, eC, rfC, rdC, lC⟩
              have x1 := bt_tup b9 b8.2 y1
              have b789 := b8.trans b9
              have lS := rfC.len
              refine ⟨_, rfl, t1, _, _, _, rfl, rfl, SqT.of x1, at0, _, rfl, line2.1, fun u1 hu1 => ⟨(by show 1 ≤ sizeLine; decide), fun l1 hl1 => ?_⟩⟩
              have n1 := Bt.new (.tup [V.str "join", V.int 5]) b9.2 hu1
              have n2 := n1.trans (Bt.new (.lst [V.ref u1]) n1.2 hl1)
              have ll1 := at_ne n1.2 hl1
              refine draw_vv rfl n2.2 (by decide) (by decide +kernel) fun k G9 k0 k1 b10 => ?_
              have n3 := n2.trans b10
              have g1 := bt_tup b10 n2.2 (Same.of_upd hl1 _ _ upd_same)
              have g2 := bt_lst b10 ll1 upd_same
              refine ⟨l1, k, _, rfl, rfl, g2, by omega, by omega, ?_, fun l2 hl2 => ?_⟩
              · show 1 * k.toNat ≤ sizeLine
                exact Nat.le_trans (show 1 * k.toNat ≤ 3 by omega) (by decide)
              rw [flat_one]
              have n4 := Same.of_upd (o := .lst (List.replicate k.toNat (V.ref u1))) hl2
              have nl2 := at_ne n3.2 hl2
              refine ⟨C1, l2, us, _, rfl, rfl, n4 _ _ (bt_lst n3 neC eC), upd_same, ?_, fun l3 hl3 => ⟨line2.1, fun u2 hu2 => ?_⟩⟩
              · rw [List.length_replicate]
                exact Nat.le_trans (show us.length + k.toNat ≤ 20 by omega) (by decide)
              have n5 := (n4.trans (Same.of_upd (o := .lst (us ++ List.replicate k.toNat (V.ref u1))) hl3)).trans (Same.of_upd (o := .tup [V.int (h : Int), V.ref l3]) hu2)
              have n6 := n3.trans (Bt.same n5 n3.2)
              refine go (.ref u2) (.mk h (sts ++ List.replicate k.toNat (.join 5))) _ (some (.ref C1)) ⟨(b7.trans b789).trans n6, (R1.bt b789 b7.2).bt n6 b9.2, ?_, M.row_way h0 h1 (by omega) (by omega) (by omega) rdC, by show h ≤ 40; omega⟩
              unfold RowsAt
              refine ⟨u2, l3, _, rfl, upd_same, Same.of_upd hu2 _ _ upd_same, RowAll.app (rfC.bt n6 b9.2) (RowAll.rep ?_ _)⟩
              unfold RowAt
              exact ⟨u1, rfl, n5 _ _ g1⟩
        · intro v2 w2 G8 q6 ⟨b8, R1, R2, f2, h2⟩
          unfold tNext
          dsimp only
          have d1 : M.Way.depth (.mk h st) ≤ 3 := by rw [(wdim _).2]; exact (fine_parts f1).2.2.2.2.2.1
          have d2 : w2.depth ≤ 3 := by rw [(wdim _).2]; exact (fine_parts f2).2.2.2.2.2.1
          refine ⟨_, rfl, .ref t1, .mk h st, rfl, R1, f1, d1, fun x1 G9 s9 W1 => ⟨_, rfl, v2, w2, rfl, R2.mono s9, f2, d2, fun x2 G10 s10 W2 => ⟨line2.1, fun u hu => ⟨u, _, rfl, SqT.of upd_same, rfl, _, _, rfl, _, _, rfl, rfl, ?_⟩⟩⟩⟩
          have s11 := (s9.trans s10).trans (Same.of_upd (o := .tup [V.ref x1, V.ref x2]) hu)
          have W1 := W1.mono (s10.trans (Same.of_upd (o := .tup [V.ref x1, V.ref x2]) hu))
          have W2 := W2.mono (Same.of_upd (o := .tup [V.ref x1, V.ref x2]) hu)
          have b11 := b8.trans (Bt.same s11 b8.2)
          have R1 := R1.mono s11
          have R2 := R2.mono s11
          generalize upd G10 u (.tup [V.ref x1, V.ref x2]) = G11 at s11 W1 W2 b11 R1 R2 ⊢
          clear b8 hu s9 s10 s11
          dsimp only
          -- sums, positions
          refine ⟨_, rfl, _, rfl, x1, x2, _, _, rfl, W1, W2, f1, f2, fun H1 g1 => ⟨_, rfl, iteF ?_⟩⟩
          refine ⟨_, rfl, _, rfl, x2, x1, _, _, rfl, W2.mono g1, W1.mono g1, f2, f1, fun H2 g2 => ⟨_, rfl, iteF ?_⟩⟩
          refine ⟨_, rfl, _, rfl, x1, x1, _, _, rfl, (W1.mono g1).mono g2, (W1.mono g1).mono g2, f1, f1, fun H3 g3 => ⟨_, rfl, iteF ?_⟩⟩
          have u3 := (g1.trans g2).trans g3
          try unfold tNext
          dsimp only
          refine ⟨_, rfl, x1, _, rfl, W1.mono u3, f1, fun H4 g4 => ⟨_, rfl, iteF ?_⟩⟩
          refine ⟨_, rfl, x2, _, rfl, (W2.mono u3).mono g4, f2, fun H5 g5 => ⟨_, rfl, iteF ?_⟩⟩
          have u5 := (u3.trans g4).trans g5
          try unfold tNext
          dsimp only
          -- equalities
          refine ⟨_, rfl, _, rfl, .ref t1, .mk h st, rfl, R1.mono u5, f1, d1, fun x3 H6 g6 W3 => ⟨true, ⟨x1, x3, _, _, rfl, rfl, (W1.mono u5).mono g6, W3, d1, (SeqAt.eqv_refl _ (CP.lay_way _).1).symm⟩, fun H7 g7 => ⟨_, rfl, iteF ?_⟩⟩⟩
          have u7 := (u5.trans g6).trans g7
          refine ⟨_, rfl, _, rfl, CP.weq (.mk h st) w2, ⟨x1, x2, _, _, rfl, rfl, W1.mono u7, W2.mono u7, d1, rfl⟩, fun H8 g8 => ⟨_, rfl, _, rfl, _, _, CP.dp_row ((R1.mono u7).mono g8), CP.dp_row ((R2.mono u7).mono g8), CP.shp_row d1, CP.shp_row d2, rfl, _, rfl, iteNF (congrArg V.bl (CP.eqv_row _ _).symm) ?_⟩⟩
          have u8 := u7.trans g8
          obtain ⟨dc, fc, l1, xs, c1, c2, c3, c4⟩ := steps_fld (W1.mono u8)
          obtain ⟨da, fa, a1, a2⟩ := head_fld (W1.mono u8)
          refine ⟨_, rfl, _, rfl, x1, C, dc, fc, _, rfl, c1, T.cl, T.nS, c2, x1, rfl, ⟨_, _, c1⟩, .bk (.tup c3), _, rfl, iteF ?_⟩
          try unfold tNext
          dsimp only
          have W1 := W1.mono u8
          have R1 := R1.mono u8
          have b12 := b11.trans (Bt.same u8 b11.2)
          clear u3 u5 u7 u8 b11 W2 R2 W3
          -- things
          refine set_then (i := 9) ⟨(by show 1 ≤ sizeLine; decide), fun o1 y1 => fun o2 y2 => ⟨(by show 1 ≤ sizeLine; decide), fun o3 y3 => ?_⟩⟩
          have n1 : ∀ o, Same H8 (upd H8 o1 o) := fun o => Same.of_upd y1
          have n2 : ∀ o, Same _ (upd _ o2 o) := fun o => Same.of_upd y2
          have n3 : ∀ o, Same _ (upd _ o3 o) := fun o => Same.of_upd y3
          refine fun xc dx hx hdx nec => CP.made_ch hx hdx nec (cs := [1]) (.inl upd_same) ⟨⟨by decide, (fun d hd => nomatch hd), trivial⟩, by simp, by simp⟩ fun A1 m1 hch => ⟨rfl, ?_⟩
          refine fun xn dxn hxn hdxn nen => ⟨xn, dxn, A1, rfl, upd_same, hxn, (Same.of_upd hdxn).trans (Same.of_upd (by rw [upd_ne nen.symm]; exact hxn)), fun A2 m2 hnt => ⟨rfl, ?_⟩⟩
          have m12 := ((n1 _).trans (n2 _)).trans (((n3 _).trans m1).trans m2)
          refine ⟨_, rfl, x1, C, da, fa, _, rfl, m12 _ _ a1, T.cl, T.nH, a2, _, rfl, (by show 1 ≤ sizeLine; decide), fun o4 y4 => ⟨(by show 11 ≤ sizeLine; decide), fun L hL => ?_⟩⟩
          have n4 : ∀ o, Same A2 (upd A2 o4 o) := fun o => Same.of_upd y4
          have n5 : ∀ o, Same _ (upd _ L o) := fun o => Same.of_upd hL
          dsimp only
          have th : ∀ v ∈ l11 o1 o2 xc xn o4 (h : Int), TH.Th Ch Ne (upd (upd A2 o4 (.lst [.ref x1])) L (.lst (l11 o1 o2 xc xn o4 (h : Int)))) v := fun v hv => by
            have k5 : ∀ {v : V}, TH.Th Ch Ne A2 v → TH.Th Ch Ne (upd (upd A2 o4 (.lst [.ref x1])) L (.lst (l11 o1 o2 xc xn o4 (h : Int)))) v := fun t => (t.mono (n4 _)).mono (n5 _)
            simp only [l11, List.mem_cons, List.not_mem_nil, or_false] at hv
            rcases hv with rfl | rfl | rfl | rfl | rfl | rfl | rfl | rfl | rfl | rfl | rfl
            · exact .bk .non
            · exact .bk (.str _)
            · exact .bk (.str _)
            · exact k5 (.bk (.tup (m2 _ _ (m1 _ _ (n3 _ _ _ (n2 _ _ _ upd_same))))))
            · exact k5 (.bk (.dic (m2 _ _ (m1 _ _ (n3 _ _ _ upd_same)))))
            · exact .bk (.bl _)
            · exact .bk (.int _)
            · obtain ⟨dz, tz, uz, hz, _⟩ := hch
              exact k5 (.ch ⟨_, _, m2 _ _ hz⟩)
            · exact k5 (.nt hnt)
            · exact .bk (.int _)
            · exact .bk (.lst (n5 _ _ _ upd_same))
          refine ⟨_, rfl, L, rfl, ⟨_, SqL.of upd_same⟩, fun D hD => ?_⟩
          have n6 : ∀ o, Same _ (upd _ D o) := fun o => Same.of_upd hD
          refine lc_list (K := K) (a := L) (xs := l11 o1 o2 xc xn o4 (h : Int)) (fun i G => Same H8 G ∧ G L = some (.lst (l11 o1 o2 xc xn o4 (h : Int))) ∧ (∀ v ∈ l11 o1 o2 xc xn o4 (h : Int), TH.Th Ch Ne G v) ∧ G D = some (.lst []))
            ⟨m12.trans (((n4 _).trans (n5 _)).trans (n6 _)), n6 _ _ _ upd_same, fun v hv => (th v hv).mono (n6 _), upd_same⟩ (fun i G _ z => SqL.of z.2.1) ?_ ?_
          · rintro i4 y G hy ⟨z1, z2, z3, z4⟩
            have ty := z3 y (List.mem_of_getElem? hy)
            exact ⟨rfl, _, rfl, _, rfl, x1, rfl, ⟨_, _, z1 _ _ c1⟩, ty, _, rfl, iteF ⟨_, rfl, _, rfl, x1, rfl, ⟨_, _, z1 _ _ c1⟩, ty, _, rfl, iteF ⟨z1, z2, z3, z4⟩⟩⟩
          · rintro G12 ⟨z1, -, -, z4⟩
            refine ⟨Nat.zero_le _, fun o5 y5 => ?_⟩
            have n7 : ∀ o, Same G12 (upd G12 o5 o) := fun o => Same.of_upd y5
            refine ⟨.list [], .list [], .lst (SqL.of (n7 _ _ _ z4)) .nil, .lst (SqL.of upd_same) .nil, by decide +kernel, by decide +kernel, _, rfl, iteF ?_⟩
            have W1 := (W1.mono z1).mono (n7 (.lst []))
            have R1 := (R1.mono z1).mono (n7 (.lst []))
            have b13 := b12.trans (Bt.same (z1.trans (n7 (.lst []))) b12.2)
            generalize upd G12 o5 (.lst []) = G13 at W1 R1 b13 ⊢
            clear n7 y5 z1 z4 n6 hD th n5 n4 hL y4 m12 m2 m1 hnt hch n3 n2 n1 y1 y2 y3 hx hdx nec hxn hdxn nen b12
            dsimp only
            refine set_then (i := 10) ⟨line2.1, fun u1 k1 => ⟨(by show 4 ≤ sizeLine; decide), fun u2 k2 => ⟨line2.1, fun lp k3 => ?_⟩⟩⟩
            have n1 := Bt.new (.tup [V.str "join", V.int 7]) b13.2 k1
            have n2 := Bt.new (.tup [V.str "road", V.int 900, V.str "tell", V.str "cut"]) n1.2 k2
            have n3 := Bt.new (.lst [V.ref u1, V.ref u2]) n2.2 k3
            have lpp := at_ne n2.2 k3
            refine draw_of rfl n3.2 (by decide) (by decide +kernel) fun n G14 j0 j1 b14 => ⟨lp, 1 + n, _, rfl, rfl, bt_lst b14 lpp upd_same, by omega, by omega, ?_, fun lq k4 => ?_⟩
            · show 2 * (1 + n).toNat ≤ sizeLine
              exact Nat.le_trans (show 2 * (1 + n).toNat ≤ 20 by omega) (by decide)
            have n4 := Same.of_upd (o := .lst (List.replicate (1 + n).toNat [V.ref u1, V.ref u2]).flatten) k4
            have b15 := (((n1.trans n2).trans n3).trans b14).trans (Bt.same n4 b14.2)
            have g1 := n4 _ _ (bt_tup b14 n3.2 (Same.of_upd k3 _ _ (Same.of_upd k2 _ _ upd_same)))
            have g2 := n4 _ _ (bt_tup b14 n3.2 (Same.of_upd k3 _ _ upd_same))
            have hst := plain_at (C := C) g1 g2 (1 + n).toNat
            have W1 := W1.keep (CP.bt_keepT b15 b13.2)
            have R1 := R1.bt b15 b13.2
            have b16 := b13.trans b15
            have eq : (upd G14 lq (.lst (List.replicate (1 + n).toNat [V.ref u1, V.ref u2]).flatten)) lq = some (.lst (List.replicate (1 + n).toNat [V.ref u1, V.ref u2]).flatten) := upd_same
            generalize upd G14 lq (.lst (List.replicate (1 + n).toNat [V.ref u1, V.ref u2]).flatten) = G15 at hst W1 R1 b16 eq ⊢
            clear n1 n2 n3 n4 g1 g2 b13 b14 b15 k1 k2 k3 k4 lpp
            have ff : M.Way.fine (.mk h (plainS (1 + n).toNat)) := plain_fine h0 (by omega) (by omega) (by omega)
            have fg : M.Way.fine (.mk (h + 1) (plainS (1 + n).toNat)) := plain_fine (by omega) (by omega) (by omega) (by omega)
            have df : M.Way.depth (.mk h (plainS (1 + n).toNat)) ≤ 3 := by rw [(wdim _).2]; exact (fine_parts ff).2.2.2.2.2.1
            generalize plainS (1 + n).toNat = ps at hst ff fg df
            obtain ⟨da, fa, a1, a2⟩ := head_fld W1
            dsimp only
            refine ⟨_, rfl, x1, C, da, fa, _, rfl, a1, T.cl, T.nH, a2, _, rfl, fun xa dz hz hdz nez => ⟨xa, lq, dz, h, _, ps, G15, rfl, upd_same, hz, (Same.of_upd hdz).trans (Same.of_upd (by rw [upd_ne nez.symm]; exact hz)), .inl eq, hst, ff, fun A1 m1 Wa => ⟨rfl, ?_⟩⟩⟩
            refine ⟨_, rfl, x1, C, da, fa, _, rfl, m1 _ _ a1, T.cl, T.nH, a2, _, _, rfl, rfl, (by show (0 : Int) < 40; decide), _, _, rfl, rfl, _, rfl, fun xb dz hz hdz nez => ⟨xb, lq, dz, h + 1, _, ps, A1, ?_, upd_same, hz, (Same.of_upd hdz).trans (Same.of_upd (by rw [upd_ne nez.symm]; exact hz)), .inl (m1 _ _ eq), hst.mono m1, fg, fun A2 m2 Wb => ⟨rfl, ?_⟩⟩⟩
            · show [V.ref xb, V.int ((h : Int) % 40 + 1), V.ref lq] = _
              rw [show (h : Int) % 40 + 1 = ((h + 1 : Nat) : Int) by omega]
            have t12 := m1.trans m2
            have Wa := Wa.mono m2
            have W1 := W1.mono t12
            have R1 := R1.mono t12
            have b17 := b16.trans (Bt.same t12 b16.2)
            clear hst a1 a2 eq t12 b16
            refine ⟨_, _, rfl, ?_⟩
            dsimp only
            -- equalities
            have wT : CP.weq (.mk h st) (.mk h st) = true := SeqAt.eqv_refl _ (CP.lay_way _).1
            have wF : CP.weq (.mk h ps) (.mk (h + 1) ps) = false := by rw [CP.weq_mk, decide_eq_false (by omega)]; rfl
            obtain ⟨da, fa, a1, a2⟩ := head_fld W1
            obtain ⟨db, fb, j1, j2⟩ := head_fld Wa
            obtain ⟨de, fe, e1, e2⟩ := head_fld Wb
            refine ⟨_, rfl, _, rfl, .ref t1, .mk h st, rfl, R1, f1, d1, fun x4 H1 g1 W4 => ?_⟩
            obtain ⟨dg, fg', h3, h4⟩ := head_fld W4
            refine ⟨x1, x4, rfl, rfl, ⟨_, _, g1 _ _ a1⟩, ⟨_, _, h3⟩, x1, x4, _, _, rfl, W1.mono g1, W4, d1, fun H2 g2 => ?_⟩
            rw [wT]
            refine ⟨true, rfl, false, rfl, iteF ?_⟩
            have u2 := g1.trans g2
            refine ⟨_, rfl, _, rfl, false, ⟨xa, xb, _, _, rfl, rfl, Wa.mono u2, Wb.mono u2, df, wF.symm⟩, fun H3 g3 => ⟨_, rfl, iteF ?_⟩⟩
            have u3 := u2.trans g3
            refine ⟨_, rfl, _, rfl, xa, xb, rfl, rfl, ⟨_, _, u3 _ _ j1⟩, ⟨_, _, u3 _ _ e1⟩, xa, xb, _, _, rfl, Wa.mono u3, Wb.mono u3, df, fun H4 g4 => ?_⟩
            rw [wF]
            refine ⟨false, rfl, true, rfl, iteF ?_⟩
            have u4 := u3.trans g4
            refine ⟨_, rfl, _, rfl, x1, C, da, fa, _, rfl, u4 _ _ a1, T.cl, T.nH, a2, (by show 1 ≤ sizeLine; decide), fun o7 y7 => ?_⟩
            have u5 := u4.trans (Same.of_upd (o := .lst [V.int ((M.Way.head (.mk h st) : Nat) : Int)]) y7)
            refine ⟨x1, rfl, ⟨_, _, u5 _ _ a1⟩, .bk (.lst upd_same), _, rfl, iteF ?_⟩
            obtain ⟨dc, fc, l1, xs, c1, c2, c3, c4⟩ := steps_fld (Wa.mono u5)
            refine ⟨_, rfl, _, rfl, xa, C, dc, fc, _, rfl, c1, T.cl, T.nS, c2, xa, rfl, ⟨_, _, c1⟩, .bk (.tup c3), _, rfl, iteF ?_⟩
            have Wa := Wa.mono u5
            have Wb := Wb.mono u5
            have b18 := b17.trans (Bt.same u5 b17.2)
            try unfold tNext
            dsimp only
            refine ⟨_, rfl, _, rfl, xa, xb, _, _, rfl, Wa, Wb, ff, fg, fun H6 g6 => ⟨_, rfl, iteF ?_⟩⟩
            refine ⟨_, rfl, _, rfl, xb, xa, _, _, rfl, Wb.mono g6, Wa.mono g6, fg, ff, fun H7 g7 => ⟨_, rfl, iteF ?_⟩⟩
            refine ⟨_, rfl, _, rfl, xa, xa, _, _, rfl, (Wa.mono g6).mono g7, (Wa.mono g6).mono g7, ff, ff, fun H8 g8 => ⟨_, rfl, iteF ?_⟩⟩
            exact ⟨(b2.trans b18).trans (Bt.same ((g6.trans g7).trans g8) b18.2), _, _, _, _, _, _, _, _, _, _, rfl⟩
      · rintro σ G ⟨b2, q3, q4, q5, q6, q7, q8, q9, q10, q11, q12, rfl⟩
        exact ⟨sameBt s1 hp0 b2, _, _, _, _, _, _, _, _, _, _, _, _, rfl⟩
    · rintro σ G ⟨s0, q1, q2, q3, q4, q5, q6, q7, q8, q9, q10, q11, q12, rfl⟩
      exact k G
end
end WP

end
section
set_option autoImplicit false
set_option Elab.async false
set_option linter.all false
set_option maxRecDepth 100000
set_option maxHeartbeats 4000000
/-! ## HN: the head by one run of the kernel; what is asked of the state behind the top: named facts, defs, and looks of one's own -/
namespace HN
open PySem PySem.Spec PyProof.Rows L2
/-- addresses as numbers, one after another -/
def frc {α : Type} : List Addr → (List Addr → α) → α
  | [], k => k []
  | a :: r, k => HandSHeadRun.frNat a fun a => frc r fun r => k (a :: r)
def refV : Value → List Addr
  | .ref a => [a]
  | _ => []
def refsF (fd : FuncData) : List Addr := refV fd.code ++ refV fd.defaults ++ refV fd.kwdefaults
def vals (g : Addr → Option Obj) (a : Addr) : List Addr := match g a with
  | some ⟨_, _, .dict es _, _⟩ => es.toList.flatMap fun e => refV e.val
  | _ => []
def isC (g : Addr → Option Obj) (a : Addr) : Bool := match g a with
  | some ⟨_, _, .cls _, _⟩ => true
  | _ => false
def nsOf (g : Addr → Option Obj) (a : Addr) : List Addr := match g a with
  | some ⟨_, _, .cls cd, _⟩ => [a, cd.ns]
  | _ => []
def fnOf (g : Addr → Option Obj) (a : Addr) : List Addr := match g a with
  | some ⟨_, _, .func fd, _⟩ => a :: refsF fd
  | some ⟨_, _, .cls _, _⟩ => []
  | _ => [a]
def asY {α : Type} (g : Addr → Option Obj) (k : List Addr → α) : α := frc (vals g mainGlobals) fun l1 => frc (l1.flatMap (nsOf g)) fun cs => frc (cs.flatMap (vals g)) fun ms => frc ((ms ++ l1).flatMap (fnOf g)) fun fs => k (mainGlobals :: (cs ++ fs))
theorem frc_eq {α : Type} : ∀ (l : List Addr) (k : List Addr → α), frc l k = k l
  | [], k => rfl
  | a :: r, k => by
    show HandSHeadRun.frNat a (fun a => frc r fun r => k (a :: r)) = _
    rw [HandSHeadRun.frNat_eq, frc_eq r]
/-- the objects that are looked at: the module's names, classes with their names, defs with their code -/
def asL (g : Addr → Option Obj) : List Addr := mainGlobals :: (((vals g mainGlobals).flatMap (nsOf g)) ++ ((((vals g mainGlobals).flatMap (nsOf g)).flatMap (vals g)) ++ vals g mainGlobals).flatMap (fnOf g))
theorem asY_eq {α : Type} (g : Addr → Option Obj) (k : List Addr → α) : asY g k = k (asL g) := by
  unfold asY asL
  rw [frc_eq, frc_eq, frc_eq, frc_eq]
abbrev Ex : Type := PySem.W.Frag → Bool
abbrev AlX : Type := He.AlD × Bool
def obsX (fa : List He.Fa) (fn : List He.DefD) (ex : List Ex) (K : PySem.W.Frag) : AlX := (He.obsD fa fn K, ex.all fun f => f K)
def valX (fn : List He.DefD) : AlX := (He.valD fn, true)
def Says (fa : List He.Fa) (fn : List He.DefD) (ex : List Ex) (K : PySem.W.Frag) : Prop := obsX fa fn ex K = valX fn
def obsG (fa : List He.Fa) (fn : List He.DefD) (ex : List Ex) (g : Addr → Option Obj) : AlX := asY g fun l => obsX fa fn ex (He.frG g l)
def hookX (fa : List He.Fa) (fn : List He.DefD) (ex : List Ex) : PySem.W.Hook where
  α := AlX
  obs := fun s => obsG fa fn ex s.heap.get?
  val := fun _ => valX fn
  says := fun _ h => ∃ K : PySem.W.Frag, K.In h ∧ Says fa fn ex K
  of := fun _ s e => ⟨He.frG s.heap.get? (asL s.heap.get?), He.frG_in, by
    unfold obsG at e
    rw [asY_eq] at e
    exact e⟩
  keeps := fun _ _ _ ⟨K, hK, c⟩ k => ⟨K, PySem.W.Frag.In.keeps hK k, c⟩
theorem obsG_eq {fa : List He.Fa} {fn : List He.DefD} {ex : List Ex} {g : Addr → Option Obj} {s : Shared} (h : ∀ a, g a = s.heap.get? a) : obsG fa fn ex g = (hookX fa fn ex).obs s := by
  have e : g = s.heap.get? := funext h
  rw [e] <;> rfl
section
variable {fa : List He.Fa} {fn : List He.DefD} {ex : List Ex} {K : PySem.W.Frag}
theorem Says.sd (c : Says fa fn ex K) : He.SaysD fa fn K := congrArg (fun z : AlX => z.1) c
theorem Says.fact (c : Says fa fn ex K) (i : Nat) (f : He.Fa) (h : fa[i]? = some f) : f.ok K = true := c.sd.fact i h
theorem Says.def_ (c : Says fa fn ex K) (i : Nat) (d : He.DefD) (h : fn[i]? = some d) : ∃ fd, FunD K d.name d.qual d.params d.body d.scope (d.dvs K) (d.kws K) (He.fAd K d.at_) fd := c.sd.def_ i h
theorem Says.look (c : Says fa fn ex K) (i : Nat) (f : Ex) (h : ex[i]? = some f) : f K = true := List.all_eq_true.mp (congrArg (fun z : AlX => z.2) c) f (List.mem_of_getElem? h)
theorem Says.prop (c : Says fa fn ex K) (i : Nat) {p : PySem.W.Frag → Prop} [∀ K, Decidable (p K)] (h : ex[i]? = some fun K => decide (p K)) : p K := of_decide_eq_true (c.look i _ h)
end
/-- a def of no default by place -/
theorem funOf {K : PySem.W.Frag} {x qual : Str} {st : Stmt} {kws : List (Str × V)} {f : Addr} {fd : FuncData} (F : FunD K x qual (defArgs st) (defBody st) (defScope st) [] kws f fd) : Fun K x qual st f fd := by
  obtain ⟨oc, od, dV, kV, doc, pm, an, cdv, ct, osl, e, lk, cd, hD, hK⟩ := F.ex
  rcases hD with ⟨_, rfl⟩ | ⟨ne, _⟩
  · exact ⟨⟨oc, od, kV, doc, pm, an, cdv, ct, osl, e, lk, cd⟩, F.kp⟩
  · exact absurd rfl ne
end HN
namespace G
open PySem PySem.Spec PyProof.Rows L2
/-- G.walk, the written part told by the state behind the top -/
theorem walkE {l : PySem.W.OpenLaw} {n k : Nat} {q : Program} {loose : List Str} {XP : (Str → Option Value) → Heap → Prop} {YP : World → Heap → Prop} {d : DefRec} {x : Str}
    (hn : l.most = some n) (hn2 : n ≤ sizeLine) (hdf : d.params.defaults = []) (hr : Room k callerA)
    (F : ∀ (w : World) (mg : Str → Option Value) (fa : Addr) (h : Heap), YP w h → h.Ns mainGlobals mg → mg d.name = some (.ref fa) →
      ∃ (K : PySem.W.Frag) (fd : FuncData) (sp : Sp), K.In h ∧ (∀ (s : Shared) (u : Value), BindsTo s fd ⟨[u], []⟩ [(x, u)]) ∧
        (∀ (H : Hp) (a : Addr) (ns : List Int), ns.length ≤ n → (∀ z ∈ ns, Builtin.Int.intBits z ≤ 1048576) → SqL K H a (ns.map V.int) → sp [.ref a] H (fun v _ => v = .bl true) fun _ _ _ => False) ∧
        ∀ base : Heap, K.In base → base.Ns mainGlobals mg → Ok l.prog w K mg base CX0 k fa fd [x] sp) :
    PySem.W.WalkO q loose XP YP l.row.toRowW d [] (fun f vs => PySem.call f vs) := by
  refine Att.attach_callB hn hdf ?_
  intro w s₀ s₁ mg mb fa o pm cd doc a vs ns G Y ho hd hcd hmg hobj hints hlen hbits hg
  obtain ⟨K, fd, sp, KX, hb, hsp, hF⟩ := F w mg fa _ Y G.T.g hmg
  have rv := vals_ints hints
  have zl : ns.length ≤ sizeLine := Nat.le_trans hlen hn2
  have wish := fun (H : Hp) (S : SqL K H a (ns.map V.int)) => hsp H a ns hlen hbits S
  by_cases hk : K.lookup a = none
  · refine enter (H := fun b => if b = a then some (.frz { cls := .type "list", data := .seq vs.toArray } (.lst (ns.map V.int))) else none) KX G.T.g G.T.b G.T.builtins G.T.nolimit hg hobj hr hF hb ?_ ?_ ?_ (fun _ => hk) (wish _ ?_) fun _ _ _ z => z
    · intro b
      by_cases e : b = a
      · exact .inr ⟨_, _, if_pos e⟩
      · exact .inl (if_neg e)
    · intro b o e
      by_cases z : b = a
      · subst z
        cases (if_pos rfl).symm.trans e
        exact ⟨hobj, by rw [List.length_map]; exact zl, vs, _, rv, hobj⟩
      · cases (if_neg z).symm.trans e
    · intro b o e
      by_cases z : b = a
      · exact z
      · cases (if_neg z).symm.trans e
    · exact .inl (.inr ⟨_, if_pos rfl⟩)
  · obtain ⟨o, ek⟩ := Option.ne_none_iff_exists'.mp hk
    have eo := (KX a o ek).symm.trans hobj
    cases eo
    refine enter (H := fun _ => none) KX G.T.g G.T.b G.T.builtins G.T.nolimit hg hobj hr hF hb (fun _ => .inl rfl) (fun b o e => nomatch e) (fun b o e => nomatch e) (fun ⟨o, e⟩ => nomatch e) (wish _ ?_) fun _ _ _ z => z
    refine .inr ⟨_, vs.toArray, _, ek, rfl, rfl, rfl, ?_, by simpa using rv⟩
    rw [List.size_toArray, hints.length]
    exact zl
end G

end
section
set_option autoImplicit false
set_option Elab.async false
set_option linter.all false
set_option maxRecDepth 100000
set_option maxHeartbeats 4000000
/-! ## what the top leaves -/
namespace HX
open PySem PySem.W PySem.Spec PyProof.Rows L2
/-- an own class of errors, told by a look -/
def excB (K : Frag) (C : Addr) : Bool := match K.lookup C with
  | some ⟨.type "type", _, .cls cd, sl⟩ => (match cd.mro, sl.toList with
    | .ref C' :: bm, [_, _, _, _, some (.builtin n), _] => C' == C && n == "ValueError.__new__" && !cd.hasDel && cd.hasDict && PySem.HandSPX.refsVE bm
    | _, _ => false)
  | _ => false
theorem excB_ok {K : Frag} {C : Addr} (q : excB K C = true) : ∃ nm q N bs bm sn sub ab col dd k0 k1 k2 k3 k5, K.lookup C = some (excClassObj nm q C N bs bm true sn sub ab col dd k0 k1 k2 k3 k5 "ValueError.__new__") ∧ PySem.HandSPX.refsVE bm = true := by
  unfold excB at q
  split at q
  · rename_i dd cd sl ho
    split at q
    · rename_i C' bm k0 k1 k2 k3 n k5 hm hs
      simp only [Bool.and_eq_true, beq_iff_eq, Bool.not_eq_true'] at q
      obtain ⟨⟨⟨⟨rfl, rfl⟩, hdel⟩, hdi⟩, ht⟩ := q
      obtain ⟨nm, bs, mro, ns, qn, hd, sn, sub, ab, col, del⟩ := cd
      dsimp only at hm hdel hdi
      subst hm hdel hdi
      have hsl : sl = #[k0, k1, k2, k3, some (.builtin "ValueError.__new__"), k5] := by
        obtain ⟨l⟩ := sl
        simp only at hs
        rw [hs]
      subst hsl
      exact ⟨nm, qn, ns, bs, bm, sn, sub, ab, col, dd, k0, k1, k2, k3, k5, ho, ht⟩
    · cases q
  · cases q
/-- all that is asked of such a class with a field f -/
def errB (K : Frag) (C : Addr) (f : Str) : Bool := excB K C && (He.eqO (findIn K (.ref C) "__setattr__") (some (some (.builtin "object.__setattr__"))) && (decide (subIn K (.ref C) (.type "BaseException") = some true) && (decide (typeIn K (.ref C) = some (.type "type")) && (keepIn K (.ref C) &&
  (He.eqO (findIn K (.ref C) "__getattribute__") (some (some (.builtin "BaseException.__getattribute__"))) && (He.eqO (findIn K (.ref C) "__getattr__") (some none) && (hasDictIn K C && (He.eqO (findIn K (.ref C) "__class__") (some (some (.builtin "object.__class__"))) &&
  (He.eqO (specialIn K (.builtin "object.__class__") "__get__") (some (some (.builtin "getset_descriptor.__get__"))) && (decide (takesIn K (.builtin "object.__class__") = some true) && (decide (mroIn K C (.type "object") = some true) && He.eqO (findIn K (.ref C) f) (some none))))))))))))
theorem errB_ok {K : Frag} {C : Addr} {f : Str} (h : errB K C f = true) : G.Cl K C f := by
  unfold errB at h
  obtain ⟨h1, h⟩ := He.ba h
  obtain ⟨h2, h⟩ := He.ba h
  obtain ⟨h3, h⟩ := He.ba h
  obtain ⟨h4, h⟩ := He.ba h
  obtain ⟨h5, h⟩ := He.ba h
  obtain ⟨h6, h⟩ := He.ba h
  obtain ⟨h7, h⟩ := He.ba h
  obtain ⟨h8, h⟩ := He.ba h
  obtain ⟨h9, h⟩ := He.ba h
  obtain ⟨h10, h⟩ := He.ba h
  obtain ⟨h11, h⟩ := He.ba h
  obtain ⟨h12, h13⟩ := He.ba h
  exact ⟨⟨excB_ok h1, He.eqO_ok h2, of_decide_eq_true h3, of_decide_eq_true h4, h5⟩, ⟨He.eqO_ok h6, He.eqO_ok h7, of_decide_eq_true h3, h8, He.eqO_ok h9, He.eqO_ok h10, of_decide_eq_true h11, of_decide_eq_true h12⟩, He.eqO_ok h13⟩
/-- its __init__ stands in the class -/
def iniB (K : Frag) (C f : Addr) : Bool := He.eqO (findIn K (.ref C) "__init__") (some (some (.ref f))) && decide (typeIn K (.ref f) = some (.type "function"))
theorem iniB_ok {K : Frag} {C f : Addr} (h : iniB K C f = true) : findIn K (.ref C) "__init__" = some (some (.ref f)) ∧ typeIn K (.ref f) = some (.type "function") := ⟨He.eqO_ok (He.ba h).1, of_decide_eq_true (He.ba h).2⟩
end HX
namespace WP
open PySem L2 G
abbrev sErB : Stmt := inClass (top 9) 0
theorem scErB : FnScope ["self", "value"] ["self", "value"] (defScope sErB) := ⟨rfl, rfl, rfl, by decide +kernel, rfl, by decide +kernel, by decide +kernel⟩
theorem mkB {P : Program} {w : World} {K : PySem.W.Frag} {mg : Str → Option Value} {base : Heap} {C f : Addr} {fd : FuncData} (L : G.Cl K C "value") (ini : PySem.W.findIn K (.ref C) "__init__" = some (some (.ref f)) ∧ PySem.W.typeIn K (.ref f) = some (.type "function")) (F : Fun K "__init__" "BadSteps.__init__" sErB f fd) : G.Mk P w K mg base C "value" := by
  refine ⟨L, f, fd, ["self", "value"], ini.1, ini.2, ?_, rfl, ?_, ?_⟩
  · refine F.ok scErB (fun vs H Q E2 h => ?_) (fun cdv A outer s H vs Q E2 hr h => ?_)
    · obtain ⟨a, v, rfl, _⟩ := h
      rfl
    · obtain ⟨a, v, rfl, ha, k⟩ := h
      exact ⟨_, pss_one (ps_ost (pv 0) (pv 1)), _, rfl, _, rfl, a, C, rfl, L.T, L.no, .inl ⟨ha, fun dx h1 h2 => k dx h1 h2⟩⟩
  · obtain ⟨_, _, _, _, _, _, _, _, _, rfl, _, _⟩ := F.ex
    exact fun s u v => .of_eq rfl
  · obtain ⟨_, _, _, _, _, _, _, _, _, rfl, _, _⟩ := F.ex
    exact fun s u v => .of_eq rfl
abbrev sErG : Stmt := inClass (top 12) 0
theorem scErG : FnScope ["self", "size"] ["self", "size"] (defScope sErG) := ⟨rfl, rfl, rfl, by decide +kernel, rfl, by decide +kernel, by decide +kernel⟩
theorem mkG {P : Program} {w : World} {K : PySem.W.Frag} {mg : Str → Option Value} {base : Heap} {C f : Addr} {fd : FuncData} (L : G.Cl K C "size") (ini : PySem.W.findIn K (.ref C) "__init__" = some (some (.ref f)) ∧ PySem.W.typeIn K (.ref f) = some (.type "function")) (F : Fun K "__init__" "TooGreat.__init__" sErG f fd) : G.Mk P w K mg base C "size" := by
  refine ⟨L, f, fd, ["self", "size"], ini.1, ini.2, ?_, rfl, ?_, ?_⟩
  · refine F.ok scErG (fun vs H Q E2 h => ?_) (fun cdv A outer s H vs Q E2 hr h => ?_)
    · obtain ⟨a, v, rfl, _⟩ := h
      rfl
    · obtain ⟨a, v, rfl, ha, k⟩ := h
      exact ⟨_, pss_one (ps_ost (pv 0) (pv 1)), _, rfl, _, rfl, a, C, rfl, L.T, L.no, .inl ⟨ha, fun dx h1 h2 => k dx h1 h2⟩⟩
  · obtain ⟨_, _, _, _, _, _, _, _, _, rfl, _, _⟩ := F.ex
    exact fun s u v => .of_eq rfl
  · obtain ⟨_, _, _, _, _, _, _, _, _, rfl, _, _⟩ := F.ex
    exact fun s u v => .of_eq rfl
abbrev sErO : Stmt := inClass (top 13) 0
theorem scErO : FnScope ["self", "head"] ["self", "head"] (defScope sErO) := ⟨rfl, rfl, rfl, by decide +kernel, rfl, by decide +kernel, by decide +kernel⟩
theorem mkO {P : Program} {w : World} {K : PySem.W.Frag} {mg : Str → Option Value} {base : Heap} {C f : Addr} {fd : FuncData} (L : G.Cl K C "head") (ini : PySem.W.findIn K (.ref C) "__init__" = some (some (.ref f)) ∧ PySem.W.typeIn K (.ref f) = some (.type "function")) (F : Fun K "__init__" "OtherHead.__init__" sErO f fd) : G.Mk P w K mg base C "head" := by
  refine ⟨L, f, fd, ["self", "head"], ini.1, ini.2, ?_, rfl, ?_, ?_⟩
  · refine F.ok scErO (fun vs H Q E2 h => ?_) (fun cdv A outer s H vs Q E2 hr h => ?_)
    · obtain ⟨a, v, rfl, _⟩ := h
      rfl
    · obtain ⟨a, v, rfl, ha, k⟩ := h
      exact ⟨_, pss_one (ps_ost (pv 0) (pv 1)), _, rfl, _, rfl, a, C, rfl, L.T, L.no, .inl ⟨ha, fun dx h1 h2 => k dx h1 h2⟩⟩
  · obtain ⟨_, _, _, _, _, _, _, _, _, rfl, _, _⟩ := F.ex
    exact fun s u v => .of_eq rfl
  · obtain ⟨_, _, _, _, _, _, _, _, _, rfl, _, _⟩ := F.ex
    exact fun s u v => .of_eq rfl
abbrev sErN : Stmt := inClass (top 14) 0
theorem scErN : FnScope ["self", "value"] ["self", "value"] (defScope sErN) := ⟨rfl, rfl, rfl, by decide +kernel, rfl, by decide +kernel, by decide +kernel⟩
theorem mkN {P : Program} {w : World} {K : PySem.W.Frag} {mg : Str → Option Value} {base : Heap} {C f : Addr} {fd : FuncData} (L : G.Cl K C "value") (ini : PySem.W.findIn K (.ref C) "__init__" = some (some (.ref f)) ∧ PySem.W.typeIn K (.ref f) = some (.type "function")) (F : Fun K "__init__" "NoStep.__init__" sErN f fd) : G.Mk P w K mg base C "value" := by
  refine ⟨L, f, fd, ["self", "value"], ini.1, ini.2, ?_, rfl, ?_, ?_⟩
  · refine F.ok scErN (fun vs H Q E2 h => ?_) (fun cdv A outer s H vs Q E2 hr h => ?_)
    · obtain ⟨a, v, rfl, _⟩ := h
      rfl
    · obtain ⟨a, v, rfl, ha, k⟩ := h
      exact ⟨_, pss_one (ps_ost (pv 0) (pv 1)), _, rfl, _, rfl, a, C, rfl, L.T, L.no, .inl ⟨ha, fun dx h1 h2 => k dx h1 h2⟩⟩
  · obtain ⟨_, _, _, _, _, _, _, _, _, rfl, _, _⟩ := F.ex
    exact fun s u v => .of_eq rfl
  · obtain ⟨_, _, _, _, _, _, _, _, _, rfl, _, _⟩ := F.ex
    exact fun s u v => .of_eq rfl
theorem ln1 {α : Type} {l : List α} (h : l.length = 1) : ∃ a0, l = [a0] := by
  match l, h with
  | [a0], _ => exact ⟨a0, rfl⟩
theorem ln2 {α : Type} {l : List α} (h : l.length = 2) : ∃ a0 a1, l = [a0, a1] := by
  match l, h with
  | [a0, a1], _ => exact ⟨a0, a1, rfl⟩
theorem ln3 {α : Type} {l : List α} (h : l.length = 3) : ∃ a0 a1 a2, l = [a0, a1, a2] := by
  match l, h with
  | [a0, a1, a2], _ => exact ⟨a0, a1, a2, rfl⟩
theorem ln4 {α : Type} {l : List α} (h : l.length = 4) : ∃ a0 a1 a2 a3, l = [a0, a1, a2, a3] := by
  match l, h with
  | [a0, a1, a2, a3], _ => exact ⟨a0, a1, a2, a3, rfl⟩
theorem Fd.dy {P : Program} {w : World} {K : PySem.W.Frag} {mg : Str → Option Value} {base : Heap} {x : Str} {st : Stmt} {ps : List Str} {k : Nat} {sp : Sp} (h : Fd K mg x st ps) (ok : ∀ f fd, Fun K x x st f fd → FnOk P w K mg base CX0 k f fd ps sp) : Y.Df P w K mg base k x ps sp := by
  obtain ⟨f, fd, h1, h2, h3, h4⟩ := h.ex
  exact ⟨f, fd, ok f fd h1, h2, h3, h4⟩
section
variable {K : PySem.W.Frag} {mg : Str → Option Value} {h : Heap} {f : Addr} {fd : FuncData}
theorem fd_I (X : K.In h) (Gn : h.Ns mainGlobals mg) (a : PySem.W.nsIn K mainGlobals "is_integer" = some (some (.ref f))) (F : Fun K "is_integer" "is_integer" sInteger f fd) : Fd K mg "is_integer" sInteger ["value"] :=
  ⟨f, fd, F, PySem.W.mg_of X Gn a, F.kp, F.binds fun _ _ _ _ _ _ us hl => by obtain ⟨a0, rfl⟩ := ln1 hl; rfl⟩
theorem fd_W (X : K.In h) (Gn : h.Ns mainGlobals mg) (a : PySem.W.nsIn K mainGlobals "is_within" = some (some (.ref f))) (F : Fun K "is_within" "is_within" sWithin f fd) : Fd K mg "is_within" sWithin ["value", "least", "greatest"] :=
  ⟨f, fd, F, PySem.W.mg_of X Gn a, F.kp, F.binds fun _ _ _ _ _ _ us hl => by obtain ⟨a0, a1, a2, rfl⟩ := ln3 hl; rfl⟩
theorem fd_li (X : K.In h) (Gn : h.Ns mainGlobals mg) (a : PySem.W.nsIn K mainGlobals "is_step_list" = some (some (.ref f))) (F : Fun K "is_step_list" "is_step_list" sList f fd) : Fd K mg "is_step_list" sList ["value"] :=
  ⟨f, fd, F, PySem.W.mg_of X Gn a, F.kp, F.binds fun _ _ _ _ _ _ us hl => by obtain ⟨a0, rfl⟩ := ln1 hl; rfl⟩
theorem fd_st (X : K.In h) (Gn : h.Ns mainGlobals mg) (a : PySem.W.nsIn K mainGlobals "_is_step" = some (some (.ref f))) (F : Fun K "_is_step" "_is_step" sStep f fd) : Fd K mg "_is_step" sStep ["value", "head"] :=
  ⟨f, fd, F, PySem.W.mg_of X Gn a, F.kp, F.binds fun _ _ _ _ _ _ us hl => by obtain ⟨a0, a1, rfl⟩ := ln2 hl; rfl⟩
theorem fd_rd (X : K.In h) (Gn : h.Ns mainGlobals mg) (a : PySem.W.nsIn K mainGlobals "is_road" = some (some (.ref f))) (F : Fun K "is_road" "is_road" sRoad f fd) : Fd K mg "is_road" sRoad ["size", "sealed", "loose", "least"] :=
  ⟨f, fd, F, PySem.W.mg_of X Gn a, F.kp, F.binds fun _ _ _ _ _ _ us hl => by obtain ⟨a0, a1, a2, a3, rfl⟩ := ln4 hl; rfl⟩
theorem fd_tl (X : K.In h) (Gn : h.Ns mainGlobals mg) (a : PySem.W.nsIn K mainGlobals "is_tells" = some (some (.ref f))) (F : Fun K "is_tells" "is_tells" sTells f fd) : Fd K mg "is_tells" sTells ["value"] :=
  ⟨f, fd, F, PySem.W.mg_of X Gn a, F.kp, F.binds fun _ _ _ _ _ _ us hl => by obtain ⟨a0, rfl⟩ := ln1 hl; rfl⟩
theorem fd_mo (X : K.In h) (Gn : h.Ns mainGlobals mg) (a : PySem.W.nsIn K mainGlobals "is_most" = some (some (.ref f))) (F : Fun K "is_most" "is_most" sMost f fd) : Fd K mg "is_most" sMost ["value"] :=
  ⟨f, fd, F, PySem.W.mg_of X Gn a, F.kp, F.binds fun _ _ _ _ _ _ us hl => by obtain ⟨a0, rfl⟩ := ln1 hl; rfl⟩
theorem fd_hd (X : K.In h) (Gn : h.Ns mainGlobals mg) (a : PySem.W.nsIn K mainGlobals "is_head" = some (some (.ref f))) (F : Fun K "is_head" "is_head" sHead f fd) : Fd K mg "is_head" sHead ["value"] :=
  ⟨f, fd, F, PySem.W.mg_of X Gn a, F.kp, F.binds fun _ _ _ _ _ _ us hl => by obtain ⟨a0, rfl⟩ := ln1 hl; rfl⟩
theorem fd_ar (X : K.In h) (Gn : h.Ns mainGlobals mg) (a : PySem.W.nsIn K mainGlobals "_are_cuts" = some (some (.ref f))) (F : Fun K "_are_cuts" "_are_cuts" CP.sAreCuts f fd) : Fd K mg "_are_cuts" CP.sAreCuts ["value"] :=
  ⟨f, fd, F, PySem.W.mg_of X Gn a, F.kp, F.binds fun _ _ _ _ _ _ us hl => by obtain ⟨a0, rfl⟩ := ln1 hl; rfl⟩
theorem fd_co (X : K.In h) (Gn : h.Ns mainGlobals mg) (a : PySem.W.nsIn K mainGlobals "_piece_counts" = some (some (.ref f))) (F : Fun K "_piece_counts" "_piece_counts" CP.sCounts f fd) : Fd K mg "_piece_counts" CP.sCounts ["cuts"] :=
  ⟨f, fd, F, PySem.W.mg_of X Gn a, F.kp, F.binds fun _ _ _ _ _ _ us hl => by obtain ⟨a0, rfl⟩ := ln1 hl; rfl⟩
theorem fd_pi (X : K.In h) (Gn : h.Ns mainGlobals mg) (a : PySem.W.nsIn K mainGlobals "_pieces" = some (some (.ref f))) (F : Fun K "_pieces" "_pieces" CP.sPieces f fd) : Fd K mg "_pieces" CP.sPieces ["body", "cuts", "counts"] :=
  ⟨f, fd, F, PySem.W.mg_of X Gn a, F.kp, F.binds fun _ _ _ _ _ _ us hl => by obtain ⟨a0, a1, a2, rfl⟩ := ln3 hl; rfl⟩
theorem fd_ls (X : K.In h) (Gn : h.Ns mainGlobals mg) (a : PySem.W.nsIn K mainGlobals "_law_source" = some (some (.ref f))) (F : Fun K "_law_source" "_law_source" S.sSource f fd) : Fd K mg "_law_source" S.sSource ["script", "start"] :=
  ⟨f, fd, F, PySem.W.mg_of X Gn a, F.kp, F.binds fun _ _ _ _ _ _ us hl => by obtain ⟨a0, a1, rfl⟩ := ln2 hl; rfl⟩
theorem fd_ld (X : K.In h) (Gn : h.Ns mainGlobals mg) (a : PySem.W.nsIn K mainGlobals "_law_draw" = some (some (.ref f))) (F : Fun K "_law_draw" "_law_draw" S.sDraw f fd) : Fd K mg "_law_draw" S.sDraw ["source", "span"] :=
  ⟨f, fd, F, PySem.W.mg_of X Gn a, F.kp, F.binds fun _ _ _ _ _ _ us hl => by obtain ⟨a0, a1, rfl⟩ := ln2 hl; rfl⟩
theorem fd_lp (X : K.In h) (Gn : h.Ns mainGlobals mg) (a : PySem.W.nsIn K mainGlobals "_law_pick" = some (some (.ref f))) (F : Fun K "_law_pick" "_law_pick" S.sPick f fd) : Fd K mg "_law_pick" S.sPick ["source", "items"] :=
  ⟨f, fd, F, PySem.W.mg_of X Gn a, F.kp, F.binds fun _ _ _ _ _ _ us hl => by obtain ⟨a0, a1, rfl⟩ := ln2 hl; rfl⟩
theorem fd_lm (X : K.In h) (Gn : h.Ns mainGlobals mg) (a : PySem.W.nsIn K mainGlobals "_law_most" = some (some (.ref f))) (F : Fun K "_law_most" "_law_most" sLMost f fd) : Fd K mg "_law_most" sLMost ["source"] :=
  ⟨f, fd, F, PySem.W.mg_of X Gn a, F.kp, F.binds fun _ _ _ _ _ _ us hl => by obtain ⟨a0, rfl⟩ := ln1 hl; rfl⟩
theorem fd_lr (X : K.In h) (Gn : h.Ns mainGlobals mg) (a : PySem.W.nsIn K mainGlobals "_law_road" = some (some (.ref f))) (F : Fun K "_law_road" "_law_road" sLRoad f fd) : Fd K mg "_law_road" sLRoad ["source", "head"] :=
  ⟨f, fd, F, PySem.W.mg_of X Gn a, F.kp, F.binds fun _ _ _ _ _ _ us hl => by obtain ⟨a0, a1, rfl⟩ := ln2 hl; rfl⟩
theorem fd_lin (X : K.In h) (Gn : h.Ns mainGlobals mg) (a : PySem.W.nsIn K mainGlobals "_law_inner_road" = some (some (.ref f))) (F : Fun K "_law_inner_road" "_law_inner_road" sLInner f fd) : Fd K mg "_law_inner_road" sLInner ["source", "head", "low"] :=
  ⟨f, fd, F, PySem.W.mg_of X Gn a, F.kp, F.binds fun _ _ _ _ _ _ us hl => by obtain ⟨a0, a1, a2, rfl⟩ := ln3 hl; rfl⟩
theorem fd_lf (X : K.In h) (Gn : h.Ns mainGlobals mg) (a : PySem.W.nsIn K mainGlobals "_law_fitting" = some (some (.ref f))) (F : Fun K "_law_fitting" "_law_fitting" sLFit f fd) : Fd K mg "_law_fitting" sLFit ["source", "depth", "many"] :=
  ⟨f, fd, F, PySem.W.mg_of X Gn a, F.kp, F.binds fun _ _ _ _ _ _ us hl => by obtain ⟨a0, a1, a2, rfl⟩ := ln3 hl; rfl⟩
theorem fd_lma (X : K.In h) (Gn : h.Ns mainGlobals mg) (a : PySem.W.nsIn K mainGlobals "_law_made" = some (some (.ref f))) (F : Fun K "_law_made" "_law_made" sLMade f fd) : Fd K mg "_law_made" sLMade ["rows"] :=
  ⟨f, fd, F, PySem.W.mg_of X Gn a, F.kp, F.binds fun _ _ _ _ _ _ us hl => by obtain ⟨a0, rfl⟩ := ln1 hl; rfl⟩
theorem fd_lsu (X : K.In h) (Gn : h.Ns mainGlobals mg) (a : PySem.W.nsIn K mainGlobals "_law_sum" = some (some (.ref f))) (F : Fun K "_law_sum" "_law_sum" sLSum f fd) : Fd K mg "_law_sum" sLSum ["one", "two"] :=
  ⟨f, fd, F, PySem.W.mg_of X Gn a, F.kp, F.binds fun _ _ _ _ _ _ us hl => by obtain ⟨a0, a1, rfl⟩ := ln2 hl; rfl⟩
theorem fd_lle (X : K.In h) (Gn : h.Ns mainGlobals mg) (a : PySem.W.nsIn K mainGlobals "_law_less" = some (some (.ref f))) (F : Fun K "_law_less" "_law_less" sLLess f fd) : Fd K mg "_law_less" sLLess ["way", "at"] :=
  ⟨f, fd, F, PySem.W.mg_of X Gn a, F.kp, F.binds fun _ _ _ _ _ _ us hl => by obtain ⟨a0, a1, rfl⟩ := ln2 hl; rfl⟩
theorem fd_lat (X : K.In h) (Gn : h.Ns mainGlobals mg) (a : PySem.W.nsIn K mainGlobals "_law_at" = some (some (.ref f))) (F : Fun K "_law_at" "_law_at" sLAt f fd) : Fd K mg "_law_at" sLAt ["way", "at"] :=
  ⟨f, fd, F, PySem.W.mg_of X Gn a, F.kp, F.binds fun _ _ _ _ _ _ us hl => by obtain ⟨a0, a1, rfl⟩ := ln2 hl; rfl⟩
theorem fd_lsr (X : K.In h) (Gn : h.Ns mainGlobals mg) (a : PySem.W.nsIn K mainGlobals "_law_sum_right" = some (some (.ref f))) (F : Fun K "_law_sum_right" "_law_sum_right" sLSumR f fd) : Fd K mg "_law_sum_right" sLSumR ["one", "two"] :=
  ⟨f, fd, F, PySem.W.mg_of X Gn a, F.kp, F.binds fun _ _ _ _ _ _ us hl => by obtain ⟨a0, a1, rfl⟩ := ln2 hl; rfl⟩
theorem fd_lpr (X : K.In h) (Gn : h.Ns mainGlobals mg) (a : PySem.W.nsIn K mainGlobals "_law_positions_right" = some (some (.ref f))) (F : Fun K "_law_positions_right" "_law_positions_right" sLPosR f fd) : Fd K mg "_law_positions_right" sLPosR ["way"] :=
  ⟨f, fd, F, PySem.W.mg_of X Gn a, F.kp, F.binds fun _ _ _ _ _ _ us hl => by obtain ⟨a0, rfl⟩ := ln1 hl; rfl⟩
end
theorem all_mk {l : PySem.W.OpenLaw} {w : World} {K : PySem.W.Frag} {h : Heap} {mg : Str → Option Value} {fa C Ch Ne fIw fIc fIn fWo fWe fWa fWg fWl fCe fNe CB fIB CG fIG CO fIO CN fIN fLaw : Addr} {dIw dIc dIn dWo dWe dWa dWg dWl dCe dNe dIB dIG dIO dIN dLaw : FuncData} (X : K.In h) (Gn : h.Ns mainGlobals mg) (hfa : mg "law" = some (.ref fa)) (B : Y.Bn mg) (hsum : mg "sum" = none) (hrep : mg "repr" = none)
    (T : Wt K mg C) (Z : TH.Cs K C Ch Ne) (TC : CP.Ct K mg Ch) (TN : TH.Nt K mg Ne) (gC : ∃ t, mg "GREATEST_CUT" = some (.int 1000 t)) (ne : PySem.W.findIn K (.ref C) "__ne__" = some (some (.builtin "object.__ne__"))) (sfW : PySem.W.selfFirst K C = true) (nfG : PySem.W.fnIn K fWg = true)
    (z_I : Fd K mg "is_integer" sInteger ["value"])
    (z_W : Fd K mg "is_within" sWithin ["value", "least", "greatest"])
    (z_li : Fd K mg "is_step_list" sList ["value"])
    (z_st : Fd K mg "_is_step" sStep ["value", "head"])
    (z_rd : Fd K mg "is_road" sRoad ["size", "sealed", "loose", "least"])
    (z_tl : Fd K mg "is_tells" sTells ["value"])
    (z_mo : Fd K mg "is_most" sMost ["value"])
    (z_hd : Fd K mg "is_head" sHead ["value"])
    (z_ar : Fd K mg "_are_cuts" CP.sAreCuts ["value"])
    (z_co : Fd K mg "_piece_counts" CP.sCounts ["cuts"])
    (z_pi : Fd K mg "_pieces" CP.sPieces ["body", "cuts", "counts"])
    (z_ls : Fd K mg "_law_source" S.sSource ["script", "start"])
    (z_ld : Fd K mg "_law_draw" S.sDraw ["source", "span"])
    (z_lp : Fd K mg "_law_pick" S.sPick ["source", "items"])
    (z_lm : Fd K mg "_law_most" sLMost ["source"])
    (z_lr : Fd K mg "_law_road" sLRoad ["source", "head"])
    (z_lin : Fd K mg "_law_inner_road" sLInner ["source", "head", "low"])
    (z_lf : Fd K mg "_law_fitting" sLFit ["source", "depth", "many"])
    (z_lma : Fd K mg "_law_made" sLMade ["rows"])
    (z_lsu : Fd K mg "_law_sum" sLSum ["one", "two"])
    (z_lle : Fd K mg "_law_less" sLLess ["way", "at"])
    (z_lat : Fd K mg "_law_at" sLAt ["way", "at"])
    (z_lsr : Fd K mg "_law_sum_right" sLSumR ["one", "two"])
    (z_lpr : Fd K mg "_law_positions_right" sLPosR ["way"])
    (MIw : Mk K C fIw) (FIw : Fun K "__init__" "Way.__init__" sInit fIw dIw) (MIc : Mk K Ch fIc) (FIc : Fun K "__init__" "Chain.__init__" CP.sCInit fIc dIc) (MIn : Mk K Ne fIn) (FIn : Fun K "__init__" "Net.__init__" TH.sNInit fIn dIn) (mWo : Meth K C "without" fWo) (FWo : Fun K "without" "Way.without" sWithout fWo dWo)
    (oWe : WO.Own K C fWe "__eq__") (FWe : Fun K "__eq__" "Way.__eq__" sWEq fWe dWe)
    (oWa : WO.Own K C fWa "__add__") (FWa : Fun K "__add__" "Way.__add__" sAddW fWa dWa)
    (oWg : WO.Own K C fWg "__getitem__") (FWg : Fun K "__getitem__" "Way.__getitem__" sWGet fWg dWg)
    (oWl : WO.Own K C fWl "__len__") (FWl : Fun K "__len__" "Way.__len__" sLen fWl dWl)
    (oCe : WO.Own K Ch fCe "__eq__") (FCe : Fun K "__eq__" "Chain.__eq__" TH.sCEq fCe dCe)
    (oNe : WO.Own K Ne fNe "__eq__") (FNe : Fun K "__eq__" "Net.__eq__" TH.sNEq fNe dNe)
    (gB : mg "BadSteps" = some (.ref CB)) (lB : G.Cl K CB "value") (iB : PySem.W.findIn K (.ref CB) "__init__" = some (some (.ref fIB)) ∧ PySem.W.typeIn K (.ref fIB) = some (.type "function")) (FIB : Fun K "__init__" "BadSteps.__init__" sErB fIB dIB)
    (gG : mg "TooGreat" = some (.ref CG)) (lG : G.Cl K CG "size") (iG : PySem.W.findIn K (.ref CG) "__init__" = some (some (.ref fIG)) ∧ PySem.W.typeIn K (.ref fIG) = some (.type "function")) (FIG : Fun K "__init__" "TooGreat.__init__" sErG fIG dIG)
    (gO : mg "OtherHead" = some (.ref CO)) (lO : G.Cl K CO "head") (iO : PySem.W.findIn K (.ref CO) "__init__" = some (some (.ref fIO)) ∧ PySem.W.typeIn K (.ref fIO) = some (.type "function")) (FIO : Fun K "__init__" "OtherHead.__init__" sErO fIO dIO)
    (gN : mg "NoStep" = some (.ref CN)) (lN : G.Cl K CN "value") (iN : PySem.W.findIn K (.ref CN) "__init__" = some (some (.ref fIN)) ∧ PySem.W.typeIn K (.ref fIN) = some (.type "function")) (FIN : Fun K "__init__" "NoStep.__init__" sErN fIN dIN)
    (xoo : PySem.W.exmOne K (.ref CO) (.ref CO) = some true) (xbo : PySem.W.exmOne K (.ref CB) (.ref CO) = some false) (xbb : PySem.W.exmOne K (.ref CB) (.ref CB) = some true) (xgo : PySem.W.exmOne K (.ref CG) (.ref CO) = some false) (xgb : PySem.W.exmOne K (.ref CG) (.ref CB) = some false) (xgg : PySem.W.exmOne K (.ref CG) (.ref CG) = some true) (xnn : PySem.W.exmOne K (.ref CN) (.ref CN) = some true) (xbn : PySem.W.exmOne K (.ref CB) (.ref CN) = some false)
    (aL : PySem.W.nsIn K mainGlobals "law" = some (some (.ref fLaw))) (FLaw : Fun K "law" "law" sLaw fLaw dLaw) :
    ∃ fd : FuncData, (∀ (s : Shared) (u : Value), BindsTo s fd ⟨[u], []⟩ [("script", u)]) ∧ ∀ base : Heap, K.In base → base.Ns mainGlobals mg → G.Ok l.prog w K mg base CX0 15 fa fd ["script"] (spLaw K) := by
  have e := hfa.symm.trans (PySem.W.mg_of X Gn aL)
  cases e
  refine ⟨dLaw, ?_, fun base _ _ => ?_⟩
  · obtain ⟨_, _, _, _, _, _, _, _, _, rfl, _, _⟩ := FLaw.ex
    exact fun s u => .of_eq rfl
  have BW : Bn mg := ⟨B.isi, B.bool, B.int, B.tuple, B.list, B.len, B.enum, B.max, hsum⟩
  have Bi : S.Bi mg := ⟨B.int, B.len⟩
  obtain ⟨fN, fdN, FN, gN', kN, bN⟩ := z_I.ex
  obtain ⟨fW, fdW, FW, gW, kW, bW⟩ := z_W.ex
  obtain ⟨tM, gM⟩ := T.gMost
  obtain ⟨tH, gH⟩ := T.gHead
  have W0 : Wi l.prog w K mg base fW fdW := ⟨ok_within FW BW FN gN' bN, gW, kW, bW⟩
  have EW : Df l.prog w K mg base 2 "is_within" ["value", "least", "greatest"] spWithin := ⟨fW, fdW, W0.ok, gW, kW, bW⟩
  have EM : Df l.prog w K mg base 3 "is_most" ["value"] (spIn1 1 1000000000000) := z_mo.df fun f fd F => ok_most F W0 gM
  have ERd : Df l.prog w K mg base 3 "is_road" ["size", "sealed", "loose", "least"] spRoad := z_rd.df fun f fd F => ok_road F T EW
  have ETn : Df l.prog w K mg base 1 "is_tells" ["value"] spTells := z_tl.df fun f fd F => ok_tells F T
  have EHd : Df l.prog w K mg base 3 "is_head" ["value"] (spIn1 1 40) := z_hd.df fun f fd F => ok_head F W0 gH
  have ELi : Df l.prog w K mg base 1 "is_step_list" ["value"] (spList K) := z_li.df fun f fd F => ok_list F BW T
  have ELn : Df l.prog w K mg base 1 "is_step_list" ["value"] spListN := z_li.df fun f fd F => ok_listN F BW T
  have ESt : Df l.prog w K mg base 5 "_is_step" ["value", "head"] (spStep C) := z_st.df fun f fd F => ok_step F BW T ERd EM ETn
  have bI : Binds K dIw ["self", "head", "steps"] [] := FIw.binds fun _ _ _ _ _ _ us hl => by obtain ⟨a0, a1, a2, rfl⟩ := ln3 hl; rfl
  have GI : FnOk l.prog w K mg base CX0 6 fIw dIw ["self", "head", "steps"] (spInit C) := ok_init FIw BW T EHd ELi ESt
  have MW : Mw l.prog w K mg base C := ⟨fIw, dIw, GI, MIw, bI⟩
  have M3' : M3 l.prog w K mg base C CB CG := ⟨fIw, dIw, FnOk.or (FnOk.lift GI) (FnOk.or (ok_initB FIw T (mkB lB iB FIB) gB EHd ELn) (ok_initG FIw BW T (mkG lG iG FIG) gG EHd ELi ESt)), MIw, bI⟩
  have DI2 : Y.Df l.prog w K mg base 1 "is_integer" ["value"] (CP.spInt2 K) := z_I.dy fun f fd F => CP.ok_int2 F B
  have DW2 : Y.Df l.prog w K mg base 2 "is_within" ["value", "least", "greatest"] (CP.spWithin2 K) := z_W.dy fun f fd F => CP.ok_within2 F DI2
  have XS : Exs K mg CO CB CG CN := ⟨gO, gB, gG, gN, lO, lB, lG, lN, xoo, xbo, xbb, xgo, xgb, xgg, xnn, xbn⟩
  have AA : Ax l.prog w K mg base C 8 "__add__" ["self", "other"] (spAddW C CB CG CO) := ⟨fWa, dWa, ok_addW FWa T (mkO lO iO FIO) gO M3', oWa, FWa.binds fun _ _ _ _ _ _ us hl => by obtain ⟨a0, a1, rfl⟩ := ln2 hl; rfl⟩
  have AG : Ax l.prog w K mg base C 3 "__getitem__" ["self", "at"] (spWGet K C CN) := ⟨fWg, dWg, ok_wget FWg BW T (mkN lN iN FIN) gN DW2, oWg, FWg.binds fun _ _ _ _ _ _ us hl => by obtain ⟨a0, a1, rfl⟩ := ln2 hl; rfl⟩
  have AM : Mx l.prog w K mg base C 8 "without" ["self", "position"] (spOutW K C CB CG CN) := ⟨fWo, dWo, ok_outW FWo BW T (mkN lN iN FIN) gN M3' DW2, mWo, FWo.binds fun _ _ _ _ _ _ us hl => by obtain ⟨a0, a1, rfl⟩ := ln2 hl; rfl⟩
  have DSu : Df l.prog w K mg base 9 "_law_sum" ["one", "two"] (spLSum C) := z_lsu.df fun f fd F => ok_lsum F XS sfW AA
  have DLe : Df l.prog w K mg base 9 "_law_less" ["way", "at"] (spLLess K C) := z_lle.df fun f fd F => ok_lless F T XS AM
  have DAt : Df l.prog w K mg base 5 "_law_at" ["way", "at"] (spLAt K C) := z_lat.df fun f fd F => ok_lat F XS AG fun f2 o2 => by
    have e := o2.at'.symm.trans oWg.at'
    cases e
    exact nfG
  have bWe : Binds K dWe ["self", "other"] [] := FWe.binds fun _ _ _ _ _ _ us hl => by obtain ⟨a0, a1, rfl⟩ := ln2 hl; rfl
  have GE : EwB l.prog w K mg base C := ⟨fWe, dWe, EB.df_weqB FWe BW T oWe bWe 3, oWe, bWe⟩
  have GL : Lx l.prog w K mg base C := ⟨fWl, dWl, ok_len FWl BW T, oWl, FWl.binds fun _ _ _ _ _ _ us hl => by obtain ⟨a0, rfl⟩ := ln1 hl; rfl⟩
  have DSr : Df l.prog w K mg base 14 "_law_sum_right" ["one", "two"] (spLSumR C) := z_lsr.df fun f fd F => ok_lsumr F BW T GE DSu
  have DPr : G.Du l.prog w K mg base 14 "_law_positions_right" ["way"] (spLPosR C) := by
    obtain ⟨f, fd, F, g1, g2, g3⟩ := z_lpr.ex
    exact ⟨f, fd, ok_lposr F B hrep T ne GE GL MW DAt DLe, g1, g2, g3⟩
  have CI : Y.Df l.prog w K mg base 1 "is_integer" ["value"] CP.spInteger := z_I.dy fun f fd F => CP.ok_integer F B
  have CW : Y.Df l.prog w K mg base 2 "is_within" ["value", "least", "greatest"] CP.spWithin := z_W.dy fun f fd F => CP.ok_within F CI
  have CPi : Y.Df l.prog w K mg base 1 "_pieces" ["body", "cuts", "counts"] (CP.spPieces K) := z_pi.dy fun f fd F => CP.ok_pieces F B
  have CCo : Y.Df l.prog w K mg base 2 "_piece_counts" ["cuts"] (CP.spCounts K) := z_co.dy fun f fd F => CP.ok_counts F B CPi
  have CAr : Y.Df l.prog w K mg base 3 "_are_cuts" ["value"] CP.spAre := z_ar.dy fun f fd F => CP.ok_are F B gC CW
  have MC : Mkc l.prog w K mg base Ch 4 ["self", "cuts"] (CP.spCInit Ch) := ⟨fIc, dIc, CP.ok_cinit FIc B TC CAr CCo, MIc, FIc.binds fun _ _ _ _ _ _ us hl => by obtain ⟨a0, a1, rfl⟩ := ln2 hl; rfl⟩
  have MN : Mkc l.prog w K mg base Ne 1 ["self"] (TH.spNInit Ne) := ⟨fIn, dIn, TH.ok_ninit FIn TN, MIn, FIn.binds fun _ _ _ _ _ _ us hl => by obtain ⟨a0, rfl⟩ := ln1 hl; rfl⟩
  have EQ : Eqn l.prog w K mg base C := ⟨fWe, dWe, TH.ok_weqN FWe B T.g, oWe, bWe⟩
  have ED : Eqn l.prog w K mg base Ch := ⟨fCe, dCe, TH.ok_ceqN FCe B TC.g, oCe, FCe.binds fun _ _ _ _ _ _ us hl => by obtain ⟨a0, a1, rfl⟩ := ln2 hl; rfl⟩
  have EN : Eqn l.prog w K mg base Ne := ⟨fNe, dNe, TH.ok_neqN FNe B TN.g, oNe, FNe.binds fun _ _ _ _ _ _ us hl => by obtain ⟨a0, a1, rfl⟩ := ln2 hl; rfl⟩
  have DU : Df l.prog w K mg base 1 "_law_source" ["script", "start"] (S.spSource K) := z_ls.df fun f fd F => S.ok_source F Bi
  have DD : Df l.prog w K mg base 1 "_law_draw" ["source", "span"] S.spDraw := z_ld.df fun f fd F => S.ok_draw F Bi
  have PK : Df l.prog w K mg base 2 "_law_pick" ["source", "items"] (S.spPick K) := by
    obtain ⟨fD, fdD, FD, gD, kD, bD⟩ := z_ld.ex
    exact z_lp.df fun f fd F => S.ok_pick F Bi FD gD bD
  have DI : Df l.prog w K mg base 3 "_law_inner_road" ["source", "head", "low"] spLInner := z_lin.df fun f fd F => ok_linner F B.range DD PK
  have DMo : Df l.prog w K mg base 3 "_law_most" ["source"] spLMost := z_lm.df fun f fd F => ok_lmost F DD PK
  have DR : Df l.prog w K mg base 3 "_law_road" ["source", "head"] spLRoad := z_lr.df fun f fd F => ok_lroad F DD PK
  have DFi : Df l.prog w K mg base 4 "_law_fitting" ["source", "depth", "many"] spLFit := z_lf.df fun f fd F => ok_lfit F B DD PK DI DMo DR
  have DM : Df l.prog w K mg base 11 "_law_made" ["rows"] (spLMade C 3) := df_made T MW z_lma 3
  exact ok_law FLaw B T Z TC.cl TN TC.g ne DU DD DFi DR DM DSr DPr MW MC MN GE EQ ED EN
end WP

end
section
set_option Elab.async false
set_option linter.all false
set_option maxRecDepth 100000
set_option maxHeartbeats 0
/-! ## the head -/
namespace HT
open PySem PySem.Spec PyProof.Rows L2
def lo0 : List PySem.Str := ["_wall",
  "GREATEST_BODY",
  "is_integer",
  "is_within",
  "is_body",
  "RoadError",
  "BadHead",
  "BadSteps",
  "BadStep",
  "TooDeep",
  "TooGreat",
  "OtherHead",
  "NoStep",
  "BadBody",
  "BadChain",
  "NoBoundary",
  "NoPiece",
  "UnknownName",
  "Held",
  "NoMouth",
  "GREATEST_HEAD",
  "GREATEST_ROAD",
  "GREATEST_MOST",
  "MOST_STEPS",
  "GREATEST_DEPTH",
  "GREATEST_SIZE",
  "SEALED_WORDS",
  "LOOSE_WORDS",
  "TELLS_WORDS",
  "Way"]
def lo1 : List PySem.Str := ["is_head",
  "is_step_list",
  "is_road",
  "is_most",
  "is_tells",
  "is_tunnel_at",
  "_is_step",
  "GREATEST_CUT",
  "Chain",
  "_are_cuts",
  "_piece_counts",
  "_pieces",
  "NOTHING_PASSES",
  "gates",
  "lows",
  "chains_before",
  "_word",
  "_gates_at",
  "_road_gates",
  "_leaves_more",
  "_most_gates",
  "_tunnel_gates",
  "_turned",
  "fate",
  "SealedGate",
  "sealed_gates",
  "ending",
  "greatest_sent",
  "_road_gate",
  "_mouth_gates"]
def lo2 : List PySem.Str := ["_through",
  "Net",
  "_law_source",
  "_law_draw",
  "_law_pick",
  "_law_most",
  "_law_road",
  "_law_inner_road",
  "_law_fitting",
  "_law_made",
  "_law_sum",
  "_law_less",
  "_law_at",
  "_law_sum_right",
  "_law_positions_right"]
def lo : List PySem.Str := lo0 ++ lo1 ++ lo2
def fa0 : List He.Fa := [.free "isinstance",
  .free "bool",
  .free "int",
  .free "tuple",
  .free "list",
  .free "len",
  .free "range",
  .free "zip",
  .free "min",
  .free "max",
  .free "sorted",
  .free "set",
  .free "enumerate",
  .free "sum",
  .free "repr",
  .glo "Way",
  .cls "Way",
  .noat "Way" "head",
  .noat "Way" "steps",
  .noat "Way" "depth",
  .noat "Way" "size",
  .int "GREATEST_HEAD" 40,
  .int "GREATEST_ROAD" 1000,
  .int "GREATEST_MOST" 1000000000000,
  .int "MOST_STEPS" 12,
  .int "GREATEST_DEPTH" 3,
  .int "GREATEST_SIZE" 40,
  .glo "SEALED_WORDS",
  .glo "LOOSE_WORDS",
  .glo "TELLS_WORDS"]
def fa1 : List He.Fa := [.glo "Chain",
  .cls "Chain",
  .noat "Chain" "cuts",
  .noat "Chain" "_counts",
  .glo "Net",
  .cls "Net",
  .noat "Net" "_facts",
  .noat "Net" "_calls",
  .int "GREATEST_CUT" 1000,
  .glo "is_integer",
  .glo "is_within",
  .glo "is_step_list",
  .glo "_is_step",
  .glo "is_road",
  .glo "is_tells",
  .glo "is_most",
  .glo "is_head",
  .glo "_are_cuts",
  .glo "_piece_counts",
  .glo "_pieces",
  .glo "_law_source",
  .glo "_law_draw",
  .glo "_law_pick",
  .glo "_law_most",
  .glo "_law_road",
  .glo "_law_inner_road",
  .glo "_law_fitting",
  .glo "_law_made",
  .glo "_law_sum",
  .glo "_law_less"]
def fa2 : List He.Fa := [.glo "_law_at",
  .glo "_law_sum_right",
  .glo "_law_positions_right",
  .mkr "Way",
  .mkr "Chain",
  .mkr "Net",
  .meth "Way" "without",
  .meth "Way" "__eq__",
  .meth "Way" "__add__",
  .meth "Way" "__getitem__",
  .meth "Way" "__len__",
  .meth "Chain" "__eq__",
  .meth "Net" "__eq__",
  .glo "BadSteps",
  .glo "TooGreat",
  .glo "OtherHead",
  .glo "NoStep",
  .glo "law"]
def fa : List He.Fa := fa0 ++ fa1 ++ fa2
def fn0 : List He.DefD := [⟨("is_integer", none), "is_integer", "is_integer", defArgs WP.sInteger, defBody WP.sInteger, defScope WP.sInteger, [], []⟩,
  ⟨("is_within", none), "is_within", "is_within", defArgs WP.sWithin, defBody WP.sWithin, defScope WP.sWithin, [], []⟩,
  ⟨("is_step_list", none), "is_step_list", "is_step_list", defArgs WP.sList, defBody WP.sList, defScope WP.sList, [], []⟩,
  ⟨("_is_step", none), "_is_step", "_is_step", defArgs WP.sStep, defBody WP.sStep, defScope WP.sStep, [], []⟩,
  ⟨("is_road", none), "is_road", "is_road", defArgs WP.sRoad, defBody WP.sRoad, defScope WP.sRoad, [], []⟩,
  ⟨("is_tells", none), "is_tells", "is_tells", defArgs WP.sTells, defBody WP.sTells, defScope WP.sTells, [], []⟩,
  ⟨("is_most", none), "is_most", "is_most", defArgs WP.sMost, defBody WP.sMost, defScope WP.sMost, [], []⟩,
  ⟨("is_head", none), "is_head", "is_head", defArgs WP.sHead, defBody WP.sHead, defScope WP.sHead, [], []⟩,
  ⟨("_are_cuts", none), "_are_cuts", "_are_cuts", defArgs CP.sAreCuts, defBody CP.sAreCuts, defScope CP.sAreCuts, [], []⟩,
  ⟨("_piece_counts", none), "_piece_counts", "_piece_counts", defArgs CP.sCounts, defBody CP.sCounts, defScope CP.sCounts, [], []⟩,
  ⟨("_pieces", none), "_pieces", "_pieces", defArgs CP.sPieces, defBody CP.sPieces, defScope CP.sPieces, [], []⟩,
  ⟨("_law_source", none), "_law_source", "_law_source", defArgs S.sSource, defBody S.sSource, defScope S.sSource, [], []⟩,
  ⟨("_law_draw", none), "_law_draw", "_law_draw", defArgs S.sDraw, defBody S.sDraw, defScope S.sDraw, [], []⟩,
  ⟨("_law_pick", none), "_law_pick", "_law_pick", defArgs S.sPick, defBody S.sPick, defScope S.sPick, [], []⟩,
  ⟨("_law_most", none), "_law_most", "_law_most", defArgs WP.sLMost, defBody WP.sLMost, defScope WP.sLMost, [], []⟩,
  ⟨("_law_road", none), "_law_road", "_law_road", defArgs WP.sLRoad, defBody WP.sLRoad, defScope WP.sLRoad, [], []⟩,
  ⟨("_law_inner_road", none), "_law_inner_road", "_law_inner_road", defArgs WP.sLInner, defBody WP.sLInner, defScope WP.sLInner, [], []⟩,
  ⟨("_law_fitting", none), "_law_fitting", "_law_fitting", defArgs WP.sLFit, defBody WP.sLFit, defScope WP.sLFit, [], []⟩,
  ⟨("_law_made", none), "_law_made", "_law_made", defArgs WP.sLMade, defBody WP.sLMade, defScope WP.sLMade, [], []⟩,
  ⟨("_law_sum", none), "_law_sum", "_law_sum", defArgs WP.sLSum, defBody WP.sLSum, defScope WP.sLSum, [], []⟩,
  ⟨("_law_less", none), "_law_less", "_law_less", defArgs WP.sLLess, defBody WP.sLLess, defScope WP.sLLess, [], []⟩,
  ⟨("_law_at", none), "_law_at", "_law_at", defArgs WP.sLAt, defBody WP.sLAt, defScope WP.sLAt, [], []⟩,
  ⟨("_law_sum_right", none), "_law_sum_right", "_law_sum_right", defArgs WP.sLSumR, defBody WP.sLSumR, defScope WP.sLSumR, [], []⟩,
  ⟨("_law_positions_right", none), "_law_positions_right", "_law_positions_right", defArgs WP.sLPosR, defBody WP.sLPosR, defScope WP.sLPosR, [], []⟩,
  ⟨("Way", some "__init__"), "__init__", "Way.__init__", defArgs WP.sInit, defBody WP.sInit, defScope WP.sInit, [], []⟩,
  ⟨("Chain", some "__init__"), "__init__", "Chain.__init__", defArgs CP.sCInit, defBody CP.sCInit, defScope CP.sCInit, [], []⟩,
  ⟨("Net", some "__init__"), "__init__", "Net.__init__", defArgs TH.sNInit, defBody TH.sNInit, defScope TH.sNInit, [], []⟩,
  ⟨("Way", some "without"), "without", "Way.without", defArgs WP.sWithout, defBody WP.sWithout, defScope WP.sWithout, [], []⟩,
  ⟨("Way", some "__eq__"), "__eq__", "Way.__eq__", defArgs WP.sWEq, defBody WP.sWEq, defScope WP.sWEq, [], []⟩,
  ⟨("Way", some "__add__"), "__add__", "Way.__add__", defArgs WP.sAddW, defBody WP.sAddW, defScope WP.sAddW, [], []⟩]
def fn1 : List He.DefD := [⟨("Way", some "__getitem__"), "__getitem__", "Way.__getitem__", defArgs WP.sWGet, defBody WP.sWGet, defScope WP.sWGet, [], []⟩,
  ⟨("Way", some "__len__"), "__len__", "Way.__len__", defArgs WP.sLen, defBody WP.sLen, defScope WP.sLen, [], []⟩,
  ⟨("Chain", some "__eq__"), "__eq__", "Chain.__eq__", defArgs TH.sCEq, defBody TH.sCEq, defScope TH.sCEq, [], []⟩,
  ⟨("Net", some "__eq__"), "__eq__", "Net.__eq__", defArgs TH.sNEq, defBody TH.sNEq, defScope TH.sNEq, [], []⟩,
  ⟨("BadSteps", some "__init__"), "__init__", "BadSteps.__init__", defArgs WP.sErB, defBody WP.sErB, defScope WP.sErB, [], []⟩,
  ⟨("TooGreat", some "__init__"), "__init__", "TooGreat.__init__", defArgs WP.sErG, defBody WP.sErG, defScope WP.sErG, [], []⟩,
  ⟨("OtherHead", some "__init__"), "__init__", "OtherHead.__init__", defArgs WP.sErO, defBody WP.sErO, defScope WP.sErO, [], []⟩,
  ⟨("NoStep", some "__init__"), "__init__", "NoStep.__init__", defArgs WP.sErN, defBody WP.sErN, defScope WP.sErN, [], []⟩,
  ⟨("law", none), "law", "law", defArgs WP.sLaw, defBody WP.sLaw, defScope WP.sLaw, [], []⟩]
def fn : List He.DefD := fn0 ++ fn1
def ex0 : List HN.Ex := [fun K => He.eqO (PySem.W.findIn K (.ref (He.ga K "Way")) "__class__") (some (some (.builtin "object.__class__"))),
  fun K => He.eqO (PySem.W.specialIn K (.builtin "object.__class__") "__get__") (some (some (.builtin "getset_descriptor.__get__"))),
  fun K => decide (PySem.W.takesIn K (.builtin "object.__class__") = some true),
  fun K => decide (PySem.W.mroIn K (He.ga K "Way") (.type "object") = some true),
  fun K => He.tupB K "SEALED_WORDS" [.str "tell", .str "drop"],
  fun K => He.tupB K "LOOSE_WORDS" [.str "cut", .str "tell", .str "drop"],
  fun K => He.tupB K "TELLS_WORDS" [.str "turn", .str "keep", .str "lose"],
  fun K => decide (PySem.W.kitOne K (.type "NoneType") (.ref (He.ga K "Way")) = some false),
  fun K => decide (PySem.W.kitOne K (.type "bool") (.ref (He.ga K "Way")) = some false),
  fun K => decide (PySem.W.kitOne K (.type "int") (.ref (He.ga K "Way")) = some false),
  fun K => decide (PySem.W.kitOne K (.type "str") (.ref (He.ga K "Way")) = some false),
  fun K => decide (PySem.W.kitOne K (.type "tuple") (.ref (He.ga K "Way")) = some false),
  fun K => decide (PySem.W.kitOne K (.type "list") (.ref (He.ga K "Way")) = some false),
  fun K => decide (PySem.W.kitOne K (.type "dict") (.ref (He.ga K "Way")) = some false),
  fun K => decide (PySem.W.kitOne K (.ref (He.ga K "Chain")) (.ref (He.ga K "Way")) = some false),
  fun K => decide (PySem.W.kitOne K (.ref (He.ga K "Net")) (.ref (He.ga K "Way")) = some false),
  fun K => decide (PySem.W.kitOne K (.ref (He.ga K "Way")) (.ref (He.ga K "Chain")) = some false),
  fun K => decide (PySem.W.kitOne K (.ref (He.ga K "Way")) (.ref (He.ga K "Net")) = some false),
  fun K => PySem.W.notFirst K (He.ga K "Way") (.ref (He.ga K "Chain")),
  fun K => PySem.W.notFirst K (He.ga K "Way") (.ref (He.ga K "Net")),
  fun K => PySem.W.notFirst K (He.ga K "Chain") (.ref (He.ga K "Way")),
  fun K => PySem.W.notFirst K (He.ga K "Net") (.ref (He.ga K "Way")),
  fun K => decide (PySem.W.subIn K (.ref (He.ga K "Way")) (.type "NoneType") = some false),
  fun K => decide (PySem.W.subIn K (.ref (He.ga K "Way")) (.type "bool") = some false),
  fun K => decide (PySem.W.subIn K (.ref (He.ga K "Way")) (.type "int") = some false),
  fun K => decide (PySem.W.subIn K (.ref (He.ga K "Way")) (.type "str") = some false),
  fun K => decide (PySem.W.subIn K (.ref (He.ga K "Way")) (.type "tuple") = some false),
  fun K => decide (PySem.W.subIn K (.ref (He.ga K "Way")) (.type "list") = some false),
  fun K => decide (PySem.W.subIn K (.ref (He.ga K "Way")) (.type "dict") = some false),
  fun K => He.eqO (PySem.W.findIn K (.ref (He.ga K "Chain")) "__class__") (some (some (.builtin "object.__class__")))]
def ex1 : List HN.Ex := [fun K => decide (PySem.W.mroIn K (He.ga K "Chain") (.type "object") = some true),
  fun K => He.eqO (PySem.W.findIn K (.ref (He.ga K "Net")) "__class__") (some (some (.builtin "object.__class__"))),
  fun K => decide (PySem.W.mroIn K (He.ga K "Net") (.type "object") = some true),
  fun K => He.eqO (PySem.W.findIn K (.ref (He.ga K "Way")) "__ne__") (some (some (.builtin "object.__ne__"))),
  fun K => PySem.W.selfFirst K (He.ga K "Way"),
  fun K => PySem.W.fnIn K (He.ma K (He.ga K "Way") "__getitem__"),
  fun K => HX.errB K (He.ga K "BadSteps") "value",
  fun K => HX.iniB K (He.ga K "BadSteps") (He.ma K (He.ga K "BadSteps") "__init__"),
  fun K => HX.errB K (He.ga K "TooGreat") "size",
  fun K => HX.iniB K (He.ga K "TooGreat") (He.ma K (He.ga K "TooGreat") "__init__"),
  fun K => HX.errB K (He.ga K "OtherHead") "head",
  fun K => HX.iniB K (He.ga K "OtherHead") (He.ma K (He.ga K "OtherHead") "__init__"),
  fun K => HX.errB K (He.ga K "NoStep") "value",
  fun K => HX.iniB K (He.ga K "NoStep") (He.ma K (He.ga K "NoStep") "__init__"),
  fun K => decide (PySem.W.exmOne K (.ref (He.ga K "OtherHead")) (.ref (He.ga K "OtherHead")) = some true),
  fun K => decide (PySem.W.exmOne K (.ref (He.ga K "BadSteps")) (.ref (He.ga K "OtherHead")) = some false),
  fun K => decide (PySem.W.exmOne K (.ref (He.ga K "BadSteps")) (.ref (He.ga K "BadSteps")) = some true),
  fun K => decide (PySem.W.exmOne K (.ref (He.ga K "TooGreat")) (.ref (He.ga K "OtherHead")) = some false),
  fun K => decide (PySem.W.exmOne K (.ref (He.ga K "TooGreat")) (.ref (He.ga K "BadSteps")) = some false),
  fun K => decide (PySem.W.exmOne K (.ref (He.ga K "TooGreat")) (.ref (He.ga K "TooGreat")) = some true),
  fun K => decide (PySem.W.exmOne K (.ref (He.ga K "NoStep")) (.ref (He.ga K "NoStep")) = some true),
  fun K => decide (PySem.W.exmOne K (.ref (He.ga K "BadSteps")) (.ref (He.ga K "NoStep")) = some false)]
def ex : List HN.Ex := ex0 ++ ex1
abbrev R : PySem.W.OpenRow := PySem.W.OpenLaw.row PySem.Challenge.rw_roadsizes_k02_ways_put_together
abbrev hk : PySem.W.Hook := HN.hookX fa fn ex
def ob (s : PySem.W.SharedT) : HN.AlX := HN.obsG fa fn ex (HandSHeadRun.getT s)
theorem ob_eq (s : PySem.W.SharedT) : ob s = hk.obs s.abs := HN.obsG_eq (HandSHeadRun.getT_eq s)
theorem run (w : World) : HandSHeadRun.RunEq R (PySem.W.view R.prog [84]) hk ob 9000 lo w := by
  intro os
  kernel_rfl
theorem facts {l : PySem.W.OpenLaw} {w : World} {K : PySem.W.Frag} {h : Heap} {mg : Str → Option Value} {f : Addr} (KX : K.In h) (hNs : h.Ns mainGlobals mg) (hmg : mg "law" = some (.ref f)) (c : HN.Says fa fn ex K) :
    ∃ fd : FuncData, (∀ (s : Shared) (u : Value), BindsTo s fd ⟨[u], []⟩ [("script", u)]) ∧ ∀ base : Heap, K.In base → base.Ns mainGlobals mg → G.Ok l.prog w K mg base CX0 15 f fd ["script"] (WP.spLaw K) :=
  WP.all_mk KX hNs hmg ⟨(He.free_ok KX hNs (c.fact 0 _ rfl)), (He.free_ok KX hNs (c.fact 1 _ rfl)), (He.free_ok KX hNs (c.fact 2 _ rfl)), (He.free_ok KX hNs (c.fact 3 _ rfl)), (He.free_ok KX hNs (c.fact 4 _ rfl)), (He.free_ok KX hNs (c.fact 5 _ rfl)), (He.free_ok KX hNs (c.fact 6 _ rfl)), (He.free_ok KX hNs (c.fact 7 _ rfl)), (He.free_ok KX hNs (c.fact 8 _ rfl)), (He.free_ok KX hNs (c.fact 9 _ rfl)), (He.free_ok KX hNs (c.fact 10 _ rfl)), (He.free_ok KX hNs (c.fact 11 _ rfl)), (He.free_ok KX hNs (c.fact 12 _ rfl))⟩ (He.free_ok KX hNs (c.fact 13 _ rfl)) (He.free_ok KX hNs (c.fact 14 _ rfl))
    ⟨(He.glo_ok KX hNs (c.fact 15 _ rfl)), (He.cls_ok (c.fact 16 _ rfl)), (He.noat_ok (c.fact 17 _ rfl)), (He.noat_ok (c.fact 18 _ rfl)), (He.noat_ok (c.fact 19 _ rfl)), (He.noat_ok (c.fact 20 _ rfl)), (He.eqO_ok (c.look 0 _ rfl)), (He.eqO_ok (c.look 1 _ rfl)), (of_decide_eq_true (c.look 2 _ rfl)), (of_decide_eq_true (c.look 3 _ rfl)), (He.int_ok KX hNs (c.fact 21 _ rfl)), (He.int_ok KX hNs (c.fact 22 _ rfl)), (He.int_ok KX hNs (c.fact 23 _ rfl)), (He.int_ok KX hNs (c.fact 24 _ rfl)), (He.int_ok KX hNs (c.fact 25 _ rfl)), (He.int_ok KX hNs (c.fact 26 _ rfl)), ⟨_, (He.glo_ok KX hNs (c.fact 27 _ rfl)), fun H => He.tupB_ok (vs := [.str "tell", .str "drop"]) (c.look 4 _ rfl) H⟩, ⟨_, (He.glo_ok KX hNs (c.fact 28 _ rfl)), fun H => He.tupB_ok (vs := [.str "cut", .str "tell", .str "drop"]) (c.look 5 _ rfl) H⟩, ⟨_, (He.glo_ok KX hNs (c.fact 29 _ rfl)), fun H => He.tupB_ok (vs := [.str "turn", .str "keep", .str "lose"]) (c.look 6 _ rfl) H⟩⟩
    ⟨(of_decide_eq_true (c.look 7 _ rfl)), (of_decide_eq_true (c.look 8 _ rfl)), (of_decide_eq_true (c.look 9 _ rfl)), (of_decide_eq_true (c.look 10 _ rfl)), (of_decide_eq_true (c.look 11 _ rfl)), (of_decide_eq_true (c.look 12 _ rfl)), (of_decide_eq_true (c.look 13 _ rfl)), (of_decide_eq_true (c.look 14 _ rfl)), (of_decide_eq_true (c.look 15 _ rfl)), (of_decide_eq_true (c.look 16 _ rfl)), (of_decide_eq_true (c.look 17 _ rfl)), (c.look 18 _ rfl), (c.look 19 _ rfl), (c.look 20 _ rfl), (c.look 21 _ rfl), ⟨(of_decide_eq_true (c.look 22 _ rfl)), (of_decide_eq_true (c.look 23 _ rfl)), (of_decide_eq_true (c.look 24 _ rfl)), (of_decide_eq_true (c.look 25 _ rfl)), (of_decide_eq_true (c.look 26 _ rfl)), (of_decide_eq_true (c.look 27 _ rfl)), (of_decide_eq_true (c.look 28 _ rfl))⟩, (He.eqO_ok (c.look 29 _ rfl)), (of_decide_eq_true (c.look 30 _ rfl)), (He.eqO_ok (c.look 31 _ rfl)), (of_decide_eq_true (c.look 32 _ rfl))⟩
    ⟨(He.glo_ok KX hNs (c.fact 30 _ rfl)), (He.cls_ok (c.fact 31 _ rfl)), (He.noat_ok (c.fact 32 _ rfl)), (He.noat_ok (c.fact 33 _ rfl))⟩ ⟨(He.glo_ok KX hNs (c.fact 34 _ rfl)), (He.cls_ok (c.fact 35 _ rfl)), (He.noat_ok (c.fact 36 _ rfl)), (He.noat_ok (c.fact 37 _ rfl))⟩ (He.int_ok KX hNs (c.fact 38 _ rfl)) (He.eqO_ok (c.look 33 _ rfl)) (c.look 34 _ rfl) (c.look 35 _ rfl)
    (WP.fd_I KX hNs (He.eqO_ok (c.fact 39 _ rfl)) (HN.funOf (c.def_ 0 _ rfl).choose_spec))
    (WP.fd_W KX hNs (He.eqO_ok (c.fact 40 _ rfl)) (HN.funOf (c.def_ 1 _ rfl).choose_spec))
    (WP.fd_li KX hNs (He.eqO_ok (c.fact 41 _ rfl)) (HN.funOf (c.def_ 2 _ rfl).choose_spec))
    (WP.fd_st KX hNs (He.eqO_ok (c.fact 42 _ rfl)) (HN.funOf (c.def_ 3 _ rfl).choose_spec))
    (WP.fd_rd KX hNs (He.eqO_ok (c.fact 43 _ rfl)) (HN.funOf (c.def_ 4 _ rfl).choose_spec))
    (WP.fd_tl KX hNs (He.eqO_ok (c.fact 44 _ rfl)) (HN.funOf (c.def_ 5 _ rfl).choose_spec))
    (WP.fd_mo KX hNs (He.eqO_ok (c.fact 45 _ rfl)) (HN.funOf (c.def_ 6 _ rfl).choose_spec))
    (WP.fd_hd KX hNs (He.eqO_ok (c.fact 46 _ rfl)) (HN.funOf (c.def_ 7 _ rfl).choose_spec))
    (WP.fd_ar KX hNs (He.eqO_ok (c.fact 47 _ rfl)) (HN.funOf (c.def_ 8 _ rfl).choose_spec))
    (WP.fd_co KX hNs (He.eqO_ok (c.fact 48 _ rfl)) (HN.funOf (c.def_ 9 _ rfl).choose_spec))
    (WP.fd_pi KX hNs (He.eqO_ok (c.fact 49 _ rfl)) (HN.funOf (c.def_ 10 _ rfl).choose_spec))
    (WP.fd_ls KX hNs (He.eqO_ok (c.fact 50 _ rfl)) (HN.funOf (c.def_ 11 _ rfl).choose_spec))
    (WP.fd_ld KX hNs (He.eqO_ok (c.fact 51 _ rfl)) (HN.funOf (c.def_ 12 _ rfl).choose_spec))
    (WP.fd_lp KX hNs (He.eqO_ok (c.fact 52 _ rfl)) (HN.funOf (c.def_ 13 _ rfl).choose_spec))
    (WP.fd_lm KX hNs (He.eqO_ok (c.fact 53 _ rfl)) (HN.funOf (c.def_ 14 _ rfl).choose_spec))
    (WP.fd_lr KX hNs (He.eqO_ok (c.fact 54 _ rfl)) (HN.funOf (c.def_ 15 _ rfl).choose_spec))
    (WP.fd_lin KX hNs (He.eqO_ok (c.fact 55 _ rfl)) (HN.funOf (c.def_ 16 _ rfl).choose_spec))
    (WP.fd_lf KX hNs (He.eqO_ok (c.fact 56 _ rfl)) (HN.funOf (c.def_ 17 _ rfl).choose_spec))
    (WP.fd_lma KX hNs (He.eqO_ok (c.fact 57 _ rfl)) (HN.funOf (c.def_ 18 _ rfl).choose_spec))
    (WP.fd_lsu KX hNs (He.eqO_ok (c.fact 58 _ rfl)) (HN.funOf (c.def_ 19 _ rfl).choose_spec))
    (WP.fd_lle KX hNs (He.eqO_ok (c.fact 59 _ rfl)) (HN.funOf (c.def_ 20 _ rfl).choose_spec))
    (WP.fd_lat KX hNs (He.eqO_ok (c.fact 60 _ rfl)) (HN.funOf (c.def_ 21 _ rfl).choose_spec))
    (WP.fd_lsr KX hNs (He.eqO_ok (c.fact 61 _ rfl)) (HN.funOf (c.def_ 22 _ rfl).choose_spec))
    (WP.fd_lpr KX hNs (He.eqO_ok (c.fact 62 _ rfl)) (HN.funOf (c.def_ 23 _ rfl).choose_spec))
    (He.mkr_ok (c.fact 63 _ rfl)) (HN.funOf (c.def_ 24 _ rfl).choose_spec)
    (He.mkr_ok (c.fact 64 _ rfl)) (HN.funOf (c.def_ 25 _ rfl).choose_spec)
    (He.mkr_ok (c.fact 65 _ rfl)) (HN.funOf (c.def_ 26 _ rfl).choose_spec)
    (He.meth_ok (c.fact 66 _ rfl)) (HN.funOf (c.def_ 27 _ rfl).choose_spec)
    ⟨(He.meth_ok (c.fact 67 _ rfl)).1, (He.meth_ok (c.fact 67 _ rfl)).2⟩ (HN.funOf (c.def_ 28 _ rfl).choose_spec)
    ⟨(He.meth_ok (c.fact 68 _ rfl)).1, (He.meth_ok (c.fact 68 _ rfl)).2⟩ (HN.funOf (c.def_ 29 _ rfl).choose_spec)
    ⟨(He.meth_ok (c.fact 69 _ rfl)).1, (He.meth_ok (c.fact 69 _ rfl)).2⟩ (HN.funOf (c.def_ 30 _ rfl).choose_spec)
    ⟨(He.meth_ok (c.fact 70 _ rfl)).1, (He.meth_ok (c.fact 70 _ rfl)).2⟩ (HN.funOf (c.def_ 31 _ rfl).choose_spec)
    ⟨(He.meth_ok (c.fact 71 _ rfl)).1, (He.meth_ok (c.fact 71 _ rfl)).2⟩ (HN.funOf (c.def_ 32 _ rfl).choose_spec)
    ⟨(He.meth_ok (c.fact 72 _ rfl)).1, (He.meth_ok (c.fact 72 _ rfl)).2⟩ (HN.funOf (c.def_ 33 _ rfl).choose_spec)
    (He.glo_ok KX hNs (c.fact 73 _ rfl)) (HX.errB_ok (c.look 36 _ rfl)) (HX.iniB_ok (c.look 37 _ rfl)) (HN.funOf (c.def_ 34 _ rfl).choose_spec)
    (He.glo_ok KX hNs (c.fact 74 _ rfl)) (HX.errB_ok (c.look 38 _ rfl)) (HX.iniB_ok (c.look 39 _ rfl)) (HN.funOf (c.def_ 35 _ rfl).choose_spec)
    (He.glo_ok KX hNs (c.fact 75 _ rfl)) (HX.errB_ok (c.look 40 _ rfl)) (HX.iniB_ok (c.look 41 _ rfl)) (HN.funOf (c.def_ 36 _ rfl).choose_spec)
    (He.glo_ok KX hNs (c.fact 76 _ rfl)) (HX.errB_ok (c.look 42 _ rfl)) (HX.iniB_ok (c.look 43 _ rfl)) (HN.funOf (c.def_ 37 _ rfl).choose_spec)
    (of_decide_eq_true (c.look 44 _ rfl)) (of_decide_eq_true (c.look 45 _ rfl)) (of_decide_eq_true (c.look 46 _ rfl)) (of_decide_eq_true (c.look 47 _ rfl)) (of_decide_eq_true (c.look 48 _ rfl)) (of_decide_eq_true (c.look 49 _ rfl)) (of_decide_eq_true (c.look 50 _ rfl)) (of_decide_eq_true (c.look 51 _ rfl))
    (He.eqO_ok (c.fact 77 _ rfl)) (HN.funOf (c.def_ 38 _ rfl).choose_spec)
end HT
open PySem PySem.W PySem.Calls PyProof.Rows
set_option maxRecDepth 100000 in
set_option maxHeartbeats 0 in
theorem PySem.Challenge.cw_roadsizes_k02_ways_put_together_holds : PySem.Challenge.rw_roadsizes_k02_ways_put_together.Holds := by
  w_on; o_law
  refine HandSHeadRun.head_any (r := OpenLaw.row PySem.Challenge.rw_roadsizes_k02_ways_put_together) (q := view (OpenLaw.row PySem.Challenge.rw_roadsizes_k02_ways_put_together).prog [84]) (H := HT.hk) (ob := HT.ob) (M := 9000) (loose := HT.lo) (d := HandSHeadRun.topDef (OpenLaw.row PySem.Challenge.rw_roadsizes_k02_ways_put_together).prog 84) (kwd := []) HT.ob_eq
    (by kernel_rfl) (fun s => by kernel_rfl) HT.run (by kernel_rfl) (by kernel_rfl) (by kernel_rfl) (by rfl) (by first | assumption | decide +kernel) (by decide +kernel) ⟨rfl, rfl, rfl, rfl, rfl, by decide +kernel⟩ ?hw ?hc
  case hw => w_witness2
  case hc =>
    refine G.walkE (l := PySem.Challenge.rw_roadsizes_k02_ways_put_together) (n := 63) (k := 15) (x := "script") rfl (by decide) (by kernel_rfl) ⟨rfl, by decide, by decide⟩ ?F
    intro w mg fa h Y G hmg0
    obtain ⟨K, KX, c⟩ := Y
    have hmg : mg ("law" : PySem.Str) = some (.ref fa) := by
      have e : (HandSHeadRun.topDef (OpenLaw.row PySem.Challenge.rw_roadsizes_k02_ways_put_together).prog 84).name = ("law" : PySem.Str) := by kernel_rfl
      rw [← e]
      exact hmg0
    obtain ⟨fd, hb, hF⟩ := HT.facts (l := PySem.Challenge.rw_roadsizes_k02_ways_put_together) (w := w) KX G hmg c
    exact ⟨K, fd, WP.spLaw K, KX, hb, fun H a ns hl hb hS => ⟨a, ns, rfl, hS, hl, hb, fun _ => rfl⟩, hF⟩

end
