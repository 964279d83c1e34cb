import PyProof.Rows.All
import Wide.All
import OpenK.AllK
import Wide.FinOn
import HandS.ForMost
import HandS.EndBits
import HandS.Wide
import PyProof.ReprRoads
import HandS.ExcInit
import HandS.ExcIs
import HandS.IsInst
import HandS.Defaults
import HandS.MakeKwOnly
import HandS.Evl
import PyProof.ReprBulk
import PyProof.Rows.ReprShort
import HandS.Walk
import PySem.Challenge.RW_roadsizes_k91_errors_by_hand
set_option Elab.async false
set_option linter.all false
set_option maxRecDepth 100000
set_option maxHeartbeats 4000000
/-! ## G: defs that are entered with no repr under way (guards known), so that repr of containers can be told -/
namespace G
open PySem PySem.Spec PyProof.Rows L2

/-- a def's promise, kept where no repr is under way -/
structure Ok (P : Program) (w : World) (K : PySem.W.Frag) (mg : Str → Option Value) (base : Heap) (CX : CXT) (k : Nat) (f : Addr) (fd : FuncData) (ps : List Str) (sp : Sp) : Prop where
  len : ∀ vs H Q E, sp vs H Q E → vs.length = ps.length
  go : ∀ (A : Around), A.guards = some [] → ∀ (outer : List Env) (s : Shared) (H : Hp) (args : Args) (us : List Value) (vs : List V) (Q : VK) (E : XK),
    Room k A → Env0 P w K mg base A outer s H → BindsTo s fd args (ps.zip us) → Vals vs us → sp vs H Q E → codeAny (model P w) A (.call (.ref f) args) (CR CX outer P w H s Q E) s
section
variable {P : Program} {w : World} {K : PySem.W.Frag} {mg : Str → Option Value} {base : Heap} {CX : CXT}
theorem Ok.mono {j k : Nat} {f : Addr} {fd : FuncData} {ps : List Str} {sp : Sp} (F : Ok P w K mg base CX j f fd ps sp) (h : j ≤ k) : Ok P w K mg base CX k f fd ps sp :=
  ⟨F.len, fun A hg outer s H args us vs Q E hr => F.go A hg outer s H args us vs Q E (hr.mono h)⟩
theorem Ok.of {k : Nat} {f : Addr} {fd : FuncData} {ps : List Str} {sp : Sp} (F : FnOk P w K mg base CX k f fd ps sp) : Ok P w K mg base CX k f fd ps sp :=
  ⟨F.len, fun A _ => F.run A⟩

theorem mk {k : Nat} {x qual : Str} {st : Stmt} {f : Addr} {fd : FuncData} {N ps : List Str} {sp : Sp} (F : Fun K x qual st f fd) (S : FnScope N ps (defScope st)) (len : ∀ vs H Q E, sp vs H Q E → vs.length = ps.length)
    (walk : ∀ (cdv : Value) (A : Around) (outer : List Env) (s : Shared) (H : Hp) (vs : List V) (Q : VK) (E : XK), A.guards = some [] → Room k (A.deeper (envOfC qual (defScope st) s.heap.objs.size f cdv)) → sp vs H Q E →
      ∃ t, PSs (cxOf CX P w K mg base N qual (defScope st) f cdv A outer s H E).nox (defBody st) t ∧ t { nx := fun _ H' => Q .non H', rt := Q } (start N vs) H) :
    Ok P w K mg base CX (k + 1) f fd ps sp := by
  refine ⟨len, ?_⟩
  obtain ⟨oc, od, kV, doc, pm, an, cdv, ct, osl, hfd, lk, cd⟩ := F.ex
  intro A hg outer s H args us vs Q E hr e0 hb rv hsp
  subst hfd
  have stay : ∀ b o, base.get? b = some o → s.heap.get? b = some o := fun b o e => (e0.bs b o e).1
  have KX : K.In s.heap := e0.mod.kin.keeps stay
  have par : ∀ y ∈ ps.zip us, (defScope st).names.lookup y.1 = some .local ∨ ((defScope st).names.lookup y.1 = some .cell ∧ ((cellsFrom (s.heap.objs.size + 1) (defScope st).names []).lookup y.1).isSome = true) := by
    rintro ⟨n, v⟩ hy
    cases S.par n (List.of_mem_zip hy).1 with
    | inl q => exact .inl q
    | inr q => exact .inr ⟨q, PySem.W.cellsFrom_some _ _ _ (.inl q)⟩
  refine codeAny_call_function hr.depth (KX _ _ lk) rfl S.co S.gen rfl (PySem.W.codeRec_of KX cd) (hb _ _ _ _ (wpAny_newFunctionEnv_cells S.kind par ?_))
  intro env he s1 x
  subst he
  refine ⟨(e0.mod.nolimit.keeps stay).keeps x.toInCall.keep, codeAny_func ?_⟩
  obtain ⟨t, ht, hq⟩ := walk cdv A outer s H vs Q E hg (hr.deeper _) hsp
  refine wpAny_mono (ht.nox.run [] s1 (start N vs) H _ (inv_start S hr.hd e0 (len _ _ _ _ hsp) rv x) hq) ?_ fun e s' hs => hs
  intro fl s' hs
  cases fl with
  | ret u => obtain ⟨v, σ', H', J, ru, q⟩ := hs; exact ⟨v, H', J.os, J.bare, J.base, J.hok, ru, q⟩
  | next => obtain ⟨σ', H', J, q⟩ := hs; exact ⟨.non, H', J.os, J.bare, J.base, J.hok, rfl, q⟩
  | brk => obtain ⟨_, _, _, q⟩ := hs; exact q.elim
  | cont => obtain ⟨_, _, _, q⟩ := hs; exact q.elim

/-- the law's entry: callerA has no guard -/
theorem enter {mb : Str → Option Value} {k : Nat} {fa a : Addr} {fd : FuncData} {x : Str} {sp : Sp} {s₁ : Shared} {vs : List Value} {H : Hp}
    (KX : K.In s₁.heap) (hns : s₁.heap.Ns mainGlobals mg) (hb : s₁.heap.Ns builtinsNs mb) (hbb : ∀ x : Str, x ≠ "__name__" → mb x = bootBuiltins x) (hlim : s₁.heap.NoLimit) (hgen : s₁.gens = #[])
    (ha : s₁.heap.get? a = some { cls := .type "list", data := .seq vs.toArray }) (hr : Room k callerA)
    (F : ∀ base : Heap, K.In base → base.Ns mainGlobals mg → Ok P w K mg base CX k fa fd [x] sp) (hbind : ∀ (s : Shared) (u : Value), BindsTo s fd ⟨[u], []⟩ [(x, u)])
    (hO : Only H) (hok : HOk P w H s₁.heap) (only_a : ∀ b o, H b = some o → b = a) (notK : (∃ o, H a = some o) → K.lookup a = none)
    (hsp : sp [.ref a] H (fun v _ => v = .bl true) fun _ _ _ => False) (hCX : ∀ H e s', CX [] H s₁ (fun _ _ _ => False) e s' → False) :
    codeAny (model P w) callerA (.call (.ref fa) ⟨[.ref a], []⟩) (fun r s' => r = .ok (.ret (.bool true)) ∧ OldK s₁.heap s'.heap ∧ s'.os = s₁.os ∧ AllBare s'.gens) s₁ := by
  have free : ∀ {b : Addr}, b ≠ a → H b = none := fun {b} hne => by
    cases q : H b with
    | none => rfl
    | some u => exact absurd (only_a b u q) hne
  have dic : ∀ {b : Addr} {m : Str → Option Value}, s₁.heap.Ns b m → (hidT s₁.heap H).Ns b m := by
    rintro b m ⟨o, es, ep, e, d, r⟩
    refine ⟨o, es, ep, hidT_get e (free ?_), d, r⟩
    rintro rfl
    rw [ha] at e
    cases e
    cases d
  have kin : K.In (hidT s₁.heap H) := by
    intro b o e
    refine hidT_get (KX b o e) ?_
    cases q : H b with
    | none => rfl
    | some u =>
      have hba := only_a b u q
      subst hba
      rw [notK ⟨u, q⟩] at e
      cases e
  obtain ⟨mc, l1, l2⟩ := hlim
  have e0 : Env0 P w K mg (hidT s₁.heap H) callerA [] s₁ H :=
    { frames := rfl, mod := ⟨kin, dic hns, ⟨mb, dic hb, hbb⟩, ⟨mc, dic l1, l2⟩⟩, bs := fun b o e => of_hidT e, bsz := Nat.le_of_eq (hidT_size _ _), funs := trivial, frf := fun b z => (List.not_mem_nil z).elim, hok := hok, bare := .of_eq hgen }
  refine codeAny_mono ((F _ kin (dic hns)).go callerA rfl [] s₁ H _ [.ref a] _ _ _ hr e0 (hbind s₁ (.ref a)) (.cons (show RelV (.ref a) (.ref a) from rfl) .nil) hsp) ?_
  intro r s' h
  match r, h with
  | .error e, h => exact (hCX H e s' h).elim
  | .ok .next, h => exact h.elim
  | .ok .brk, h => exact h.elim
  | .ok .cont, h => exact h.elim
  | .ok (.ret u), ⟨v, H', os, bare, un, hok', rv, q⟩ =>
    cases (q : v = .bl true)
    cases (rv : u = .bool true)
    refine ⟨rfl, OldK.of_keep fun b o e => ?_, os, bare⟩
    by_cases q : H b = none
    · exact un.keep b o e q List.not_mem_nil List.not_mem_nil
    · rcases hO b with z | ⟨ob, xs, z⟩
      · exact absurd z q
      · have k1 := (hok b _ z).1
        rw [e] at k1
        cases k1
        exact (hok' b _ (un.frzs b _ _ z)).1

theorem walk {l : PySem.W.OpenLaw} {n k : Nat} {q : Program} {loose : List Str} {XP : (Str → Option Value) → Heap → Prop} {YP : World → Heap → Prop} {d : DefRec} {K : Params → PySem.W.Frag} {sp : PySem.W.Frag → Sp} {x : Str}
    (hn : l.most = some n) (hn2 : n ≤ sizeLine) (hdf : d.params.defaults = []) (hr : Room k callerA) (hY : ∀ (w : World) (h : Heap), YP w h → (K w.params).In h)
    (F : ∀ (w : World) (mg : Str → Option Value) (fa : Addr) (h : Heap), (K w.params).In h → h.Ns mainGlobals mg → mg d.name = some (.ref fa) →
      ∃ fd : FuncData, (∀ (s : Shared) (u : Value), BindsTo s fd ⟨[u], []⟩ [(x, u)]) ∧ ∀ base : Heap, (K w.params).In base → base.Ns mainGlobals mg → Ok l.prog w (K w.params) mg base CX0 k fa fd [x] (sp (K w.params)))
    (hsp : ∀ (K : PySem.W.Frag) (H : Hp) (a : Addr) (ns : List Int), ns.length ≤ n → (∀ z ∈ ns, Builtin.Int.intBits z ≤ 1048576) → SqL K H a (ns.map V.int) → sp K [.ref a] H (fun v _ => v = .bl true) fun _ _ _ => False) :
    PySem.W.WalkO q loose XP YP l.row.toRowW d [] (fun f vs => PySem.call f vs) := by
  refine Att.attach_callB hn hdf ?_
  intro w s₀ s₁ mg mb fa o pm cd doc a vs ns G Y ho hd hcd hmg hobj hints hlen hbits hg
  have KX := hY w _ Y
  obtain ⟨fd, hb, hF⟩ := F w mg fa _ KX G.T.g hmg
  have rv := vals_ints hints
  have zl : ns.length ≤ sizeLine := Nat.le_trans hlen hn2
  have wish := fun (H : Hp) (S : SqL (K w.params) H a (ns.map V.int)) => hsp (K w.params) H a ns hlen hbits S
  by_cases hk : (K w.params).lookup a = none
  · refine enter (H := fun b => if b = a then some (.frz { cls := .type "list", data := .seq vs.toArray } (.lst (ns.map V.int))) else none) KX G.T.g G.T.b G.T.builtins G.T.nolimit hg hobj hr hF hb ?_ ?_ ?_ (fun _ => hk) (wish _ ?_) fun _ _ _ z => z
    · intro b
      by_cases e : b = a
      · exact .inr ⟨_, _, if_pos e⟩
      · exact .inl (if_neg e)
    · intro b o e
      by_cases z : b = a
      · subst z
        cases (if_pos rfl).symm.trans e
        exact ⟨hobj, by rw [List.length_map]; exact zl, vs, _, rv, hobj⟩
      · cases (if_neg z).symm.trans e
    · intro b o e
      by_cases z : b = a
      · exact z
      · cases (if_neg z).symm.trans e
    · exact .inl (.inr ⟨_, if_pos rfl⟩)
  · obtain ⟨o, ek⟩ := Option.ne_none_iff_exists'.mp hk
    have eo := (KX a o ek).symm.trans hobj
    cases eo
    refine enter (H := fun _ => none) KX G.T.g G.T.b G.T.builtins G.T.nolimit hg hobj hr hF hb (fun _ => .inl rfl) (fun b o e => nomatch e) (fun b o e => nomatch e) (fun ⟨o, e⟩ => nomatch e) (wish _ ?_) fun _ _ _ z => z
    refine .inr ⟨_, vs.toArray, _, ek, rfl, rfl, rfl, ?_, by simpa using rv⟩
    rw [List.size_toArray, hints.length]
    exact zl
end
end G


set_option Elab.async false
set_option linter.all false
set_option maxRecDepth 100000
set_option maxHeartbeats 4000000
/-! ## repr of containers; int ** int of great ints -/
namespace G
open PySem PySem.Spec PyProof.Rows L2
def keyD : Key → PyData
  | .inl i => .int i
  | .inr x => .str x
mutual
/-- data at a value: as it is read off the abstract heap; lists and no dict (true), or dicts and no list (false) -/
inductive Dr (K : PySem.W.Frag) (H : Hp) : Bool → V → PyData → Prop
  | non {m : Bool} : Dr K H m .non .none
  | bl {m : Bool} (b : Bool) : Dr K H m (.bl b) (.bool b)
  | int {m : Bool} (i : Int) : Dr K H m (.int i) (.int i)
  | str {m : Bool} (x : Str) : Dr K H m (.str x) (.str x)
  | lst {a : Addr} {xs : List V} {ds : List PyData} : SqL K H a xs → DrA K H true xs ds → Dr K H true (.ref a) (.list ds)
  | tup {m : Bool} {a : Addr} {xs : List V} {ds : List PyData} : SqT K H a xs → DrA K H m xs ds → Dr K H m (.ref a) (.tuple ds)
  | dic {a : Addr} {kvs : List (Key × V)} {ds : List PyData} : H a = some (.dK kvs) → DrA K H false (kvs.map (·.2)) ds → Dr K H false (.ref a) (.dict ((kvs.map fun p => keyD p.1).zip ds))
inductive DrA (K : PySem.W.Frag) (H : Hp) : Bool → List V → List PyData → Prop
  | nil {m : Bool} : DrA K H m [] []
  | cons {m : Bool} {v : V} {vs : List V} {d : PyData} {ds : List PyData} : Dr K H m v d → DrA K H m vs ds → DrA K H m (v :: vs) (d :: ds)
end
theorem DrA.len {K : PySem.W.Frag} {H : Hp} {m : Bool} : ∀ {vs : List V} {ds : List PyData}, DrA K H m vs ds → vs.length = ds.length
  | _, _, .nil => rfl
  | _, _, .cons _ t => congrArg Nat.succ (DrA.len t)
mutual
theorem Dr.noDict {K : PySem.W.Frag} {H : Hp} : ∀ (d : PyData) (v : V), Dr K H true v d → d.hasDict = false
  | .none, _, _ => by simp only [PyData.hasDict]
  | .bool _, _, _ => by simp only [PyData.hasDict]
  | .int _, _, _ => by simp only [PyData.hasDict]
  | .str _, _, _ => by simp only [PyData.hasDict]
  | .list ds, _, h => by
    cases h with
    | lst _ ha => simp only [PyData.hasDict]; exact DrA.noDict ds _ ha
  | .tuple ds, _, h => by
    cases h with
    | tup _ ha => simp only [PyData.hasDict]; exact DrA.noDict ds _ ha
  | .dict _, _, h => by cases h
theorem DrA.noDict {K : PySem.W.Frag} {H : Hp} : ∀ (ds : List PyData) (vs : List V), DrA K H true vs ds → PyData.hasDictAll ds = false
  | [], _, _ => by simp only [PyData.hasDictAll]
  | d :: ds, _, h => by
    cases h with
    | cons a b => simp only [PyData.hasDictAll, Dr.noDict d _ a, DrA.noDict ds _ b, Bool.or_self]
end
theorem keys_read {P : Program} {w : World} {h : Heap} : ∀ {es : List DictEntry} {kvs : List (Key × V)} {vs : List (Key × Value)}, Pairs (mixKind P w) es vs → KV kvs vs →
    ∃ as, ReadsAll h (es.map (·.key)) (kvs.map fun p => keyD p.1) as ∧ as = []
  | _, _, _, .nil, .nil => ⟨_, .nil, rfl⟩
  | _, _, _, .cons hk hv hp, .cons r t => by
    obtain ⟨as, q, e⟩ := keys_read (P := P) (w := w) (h := h) hp t
    subst e
    have hk' : keyIs _ _ = true := hk
    rw [← r.1] at hk'
    rename_i e' _ _ _ p' _
    rcases keyIs_shape hk' with ⟨i, t, ek, ev⟩ | ⟨x, t, ek, ev⟩
    · refine ⟨[], ?_, rfl⟩
      have z := ReadsAll.cons (h := h) (Reads.int i t) q
      rw [← ev] at z
      have ke : keyD p'.1 = .int i := by rw [ek]; rfl
      rw [List.map_cons, List.map_cons, ke]
      exact z
    · refine ⟨[], ?_, rfl⟩
      have z := ReadsAll.cons (h := h) (Reads.str x t) q
      rw [← ev] at z
      have ke : keyD p'.1 = .str x := by rw [ek]; rfl
      rw [List.map_cons, List.map_cons, ke]
      exact z
theorem vals_of {P : Program} {w : World} : ∀ {es : List DictEntry} {kvs : List (Key × V)} {vs : List (Key × Value)}, Pairs (mixKind P w) es vs → KV kvs vs → Vals (kvs.map (·.2)) (es.map (·.val))
  | _, _, _, .nil, .nil => .nil
  | _, _, _, .cons hk hv hp, .cons r t => .cons (by show RelV _ (DictEntry.val _); rw [hv]; exact r.2) (vals_of hp t)
section
variable {X : Cx} {pins : List (Addr × Obj)} {σ : L2.St} {H : Hp} {s : Shared}
mutual
theorem Dr.reads (I : Inv X pins σ H s) {m : Bool} : ∀ (d : PyData) (v : V) (u : Value), Dr X.K H m v d → RelV v u → ∃ as, Reads s.heap u d as ∧ (m = false → sysModules ∉ as)
  | .none, _, _, h, r => by
    cases h
    cases r
    exact ⟨_, Reads.none, fun _ => List.not_mem_nil⟩
  | .bool b, _, _, h, r => by
    cases h
    cases r
    exact ⟨_, Reads.bool b, fun _ => List.not_mem_nil⟩
  | .int i, _, _, h, r => by
    cases h
    obtain ⟨t, rfl⟩ := r
    exact ⟨_, Reads.int i t, fun _ => List.not_mem_nil⟩
  | .str x, _, _, h, r => by
    cases h
    obtain ⟨t, rfl⟩ := r
    exact ⟨_, Reads.str x t, fun _ => List.not_mem_nil⟩
  | .list ds, _, _, h, r => by
    cases h with
    | @lst a xs _ hs ha =>
      cases r
      obtain ⟨its, rv, ⟨o, n, ho, hc, _, hd⟩, _⟩ := I.list hs
      obtain ⟨as, hr, hn⟩ := DrA.reads I ds _ its ha rv
      exact ⟨_, Reads.list ho hc hd hr, fun z => by cases z⟩
  | .tuple ds, _, _, h, r => by
    cases h with
    | tup hs ha =>
      cases r
      obtain ⟨its, rv, ⟨o, ho, hc, n, hd⟩, _⟩ := I.tuple hs
      obtain ⟨as, hr, hn⟩ := DrA.reads I ds _ its ha rv
      exact ⟨_, Reads.tuple ho hc hd hr, hn⟩
  | .dict kds, _, _, h, r => by
    cases h with
    | @dic a kvs ds hs ha =>
      cases r
      obtain ⟨_, hsys, vs, rk, o, es, ep, ho, hx, hd, _, hp, _⟩ := (show ObjOk X.prog X.w H s.heap a (.dK kvs) from I.hok a _ hs)
      obtain ⟨_, hk, e⟩ := keys_read (h := s.heap) hp rk
      subst e
      have hl : (kvs.map fun p => keyD p.1).length = ds.length := by rw [List.length_map, ← ha.len, List.length_map]
      have e1 : ((kvs.map fun p => keyD p.1).zip ds).map (·.1) = kvs.map fun p => keyD p.1 := List.map_fst_zip (Nat.le_of_eq hl)
      have e2 : ((kvs.map fun p => keyD p.1).zip ds).map (·.2) = ds := List.map_snd_zip (Nat.le_of_eq hl.symm)
      have ha' : DrA X.K H false (kvs.map (·.2)) (((kvs.map fun p => keyD p.1).zip ds).map (·.2)) := by rw [e2]; exact ha
      obtain ⟨bs, hr, hn⟩ := DrA.reads2 I ((kvs.map fun p => keyD p.1).zip ds) _ _ ha' (vals_of hp rk)
      refine ⟨_, Reads.dict ho hx.1 hd (by rw [e1]; exact hk) hr, fun _ z => ?_⟩
      rcases List.mem_append.mp z with z | z
      · rcases List.mem_cons.mp z with e | e
        · rw [← e] at hsys
          simp at hsys
        · exact absurd e List.not_mem_nil
      · exact hn rfl z
theorem DrA.reads (I : Inv X pins σ H s) {m : Bool} : ∀ (ds : List PyData) (vs : List V) (us : List Value), DrA X.K H m vs ds → Vals vs us → ∃ as, ReadsAll s.heap us ds as ∧ (m = false → sysModules ∉ as)
  | [], _, _, h, r => by
    cases h
    cases r
    exact ⟨_, ReadsAll.nil, fun _ => List.not_mem_nil⟩
  | d :: ds, _, _, h, r => by
    cases h with
    | cons h1 h2 =>
      cases r with
      | cons r1 r2 =>
        obtain ⟨as, q1, n1⟩ := Dr.reads I d _ _ h1 r1
        obtain ⟨bs, q2, n2⟩ := DrA.reads I ds _ _ h2 r2
        exact ⟨_, ReadsAll.cons q1 q2, fun e z => (List.mem_append.mp z).elim (n1 e) (n2 e)⟩
theorem DrA.reads2 (I : Inv X pins σ H s) {m : Bool} : ∀ (kds : List (PyData × PyData)) (vs : List V) (us : List Value), DrA X.K H m vs (kds.map (·.2)) → Vals vs us → ∃ as, ReadsAll s.heap us (kds.map (·.2)) as ∧ (m = false → sysModules ∉ as)
  | [], _, _, h, r => by
    cases h
    cases r
    exact ⟨_, ReadsAll.nil, fun _ => List.not_mem_nil⟩
  | (k, d) :: ds, _, _, h, r => by
    cases h with
    | cons h1 h2 =>
      cases r with
      | cons r1 r2 =>
        obtain ⟨as, q1, n1⟩ := Dr.reads I d _ _ h1 r1
        obtain ⟨bs, q2, n2⟩ := DrA.reads2 I ds _ _ h2 r2
        exact ⟨_, ReadsAll.cons q1 q2, fun e z => (List.mem_append.mp z).elim (n1 e) (n2 e)⟩
end
end
/-- repr of a list that is not empty: what is read below it is none of the interpreter's own dict -/
theorem repr_top {prog : Program} {w : World} {A : Around} {E : Value → Shared → Prop} {s : Shared} {a : Addr} {o : Obj} {v : Value} {vs : List Value} {n : Nat} {ds : List PyData} {as : List Addr} {Q : Value → Shared → Prop} (ho : s.heap.get? a = some o) (hc : o.cls = .type "list") (hd : o.data = .seq (v :: vs).toArray n)
    (hr : ReadsAll s.heap (v :: vs) ds as) (hn : sysModules ∉ as) (hs : PyData.showableAll ds = true) (hg : A.guards = some []) (hu : A.units + ((PyData.list ds).depth + 1) < cLine) (hz : (PyData.list ds).shown.length ≤ sizeLine)
    (hQ : ∀ h' u tk, (∀ b o, s.heap.get? b = some o → h'.get? b = some o) → Q (.str (PyData.list ds).shown u) { s with heap := h', toks := tk }) : wpAny (model prog w) A (call (.builtin "repr") [.ref a]) Q E s := by
  have depth : (PyData.list ds).depth = PyData.depthAll ds + 1 := by simp only [PyData.depth]
  have text : (PyData.list ds).shown = listText (PyData.shownAll ds) := by simp only [PyData.shown]
  rw [text] at hz
  rw [depth] at hu
  obtain ⟨bs, most, items⟩ := ReprAllK.of_readsAll (prog := prog) (w := w) hr hs (fun _ => hn) (fun t ht => Nat.le_trans (listText_mem_le ht) hz)
  have apart : a ∉ bs := not_mem_of_deeper (.list ho hc hd (by simpa using hr)) (by rw [depth]; omega) most
  refine call_repr_slot (by omega) ⟨o, ho, hc⟩ F.slot_list_repr.toG ?_
  refine call_list_reprK ho hc hd apart (by simpa using items.length_eq) (fun i y e => items.item i y (by simpa using e)) hg (fun b _ => Clear.nil b) (by show A.units + 1 + _ < cLine; omega) (fun _ _ e => e) (fun h' u tk k => ⟨_, _, rfl, ?_⟩) hz
  rw [← text]
  exact hQ h' u tk k
def rRepr (K : PySem.W.Frag) : List V → Hp → VK → Prop := fun xs H Q => ∃ (a : Addr) (m : Bool) (y : V) (ys : List V) (ds : List PyData), xs = [.ref a] ∧ SqL K H a (y :: ys) ∧ DrA K H m (y :: ys) ds ∧ (PyData.list ds).showable = true ∧ (PyData.list ds).depth ≤ 20 ∧ (PyData.list ds).shown.length ≤ sizeLine ∧ Q (.str (PyData.list ds).shown) H
theorem call_repr {X : Cx} (hg : X.A.guards = some []) (hu : X.A.units + 64 < cLine) : CallR X (.builtin "repr") (rRepr X.K) := by
  intro pins s σ H xs us Q I r h
  obtain ⟨a, m, y, ys, ds, rfl, hL, hd, hs, hl, hz, q⟩ := h
  cases r with
  | cons rx rr =>
    cases rr
    cases rx
    have fin : ∀ (h' : Heap) (u : Tok) (tk : Nat), (∀ b o, s.heap.get? b = some o → h'.get? b = some o) → EP X pins σ Q (.str (PyData.list ds).shown u) { s with heap := h', toks := tk } := fun h' u tk k => ⟨.str (PyData.list ds).shown, H, I.kept (t' := tk) k, ⟨u, rfl⟩, q⟩
    obtain ⟨its, rv, ⟨o, n, ho, hc, _, hd'⟩, _⟩ := I.list hL
    obtain ⟨as, hr, hn⟩ := DrA.reads I ds _ its hd rv
    cases m with
    | true =>
      refine repr_of_reads' (.list ho hc hd' hr) hs (fun z => ?_) hg (by omega) (fun _ _ e => e) fin hz
      rw [show (PyData.list ds).hasDict = PyData.hasDictAll ds by simp only [PyData.hasDict], DrA.noDict ds _ hd] at z
      cases z
    | false =>
      cases rv with
      | cons r1 r2 => exact repr_top ho hc hd' hr (hn rfl) (by simpa only [PyData.showable] using hs) hg (by omega) hz fin
def rReprF : List V → Hp → VK → Prop := fun xs H Q => (xs = [.non] ∧ Q (.str "None") H) ∨ (∃ b, xs = [.bl b] ∧ Q (.str (if b then "True" else "False")) H) ∨ ∃ i, xs = [.int i] ∧ i.natAbs.log2 < 1920 ∧ Q (.str (toString i)) H
theorem call_reprF {X : Cx} : CallR X (.builtin "repr") rReprF := by
  intro pins s σ H xs us Q I r h
  rcases h with ⟨rfl, q⟩ | ⟨b, rfl, q⟩ | ⟨i, rfl, hz, q⟩
  · cases r with
    | cons rx rr => cases rr; cases rx; exact PySem.P.repr_of_none ⟨.str _, H, I.tok _, ⟨_, rfl⟩, q⟩
  · cases r with
    | cons rx rr => cases rr; cases rx; exact PySem.P.repr_of_bool ⟨.str _, H, I.tok _, ⟨_, rfl⟩, q⟩
  · cases r with
    | cons rx rr => cases rr; obtain ⟨t, rfl⟩ := rx; exact PySem.P.repr_of_int hz ⟨.str _, H, I.tok _, ⟨_, rfl⟩, q⟩
/-- a ** n, n a small written number, a of any size -/
theorem op_powN {X : Cx} : OpR X (binaryOp .Pow) (rI (fun i j => 0 ≤ j ∧ (Builtin.Int.intBits i : Int) * j ≤ 2 ^ 27) fun i j => .int (i ^ j.toNat)) := opI fun _ _ _ _ _ _ _ hc q => pow_int hc.1 hc.2 q
end G


set_option Elab.async false
set_option linter.all false
set_option maxRecDepth 100000
set_option maxHeartbeats 4000000
/-! ## an own error as a plain value: made by place or by name, its field read, isinstance of it -/
namespace PySem.W
open PySem PySem.Spec PySem.Calls PyProof.Rows
section
variable {prog : Program} {w : World} {A : Around} {E : Value → Shared → Prop} {s : Shared} {K : Frag} {x D : Addr} {ox : Obj} {od : Option Obj}
theorem g_findData {name : Str} {a g : Value} (hc : (clsIn K D).isSome = true) (ha : findIn K (.ref D) name = some (some a)) (hg : specialIn K a "__get__" = some (some g)) (ht : takesIn K a = some true) : findObj K D od name = some (.bind g a) := by
  cases e : clsIn K D with
  | none => rw [e] at hc; cases hc
  | some cd => unfold findObj; rw [e, Option.bind_some, ha, Option.bind_some]; simp [hg, ht]
/-- x.__class__, x an error that may have a dict of its own -/
theorem g_class {Q : Option Value → Shared → Prop} (F : L2.ExcC K D) (X : K.In s.heap) (I : InstAt s.heap x ox D od) (h : Q (some (.ref D)) { s with toks := s.toks + 1 }) : wpAny (model prog w) A (getAttr? (.ref x) "__class__") Q E s := by
  have cls : (clsIn K D).isSome = true := by obtain ⟨cd, hc, _⟩ := any_some F.hd; rw [hc]; rfl
  have found := g_findData (od := od) cls F.ha F.hn F.ht
  obtain ⟨hp, g, d, t, os⟩ := s
  have ty := I.type (M := model prog w)
  have look := looks_find (M := model prog w) X I found
  have base : Looks (model prog w) hp (isInstance (.ref x) (.type "BaseException")) true := ty.andThen (looks_subIn X F.hs)
  have other : (Value.builtin "BaseException.__getattribute__" == Value.builtin "object.__getattribute__") = false := by decide +kernel
  unfold getAttr? getAttrBy? getAttrBy
  refine wpAny_bind (wpAny_mkText (wpAny_bind (wpAny_attempt (wpAny_holding (wpAny_bind (ty.at (wpAny_bind ((looks_findIn (M := model prog w) X F.hg).at ?_))))))))
  show wpAny _ _ (if (true && Value.builtin "BaseException.__getattribute__" == Value.builtin "object.__getattribute__") = true then _ else _) _ _ _
  rw [other, Bool.and_false, if_neg Bool.false_ne_true]
  unfold getAttrByItsOwn hookBefore
  refine wpAny_bind (?_ : wpAny _ _ _ _ _ _); rw [if_pos (show onTheHeap (Value.ref D) = true from rfl)]
  refine (looks_findIn (M := model prog w) X F.hk).at (wpAny_bind (wpAny_attempt (wpAny_holding ?_)))
  unfold callGetattribute; rw [if_neg (show ¬ (false && onTheHeap (Value.builtin "BaseException.__getattribute__")) = true from Bool.false_ne_true)]
  unfold boundAndCalled; rw [PySem.F.excAttr_ValueError.ga.bind (.ref x)]
  refine wpAny_bind (wpAny_pure (?_ : wpAny _ _ (call (.builtin "BaseException.__getattribute__") [.ref x, .str "__class__" t]) _ _ _))
  refine wpAny_call (codeAny_call_builtin PySem.F.excAttr_ValueError.ga.plain PySem.F.entry_bexc_ga (@check_slot (model prog w) _ _ ⟨hp, g, d, t + 1, os⟩ "BaseException.__getattribute__" "BaseException" "__getattribute__" (.ref x) [.str "__class__" t] [] _ (by decide +kernel) (by decide +kernel) base (PySem.F.args_bexc_ga (.ref x) (.str "__class__" t)) ?_))
  unfold Builtin.«object.__getattribute__»
  refine wpAny_bind (wpAny_of_eq (a := ((Value.ref x : Value), [Value.str "__class__" t])) (by first | rfl | (simp only [slotArgs]; rfl)) (wpAny_bind (wpAny_pure (wpAny_bind (ty.at (wpAny_bind (look.at ?_)))))))
  refine (?_ : wpAny _ _ (holding [Value.builtin "object.__class__"] (call (.builtin "getset_descriptor.__get__") [.builtin "object.__class__", .ref x, .ref D]) >>= ret) _ _ _)
  refine wpAny_bind (wpAny_holding (wpAny_call (class_get (s := ⟨hp, g, d, t + 1, os⟩) (ox := ox) (od := od) X I F.hm (wpAny_pure (?_ : wpAny _ _ (handedOut (.ref D)) _ _ _)))))
  rw [handedOut_of (v := .ref D) rfl]
  first | exact wpAny_pure (wpAny_pure h) | exact wpAny_pure h | exact wpAny_pure (wpAny_bind (wpAny_pure (wpAny_pure h)))
theorem g_kit (F : L2.ExcC K D) : KitX K (.ref x) (.ref D) (fun h => InstAt h x ox D od) := by
  have there : ∃ o, K.lookup D = some o ∧ ∃ cd, o.data = .cls cd := by
    obtain ⟨cd, hc, _⟩ := any_some F.hd
    unfold clsIn at hc
    split at hc
    · rename_i o; exact ⟨_, o, _, rfl⟩
    · cases hc
  obtain ⟨⟨oc, odd, odata, osl⟩, hk, cd, hcd⟩ := there
  cases (hcd : odata = _)
  refine { ty := fun _ _ _ I => I.type, it := ?_, ne := ?_, ca := fun X I k => g_class F X I k }
  · intro M h X _ A' Q' E' s' k q
    unfold isType loadHead
    exact wpAny_bind (wpAny_loadPart (k _ _ (X _ _ hk)) (wpAny_pure q))
  · intro h tp dd its n sl X htp
    refine Bool.eq_false_iff.mpr fun q => ?_
    have e : D = tp := Value.ref.inj (beq_iff_eq.mp q)
    rw [← e, X _ _ hk] at htp
    cases htp
end
end PySem.W
namespace G
open PySem PySem.Spec PyProof.Rows L2
/-- at e: an error of the class at C whose field f is v -/
def Er (H : Hp) (e C : Addr) (f : Str) (v : V) : Prop := ∃ dx, H e = some (exo e C (some dx)) ∧ H dx = some (exd dx [(f, v)])
/-- what the written part tells of such a class -/
structure Cl (K : PySem.W.Frag) (C : Addr) (f : Str) : Prop where
  T : OexC K C
  F : ExcC K C
  no : PySem.W.findIn K (.ref C) f = some none
section
variable {X : Cx} {C D e : Addr} {f : Str} {v : V} {te : TE} {ex : Expr} {pos : Pos}
theorem er_inst {pins : List (Addr × Obj)} {σ : L2.St} {H : Hp} {s : Shared} (I : Inv X pins σ H s) (h : Er H e C f v) : ∃ (oe : Obj) (od : Obj) (u : Value), PySem.W.InstAt s.heap e oe C (some od) ∧ RelV v u ∧ PySem.W.lookIn f od = some (some u) := by
  obtain ⟨dx, h1, h2⟩ := h
  obtain ⟨t1, ho⟩ := exo_at I.hok h1
  obtain ⟨mA, hns, rel⟩ := exd_at I.hok h2
  obtain ⟨od, hod, hl⟩ := lookIn_ns hns
  have l : List.lookup f [(f, v)] = some v := by simp [List.lookup]
  obtain ⟨u, hu, ru⟩ := RelO.some_of (v := v) (o := mA f) (by rw [← l]; exact rel f)
  exact ⟨_, od, u, ⟨ho, rfl, by unfold PySem.W.notCls; rfl, hod⟩, ru, by rw [hl, hu]⟩
/-- isinstance(e, c) -/
def rIsEr (K : PySem.W.Frag) : List V → Hp → VK → Prop := fun xs H Q => ∃ (e C : Addr) (f : Str) (v c : V) (u : Value) (b : Bool), xs = [.ref e, c] ∧ Er H e C f v ∧ ExcC K C ∧ ClsV c u ∧ PySem.W.kitOne K (.ref C) u = some b ∧ Q (.bl b) H
theorem call_isEr : CallR X (.builtin "isinstance") (rIsEr X.K) := by
  intro pins s σ H xs us Q I r h
  obtain ⟨e, C, f, v, c, u, b, rfl, he, F, k, hb, q⟩ := h
  cases r with
  | cons rx rr =>
    cases rr with
    | cons rt rr =>
      cases rr
      cases rx
      cases k.eq rt
      obtain ⟨oe, od, _, J, _, _⟩ := er_inst I he
      exact PySem.W.kia_one (PySem.W.g_kit F) I.kIn J hb (fun z => nomatch z) fun tk => ⟨.bl b, H, I.tok tk, rfl, q⟩
/-- e.f -/
def tErF (K : PySem.W.Frag) (f : Str) (te : TE) : TE := fun σ H Q => te σ H fun x H1 => ∃ (e C : Addr) (v : V), x = .ref e ∧ Er H1 e C f v ∧ Cl K C f ∧ Q v H1
theorem pe_erF (he : PE X ex te) (hb : attributeBase ex f X.env (eval ex X.env) = eval ex X.env := by rfl) : PE X (.Attribute ex f pos) (tErF X.K f te) := by
  refine ⟨fun pins s σ H Q I h => attr_of hb (thn (he.run pins s σ H _ I h) fun u s1 hh => ?_)⟩
  obtain ⟨x, H1, I1, rx, e, C, v, rfl, hE, L, q⟩ := hh
  cases rx
  obtain ⟨oe, od, u, J, ru, lk⟩ := er_inst I1 hE
  exact HandSPX.exc_get I1.kIn J L.F.hg L.F.hk L.F.hs (PySem.W.findObj_own L.F.hd L.no rfl lk) (handed_of ru) ⟨v, H1, I1.tok _, ru, q⟩
end
end G


set_option Elab.async false
set_option linter.all false
set_option maxRecDepth 100000
set_option maxHeartbeats 4000000
/-! ## an own error made by a call with any arguments: its own __init__ is called with the same ones -/
namespace PySem.HandSPX
open PySem PySem.Spec PySem.Calls PyProof.Rows PySem.W
section
variable {prog : Program} {w : World} {A : Around} {E : Value → Shared → Prop} {R : Result → Shared → Prop} {h : Heap} {g : Array GenState} {d : Drawn} {t : Nat} {os : OsState}
variable {nm q : Str} {C N fI : Addr} {bs bm : List Value} {hdct : Bool} {sn : List Str} {sub : List Value} {ab : Bool} {col : Option Bool} {dd : Option Addr} {k0 k1 k2 k3 k5 : Option Value} {rest : List Value} {kw : List (Str × Value)}
/-- the class, made by ValueError's __new__ -/
abbrev veC (nm q : Str) (C N : Addr) (bs bm : List Value) (hdct : Bool) (sn : List Str) (sub : List Value) (ab : Bool) (col : Option Bool) (dd : Option Addr) (k0 k1 k2 k3 k5 : Option Value) : Obj := excClassObj nm q C N bs bm hdct sn sub ab col dd k0 k1 k2 k3 k5 "ValueError.__new__"
theorem g_has (hm : refsVE bm = true) (B : String) : (Value.ref C :: bm).contains (.type B) = veTail.contains (.type B) := by
  rw [List.contains_cons, refsVE_contains B bm hm]
  rfl
theorem g_check_new {M : Model} {Q : Unit → Shared → Prop} (hm : refsVE bm = true) (hC : h.get? C = some (veC nm q C N bs bm hdct sn sub ab col dd k0 k1 k2 k3 k5)) (hq : Q () ⟨h, g, d, t, os⟩) :
    wpAny M A (checkBuiltinCall "ValueError.__new__" ⟨.ref C :: rest, kw⟩) Q E ⟨h, g, d, t, os⟩ := by
  have F := PySem.F.excBase_ValueError
  have mine : (Value.ref C :: bm).contains (.type "ValueError") = true := (g_has hm _).trans (by decide +kernel)
  have star := F.noStar
  simp only [checkBuiltinCall, F.newKind, F.newSplit, F.newRow]
  repeat (first
    | (refine wpAny_loadPart_at hC ?_)
    | (refine wpAny_isSubtype_exc hC ?_; rw [mine])
    | (refine wpAny_staticBase_exc hC ?_)
    | (refine wpAny_madeBy_exc hC ?_)
    | (simp only [bne_self_eq_false, Bool.false_eq_true, if_false])
    | wp_step)
  all_goals first | exact hq | trace_state
theorem g_new (hm : refsVE bm = true) (hC : h.get? C = some (veC nm q C N bs bm hdct sn sub ab col dd k0 k1 k2 k3 k5)) (hz : rest.length ≤ sizeLine)
    (hq : R (.ok (.ret (.ref (h.objs.size + 1)))) ⟨(h.push (W.kdv_tup rest)).push (excO C h.objs.size), g, d, t, os⟩) : codeAny (model prog w) A (.builtin "ValueError.__new__" ⟨.ref C :: rest, kw⟩) R ⟨h, g, d, t, os⟩ := by
  have F := PySem.F.excBase_ValueError
  have ends := F.ends
  have mine : (Value.ref C :: bm).contains (.type "ValueError") = true := (g_has hm _).trans (by decide +kernel)
  have noA : (Value.ref C :: bm).contains (.type "AttributeError") = false := (g_has hm _).trans (by decide +kernel)
  have noN : (Value.ref C :: bm).contains (.type "NameError") = false := (g_has hm _).trans (by decide +kernel)
  refine codeAny_builtinAt F.entry ?_
  unfold Builtin.«BaseException.__new__»
  refine wpAt_bind (?_ : wpAt _ _ _ (stack >>= _) _ _ _)
  refine wpAt_bind (wpAt_stack fun p below => wpAt_of_wpAny ?_)
  wp_walk
  refine wpAt_of_wpAny ?_
  rw [F.owner]
  repeat (first
    | (with_reducible refine wpAny_madeHere_exc F.canon hC ?_)
    | (with_reducible refine wpAny_loadPart_at hC ?_)
    | (with_reducible refine wpAny_isSubtype_exc hC ?_; first | rw [mine] | rw [noA] | rw [noN])
    | wp_step)
  refine (?_ : R _ _)
  rw [Heap.size_push]
  exact hq
theorem g_type_call {Q : Fin → Shared → Prop} (hm : refsVE bm = true) (hC : h.get? C = some (veC nm q C N bs bm hdct sn sub ab col dd k0 k1 k2 k3 k5)) (hi : W.Looks (model prog w) h (typeLookup (.ref C) "__init__") (some (.ref fI)))
    (hb : ∀ self, W.Looks (model prog w) h (bindSpecial (.ref fI) self) (.ref fI, [self])) (hz : rest.length ≤ sizeLine)
    (hq : codeAny (model prog w) A (.call (.ref fI) ⟨.ref (h.objs.size + 1) :: rest, kw⟩) (fun r s' => match r with | .ok (.ret v) => v = .none ∧ Q (.done (.ret (.ref (h.objs.size + 1)))) s' | .ok _ => False | .error e => E e s')
      ⟨(h.push (W.kdv_tup rest)).push (excO C h.objs.size), g, d, t, os⟩) : wpAny (model prog w) A (Builtin.«type.__call__» ⟨.ref C :: rest, kw⟩) Q E ⟨h, g, d, t, os⟩ := by
  have F := PySem.F.excBase_ValueError
  repeat (first
    | (with_reducible refine wpAny_loadPart_at hC ?_)
    | (with_reducible refine wpAny_madeBy_exc hC ?_)
    | wp_step)
  refine codeAny_call_builtin_code (Code.quiet_builtin _ F.quiet) (g_check_new hm hC (g_new hm hC hz ?_))
  refine (?_ : wpAny _ _ _ _ _ _)
  have keep : ∀ b o, h.get? b = some o → ((h.push (W.kdv_tup rest)).push (excO C h.objs.size)).get? b = some o := fun b o e => Heap.get?_push_of_some _ (Heap.get?_push_of_some _ e)
  have hC₁ := keep _ _ hC
  have new : ((h.push (W.kdv_tup rest)).push (excO C h.objs.size)).get? (h.objs.size + 1) = some (excO C h.objs.size) := by heap_get
  have self : (Value.ref C :: bm).contains (.ref C) = true := by simp
  unfold isInstance
  repeat (first
    | (with_reducible refine wpAny_loadPart_at new ?_)
    | (with_reducible refine wpAny_isSubtype_exc hC₁ ?_; rw [self])
    | wp_step)
  refine (?_ : wpAny _ _ (typeLookup (.ref C) _) _ _ _)
  refine (hi.keeps keep).at (wpAny_holding (wpAny_bind (((hb (.ref (h.objs.size + 1))).keeps keep).at ?_)))
  refine wpAny_bind (wpAny_call (codeAny_mono hq ?_))
  intro r s' z
  rcases r with e | fl
  · exact z
  · cases fl with
    | ret v =>
      obtain ⟨ev, z'⟩ := z
      subst ev
      first | exact wpAny_pure (wpAny_pure z') | (wp_walk; exact z')
    | next => exact z.elim
    | brk => exact z.elim
    | cont => exact z.elim
theorem g_check_type {M : Model} {Q : Unit → Shared → Prop} (hC : h.get? C = some (veC nm q C N bs bm hdct sn sub ab col dd k0 k1 k2 k3 k5)) (hq : Q () ⟨h, g, d, t, os⟩) : wpAny M A (checkBuiltinCall "type.__call__" ⟨.ref C :: rest, kw⟩) Q E ⟨h, g, d, t, os⟩ := by
  have f3 := tc_sub
  have isT : (⟨h, g, d, t, os⟩ : Shared).TypeIs (.ref C) "type" := ⟨_, hC, rfl⟩
  simp only [checkBuiltinCall, tc_kind, tc_split]
  repeat (any_goals (first
    | assumption
    | (with_reducible refine wpAny_loadPart_at hC ?_)
    | (with_reducible refine wpAny_onRaise ?_)
    | (with_reducible refine wpAny_map ?_)
    | wp_step))
theorem g_call (hm : refsVE bm = true) (hC : h.get? C = some (veC nm q C N bs bm hdct sn sub ab col dd k0 k1 k2 k3 k5)) (hi : W.Looks (model prog w) h (typeLookup (.ref C) "__init__") (some (.ref fI)))
    (hb : ∀ self, W.Looks (model prog w) h (bindSpecial (.ref fI) self) (.ref fI, [self])) (hz : rest.length ≤ sizeLine)
    (hq : codeAny (model prog w) (A.under (.builtin "type.__call__" ⟨.ref C :: rest, kw⟩)) (.call (.ref fI) ⟨.ref (h.objs.size + 1) :: rest, kw⟩) (W.InitBack (h.objs.size + 1) R) ⟨(h.push (W.kdv_tup rest)).push (excO C h.objs.size), g, d, t, os⟩) :
    codeAny (model prog w) A (.call (.ref C) ⟨rest, kw⟩) R ⟨h, g, d, t, os⟩ := by
  have f1 := tc_lookup
  have f2 := tc_bind (.ref C)
  have isT : (⟨h, g, d, t, os⟩ : Shared).TypeIs (.ref C) "type" := ⟨_, hC, rfl⟩
  refine codeAny_of_tree (?_ : wpAny _ _ (callAny (.ref C) _) _ _ _)
  repeat (any_goals (first
    | assumption
    | (with_reducible refine wpAny_loadPart_at hC ?_)
    | wp_step))
  refine ⟨rfl, codeAny_call_builtin_at (Code.quiet_builtin _ (by decide +kernel)) entry_typeCall (g_check_type hC (g_type_call hm hC hi hb hz (codeAny_mono hq ?_)))⟩
  rintro (e | (v | _ | _ | _)) s' z <;> exact z
end
end PySem.HandSPX


set_option Elab.async false
set_option linter.all false
set_option maxRecDepth 100000
set_option maxHeartbeats 4000000
/-! ## C(v) and C(f=v) as values -/
namespace G
open PySem PySem.Spec PyProof.Rows L2
theorem Er.mono {H H' : Hp} {e C : Addr} {f : Str} {v : V} (s : Same H H') (h : Er H e C f v) : Er H' e C f v := by
  obtain ⟨dx, a, b⟩ := h
  exact ⟨dx, s _ _ a, s _ _ b⟩
/-- self.f = v -/
def spIni (C : Addr) (f : Str) : Sp := fun vs H Q _ => ∃ (a : Addr) (v : V), vs = [.ref a, v] ∧ H a = some (exo a C none) ∧ ∀ dx, H dx = none → dx ≠ a → Q .non (upd (upd H dx (exd dx [(f, v)])) a (exo a C (some dx)))
/-- a class with such an __init__: its def at fI -/
structure Mk (P : Program) (w : World) (K : PySem.W.Frag) (mg : Str → Option Value) (base : Heap) (C : Addr) (f : Str) : Prop where
  L : Cl K C f
  ex : ∃ (fI : Addr) (fd : FuncData) (ps : List Str), PySem.W.findIn K (.ref C) "__init__" = some (some (.ref fI)) ∧ PySem.W.typeIn K (.ref fI) = some (.type "function") ∧ FnOk P w K mg base CX0 1 fI fd ps (spIni C f) ∧
    ps.length = 2 ∧ (∀ (s : Shared) (u v : Value), BindsTo s fd ⟨[u, v], []⟩ (ps.zip [u, v])) ∧ ∀ (s : Shared) (u v : Value), BindsTo s fd ⟨[u], [(f, v)]⟩ (ps.zip [u, v])
section
variable {X : Cx} {C : Addr} {f x : Str} {e : Expr} {ta tk : TA} {p pos : Pos} {kws : List Keyword}
theorem made {pins : List (Addr × Obj)} {σ : L2.St} {H : Hp} {s : Shared} {Q : VK} {v : V} {u : Value} (M : Mk X.prog X.w X.K X.mg X.base C f) (hr : Room 2 X.A) (I : Inv X pins σ H s) (r : RelV v u) (us : List Value) (kw : List (Str × Value)) (hz : us.length ≤ 1)
    (how : (us = [u] ∧ kw = []) ∨ (us = [] ∧ kw = [(f, u)])) (hq : ∀ (e : Addr) (H' : Hp), H e = none → Same H H' → Er H' e C f v → Q (.ref e) H') : wpAny (model X.prog X.w) X.A (call (.ref C) us kw) (EP X pins σ Q) X.xe s := by
  obtain ⟨⟨T, F, no⟩, fI, fd, ps, iC, tI, G1, hl, b1, b2⟩ := M
  obtain ⟨nm, q, N, bs, bm, sn, sub, ab, col, dd, k0, k1, k2, k3, k5, hC, hbm⟩ := T.cls
  obtain ⟨hp, g, dr, tok, os⟩ := s
  have big : hp.objs.size ≤ hp.objs.size + 1 := Nat.le_succ _
  have free : H (hp.objs.size + 1) = none := I.hok.fresh big
  have keep : ∀ b o, hp.get? b = some o → ((hp.push (PySem.W.kdv_tup us)).push (PySem.HandSPX.excO C hp.objs.size)).get? b = some o := fun b o e => Heap.get?_push_of_some _ (Heap.get?_push_of_some _ e)
  have new : ((hp.push (PySem.W.kdv_tup us)).push (PySem.HandSPX.excO C hp.objs.size)).get? (hp.objs.size + 1) = some (PySem.HandSPX.excO C hp.objs.size) := by heap_get
  have J : Inv X pins σ (upd H (hp.objs.size + 1) (exo (hp.objs.size + 1) C none)) ⟨(hp.push (PySem.W.kdv_tup us)).push (PySem.HandSPX.excO C hp.objs.size), g, dr, tok, os⟩ := I.laid (t' := tok) keep big (exo_ok new)
  have bind : BindsTo ⟨(hp.push (PySem.W.kdv_tup us)).push (PySem.HandSPX.excO C hp.objs.size), g, dr, tok, os⟩ fd ⟨Value.ref (hp.objs.size + 1) :: us, kw⟩ (ps.zip [Value.ref (hp.objs.size + 1), u]) := by
    rcases how with ⟨rfl, rfl⟩ | ⟨rfl, rfl⟩
    · exact b1 _ _ _
    · exact b2 _ _ _
  have wish : spIni C f [.ref (hp.objs.size + 1), v] (upd H (hp.objs.size + 1) (exo (hp.objs.size + 1) C none)) (fun z H' => z = .non ∧ Q (.ref (hp.objs.size + 1)) H') E0 := by
    refine ⟨_, _, rfl, upd_same, fun dx h1 h2 => ⟨rfl, hq _ _ free (fun b o q => ?_) ⟨dx, upd_same, ?_⟩⟩⟩
    · have n1 : b ≠ hp.objs.size + 1 := ne_of_none q free
      rw [upd_ne n1, upd_ne (fun z => ?_), upd_ne n1]
      · exact q
      · rw [← z, upd_ne n1, q] at h1
        cases h1
    · rw [upd_ne h2, upd_same]
  refine wpAny_call (PySem.HandSPX.g_call hbm (I.kIn _ _ hC) (PySem.W.looks_findIn I.kIn iC) (fun self => PySem.W.bind_fn I.kIn self tI) (Nat.le_trans hz (by decide))
    (codeAny_mono (G1.run _ X.stack _ _ _ [Value.ref (hp.objs.size + 1), u] [.ref (hp.objs.size + 1), v] _ E0 (hr.make C us kw) (J.env0.make C us kw) bind (.cons (show RelV (.ref _) (.ref _) from rfl) (.cons r .nil)) wish) fun rr s' hh => ?_))
  rcases rr with er | fl
  · exact (hh : False).elim
  · cases fl with
    | ret u' =>
      obtain ⟨z, H', J', rz, ez, q'⟩ := J.after hh
      subst ez
      exact ⟨rz, ⟨.ref (hp.objs.size + 1), H', J', rfl, q'⟩⟩
    | next => exact hh.elim
    | brk => exact hh.elim
    | cont => exact hh.elim
/-- C(v), C(f=v) -/
def tMkE (C : Addr) (f : Str) (t : TA) : TE := fun σ H Q => t σ H fun vs H1 => ∃ v, vs = [v] ∧ ∀ (e : Addr) (H' : Hp), H1 e = none → Same H1 H' → Er H' e C f v → Q (.ref e) H'
theorem pe_mkE (M : Mk X.prog X.w X.K X.mg X.base C f) (hr : Room 2 X.A) (hg : Gl X x) (hm : X.mg x = some (.ref C)) (ha : PA X [e] ta) (hdb : (x == ("__debug__" : Str)) = false := by decide)
    (he : starEach [e] X.env = (false, eval e X.env) :: starEach [] X.env := by rfl) (hpl : (backTo pos (starEach [] X.env)).any (·.1) = false := by rfl) : PE X (.Call (.Name x p) [e] [] pos) (tMkE C f ta) := by
  refine ⟨fun pins s σ H Q I h => wpAny_Call_Name_kw (ld_glob I hg hm ?_ hdb)⟩
  refine PySem.W.callWith_K (h₀ := X.base) I.ok.mod.kin M.L.T.kC (thn (ha.run pos pins s σ H _ I h) fun us s1 hh => ?_) he hpl
  obtain ⟨vs, H1, I1, r1, v, rfl, q⟩ := hh
  cases r1 with
  | cons rv rn =>
    cases rn
    exact ⟨I1.kIn, made M hr I1 rv _ [] (Nat.le_refl _) (.inl ⟨rfl, rfl⟩) q⟩
theorem pe_mkEk (M : Mk X.prog X.w X.K X.mg X.base C f) (hr : Room 2 X.A) (hg : Gl X x) (hm : X.mg x = some (.ref C)) (hkw : PK X kws tk) (hks : (backToKw pos (keywordEach kws X.env)).filterMap (·.1) = [f] := by rfl) (hall : (backToKw pos (keywordEach kws X.env)).all (·.1.isSome) = true := by rfl)
    (hdb : (x == ("__debug__" : Str)) = false := by decide) (hpl : ((backTo pos (starEach [] X.env)).any (·.1) || (backToKw pos (keywordEach kws X.env)).any (·.1.isNone)) = false := by rfl) : PE X (.Call (.Name x p) [] kws pos) (tMkE C f tk) := by
  refine ⟨fun pins s σ H Q I h => wpAny_Call_Name_kw (ld_glob I hg hm ?_ hdb)⟩
  refine PySem.W.callWith_KW0 (h₀ := X.base) I.ok.mod.kin M.L.T.kC hall (thn (hkw.run pos pins s σ H _ I h) fun ws s2 hh => ?_) hpl
  obtain ⟨vs, H1, I1, r1, v, rfl, q⟩ := hh
  cases r1 with
  | cons rv rn =>
    cases rn
    refine ⟨I1.kIn, ?_⟩
    rw [hks]
    exact made M hr I1 rv [] _ (Nat.zero_le _) (.inr ⟨rfl, rfl⟩) q
end
end G


set_option Elab.async false
set_option linter.all false
set_option maxRecDepth 100000
set_option maxHeartbeats 4000000
/-! ## where the law draws from -/
namespace S
open PySem L2
def top (i : Nat) : Stmt := PySem.Challenge.pw_roadsizes_k91_errors_by_hand.main.body.getD i (.Pass ⟨0, 0, 0, 0⟩)
abbrev sSource : Stmt := top 28
abbrev sDraw : Stmt := top 29
abbrev sPick : Stmt := top 30
/-- the built-ins that these defs call -/
structure Bi (mg : Str → Option Value) : Prop where
  int : mg "int" = none
  len : mg "len" = none
/-- a source: two numbers that are not negative, the second one small -/
def Two (r m : Int) : List V := [.int r, .int m]
structure Fine (r m : Int) : Prop where
  r0 : 0 ≤ r
  m0 : 0 ≤ m
  m1 : m < 2147483648
def At (H : Hp) (p : Addr) : Prop := ∃ r m, H p = some (.lst (Two r m)) ∧ Fine r m
theorem bits_lt (x : Int) : x.natAbs < 2 ^ (Builtin.Int.intBits x) := by
  unfold Builtin.Int.intBits
  split
  · rename_i h
    have e : x = 0 := by simpa using h
    subst e
    decide
  · exact Nat.lt_log2_self
theorem bits_le {x : Int} {n : Nat} (h : x.natAbs < 2 ^ n) : Builtin.Int.intBits x ≤ n := by
  unfold Builtin.Int.intBits
  split
  · exact Nat.zero_le _
  · rename_i q
    have ne : x.natAbs ≠ 0 := fun e => q (by simp [Int.natAbs_eq_zero.mp e])
    exact (Nat.log2_lt ne).mpr h
theorem cube_ok {m z : Int} (h0 : 0 ≤ m) (h1 : m < 2147483648) (hz : Builtin.Int.intBits z ≤ 1048576) : (Builtin.Int.intBits (m * 48611 + z) : Int) * 3 ≤ 2 ^ 27 := by
  have b1 := bits_lt z
  have b2 : z.natAbs < 2 ^ 1048576 := Nat.lt_of_lt_of_le b1 (Nat.pow_le_pow_right (by decide) hz)
  have b3 : (m * 48611 + z).natAbs < 2 ^ 1048577 := by
    have e : (2 : Nat) ^ 1048577 = 2 ^ 1048576 * 2 := Nat.pow_succ ..
    have e2 : (2 : Nat) ^ 100 ≤ 2 ^ 1048576 := Nat.pow_le_pow_right (by decide) (by decide)
    have e3 : (2 : Nat) ^ 100 = 1267650600228229401496703205376 := by decide
    generalize (2 : Nat) ^ 1048576 = t at *
    rw [e]
    omega
  have b4 := bits_le b3
  have e27 : (2 : Int) ^ 27 = 134217728 := by decide
  rw [e27]
  omega
/-! ### promises -/
def spSource (K : PySem.W.Frag) : Sp := fun vs H Q _ => ∃ (a : Addr) (ns : List Int) (i : Nat), vs = [.ref a, .int i] ∧ i ≤ 1000 ∧ SqL K H a (ns.map V.int) ∧ ns.length ≤ 63 ∧ (∀ z ∈ ns, Builtin.Int.intBits z ≤ 1048576) ∧
  ∀ p r m, H p = none → Fine r m → Q (.ref p) (upd H p (.lst (Two r m)))
def spDraw : Sp := fun vs H Q _ => ∃ (p : Addr) (r m span : Int), vs = [.ref p, .int span] ∧ H p = some (.lst (Two r m)) ∧ Fine r m ∧ 1 ≤ span ∧ span.natAbs.log2 < 9000 ∧
  ∀ k r' m', Fine r' m' → 0 ≤ k → k < span → Q (.int k) (upd H p (.lst (Two r' m')))
def spPick (K : PySem.W.Frag) : Sp := fun vs H Q _ => ∃ (p l : Addr) (r m : Int) (xs : List V), vs = [.ref p, .ref l] ∧ H p = some (.lst (Two r m)) ∧ Fine r m ∧ l ≠ p ∧ SqL K H l xs ∧ 1 ≤ xs.length ∧ xs.length ≤ 1000 ∧
  ∀ (j : Nat) (x : V) (r' m' : Int), Fine r' m' → xs[j]? = some x → Q x (upd H p (.lst (Two r' m')))
section
variable {P : Program} {w : World} {K : PySem.W.Frag} {mg : Str → Option Value} {base : Heap}
theorem sc1 : FnScope ["script", "start", "mixed", "cell", "rest"] ["script", "start"] (defScope sSource) := ⟨rfl, rfl, rfl, by decide +kernel, rfl, by decide +kernel, by decide +kernel⟩
theorem ints_at {ns : List Int} {i : Nat} {x : V} (h : (ns.map V.int)[i]? = some x) : ∃ z, x = .int z ∧ z ∈ ns ∧ ns[i]? = some z := by
  rw [List.getElem?_map] at h
  cases e : ns[i]? with
  | none => rw [e] at h; cases h
  | some z => rw [e] at h; exact ⟨z, (Option.some.inj h).symm, List.mem_of_getElem? e, rfl⟩
theorem ok_source {f : Addr} {fd : FuncData} (F : Fun K "_law_source" "_law_source" sSource f fd) (B : Bi mg) : FnOk P w K mg base CX0 1 f fd ["script", "start"] (spSource K) := by
  refine F.ok sc1 (fun vs H Q E h => ?_) (fun cdv A outer s H vs Q E hr h => ?_)
  · obtain ⟨a, ns, i, rfl, _⟩ := h
    rfl
  · obtain ⟨a, ns, st, rfl, hst, hS, hl, hb, k⟩ := h
    refine ⟨_, pss_cons (ps_set (i := 2) sc1.nd rfl (Or.inl rfl) (pe_op op_add pe_int (pv 1)))
      (pss_cons (ps_for PassesOwn.never rfl (pi_list (pv 0)) (pg_name (i := 3) sc1.nd rfl (Or.inl rfl))
        (pss_one (ps_set (i := 2) sc1.nd rfl (Or.inl rfl) (pe_op op_add (pe_op op_mod (pe_callTy call_int1 (by rfl) B.int (by decide +kernel)
          (pa_cons (pe_op G.op_powN (pe_callTy call_int1 (by rfl) B.int (by decide +kernel) (pa_cons (pe_op op_add (pe_op op_mul (pv 2) pe_int) (pe_callTy call_int1 (by rfl) B.int (by decide +kernel) (pa_cons (pv 3) pa_nil))) pa_nil)) pe_int) pa_nil)) pe_int) pe_int))))
      (pss_cons (ps_set (i := 4) sc1.nd rfl (Or.inl rfl) pe_int)
      (pss_cons (ps_if (PW.pt (pw_and (pt_cmpR op_lt (pv 1) (pe_callB call_len_seq (by rfl) B.len PySem.boot_len (pa_cons (pv 0) pa_nil)) (nomark _))
          (pw_and1 (pt_cmpR op_ge (pe_ix ix_list (pv 0) (pv 1) (fun _ _ => rfl)) (pe_op op_pow pe_int pe_int) (nomark _)))))
        (pss_one (ps_set (i := 4) sc1.nd rfl (Or.inl rfl) (pe_op op_sub (pe_ix ix_list (pv 0) (pv 1) (fun _ _ => rfl)) (pe_op op_pow pe_int pe_int)))) pss_nil)
      (pss_one (ps_ret (pe_lst (pa_cons (pv 4) (pa_cons (pv 2) pa_nil)))))))), ?_⟩
    -- mixed = 97 + start
    refine ⟨_, rfl, _, _, rfl, rfl, ?_⟩
    -- for cell in script
    refine ⟨_, rfl, a, rfl, ⟨_, hS⟩, for_list (K := K) (a := a) (xs := ns.map V.int) (fun i σ H2 => ∃ (m : Int) (c : Option V), σ = [some (.ref a), some (.int st), some (.int m), c, none] ∧ H2 = H ∧ (0 ≤ m ∧ m < 2147483648))
      ⟨_, none, rfl, rfl, by omega, by omega⟩ (fun i σ H2 _ ⟨_, _, _, e, _⟩ => by rw [e]; exact hS) ?_ ?_⟩
    · rintro i y σ H2 hi ⟨m, c, rfl, rfl, h0, h1⟩
      obtain ⟨z, rfl, hz, _⟩ := ints_at hi
      refine ⟨_, rfl, _, _, rfl, rfl, .inl ⟨by omega, by omega⟩, _, rfl, .inl ⟨_, rfl, _, _, rfl, rfl, .inl ⟨_, rfl, _, _, rfl, rfl, ⟨by decide, cube_ok h0 h1 (hb z hz)⟩, .inl ⟨_, rfl, _, _, rfl, rfl, (by show (0 : Int) < 2147483587; decide), _, _, rfl, rfl, ?_⟩⟩⟩⟩
      refine ⟨_, _, rfl, rfl, ?_⟩
      have e1 := Int.emod_nonneg ((m * 48611 + z) ^ (3 : Int).toNat) (b := 2147483587) (by decide)
      have e2 := Int.emod_lt_of_pos ((m * 48611 + z) ^ (3 : Int).toNat) (b := 2147483587) (by decide)
      exact ⟨Int.add_nonneg e1 (by decide), Int.lt_of_lt_of_le (Int.add_lt_add_right e2 1) (by decide)⟩
    · rintro σ H2 ⟨m, c, rfl, rfl, h0, h1⟩
      -- rest = 0; if start < len(script) and script[start] >= 10 ** 18
      refine ⟨_, rfl, _, rfl, a, _, rfl, .inl hS, _, _, rfl, rfl, _, rfl, ?_⟩
      have fin : ∀ r : Int, 0 ≤ r → tRet (tLst (tCons (tVar 4) (tCons (tVar 2) tNil))) { nx := fun _ H' => Q .non H', rt := Q } [some (.ref a), some (.int st), some (.int m), c, some (.int r)] H2 := fun r hr =>
        ⟨_, rfl, _, rfl, (by show 2 ≤ sizeLine; decide), fun p hp => k p r m hp ⟨hr, h0, h1⟩⟩
      by_cases hlt : st < ns.length
      · have e : decide ((st : Int) < ((ns.map V.int).length : Int)) = true := by
          rw [List.length_map]
          exact decide_eq_true (by omega)
        rw [e]
        refine iteT ?_
        have hit : (ns.map V.int)[st]? = some (V.int ns[st]) := by rw [List.getElem?_map, List.getElem?_eq_getElem hlt]; rfl
        refine ⟨_, rfl, _, rfl, a, _, _, _, rfl, rfl, hS, atI_nat hit, _, _, rfl, rfl, ⟨by decide, by decide, by decide⟩, _, _, rfl, rfl, _, rfl, ?_⟩
        refine ite2 (fun hge => ?_) (fun _ => fin 0 (by decide))
        refine ⟨_, rfl, _, rfl, a, _, _, _, rfl, rfl, hS, atI_nat hit, _, _, rfl, rfl, ⟨by decide, by decide, by decide⟩, _, _, rfl, rfl, ?_⟩
        exact fin _ (Int.sub_nonneg_of_le (of_decide_eq_true hge))
      · have e : decide ((st : Int) < ((ns.map V.int).length : Int)) = false := by
          rw [List.length_map]
          exact decide_eq_false (by omega)
        rw [e]
        exact iteF (iteF (fin 0 (by decide)))
theorem fits {a : Int} {n : Nat} (h : 0 ≤ a) (h1 : a < 2 ^ n) : a.natAbs < 2 ^ n := by
  have e : ((2 : Int) ^ n) = ((2 ^ n : Nat) : Int) := by rw [Int.natCast_pow]; rfl
  rw [e] at h1
  omega
theorem sc2 : FnScope ["source", "span", "found"] ["source", "span"] (defScope sDraw) := ⟨rfl, rfl, rfl, by decide +kernel, rfl, by decide +kernel, by decide +kernel⟩
theorem ok_draw {f : Addr} {fd : FuncData} (F : Fun K "_law_draw" "_law_draw" sDraw f fd) (B : Bi mg) : FnOk P w K mg base CX0 1 f fd ["source", "span"] spDraw := by
  refine F.ok sc2 (fun vs H Q E h => ?_) (fun cdv A outer s H vs Q E hr h => ?_)
  · obtain ⟨p, r, m, span, rfl, _⟩ := h
    rfl
  · obtain ⟨p, r, m, span, rfl, hp, ⟨r0, m0, m1⟩, s1, s2, k⟩ := h
    refine ⟨_, pss_cons (ps_if (pt_cmpR op_ge (pe_ix ix_list (pv 0) pe_int (fun _ _ => rfl)) (pv 1) (nomark _))
        (pss_cons (ps_set (i := 2) sc2.nd rfl (Or.inl rfl) (pe_op op_mod (pe_callTy call_int1 (by rfl) B.int (by decide +kernel) (pa_cons (pe_ix ix_list (pv 0) pe_int (fun _ _ => rfl)) pa_nil)) (pv 1)))
        (pss_cons (ps_asg (pe_op op_fdivW (pe_ix ix_list (pv 0) pe_int (fun _ _ => rfl)) (pv 1)) (pg_sub (pv 0) pe_int set_list))
        (pss_one (ps_ret (pv 2))))) pss_nil)
      (pss_cons (ps_asg (pe_op op_mod (pe_callTy call_int1 (by rfl) B.int (by decide +kernel) (pa_cons (pe_op op_add (pe_op op_mul (pe_ix ix_list (pv 0) pe_int (fun _ _ => rfl)) pe_int) pe_int) pa_nil)) pe_int) (pg_sub (pv 0) pe_int set_list))
      (pss_one (ps_ret (pe_op op_mod (pe_callTy call_int1 (by rfl) B.int (by decide +kernel) (pa_cons (pe_op op_fdiv (pe_op op_mod (pe_callTy call_int1 (by rfl) B.int (by decide +kernel)
        (pa_cons (pe_op op_pow (pe_callTy call_int1 (by rfl) B.int (by decide +kernel) (pa_cons (pe_ix ix_list (pv 0) pe_int (fun _ _ => rfl)) pa_nil)) pe_int) pa_nil)) pe_int) pe_int) pa_nil)) (pv 1))))), ?_⟩
    have g0 : atI (Two r m) 0 = some (.int r) := rfl
    refine ⟨_, rfl, p, _, _, _, rfl, rfl, SqL.of hp, g0, _, rfl, _, _, rfl, rfl, _, rfl, ?_⟩
    refine ite2 (fun hge => ?_) (fun hlt => ?_)
    · have hge' : span ≤ r := of_decide_eq_true hge
      have q0 : 0 ≤ r / span := Int.ediv_nonneg r0 (by omega)
      refine ⟨_, rfl, p, _, _, _, rfl, rfl, SqL.of hp, g0, .inl ⟨_, rfl, _, rfl, _, _, rfl, rfl, (by show 0 < span; omega), ?_⟩⟩
      refine ⟨_, rfl, p, _, _, _, rfl, rfl, SqL.of hp, g0, _, rfl, _, _, rfl, rfl, ⟨(by omega), s2⟩, ?_⟩
      refine ⟨_, rfl, p, _, _, _, rfl, rfl, hp, rfl, ?_⟩
      exact ⟨_, rfl, k (r % span) (r / span) m ⟨q0, m0, m1⟩ (Int.emod_nonneg _ (by omega)) (Int.emod_lt_of_pos _ (by omega))⟩
    · have g1 : atI (Two r m) 1 = some (.int m) := rfl
      have e1 := Int.emod_nonneg (m * 69621 + 7919) (b := 2147483647) (by decide)
      have e2 := Int.emod_lt_of_pos (m * 69621 + 7919) (b := 2147483647) (by decide)
      refine ⟨_, rfl, p, _, _, _, rfl, rfl, SqL.of hp, g1, _, _, rfl, rfl, .inl ⟨by omega, by omega⟩, _, _, rfl, rfl, .inl ⟨_, rfl, _, _, rfl, rfl, (by show (0 : Int) < 2147483647; decide), ?_⟩⟩
      refine ⟨_, rfl, p, _, _, _, rfl, rfl, hp, rfl, ?_⟩
      have hp2 : (upd H p (.lst (Two r ((m * 69621 + 7919) % 2147483647)))) p = some (.lst (Two r ((m * 69621 + 7919) % 2147483647))) := upd_same
      have g2 : atI (Two r ((m * 69621 + 7919) % 2147483647)) 1 = some (.int ((m * 69621 + 7919) % 2147483647)) := rfl
      refine ⟨_, rfl, p, _, _, _, rfl, rfl, SqL.of hp2, g2, .inl ⟨_, rfl, _, _, rfl, rfl, ⟨by decide, by decide, by omega⟩, .inl ⟨_, rfl, _, _, rfl, rfl, (by show (0 : Int) < 1000000007; decide), _, _, rfl, rfl, ⟨by decide, by decide⟩, .inl ⟨_, rfl, _, rfl, _, _, rfl, rfl, (by show 0 < span; omega), ?_⟩⟩⟩⟩
      exact k _ r _ ⟨r0, e1, by omega⟩ (Int.emod_nonneg _ (by omega)) (Int.emod_lt_of_pos _ (by omega))
theorem sc3 : FnScope ["source", "items"] ["source", "items"] (defScope sPick) := ⟨rfl, rfl, rfl, by decide +kernel, rfl, by decide +kernel, by decide +kernel⟩
theorem ok_pick {f fD : Addr} {fd fdD : FuncData} (F : Fun K "_law_pick" "_law_pick" sPick f fd) (B : Bi mg) (FD : Fun K "_law_draw" "_law_draw" sDraw fD fdD) (gD : mg "_law_draw" = some (.ref fD)) (bD : Binds K fdD ["source", "span"] []) :
    FnOk P w K mg base CX0 2 f fd ["source", "items"] (spPick K) := by
  have GD : FnOk P w K mg base CX0 1 fD fdD ["source", "span"] spDraw := ok_draw FD B
  refine F.ok sc3 (fun vs H Q E h => ?_) (fun cdv A outer s H vs Q E hr h => ?_)
  · obtain ⟨p, l, r, m, xs, rfl, _⟩ := h
    rfl
  · obtain ⟨p, l, r, m, xs, rfl, hp, hf, hne, hL, l1, l2, k⟩ := h
    refine ⟨_, pss_one (ps_ret (pe_ix ix_list (pv 1) (pe_call GD hr rfl gD FD.kp bD .nil pass0 (pa_cons (pv 0) (pa_cons (pe_callB call_len_seq (by rfl) B.len PySem.boot_len (pa_cons (pv 1) pa_nil)) pa_nil))) (fun _ _ => rfl))), ?_⟩
    refine ⟨_, rfl, _, rfl, _, rfl, l, xs, rfl, .inl hL, p, r, m, _, rfl, hp, hf, by omega, ?_, fun j r' m' hf' h0 h1 => ?_⟩
    · exact PySem.Flt.log2_lt_of (k := 9000) (by decide) (Nat.lt_of_lt_of_le (by omega : _ < 1001) (Nat.le_trans (by decide : 1001 ≤ 2 ^ 10) (Nat.pow_le_pow_right (by decide) (by decide))))
    · obtain ⟨n, rfl⟩ := Int.eq_ofNat_of_zero_le h0
      have hn : n < xs.length := by omega
      have hit : xs[n]? = some xs[n] := List.getElem?_eq_getElem hn
      refine ⟨l, xs, _, xs[n], rfl, rfl, ?_, atI_nat hit, k n _ r' m' hf' hit⟩
      rcases hL with (h | ⟨o, h⟩) | h
      · exact .inl (.inl (by rw [upd_ne hne]; exact h))
      · exact .inl (.inr ⟨o, by rw [upd_ne hne]; exact h⟩)
      · exact .inr h
end
end S


set_option Elab.async false
set_option linter.all false
set_option maxRecDepth 100000
set_option maxHeartbeats 4000000
/-! ## the errors of the package: their classes, and the law's helpers over them -/
namespace S
open PySem L2 G
abbrev sKinds : Stmt := top 31
abbrev sPlace : Stmt := top 32
abbrev sName : Stmt := top 33
abbrev sStored : Stmt := top 34
abbrev sLaw : Stmt := top 35
def nms : List Str := ["BadHead", "BadSteps", "NoStep", "BadBody", "BadChain", "NoBoundary", "NoPiece", "BadStretches", "BadName", "BadRoad", "BadTells", "NoMouth", "NameTaken", "UnknownName", "TooSmall", "BadStep", "BadChange", "TooDeep", "TooGreat", "OtherHead", "Held", "TooFar", "Hopeless", "BadText", "BadCommand"]
def fls : List Str := ["value", "value", "value", "value", "value", "value", "value", "value", "value", "value", "value", "value", "name", "name", "name", "position", "position", "depth", "size", "head", "size", "count", "body", "line", "command"]
def nm (i : Nat) : Str := nms.getD i ""
def fl (i : Nat) : Str := fls.getD i ""
/-- what stands behind the top: the classes at C 0, .., C 24, RoadError at R -/
structure Txt (P : Program) (w : World) (K : PySem.W.Frag) (mg : Str → Option Value) (base : Heap) (C : Nat → Addr) (R : Addr) : Prop where
  M : ∀ i, i < 25 → Mk P w K mg base (C i) (fl i)
  g : ∀ i, i < 25 → mg (nm i) = some (.ref (C i))
  kit : ∀ i j, i < 25 → j < 25 → PySem.W.kitOne K (.ref (C i)) (.ref (C j)) = some (decide (j = i))
  kitR : ∀ i, i < 25 → PySem.W.kitOne K (.ref (C i)) (.ref R) = some true
  kitV : ∀ i, i < 25 → PySem.W.kitOne K (.ref (C i)) (.type "ValueError") = some true
  gR : mg "RoadError" = some (.ref R)
  isi : mg "isinstance" = none
section
variable {P : Program} {w : World} {K : PySem.W.Frag} {mg : Str → Option Value} {base : Heap} {C : Nat → Addr} {R : Addr}
theorem Same.new {H : Hp} {p : Addr} {o : HO} (h : H p = none) : Same H (upd H p o) := fun a u e => by
  rw [upd_ne (ne_of_none e h)]
  exact e
abbrev sI0 : Stmt := inClass (top 2) 0
theorem scI0 : FnScope ["self", "value"] ["self", "value"] (defScope sI0) := ⟨rfl, rfl, rfl, by decide +kernel, rfl, by decide +kernel, by decide +kernel⟩
theorem ini0 {c f : Addr} {fd : FuncData} (F : Fun K "__init__" "BadHead.__init__" sI0 f fd) (L : Cl K c "value") : FnOk P w K mg base CX0 1 f fd ["self", "value"] (spIni c "value") := by
  refine F.ok scI0 (fun vs H Q E h => ?_) (fun cdv A outer s H vs Q E hr h => ?_)
  · obtain ⟨a, v, rfl, _⟩ := h
    rfl
  · obtain ⟨a, v, rfl, ha, k⟩ := h
    exact ⟨_, pss_one (ps_ost (pv 0) (pv 1)), _, rfl, _, rfl, a, c, rfl, L.T, L.no, .inl ⟨ha, fun dx h1 h2 => k dx h1 h2⟩⟩
theorem mk0 {c f : Addr} {fd : FuncData} (F : Fun K "__init__" "BadHead.__init__" sI0 f fd) (L : Cl K c "value") (iC : PySem.W.findIn K (.ref c) "__init__" = some (some (.ref f))) (tI : PySem.W.typeIn K (.ref f) = some (.type "function")) : Mk P w K mg base c "value" := by
  refine ⟨L, f, fd, ["self", "value"], iC, tI, ini0 F L, rfl, ?_, ?_⟩
  · obtain ⟨_, _, _, _, _, _, _, _, _, rfl, _, _⟩ := F.ex
    exact fun s u v => .of_eq rfl
  · obtain ⟨_, _, _, _, _, _, _, _, _, rfl, _, _⟩ := F.ex
    exact fun s u v => .of_eq rfl
abbrev sI1 : Stmt := inClass (top 3) 0
theorem scI1 : FnScope ["self", "value"] ["self", "value"] (defScope sI1) := ⟨rfl, rfl, rfl, by decide +kernel, rfl, by decide +kernel, by decide +kernel⟩
theorem ini1 {c f : Addr} {fd : FuncData} (F : Fun K "__init__" "BadSteps.__init__" sI1 f fd) (L : Cl K c "value") : FnOk P w K mg base CX0 1 f fd ["self", "value"] (spIni c "value") := by
  refine F.ok scI1 (fun vs H Q E h => ?_) (fun cdv A outer s H vs Q E hr h => ?_)
  · obtain ⟨a, v, rfl, _⟩ := h
    rfl
  · obtain ⟨a, v, rfl, ha, k⟩ := h
    exact ⟨_, pss_one (ps_ost (pv 0) (pv 1)), _, rfl, _, rfl, a, c, rfl, L.T, L.no, .inl ⟨ha, fun dx h1 h2 => k dx h1 h2⟩⟩
theorem mk1 {c f : Addr} {fd : FuncData} (F : Fun K "__init__" "BadSteps.__init__" sI1 f fd) (L : Cl K c "value") (iC : PySem.W.findIn K (.ref c) "__init__" = some (some (.ref f))) (tI : PySem.W.typeIn K (.ref f) = some (.type "function")) : Mk P w K mg base c "value" := by
  refine ⟨L, f, fd, ["self", "value"], iC, tI, ini1 F L, rfl, ?_, ?_⟩
  · obtain ⟨_, _, _, _, _, _, _, _, _, rfl, _, _⟩ := F.ex
    exact fun s u v => .of_eq rfl
  · obtain ⟨_, _, _, _, _, _, _, _, _, rfl, _, _⟩ := F.ex
    exact fun s u v => .of_eq rfl
abbrev sI2 : Stmt := inClass (top 8) 0
theorem scI2 : FnScope ["self", "value"] ["self", "value"] (defScope sI2) := ⟨rfl, rfl, rfl, by decide +kernel, rfl, by decide +kernel, by decide +kernel⟩
theorem ini2 {c f : Addr} {fd : FuncData} (F : Fun K "__init__" "NoStep.__init__" sI2 f fd) (L : Cl K c "value") : FnOk P w K mg base CX0 1 f fd ["self", "value"] (spIni c "value") := by
  refine F.ok scI2 (fun vs H Q E h => ?_) (fun cdv A outer s H vs Q E hr h => ?_)
  · obtain ⟨a, v, rfl, _⟩ := h
    rfl
  · obtain ⟨a, v, rfl, ha, k⟩ := h
    exact ⟨_, pss_one (ps_ost (pv 0) (pv 1)), _, rfl, _, rfl, a, c, rfl, L.T, L.no, .inl ⟨ha, fun dx h1 h2 => k dx h1 h2⟩⟩
theorem mk2 {c f : Addr} {fd : FuncData} (F : Fun K "__init__" "NoStep.__init__" sI2 f fd) (L : Cl K c "value") (iC : PySem.W.findIn K (.ref c) "__init__" = some (some (.ref f))) (tI : PySem.W.typeIn K (.ref f) = some (.type "function")) : Mk P w K mg base c "value" := by
  refine ⟨L, f, fd, ["self", "value"], iC, tI, ini2 F L, rfl, ?_, ?_⟩
  · obtain ⟨_, _, _, _, _, _, _, _, _, rfl, _, _⟩ := F.ex
    exact fun s u v => .of_eq rfl
  · obtain ⟨_, _, _, _, _, _, _, _, _, rfl, _, _⟩ := F.ex
    exact fun s u v => .of_eq rfl
abbrev sI3 : Stmt := inClass (top 9) 0
theorem scI3 : FnScope ["self", "value"] ["self", "value"] (defScope sI3) := ⟨rfl, rfl, rfl, by decide +kernel, rfl, by decide +kernel, by decide +kernel⟩
theorem ini3 {c f : Addr} {fd : FuncData} (F : Fun K "__init__" "BadBody.__init__" sI3 f fd) (L : Cl K c "value") : FnOk P w K mg base CX0 1 f fd ["self", "value"] (spIni c "value") := by
  refine F.ok scI3 (fun vs H Q E h => ?_) (fun cdv A outer s H vs Q E hr h => ?_)
  · obtain ⟨a, v, rfl, _⟩ := h
    rfl
  · obtain ⟨a, v, rfl, ha, k⟩ := h
    exact ⟨_, pss_one (ps_ost (pv 0) (pv 1)), _, rfl, _, rfl, a, c, rfl, L.T, L.no, .inl ⟨ha, fun dx h1 h2 => k dx h1 h2⟩⟩
theorem mk3 {c f : Addr} {fd : FuncData} (F : Fun K "__init__" "BadBody.__init__" sI3 f fd) (L : Cl K c "value") (iC : PySem.W.findIn K (.ref c) "__init__" = some (some (.ref f))) (tI : PySem.W.typeIn K (.ref f) = some (.type "function")) : Mk P w K mg base c "value" := by
  refine ⟨L, f, fd, ["self", "value"], iC, tI, ini3 F L, rfl, ?_, ?_⟩
  · obtain ⟨_, _, _, _, _, _, _, _, _, rfl, _, _⟩ := F.ex
    exact fun s u v => .of_eq rfl
  · obtain ⟨_, _, _, _, _, _, _, _, _, rfl, _, _⟩ := F.ex
    exact fun s u v => .of_eq rfl
abbrev sI4 : Stmt := inClass (top 10) 0
theorem scI4 : FnScope ["self", "value"] ["self", "value"] (defScope sI4) := ⟨rfl, rfl, rfl, by decide +kernel, rfl, by decide +kernel, by decide +kernel⟩
theorem ini4 {c f : Addr} {fd : FuncData} (F : Fun K "__init__" "BadChain.__init__" sI4 f fd) (L : Cl K c "value") : FnOk P w K mg base CX0 1 f fd ["self", "value"] (spIni c "value") := by
  refine F.ok scI4 (fun vs H Q E h => ?_) (fun cdv A outer s H vs Q E hr h => ?_)
  · obtain ⟨a, v, rfl, _⟩ := h
    rfl
  · obtain ⟨a, v, rfl, ha, k⟩ := h
    exact ⟨_, pss_one (ps_ost (pv 0) (pv 1)), _, rfl, _, rfl, a, c, rfl, L.T, L.no, .inl ⟨ha, fun dx h1 h2 => k dx h1 h2⟩⟩
theorem mk4 {c f : Addr} {fd : FuncData} (F : Fun K "__init__" "BadChain.__init__" sI4 f fd) (L : Cl K c "value") (iC : PySem.W.findIn K (.ref c) "__init__" = some (some (.ref f))) (tI : PySem.W.typeIn K (.ref f) = some (.type "function")) : Mk P w K mg base c "value" := by
  refine ⟨L, f, fd, ["self", "value"], iC, tI, ini4 F L, rfl, ?_, ?_⟩
  · obtain ⟨_, _, _, _, _, _, _, _, _, rfl, _, _⟩ := F.ex
    exact fun s u v => .of_eq rfl
  · obtain ⟨_, _, _, _, _, _, _, _, _, rfl, _, _⟩ := F.ex
    exact fun s u v => .of_eq rfl
abbrev sI5 : Stmt := inClass (top 11) 0
theorem scI5 : FnScope ["self", "value"] ["self", "value"] (defScope sI5) := ⟨rfl, rfl, rfl, by decide +kernel, rfl, by decide +kernel, by decide +kernel⟩
theorem ini5 {c f : Addr} {fd : FuncData} (F : Fun K "__init__" "NoBoundary.__init__" sI5 f fd) (L : Cl K c "value") : FnOk P w K mg base CX0 1 f fd ["self", "value"] (spIni c "value") := by
  refine F.ok scI5 (fun vs H Q E h => ?_) (fun cdv A outer s H vs Q E hr h => ?_)
  · obtain ⟨a, v, rfl, _⟩ := h
    rfl
  · obtain ⟨a, v, rfl, ha, k⟩ := h
    exact ⟨_, pss_one (ps_ost (pv 0) (pv 1)), _, rfl, _, rfl, a, c, rfl, L.T, L.no, .inl ⟨ha, fun dx h1 h2 => k dx h1 h2⟩⟩
theorem mk5 {c f : Addr} {fd : FuncData} (F : Fun K "__init__" "NoBoundary.__init__" sI5 f fd) (L : Cl K c "value") (iC : PySem.W.findIn K (.ref c) "__init__" = some (some (.ref f))) (tI : PySem.W.typeIn K (.ref f) = some (.type "function")) : Mk P w K mg base c "value" := by
  refine ⟨L, f, fd, ["self", "value"], iC, tI, ini5 F L, rfl, ?_, ?_⟩
  · obtain ⟨_, _, _, _, _, _, _, _, _, rfl, _, _⟩ := F.ex
    exact fun s u v => .of_eq rfl
  · obtain ⟨_, _, _, _, _, _, _, _, _, rfl, _, _⟩ := F.ex
    exact fun s u v => .of_eq rfl
abbrev sI6 : Stmt := inClass (top 12) 0
theorem scI6 : FnScope ["self", "value"] ["self", "value"] (defScope sI6) := ⟨rfl, rfl, rfl, by decide +kernel, rfl, by decide +kernel, by decide +kernel⟩
theorem ini6 {c f : Addr} {fd : FuncData} (F : Fun K "__init__" "NoPiece.__init__" sI6 f fd) (L : Cl K c "value") : FnOk P w K mg base CX0 1 f fd ["self", "value"] (spIni c "value") := by
  refine F.ok scI6 (fun vs H Q E h => ?_) (fun cdv A outer s H vs Q E hr h => ?_)
  · obtain ⟨a, v, rfl, _⟩ := h
    rfl
  · obtain ⟨a, v, rfl, ha, k⟩ := h
    exact ⟨_, pss_one (ps_ost (pv 0) (pv 1)), _, rfl, _, rfl, a, c, rfl, L.T, L.no, .inl ⟨ha, fun dx h1 h2 => k dx h1 h2⟩⟩
theorem mk6 {c f : Addr} {fd : FuncData} (F : Fun K "__init__" "NoPiece.__init__" sI6 f fd) (L : Cl K c "value") (iC : PySem.W.findIn K (.ref c) "__init__" = some (some (.ref f))) (tI : PySem.W.typeIn K (.ref f) = some (.type "function")) : Mk P w K mg base c "value" := by
  refine ⟨L, f, fd, ["self", "value"], iC, tI, ini6 F L, rfl, ?_, ?_⟩
  · obtain ⟨_, _, _, _, _, _, _, _, _, rfl, _, _⟩ := F.ex
    exact fun s u v => .of_eq rfl
  · obtain ⟨_, _, _, _, _, _, _, _, _, rfl, _, _⟩ := F.ex
    exact fun s u v => .of_eq rfl
abbrev sI7 : Stmt := inClass (top 13) 0
theorem scI7 : FnScope ["self", "value"] ["self", "value"] (defScope sI7) := ⟨rfl, rfl, rfl, by decide +kernel, rfl, by decide +kernel, by decide +kernel⟩
theorem ini7 {c f : Addr} {fd : FuncData} (F : Fun K "__init__" "BadStretches.__init__" sI7 f fd) (L : Cl K c "value") : FnOk P w K mg base CX0 1 f fd ["self", "value"] (spIni c "value") := by
  refine F.ok scI7 (fun vs H Q E h => ?_) (fun cdv A outer s H vs Q E hr h => ?_)
  · obtain ⟨a, v, rfl, _⟩ := h
    rfl
  · obtain ⟨a, v, rfl, ha, k⟩ := h
    exact ⟨_, pss_one (ps_ost (pv 0) (pv 1)), _, rfl, _, rfl, a, c, rfl, L.T, L.no, .inl ⟨ha, fun dx h1 h2 => k dx h1 h2⟩⟩
theorem mk7 {c f : Addr} {fd : FuncData} (F : Fun K "__init__" "BadStretches.__init__" sI7 f fd) (L : Cl K c "value") (iC : PySem.W.findIn K (.ref c) "__init__" = some (some (.ref f))) (tI : PySem.W.typeIn K (.ref f) = some (.type "function")) : Mk P w K mg base c "value" := by
  refine ⟨L, f, fd, ["self", "value"], iC, tI, ini7 F L, rfl, ?_, ?_⟩
  · obtain ⟨_, _, _, _, _, _, _, _, _, rfl, _, _⟩ := F.ex
    exact fun s u v => .of_eq rfl
  · obtain ⟨_, _, _, _, _, _, _, _, _, rfl, _, _⟩ := F.ex
    exact fun s u v => .of_eq rfl
abbrev sI8 : Stmt := inClass (top 14) 0
theorem scI8 : FnScope ["self", "value"] ["self", "value"] (defScope sI8) := ⟨rfl, rfl, rfl, by decide +kernel, rfl, by decide +kernel, by decide +kernel⟩
theorem ini8 {c f : Addr} {fd : FuncData} (F : Fun K "__init__" "BadName.__init__" sI8 f fd) (L : Cl K c "value") : FnOk P w K mg base CX0 1 f fd ["self", "value"] (spIni c "value") := by
  refine F.ok scI8 (fun vs H Q E h => ?_) (fun cdv A outer s H vs Q E hr h => ?_)
  · obtain ⟨a, v, rfl, _⟩ := h
    rfl
  · obtain ⟨a, v, rfl, ha, k⟩ := h
    exact ⟨_, pss_one (ps_ost (pv 0) (pv 1)), _, rfl, _, rfl, a, c, rfl, L.T, L.no, .inl ⟨ha, fun dx h1 h2 => k dx h1 h2⟩⟩
theorem mk8 {c f : Addr} {fd : FuncData} (F : Fun K "__init__" "BadName.__init__" sI8 f fd) (L : Cl K c "value") (iC : PySem.W.findIn K (.ref c) "__init__" = some (some (.ref f))) (tI : PySem.W.typeIn K (.ref f) = some (.type "function")) : Mk P w K mg base c "value" := by
  refine ⟨L, f, fd, ["self", "value"], iC, tI, ini8 F L, rfl, ?_, ?_⟩
  · obtain ⟨_, _, _, _, _, _, _, _, _, rfl, _, _⟩ := F.ex
    exact fun s u v => .of_eq rfl
  · obtain ⟨_, _, _, _, _, _, _, _, _, rfl, _, _⟩ := F.ex
    exact fun s u v => .of_eq rfl
abbrev sI9 : Stmt := inClass (top 17) 0
theorem scI9 : FnScope ["self", "value"] ["self", "value"] (defScope sI9) := ⟨rfl, rfl, rfl, by decide +kernel, rfl, by decide +kernel, by decide +kernel⟩
theorem ini9 {c f : Addr} {fd : FuncData} (F : Fun K "__init__" "BadRoad.__init__" sI9 f fd) (L : Cl K c "value") : FnOk P w K mg base CX0 1 f fd ["self", "value"] (spIni c "value") := by
  refine F.ok scI9 (fun vs H Q E h => ?_) (fun cdv A outer s H vs Q E hr h => ?_)
  · obtain ⟨a, v, rfl, _⟩ := h
    rfl
  · obtain ⟨a, v, rfl, ha, k⟩ := h
    exact ⟨_, pss_one (ps_ost (pv 0) (pv 1)), _, rfl, _, rfl, a, c, rfl, L.T, L.no, .inl ⟨ha, fun dx h1 h2 => k dx h1 h2⟩⟩
theorem mk9 {c f : Addr} {fd : FuncData} (F : Fun K "__init__" "BadRoad.__init__" sI9 f fd) (L : Cl K c "value") (iC : PySem.W.findIn K (.ref c) "__init__" = some (some (.ref f))) (tI : PySem.W.typeIn K (.ref f) = some (.type "function")) : Mk P w K mg base c "value" := by
  refine ⟨L, f, fd, ["self", "value"], iC, tI, ini9 F L, rfl, ?_, ?_⟩
  · obtain ⟨_, _, _, _, _, _, _, _, _, rfl, _, _⟩ := F.ex
    exact fun s u v => .of_eq rfl
  · obtain ⟨_, _, _, _, _, _, _, _, _, rfl, _, _⟩ := F.ex
    exact fun s u v => .of_eq rfl
abbrev sI10 : Stmt := inClass (top 19) 0
theorem scI10 : FnScope ["self", "value"] ["self", "value"] (defScope sI10) := ⟨rfl, rfl, rfl, by decide +kernel, rfl, by decide +kernel, by decide +kernel⟩
theorem ini10 {c f : Addr} {fd : FuncData} (F : Fun K "__init__" "BadTells.__init__" sI10 f fd) (L : Cl K c "value") : FnOk P w K mg base CX0 1 f fd ["self", "value"] (spIni c "value") := by
  refine F.ok scI10 (fun vs H Q E h => ?_) (fun cdv A outer s H vs Q E hr h => ?_)
  · obtain ⟨a, v, rfl, _⟩ := h
    rfl
  · obtain ⟨a, v, rfl, ha, k⟩ := h
    exact ⟨_, pss_one (ps_ost (pv 0) (pv 1)), _, rfl, _, rfl, a, c, rfl, L.T, L.no, .inl ⟨ha, fun dx h1 h2 => k dx h1 h2⟩⟩
theorem mk10 {c f : Addr} {fd : FuncData} (F : Fun K "__init__" "BadTells.__init__" sI10 f fd) (L : Cl K c "value") (iC : PySem.W.findIn K (.ref c) "__init__" = some (some (.ref f))) (tI : PySem.W.typeIn K (.ref f) = some (.type "function")) : Mk P w K mg base c "value" := by
  refine ⟨L, f, fd, ["self", "value"], iC, tI, ini10 F L, rfl, ?_, ?_⟩
  · obtain ⟨_, _, _, _, _, _, _, _, _, rfl, _, _⟩ := F.ex
    exact fun s u v => .of_eq rfl
  · obtain ⟨_, _, _, _, _, _, _, _, _, rfl, _, _⟩ := F.ex
    exact fun s u v => .of_eq rfl
abbrev sI11 : Stmt := inClass (top 21) 0
theorem scI11 : FnScope ["self", "value"] ["self", "value"] (defScope sI11) := ⟨rfl, rfl, rfl, by decide +kernel, rfl, by decide +kernel, by decide +kernel⟩
theorem ini11 {c f : Addr} {fd : FuncData} (F : Fun K "__init__" "NoMouth.__init__" sI11 f fd) (L : Cl K c "value") : FnOk P w K mg base CX0 1 f fd ["self", "value"] (spIni c "value") := by
  refine F.ok scI11 (fun vs H Q E h => ?_) (fun cdv A outer s H vs Q E hr h => ?_)
  · obtain ⟨a, v, rfl, _⟩ := h
    rfl
  · obtain ⟨a, v, rfl, ha, k⟩ := h
    exact ⟨_, pss_one (ps_ost (pv 0) (pv 1)), _, rfl, _, rfl, a, c, rfl, L.T, L.no, .inl ⟨ha, fun dx h1 h2 => k dx h1 h2⟩⟩
theorem mk11 {c f : Addr} {fd : FuncData} (F : Fun K "__init__" "NoMouth.__init__" sI11 f fd) (L : Cl K c "value") (iC : PySem.W.findIn K (.ref c) "__init__" = some (some (.ref f))) (tI : PySem.W.typeIn K (.ref f) = some (.type "function")) : Mk P w K mg base c "value" := by
  refine ⟨L, f, fd, ["self", "value"], iC, tI, ini11 F L, rfl, ?_, ?_⟩
  · obtain ⟨_, _, _, _, _, _, _, _, _, rfl, _, _⟩ := F.ex
    exact fun s u v => .of_eq rfl
  · obtain ⟨_, _, _, _, _, _, _, _, _, rfl, _, _⟩ := F.ex
    exact fun s u v => .of_eq rfl
abbrev sI12 : Stmt := inClass (top 15) 0
theorem scI12 : FnScope ["self", "name"] ["self", "name"] (defScope sI12) := ⟨rfl, rfl, rfl, by decide +kernel, rfl, by decide +kernel, by decide +kernel⟩
theorem ini12 {c f : Addr} {fd : FuncData} (F : Fun K "__init__" "NameTaken.__init__" sI12 f fd) (L : Cl K c "name") : FnOk P w K mg base CX0 1 f fd ["self", "name"] (spIni c "name") := by
  refine F.ok scI12 (fun vs H Q E h => ?_) (fun cdv A outer s H vs Q E hr h => ?_)
  · obtain ⟨a, v, rfl, _⟩ := h
    rfl
  · obtain ⟨a, v, rfl, ha, k⟩ := h
    exact ⟨_, pss_one (ps_ost (pv 0) (pv 1)), _, rfl, _, rfl, a, c, rfl, L.T, L.no, .inl ⟨ha, fun dx h1 h2 => k dx h1 h2⟩⟩
theorem mk12 {c f : Addr} {fd : FuncData} (F : Fun K "__init__" "NameTaken.__init__" sI12 f fd) (L : Cl K c "name") (iC : PySem.W.findIn K (.ref c) "__init__" = some (some (.ref f))) (tI : PySem.W.typeIn K (.ref f) = some (.type "function")) : Mk P w K mg base c "name" := by
  refine ⟨L, f, fd, ["self", "name"], iC, tI, ini12 F L, rfl, ?_, ?_⟩
  · obtain ⟨_, _, _, _, _, _, _, _, _, rfl, _, _⟩ := F.ex
    exact fun s u v => .of_eq rfl
  · obtain ⟨_, _, _, _, _, _, _, _, _, rfl, _, _⟩ := F.ex
    exact fun s u v => .of_eq rfl
abbrev sI13 : Stmt := inClass (top 16) 0
theorem scI13 : FnScope ["self", "name"] ["self", "name"] (defScope sI13) := ⟨rfl, rfl, rfl, by decide +kernel, rfl, by decide +kernel, by decide +kernel⟩
theorem ini13 {c f : Addr} {fd : FuncData} (F : Fun K "__init__" "UnknownName.__init__" sI13 f fd) (L : Cl K c "name") : FnOk P w K mg base CX0 1 f fd ["self", "name"] (spIni c "name") := by
  refine F.ok scI13 (fun vs H Q E h => ?_) (fun cdv A outer s H vs Q E hr h => ?_)
  · obtain ⟨a, v, rfl, _⟩ := h
    rfl
  · obtain ⟨a, v, rfl, ha, k⟩ := h
    exact ⟨_, pss_one (ps_ost (pv 0) (pv 1)), _, rfl, _, rfl, a, c, rfl, L.T, L.no, .inl ⟨ha, fun dx h1 h2 => k dx h1 h2⟩⟩
theorem mk13 {c f : Addr} {fd : FuncData} (F : Fun K "__init__" "UnknownName.__init__" sI13 f fd) (L : Cl K c "name") (iC : PySem.W.findIn K (.ref c) "__init__" = some (some (.ref f))) (tI : PySem.W.typeIn K (.ref f) = some (.type "function")) : Mk P w K mg base c "name" := by
  refine ⟨L, f, fd, ["self", "name"], iC, tI, ini13 F L, rfl, ?_, ?_⟩
  · obtain ⟨_, _, _, _, _, _, _, _, _, rfl, _, _⟩ := F.ex
    exact fun s u v => .of_eq rfl
  · obtain ⟨_, _, _, _, _, _, _, _, _, rfl, _, _⟩ := F.ex
    exact fun s u v => .of_eq rfl
abbrev sI14 : Stmt := inClass (top 18) 0
theorem scI14 : FnScope ["self", "name"] ["self", "name"] (defScope sI14) := ⟨rfl, rfl, rfl, by decide +kernel, rfl, by decide +kernel, by decide +kernel⟩
theorem ini14 {c f : Addr} {fd : FuncData} (F : Fun K "__init__" "TooSmall.__init__" sI14 f fd) (L : Cl K c "name") : FnOk P w K mg base CX0 1 f fd ["self", "name"] (spIni c "name") := by
  refine F.ok scI14 (fun vs H Q E h => ?_) (fun cdv A outer s H vs Q E hr h => ?_)
  · obtain ⟨a, v, rfl, _⟩ := h
    rfl
  · obtain ⟨a, v, rfl, ha, k⟩ := h
    exact ⟨_, pss_one (ps_ost (pv 0) (pv 1)), _, rfl, _, rfl, a, c, rfl, L.T, L.no, .inl ⟨ha, fun dx h1 h2 => k dx h1 h2⟩⟩
theorem mk14 {c f : Addr} {fd : FuncData} (F : Fun K "__init__" "TooSmall.__init__" sI14 f fd) (L : Cl K c "name") (iC : PySem.W.findIn K (.ref c) "__init__" = some (some (.ref f))) (tI : PySem.W.typeIn K (.ref f) = some (.type "function")) : Mk P w K mg base c "name" := by
  refine ⟨L, f, fd, ["self", "name"], iC, tI, ini14 F L, rfl, ?_, ?_⟩
  · obtain ⟨_, _, _, _, _, _, _, _, _, rfl, _, _⟩ := F.ex
    exact fun s u v => .of_eq rfl
  · obtain ⟨_, _, _, _, _, _, _, _, _, rfl, _, _⟩ := F.ex
    exact fun s u v => .of_eq rfl
abbrev sI15 : Stmt := inClass (top 4) 0
theorem scI15 : FnScope ["self", "position"] ["self", "position"] (defScope sI15) := ⟨rfl, rfl, rfl, by decide +kernel, rfl, by decide +kernel, by decide +kernel⟩
theorem ini15 {c f : Addr} {fd : FuncData} (F : Fun K "__init__" "BadStep.__init__" sI15 f fd) (L : Cl K c "position") : FnOk P w K mg base CX0 1 f fd ["self", "position"] (spIni c "position") := by
  refine F.ok scI15 (fun vs H Q E h => ?_) (fun cdv A outer s H vs Q E hr h => ?_)
  · obtain ⟨a, v, rfl, _⟩ := h
    rfl
  · obtain ⟨a, v, rfl, ha, k⟩ := h
    exact ⟨_, pss_one (ps_ost (pv 0) (pv 1)), _, rfl, _, rfl, a, c, rfl, L.T, L.no, .inl ⟨ha, fun dx h1 h2 => k dx h1 h2⟩⟩
theorem mk15 {c f : Addr} {fd : FuncData} (F : Fun K "__init__" "BadStep.__init__" sI15 f fd) (L : Cl K c "position") (iC : PySem.W.findIn K (.ref c) "__init__" = some (some (.ref f))) (tI : PySem.W.typeIn K (.ref f) = some (.type "function")) : Mk P w K mg base c "position" := by
  refine ⟨L, f, fd, ["self", "position"], iC, tI, ini15 F L, rfl, ?_, ?_⟩
  · obtain ⟨_, _, _, _, _, _, _, _, _, rfl, _, _⟩ := F.ex
    exact fun s u v => .of_eq rfl
  · obtain ⟨_, _, _, _, _, _, _, _, _, rfl, _, _⟩ := F.ex
    exact fun s u v => .of_eq rfl
abbrev sI16 : Stmt := inClass (top 24) 0
theorem scI16 : FnScope ["self", "position"] ["self", "position"] (defScope sI16) := ⟨rfl, rfl, rfl, by decide +kernel, rfl, by decide +kernel, by decide +kernel⟩
theorem ini16 {c f : Addr} {fd : FuncData} (F : Fun K "__init__" "BadChange.__init__" sI16 f fd) (L : Cl K c "position") : FnOk P w K mg base CX0 1 f fd ["self", "position"] (spIni c "position") := by
  refine F.ok scI16 (fun vs H Q E h => ?_) (fun cdv A outer s H vs Q E hr h => ?_)
  · obtain ⟨a, v, rfl, _⟩ := h
    rfl
  · obtain ⟨a, v, rfl, ha, k⟩ := h
    exact ⟨_, pss_one (ps_ost (pv 0) (pv 1)), _, rfl, _, rfl, a, c, rfl, L.T, L.no, .inl ⟨ha, fun dx h1 h2 => k dx h1 h2⟩⟩
theorem mk16 {c f : Addr} {fd : FuncData} (F : Fun K "__init__" "BadChange.__init__" sI16 f fd) (L : Cl K c "position") (iC : PySem.W.findIn K (.ref c) "__init__" = some (some (.ref f))) (tI : PySem.W.typeIn K (.ref f) = some (.type "function")) : Mk P w K mg base c "position" := by
  refine ⟨L, f, fd, ["self", "position"], iC, tI, ini16 F L, rfl, ?_, ?_⟩
  · obtain ⟨_, _, _, _, _, _, _, _, _, rfl, _, _⟩ := F.ex
    exact fun s u v => .of_eq rfl
  · obtain ⟨_, _, _, _, _, _, _, _, _, rfl, _, _⟩ := F.ex
    exact fun s u v => .of_eq rfl
abbrev sI17 : Stmt := inClass (top 5) 0
theorem scI17 : FnScope ["self", "depth"] ["self", "depth"] (defScope sI17) := ⟨rfl, rfl, rfl, by decide +kernel, rfl, by decide +kernel, by decide +kernel⟩
theorem ini17 {c f : Addr} {fd : FuncData} (F : Fun K "__init__" "TooDeep.__init__" sI17 f fd) (L : Cl K c "depth") : FnOk P w K mg base CX0 1 f fd ["self", "depth"] (spIni c "depth") := by
  refine F.ok scI17 (fun vs H Q E h => ?_) (fun cdv A outer s H vs Q E hr h => ?_)
  · obtain ⟨a, v, rfl, _⟩ := h
    rfl
  · obtain ⟨a, v, rfl, ha, k⟩ := h
    exact ⟨_, pss_one (ps_ost (pv 0) (pv 1)), _, rfl, _, rfl, a, c, rfl, L.T, L.no, .inl ⟨ha, fun dx h1 h2 => k dx h1 h2⟩⟩
theorem mk17 {c f : Addr} {fd : FuncData} (F : Fun K "__init__" "TooDeep.__init__" sI17 f fd) (L : Cl K c "depth") (iC : PySem.W.findIn K (.ref c) "__init__" = some (some (.ref f))) (tI : PySem.W.typeIn K (.ref f) = some (.type "function")) : Mk P w K mg base c "depth" := by
  refine ⟨L, f, fd, ["self", "depth"], iC, tI, ini17 F L, rfl, ?_, ?_⟩
  · obtain ⟨_, _, _, _, _, _, _, _, _, rfl, _, _⟩ := F.ex
    exact fun s u v => .of_eq rfl
  · obtain ⟨_, _, _, _, _, _, _, _, _, rfl, _, _⟩ := F.ex
    exact fun s u v => .of_eq rfl
abbrev sI18 : Stmt := inClass (top 6) 0
theorem scI18 : FnScope ["self", "size"] ["self", "size"] (defScope sI18) := ⟨rfl, rfl, rfl, by decide +kernel, rfl, by decide +kernel, by decide +kernel⟩
theorem ini18 {c f : Addr} {fd : FuncData} (F : Fun K "__init__" "TooGreat.__init__" sI18 f fd) (L : Cl K c "size") : FnOk P w K mg base CX0 1 f fd ["self", "size"] (spIni c "size") := by
  refine F.ok scI18 (fun vs H Q E h => ?_) (fun cdv A outer s H vs Q E hr h => ?_)
  · obtain ⟨a, v, rfl, _⟩ := h
    rfl
  · obtain ⟨a, v, rfl, ha, k⟩ := h
    exact ⟨_, pss_one (ps_ost (pv 0) (pv 1)), _, rfl, _, rfl, a, c, rfl, L.T, L.no, .inl ⟨ha, fun dx h1 h2 => k dx h1 h2⟩⟩
theorem mk18 {c f : Addr} {fd : FuncData} (F : Fun K "__init__" "TooGreat.__init__" sI18 f fd) (L : Cl K c "size") (iC : PySem.W.findIn K (.ref c) "__init__" = some (some (.ref f))) (tI : PySem.W.typeIn K (.ref f) = some (.type "function")) : Mk P w K mg base c "size" := by
  refine ⟨L, f, fd, ["self", "size"], iC, tI, ini18 F L, rfl, ?_, ?_⟩
  · obtain ⟨_, _, _, _, _, _, _, _, _, rfl, _, _⟩ := F.ex
    exact fun s u v => .of_eq rfl
  · obtain ⟨_, _, _, _, _, _, _, _, _, rfl, _, _⟩ := F.ex
    exact fun s u v => .of_eq rfl
abbrev sI19 : Stmt := inClass (top 7) 0
theorem scI19 : FnScope ["self", "head"] ["self", "head"] (defScope sI19) := ⟨rfl, rfl, rfl, by decide +kernel, rfl, by decide +kernel, by decide +kernel⟩
theorem ini19 {c f : Addr} {fd : FuncData} (F : Fun K "__init__" "OtherHead.__init__" sI19 f fd) (L : Cl K c "head") : FnOk P w K mg base CX0 1 f fd ["self", "head"] (spIni c "head") := by
  refine F.ok scI19 (fun vs H Q E h => ?_) (fun cdv A outer s H vs Q E hr h => ?_)
  · obtain ⟨a, v, rfl, _⟩ := h
    rfl
  · obtain ⟨a, v, rfl, ha, k⟩ := h
    exact ⟨_, pss_one (ps_ost (pv 0) (pv 1)), _, rfl, _, rfl, a, c, rfl, L.T, L.no, .inl ⟨ha, fun dx h1 h2 => k dx h1 h2⟩⟩
theorem mk19 {c f : Addr} {fd : FuncData} (F : Fun K "__init__" "OtherHead.__init__" sI19 f fd) (L : Cl K c "head") (iC : PySem.W.findIn K (.ref c) "__init__" = some (some (.ref f))) (tI : PySem.W.typeIn K (.ref f) = some (.type "function")) : Mk P w K mg base c "head" := by
  refine ⟨L, f, fd, ["self", "head"], iC, tI, ini19 F L, rfl, ?_, ?_⟩
  · obtain ⟨_, _, _, _, _, _, _, _, _, rfl, _, _⟩ := F.ex
    exact fun s u v => .of_eq rfl
  · obtain ⟨_, _, _, _, _, _, _, _, _, rfl, _, _⟩ := F.ex
    exact fun s u v => .of_eq rfl
abbrev sI20 : Stmt := inClass (top 20) 0
theorem scI20 : FnScope ["self", "size"] ["self", "size"] (defScope sI20) := ⟨rfl, rfl, rfl, by decide +kernel, rfl, by decide +kernel, by decide +kernel⟩
theorem ini20 {c f : Addr} {fd : FuncData} (F : Fun K "__init__" "Held.__init__" sI20 f fd) (L : Cl K c "size") : FnOk P w K mg base CX0 1 f fd ["self", "size"] (spIni c "size") := by
  refine F.ok scI20 (fun vs H Q E h => ?_) (fun cdv A outer s H vs Q E hr h => ?_)
  · obtain ⟨a, v, rfl, _⟩ := h
    rfl
  · obtain ⟨a, v, rfl, ha, k⟩ := h
    exact ⟨_, pss_one (ps_ost (pv 0) (pv 1)), _, rfl, _, rfl, a, c, rfl, L.T, L.no, .inl ⟨ha, fun dx h1 h2 => k dx h1 h2⟩⟩
theorem mk20 {c f : Addr} {fd : FuncData} (F : Fun K "__init__" "Held.__init__" sI20 f fd) (L : Cl K c "size") (iC : PySem.W.findIn K (.ref c) "__init__" = some (some (.ref f))) (tI : PySem.W.typeIn K (.ref f) = some (.type "function")) : Mk P w K mg base c "size" := by
  refine ⟨L, f, fd, ["self", "size"], iC, tI, ini20 F L, rfl, ?_, ?_⟩
  · obtain ⟨_, _, _, _, _, _, _, _, _, rfl, _, _⟩ := F.ex
    exact fun s u v => .of_eq rfl
  · obtain ⟨_, _, _, _, _, _, _, _, _, rfl, _, _⟩ := F.ex
    exact fun s u v => .of_eq rfl
abbrev sI21 : Stmt := inClass (top 22) 0
theorem scI21 : FnScope ["self", "count"] ["self", "count"] (defScope sI21) := ⟨rfl, rfl, rfl, by decide +kernel, rfl, by decide +kernel, by decide +kernel⟩
theorem ini21 {c f : Addr} {fd : FuncData} (F : Fun K "__init__" "TooFar.__init__" sI21 f fd) (L : Cl K c "count") : FnOk P w K mg base CX0 1 f fd ["self", "count"] (spIni c "count") := by
  refine F.ok scI21 (fun vs H Q E h => ?_) (fun cdv A outer s H vs Q E hr h => ?_)
  · obtain ⟨a, v, rfl, _⟩ := h
    rfl
  · obtain ⟨a, v, rfl, ha, k⟩ := h
    exact ⟨_, pss_one (ps_ost (pv 0) (pv 1)), _, rfl, _, rfl, a, c, rfl, L.T, L.no, .inl ⟨ha, fun dx h1 h2 => k dx h1 h2⟩⟩
theorem mk21 {c f : Addr} {fd : FuncData} (F : Fun K "__init__" "TooFar.__init__" sI21 f fd) (L : Cl K c "count") (iC : PySem.W.findIn K (.ref c) "__init__" = some (some (.ref f))) (tI : PySem.W.typeIn K (.ref f) = some (.type "function")) : Mk P w K mg base c "count" := by
  refine ⟨L, f, fd, ["self", "count"], iC, tI, ini21 F L, rfl, ?_, ?_⟩
  · obtain ⟨_, _, _, _, _, _, _, _, _, rfl, _, _⟩ := F.ex
    exact fun s u v => .of_eq rfl
  · obtain ⟨_, _, _, _, _, _, _, _, _, rfl, _, _⟩ := F.ex
    exact fun s u v => .of_eq rfl
abbrev sI22 : Stmt := inClass (top 23) 0
theorem scI22 : FnScope ["self", "body"] ["self", "body"] (defScope sI22) := ⟨rfl, rfl, rfl, by decide +kernel, rfl, by decide +kernel, by decide +kernel⟩
theorem ini22 {c f : Addr} {fd : FuncData} (F : Fun K "__init__" "Hopeless.__init__" sI22 f fd) (L : Cl K c "body") : FnOk P w K mg base CX0 1 f fd ["self", "body"] (spIni c "body") := by
  refine F.ok scI22 (fun vs H Q E h => ?_) (fun cdv A outer s H vs Q E hr h => ?_)
  · obtain ⟨a, v, rfl, _⟩ := h
    rfl
  · obtain ⟨a, v, rfl, ha, k⟩ := h
    exact ⟨_, pss_one (ps_ost (pv 0) (pv 1)), _, rfl, _, rfl, a, c, rfl, L.T, L.no, .inl ⟨ha, fun dx h1 h2 => k dx h1 h2⟩⟩
theorem mk22 {c f : Addr} {fd : FuncData} (F : Fun K "__init__" "Hopeless.__init__" sI22 f fd) (L : Cl K c "body") (iC : PySem.W.findIn K (.ref c) "__init__" = some (some (.ref f))) (tI : PySem.W.typeIn K (.ref f) = some (.type "function")) : Mk P w K mg base c "body" := by
  refine ⟨L, f, fd, ["self", "body"], iC, tI, ini22 F L, rfl, ?_, ?_⟩
  · obtain ⟨_, _, _, _, _, _, _, _, _, rfl, _, _⟩ := F.ex
    exact fun s u v => .of_eq rfl
  · obtain ⟨_, _, _, _, _, _, _, _, _, rfl, _, _⟩ := F.ex
    exact fun s u v => .of_eq rfl
abbrev sI23 : Stmt := inClass (top 25) 0
theorem scI23 : FnScope ["self", "line"] ["self", "line"] (defScope sI23) := ⟨rfl, rfl, rfl, by decide +kernel, rfl, by decide +kernel, by decide +kernel⟩
theorem ini23 {c f : Addr} {fd : FuncData} (F : Fun K "__init__" "BadText.__init__" sI23 f fd) (L : Cl K c "line") : FnOk P w K mg base CX0 1 f fd ["self", "line"] (spIni c "line") := by
  refine F.ok scI23 (fun vs H Q E h => ?_) (fun cdv A outer s H vs Q E hr h => ?_)
  · obtain ⟨a, v, rfl, _⟩ := h
    rfl
  · obtain ⟨a, v, rfl, ha, k⟩ := h
    exact ⟨_, pss_one (ps_ost (pv 0) (pv 1)), _, rfl, _, rfl, a, c, rfl, L.T, L.no, .inl ⟨ha, fun dx h1 h2 => k dx h1 h2⟩⟩
theorem mk23 {c f : Addr} {fd : FuncData} (F : Fun K "__init__" "BadText.__init__" sI23 f fd) (L : Cl K c "line") (iC : PySem.W.findIn K (.ref c) "__init__" = some (some (.ref f))) (tI : PySem.W.typeIn K (.ref f) = some (.type "function")) : Mk P w K mg base c "line" := by
  refine ⟨L, f, fd, ["self", "line"], iC, tI, ini23 F L, rfl, ?_, ?_⟩
  · obtain ⟨_, _, _, _, _, _, _, _, _, rfl, _, _⟩ := F.ex
    exact fun s u v => .of_eq rfl
  · obtain ⟨_, _, _, _, _, _, _, _, _, rfl, _, _⟩ := F.ex
    exact fun s u v => .of_eq rfl
abbrev sI24 : Stmt := inClass (top 26) 0
theorem scI24 : FnScope ["self", "command"] ["self", "command"] (defScope sI24) := ⟨rfl, rfl, rfl, by decide +kernel, rfl, by decide +kernel, by decide +kernel⟩
theorem ini24 {c f : Addr} {fd : FuncData} (F : Fun K "__init__" "BadCommand.__init__" sI24 f fd) (L : Cl K c "command") : FnOk P w K mg base CX0 1 f fd ["self", "command"] (spIni c "command") := by
  refine F.ok scI24 (fun vs H Q E h => ?_) (fun cdv A outer s H vs Q E hr h => ?_)
  · obtain ⟨a, v, rfl, _⟩ := h
    rfl
  · obtain ⟨a, v, rfl, ha, k⟩ := h
    exact ⟨_, pss_one (ps_ost (pv 0) (pv 1)), _, rfl, _, rfl, a, c, rfl, L.T, L.no, .inl ⟨ha, fun dx h1 h2 => k dx h1 h2⟩⟩
theorem mk24 {c f : Addr} {fd : FuncData} (F : Fun K "__init__" "BadCommand.__init__" sI24 f fd) (L : Cl K c "command") (iC : PySem.W.findIn K (.ref c) "__init__" = some (some (.ref f))) (tI : PySem.W.typeIn K (.ref f) = some (.type "function")) : Mk P w K mg base c "command" := by
  refine ⟨L, f, fd, ["self", "command"], iC, tI, ini24 F L, rfl, ?_, ?_⟩
  · obtain ⟨_, _, _, _, _, _, _, _, _, rfl, _, _⟩ := F.ex
    exact fun s u v => .of_eq rfl
  · obtain ⟨_, _, _, _, _, _, _, _, _, rfl, _, _⟩ := F.ex
    exact fun s u v => .of_eq rfl
end
end S


set_option Elab.async false
set_option linter.all false
set_option maxRecDepth 100000
set_option maxHeartbeats 4000000
namespace S
open PySem L2 G
theorem cat_new {i : Nat} {σ : L2.St} {H : Hp} {p : Addr} {xs ys : List V} {ta : TA} {Q : VK} (hv : σ[i]? = some (some (.ref p))) (hp : H p = some (.lst xs)) (ha : Evl.EvA ta σ H ys) (h2 : ys.length ≤ 1000) (hl : xs.length + ys.length ≤ 1000)
    (k : ∀ q H', Same H H' → H' q = some (.lst (xs ++ ys)) → Q (.ref q) H') : tOp rCat (tVar i) (tLst ta) σ H Q := by
  refine ⟨_, hv, ha H (Evl.Ex.refl H) _ fun H2 ex => ⟨Nat.le_trans h2 (by decide), fun l hl' => ⟨p, l, xs, ys, rfl, rfl, ?_, upd_same, Nat.le_trans hl (by decide), fun q hq => k q _ ?_ upd_same⟩⟩⟩
  · rw [upd_ne (ne_of_none (ex _ _ hp) hl')]
    exact ex _ _ hp
  · exact (ex.trans (Evl.Ex.new hl')).trans (Evl.Ex.new hq)
theorem lst_new {σ : L2.St} {H : Hp} {ys : List V} {ta : TA} {Q : VK} (ha : Evl.EvA ta σ H ys) (h2 : ys.length ≤ 1000) (k : ∀ q H', Same H H' → H' q = some (.lst ys) → Q (.ref q) H') : tLst ta σ H Q := by
  refine ha H (Evl.Ex.refl H) _ fun H2 ex => ⟨Nat.le_trans h2 (by decide), fun l hl => k l _ (Same.trans ex (Same.new hl)) upd_same⟩
theorem seq_set {te : TE} {i : Nat} {t2 : TS} {D : Ends} {σ : L2.St} {H : Hp} (h : te σ H fun v H1 => t2 D (σ.set i (some v)) H1) : tSeq (tAsg te (gName i)) t2 D σ H := h
theorem seq_last {te : TE} {i : Nat} {D : Ends} {σ : L2.St} {H : Hp} (h : te σ H fun v H1 => D.nx (σ.set i (some v)) H1) : tAsg te (gName i) D σ H := h
theorem ret_of {te : TE} {D : Ends} {σ : L2.St} {H : Hp} (h : te σ H D.rt) : tRet te D σ H := h
/-- the answers of the kinds -/
def kindsOf (i : Nat) : List V := (List.range 25).map fun j => V.bl (decide (j = i))
def spKinds (C : Nat → Addr) : Sp := fun vs H Q _ => ∃ (e : Addr) (i : Nat) (v : V), vs = [.ref e] ∧ i < 25 ∧ Er H e (C i) (fl i) v ∧ ∀ p H', Same H H' → H' p = some (.lst (kindsOf i)) → Q (.ref p) H'
section
variable {P : Program} {w : World} {K : PySem.W.Frag} {mg : Str → Option Value} {base : Heap} {C : Nat → Addr} {R : Addr}
theorem ev_isE (T : Txt P w K mg base C R) {σ : L2.St} {H : Hp} {e : Addr} {i j : Nat} {v : V} (hi : i < 25) (hj : j < 25) (hv : σ[0]? = some (some (.ref e))) (hE : Er H e (C i) (fl i) v) :
    Evl.Ev (tCB (rIsEr K) (tCons (tVar 0) (tCons (tC (.ref (C j))) tNil))) σ H (.bl (decide (j = i))) :=
  Evl.ev_cb (Evl.ea_cons (Evl.ev_var hv) (Evl.ea_cons Evl.ev_c Evl.ea_nil)) fun H1 ex Q q => ⟨e, C i, fl i, v, _, _, _, rfl, hE.mono ex, (T.M i hi).L.F, .own _, T.kit i j hi hj, q H1 (Evl.Ex.refl H1)⟩
theorem scK : FnScope ["error", "found"] ["error"] (defScope sKinds) := ⟨rfl, rfl, rfl, by decide +kernel, rfl, by decide +kernel, by decide +kernel⟩
theorem ok_kinds {f : Addr} {fd : FuncData} (F : Fun K "_law_kinds" "_law_kinds" sKinds f fd) (T : Txt P w K mg base C R) : FnOk P w K mg base CX0 1 f fd ["error"] (spKinds C) := by
  refine F.ok scK (fun vs H Q E h => ?_) (fun cdv A outer s H vs Q E hr h => ?_)
  · obtain ⟨e, i, v, rfl, _⟩ := h
    rfl
  · obtain ⟨e, i, v, rfl, hi, hE, k⟩ := h
    refine ⟨_, (pss_cons (ps_set (i := 1) scK.nd rfl (Or.inl rfl) (pe_lst (pa_cons (pe_callB call_isEr (by rfl) T.isi (by decide +kernel) (pa_cons (pv 0) (pa_cons (pe_glob (v := .ref (C 0)) rfl (T.g 0 (by decide)) rfl) pa_nil))) (pa_cons (pe_callB call_isEr (by rfl) T.isi (by decide +kernel) (pa_cons (pv 0) (pa_cons (pe_glob (v := .ref (C 1)) rfl (T.g 1 (by decide)) rfl) pa_nil))) (pa_cons (pe_callB call_isEr (by rfl) T.isi (by decide +kernel) (pa_cons (pv 0) (pa_cons (pe_glob (v := .ref (C 2)) rfl (T.g 2 (by decide)) rfl) pa_nil))) pa_nil)))))
      (pss_cons (ps_set (i := 1) scK.nd rfl (Or.inl rfl) (pe_op op_cat (pv 1) (pe_lst (pa_cons (pe_callB call_isEr (by rfl) T.isi (by decide +kernel) (pa_cons (pv 0) (pa_cons (pe_glob (v := .ref (C 3)) rfl (T.g 3 (by decide)) rfl) pa_nil))) (pa_cons (pe_callB call_isEr (by rfl) T.isi (by decide +kernel) (pa_cons (pv 0) (pa_cons (pe_glob (v := .ref (C 4)) rfl (T.g 4 (by decide)) rfl) pa_nil))) (pa_cons (pe_callB call_isEr (by rfl) T.isi (by decide +kernel) (pa_cons (pv 0) (pa_cons (pe_glob (v := .ref (C 5)) rfl (T.g 5 (by decide)) rfl) pa_nil))) pa_nil))))))
      (pss_cons (ps_set (i := 1) scK.nd rfl (Or.inl rfl) (pe_op op_cat (pv 1) (pe_lst (pa_cons (pe_callB call_isEr (by rfl) T.isi (by decide +kernel) (pa_cons (pv 0) (pa_cons (pe_glob (v := .ref (C 6)) rfl (T.g 6 (by decide)) rfl) pa_nil))) (pa_cons (pe_callB call_isEr (by rfl) T.isi (by decide +kernel) (pa_cons (pv 0) (pa_cons (pe_glob (v := .ref (C 7)) rfl (T.g 7 (by decide)) rfl) pa_nil))) (pa_cons (pe_callB call_isEr (by rfl) T.isi (by decide +kernel) (pa_cons (pv 0) (pa_cons (pe_glob (v := .ref (C 8)) rfl (T.g 8 (by decide)) rfl) pa_nil))) pa_nil))))))
      (pss_cons (ps_set (i := 1) scK.nd rfl (Or.inl rfl) (pe_op op_cat (pv 1) (pe_lst (pa_cons (pe_callB call_isEr (by rfl) T.isi (by decide +kernel) (pa_cons (pv 0) (pa_cons (pe_glob (v := .ref (C 9)) rfl (T.g 9 (by decide)) rfl) pa_nil))) (pa_cons (pe_callB call_isEr (by rfl) T.isi (by decide +kernel) (pa_cons (pv 0) (pa_cons (pe_glob (v := .ref (C 10)) rfl (T.g 10 (by decide)) rfl) pa_nil))) (pa_cons (pe_callB call_isEr (by rfl) T.isi (by decide +kernel) (pa_cons (pv 0) (pa_cons (pe_glob (v := .ref (C 11)) rfl (T.g 11 (by decide)) rfl) pa_nil))) pa_nil))))))
      (pss_cons (ps_set (i := 1) scK.nd rfl (Or.inl rfl) (pe_op op_cat (pv 1) (pe_lst (pa_cons (pe_callB call_isEr (by rfl) T.isi (by decide +kernel) (pa_cons (pv 0) (pa_cons (pe_glob (v := .ref (C 12)) rfl (T.g 12 (by decide)) rfl) pa_nil))) (pa_cons (pe_callB call_isEr (by rfl) T.isi (by decide +kernel) (pa_cons (pv 0) (pa_cons (pe_glob (v := .ref (C 13)) rfl (T.g 13 (by decide)) rfl) pa_nil))) (pa_cons (pe_callB call_isEr (by rfl) T.isi (by decide +kernel) (pa_cons (pv 0) (pa_cons (pe_glob (v := .ref (C 14)) rfl (T.g 14 (by decide)) rfl) pa_nil))) pa_nil))))))
      (pss_cons (ps_set (i := 1) scK.nd rfl (Or.inl rfl) (pe_op op_cat (pv 1) (pe_lst (pa_cons (pe_callB call_isEr (by rfl) T.isi (by decide +kernel) (pa_cons (pv 0) (pa_cons (pe_glob (v := .ref (C 15)) rfl (T.g 15 (by decide)) rfl) pa_nil))) (pa_cons (pe_callB call_isEr (by rfl) T.isi (by decide +kernel) (pa_cons (pv 0) (pa_cons (pe_glob (v := .ref (C 16)) rfl (T.g 16 (by decide)) rfl) pa_nil))) (pa_cons (pe_callB call_isEr (by rfl) T.isi (by decide +kernel) (pa_cons (pv 0) (pa_cons (pe_glob (v := .ref (C 17)) rfl (T.g 17 (by decide)) rfl) pa_nil))) pa_nil))))))
      (pss_cons (ps_set (i := 1) scK.nd rfl (Or.inl rfl) (pe_op op_cat (pv 1) (pe_lst (pa_cons (pe_callB call_isEr (by rfl) T.isi (by decide +kernel) (pa_cons (pv 0) (pa_cons (pe_glob (v := .ref (C 18)) rfl (T.g 18 (by decide)) rfl) pa_nil))) (pa_cons (pe_callB call_isEr (by rfl) T.isi (by decide +kernel) (pa_cons (pv 0) (pa_cons (pe_glob (v := .ref (C 19)) rfl (T.g 19 (by decide)) rfl) pa_nil))) (pa_cons (pe_callB call_isEr (by rfl) T.isi (by decide +kernel) (pa_cons (pv 0) (pa_cons (pe_glob (v := .ref (C 20)) rfl (T.g 20 (by decide)) rfl) pa_nil))) pa_nil))))))
      (pss_cons (ps_set (i := 1) scK.nd rfl (Or.inl rfl) (pe_op op_cat (pv 1) (pe_lst (pa_cons (pe_callB call_isEr (by rfl) T.isi (by decide +kernel) (pa_cons (pv 0) (pa_cons (pe_glob (v := .ref (C 21)) rfl (T.g 21 (by decide)) rfl) pa_nil))) (pa_cons (pe_callB call_isEr (by rfl) T.isi (by decide +kernel) (pa_cons (pv 0) (pa_cons (pe_glob (v := .ref (C 22)) rfl (T.g 22 (by decide)) rfl) pa_nil))) (pa_cons (pe_callB call_isEr (by rfl) T.isi (by decide +kernel) (pa_cons (pv 0) (pa_cons (pe_glob (v := .ref (C 23)) rfl (T.g 23 (by decide)) rfl) pa_nil))) pa_nil))))))
      (pss_one (ps_ret (pe_op op_cat (pv 1) (pe_lst (pa_cons (pe_callB call_isEr (by rfl) T.isi (by decide +kernel) (pa_cons (pv 0) (pa_cons (pe_glob (v := .ref (C 24)) rfl (T.g 24 (by decide)) rfl) pa_nil))) pa_nil))))))))))))), ?_⟩
    have go : ∀ (Hn : Hp), Same H Hn → Er Hn e (C i) (fl i) v := fun Hn s => hE.mono s
    refine seq_set (lst_new (Evl.ea_cons (ev_isE T (σ := [some (V.ref e), none]) hi (j := 0) (by decide) rfl hE) (Evl.ea_cons (ev_isE T (σ := [some (V.ref e), none]) hi (j := 1) (by decide) rfl hE) (Evl.ea_cons (ev_isE T (σ := [some (V.ref e), none]) hi (j := 2) (by decide) rfl hE) Evl.ea_nil))) (by simp) fun p1 G1 t1 h1 => ?_)
    replace hE := go _ t1
    refine seq_set (cat_new rfl h1 (Evl.ea_cons (ev_isE T (σ := [some (V.ref e), some (V.ref p1)]) hi (j := 3) (by decide) rfl hE) (Evl.ea_cons (ev_isE T (σ := [some (V.ref e), some (V.ref p1)]) hi (j := 4) (by decide) rfl hE) (Evl.ea_cons (ev_isE T (σ := [some (V.ref e), some (V.ref p1)]) hi (j := 5) (by decide) rfl hE) Evl.ea_nil))) (by simp) (by simp) fun p2 G2 u2 h2 => ?_)
    have t2 := Same.trans t1 u2
    replace hE := go _ t2
    refine seq_set (cat_new rfl h2 (Evl.ea_cons (ev_isE T (σ := [some (V.ref e), some (V.ref p2)]) hi (j := 6) (by decide) rfl hE) (Evl.ea_cons (ev_isE T (σ := [some (V.ref e), some (V.ref p2)]) hi (j := 7) (by decide) rfl hE) (Evl.ea_cons (ev_isE T (σ := [some (V.ref e), some (V.ref p2)]) hi (j := 8) (by decide) rfl hE) Evl.ea_nil))) (by simp) (by simp) fun p3 G3 u3 h3 => ?_)
    have t3 := Same.trans t2 u3
    replace hE := go _ t3
    refine seq_set (cat_new rfl h3 (Evl.ea_cons (ev_isE T (σ := [some (V.ref e), some (V.ref p3)]) hi (j := 9) (by decide) rfl hE) (Evl.ea_cons (ev_isE T (σ := [some (V.ref e), some (V.ref p3)]) hi (j := 10) (by decide) rfl hE) (Evl.ea_cons (ev_isE T (σ := [some (V.ref e), some (V.ref p3)]) hi (j := 11) (by decide) rfl hE) Evl.ea_nil))) (by simp) (by simp) fun p4 G4 u4 h4 => ?_)
    have t4 := Same.trans t3 u4
    replace hE := go _ t4
    refine seq_set (cat_new rfl h4 (Evl.ea_cons (ev_isE T (σ := [some (V.ref e), some (V.ref p4)]) hi (j := 12) (by decide) rfl hE) (Evl.ea_cons (ev_isE T (σ := [some (V.ref e), some (V.ref p4)]) hi (j := 13) (by decide) rfl hE) (Evl.ea_cons (ev_isE T (σ := [some (V.ref e), some (V.ref p4)]) hi (j := 14) (by decide) rfl hE) Evl.ea_nil))) (by simp) (by simp) fun p5 G5 u5 h5 => ?_)
    have t5 := Same.trans t4 u5
    replace hE := go _ t5
    refine seq_set (cat_new rfl h5 (Evl.ea_cons (ev_isE T (σ := [some (V.ref e), some (V.ref p5)]) hi (j := 15) (by decide) rfl hE) (Evl.ea_cons (ev_isE T (σ := [some (V.ref e), some (V.ref p5)]) hi (j := 16) (by decide) rfl hE) (Evl.ea_cons (ev_isE T (σ := [some (V.ref e), some (V.ref p5)]) hi (j := 17) (by decide) rfl hE) Evl.ea_nil))) (by simp) (by simp) fun p6 G6 u6 h6 => ?_)
    have t6 := Same.trans t5 u6
    replace hE := go _ t6
    refine seq_set (cat_new rfl h6 (Evl.ea_cons (ev_isE T (σ := [some (V.ref e), some (V.ref p6)]) hi (j := 18) (by decide) rfl hE) (Evl.ea_cons (ev_isE T (σ := [some (V.ref e), some (V.ref p6)]) hi (j := 19) (by decide) rfl hE) (Evl.ea_cons (ev_isE T (σ := [some (V.ref e), some (V.ref p6)]) hi (j := 20) (by decide) rfl hE) Evl.ea_nil))) (by simp) (by simp) fun p7 G7 u7 h7 => ?_)
    have t7 := Same.trans t6 u7
    replace hE := go _ t7
    refine seq_set (cat_new rfl h7 (Evl.ea_cons (ev_isE T (σ := [some (V.ref e), some (V.ref p7)]) hi (j := 21) (by decide) rfl hE) (Evl.ea_cons (ev_isE T (σ := [some (V.ref e), some (V.ref p7)]) hi (j := 22) (by decide) rfl hE) (Evl.ea_cons (ev_isE T (σ := [some (V.ref e), some (V.ref p7)]) hi (j := 23) (by decide) rfl hE) Evl.ea_nil))) (by simp) (by simp) fun p8 G8 u8 h8 => ?_)
    have t8 := Same.trans t7 u8
    replace hE := go _ t8
    refine ret_of (cat_new rfl h8 (Evl.ea_cons (ev_isE T (σ := [some (V.ref e), some (V.ref p8)]) hi (j := 24) (by decide) rfl hE) Evl.ea_nil) (by simp) (by simp) fun p9 G9 u9 h9 => ?_)
    exact k _ _ (Same.trans t8 u9) h9
end
end S


set_option Elab.async false
set_option linter.all false
set_option maxRecDepth 100000
set_option maxHeartbeats 4000000
namespace S
open PySem L2 G
/-- what a field holds: this value, or a new tuple of these -/
inductive VS where
  | is (v : V) | tup (xs : List V)
def VS.At (H : Hp) (v : V) : VS → Prop
  | .is u => v = u
  | .tup xs => ∃ t, v = .ref t ∧ H t = some (.tup xs)
theorem VS.mono {H H' : Hp} {v : V} (s : Same H H') : ∀ {x : VS}, x.At H v → x.At H' v
  | .is _, h => h
  | .tup _, ⟨t, a, b⟩ => ⟨t, a, s _ _ b⟩
abbrev Spec := List (Addr × Str × VS)
/-- errors, each of its class with its field -/
inductive Ers (H : Hp) : List V → Spec → Prop
  | nil : Ers H [] []
  | cons {e C : Addr} {f : Str} {v : V} {x : VS} {es : List V} {sp : Spec} : Er H e C f v → x.At H v → Ers H es sp → Ers H (.ref e :: es) ((C, f, x) :: sp)
theorem Ers.mono {H H' : Hp} (s : Same H H') : ∀ {es : List V} {sp : Spec}, Ers H es sp → Ers H' es sp
  | _, _, .nil => .nil
  | _, _, .cons a b c => .cons (a.mono s) (VS.mono s b) (c.mono s)
theorem Ers.app {H : Hp} : ∀ {es fs : List V} {sp sq : Spec}, Ers H es sp → Ers H fs sq → Ers H (es ++ fs) (sp ++ sq)
  | _, _, _, _, .nil, h => h
  | _, _, _, _, .cons a b c, h => .cons a b (c.app h)
theorem Ers.len {H : Hp} : ∀ {es : List V} {sp : Spec}, Ers H es sp → es.length = sp.length
  | _, _, .nil => rfl
  | _, _, .cons _ _ c => congrArg Nat.succ c.len
theorem Ers.get {H : Hp} : ∀ {es : List V} {sp : Spec} {i : Nat} {y : V}, Ers H es sp → es[i]? = some y → ∃ (e C : Addr) (f : Str) (x : VS) (v : V), y = .ref e ∧ sp[i]? = some (C, f, x) ∧ Er H e C f v ∧ x.At H v
  | _, _, 0, _, .cons a b _, h => ⟨_, _, _, _, _, (Option.some.inj h).symm, rfl, a, b⟩
  | _, _, i + 1, _, .cons _ _ c, h => by
    obtain ⟨e, C, f, x, v, a, b, c, d⟩ := Ers.get (i := i) c h
    exact ⟨e, C, f, x, v, a, b, c, d⟩
def Mks (ta : TA) (σ : L2.St) (H : Hp) (sp : Spec) : Prop := ∀ H1, Same H H1 → ∀ Q : List V → Hp → Prop, (∀ es H2, Same H1 H2 → Ers H2 es sp → Q es H2) → ta σ H1 Q
theorem mks_nil {σ : L2.St} {H : Hp} : Mks tNil σ H [] := fun H1 _ Q q => q [] H1 (Same.refl H1) .nil
theorem mks_is {σ : L2.St} {H : Hp} {te : TE} {tr : TA} {C : Addr} {f : Str} {v : V} {sp : Spec} (hv : Evl.Ev te σ H v) (hr : Mks tr σ H sp) : Mks (tCons (tMkE C f (tCons te tNil)) tr) σ H ((C, f, .is v) :: sp) := by
  refine fun H1 s1 Q q => hv H1 s1 _ fun H2 s2 => ⟨v, rfl, fun e H3 _ s3 hE => hr H3 ((s1.trans s2).trans s3) _ fun es H4 s4 hs => q _ H4 ((Same.trans s2 s3).trans s4) (.cons (hE.mono s4) rfl hs)⟩
theorem mks_tup {σ : L2.St} {H : Hp} {ta tr : TA} {C : Addr} {f : Str} {xs : List V} {sp : Spec} (hv : Evl.EvA ta σ H xs) (hl : xs.length ≤ 1000) (hr : Mks tr σ H sp) : Mks (tCons (tMkE C f (tCons (tTup ta) tNil)) tr) σ H ((C, f, .tup xs) :: sp) := by
  refine fun H1 s1 Q q => hv H1 s1 _ fun H2 s2 => ⟨Nat.le_trans hl (by decide), fun t nt => ⟨.ref t, rfl, fun e H3 _ s3 hE => hr H3 (((s1.trans s2).trans (Same.new nt)).trans s3) _ fun es H4 s4 hs => ?_⟩⟩
  exact q _ H4 (((Same.trans s2 (Same.new nt)).trans s3).trans s4) (.cons (hE.mono s4) ⟨t, rfl, s4 _ _ (s3 _ _ upd_same)⟩ hs)
theorem mk_new {σ : L2.St} {H : Hp} {ta : TA} {sp : Spec} {Q : VK} (hm : Mks ta σ H sp) (hl : sp.length ≤ 1000) (k : ∀ p es H', Same H H' → H' p = some (.lst es) → Ers H' es sp → Q (.ref p) H') : tLst ta σ H Q := by
  refine hm H (Same.refl H) _ fun es H2 s2 hs => ⟨Nat.le_trans (hs.len ▸ hl) (by decide), fun p np => k p es _ (s2.trans (Same.new np)) upd_same (hs.mono (Same.new np))⟩
theorem mk_cat {i : Nat} {σ : L2.St} {H : Hp} {p : Addr} {ta : TA} {es : List V} {sp sq : Spec} {Q : VK} (hv : σ[i]? = some (some (.ref p))) (hp : H p = some (.lst es)) (he : Ers H es sp) (hm : Mks ta σ H sq) (hl : sp.length + sq.length ≤ 1000)
    (k : ∀ q fs H', Same H H' → H' q = some (.lst fs) → Ers H' fs (sp ++ sq) → Q (.ref q) H') : tOp rCat (tVar i) (tLst ta) σ H Q := by
  refine ⟨_, hv, hm H (Same.refl H) _ fun fs H2 s2 hs => ⟨Nat.le_trans (by rw [hs.len]; omega : fs.length ≤ 1000) (by decide), fun l nl => ?_⟩⟩
  refine ⟨p, l, es, fs, rfl, rfl, Same.new nl _ _ (s2 _ _ hp), upd_same, Nat.le_trans (by rw [he.len, hs.len]; exact hl) (by decide), fun q nq => ?_⟩
  have s3 : Same H (upd (upd H2 l (.lst fs)) q (.lst (es ++ fs))) := (s2.trans (Same.new nl)).trans (Same.new nq)
  exact k q _ _ s3 upd_same ((he.mono s3).app (hs.mono ((Same.new nl).trans (Same.new nq))))
def spec (C : Nat → Addr) (a : V) (s : Str) (n : Int) : Spec := [(C 0, fl 0, .is a), (C 1, fl 1, .is a), (C 2, fl 2, .is a), (C 3, fl 3, .is a), (C 4, fl 4, .is a), (C 5, fl 5, .is a), (C 6, fl 6, .is a), (C 7, fl 7, .is a), (C 8, fl 8, .is a), (C 9, fl 9, .tup [a, .str s, .str s]), (C 10, fl 10, .is a), (C 11, fl 11, .is a), (C 12, fl 12, .is (.str s)), (C 13, fl 13, .is a), (C 14, fl 14, .is (.str s)), (C 15, fl 15, .is (.int n)), (C 16, fl 16, .is (.int n)), (C 17, fl 17, .is (.int n)), (C 18, fl 18, .is (.int n)), (C 19, fl 19, .is (.int n)), (C 20, fl 20, .is (.int n)), (C 21, fl 21, .is (.int n)), (C 22, fl 22, .is (.int n)), (C 23, fl 23, .is (.int n)), (C 24, fl 24, .is a)]
/-- both makers: the errors with these values -/
def spMade (C : Nat → Addr) : Sp := fun vs H Q _ => ∃ (a : V) (s : Str) (n : Int), vs = [a, .str s, .int n] ∧ ∀ p es H', Same H H' → H' p = some (.lst es) → Ers H' es (spec C a s n) → Q (.ref p) H'
section
variable {P : Program} {w : World} {K : PySem.W.Frag} {mg : Str → Option Value} {base : Heap} {C : Nat → Addr} {R : Addr}
theorem scM : FnScope ["thing", "word", "many", "found"] ["thing", "word", "many"] (defScope sPlace) := ⟨rfl, rfl, rfl, by decide +kernel, rfl, by decide +kernel, by decide +kernel⟩
theorem scN : FnScope ["thing", "word", "many", "found"] ["thing", "word", "many"] (defScope sName) := ⟨rfl, rfl, rfl, by decide +kernel, rfl, by decide +kernel, by decide +kernel⟩
theorem ok_law_by_place {f : Addr} {fd : FuncData} (F : Fun K "_law_by_place" "_law_by_place" sPlace f fd) (T : Txt P w K mg base C R) : FnOk P w K mg base CX0 3 f fd ["thing", "word", "many"] (spMade C) := by
  refine F.ok scM (fun vs H Q E h => ?_) (fun cdv A outer s H vs Q E hr h => ?_)
  · obtain ⟨a, s, n, rfl, _⟩ := h
    rfl
  · obtain ⟨a, s', n, rfl, k⟩ := h
    refine ⟨_, (pss_cons (ps_set (i := 3) scM.nd rfl (Or.inl rfl) (pe_lst (pa_cons (pe_mkE (T.M 0 (by decide)) hr rfl (T.g 0 (by decide)) (pa_cons (pv 0) pa_nil)) (pa_cons (pe_mkE (T.M 1 (by decide)) hr rfl (T.g 1 (by decide)) (pa_cons (pv 0) pa_nil)) (pa_cons (pe_mkE (T.M 2 (by decide)) hr rfl (T.g 2 (by decide)) (pa_cons (pv 0) pa_nil)) (pa_cons (pe_mkE (T.M 3 (by decide)) hr rfl (T.g 3 (by decide)) (pa_cons (pv 0) pa_nil)) (pa_cons (pe_mkE (T.M 4 (by decide)) hr rfl (T.g 4 (by decide)) (pa_cons (pv 0) pa_nil)) (pa_cons (pe_mkE (T.M 5 (by decide)) hr rfl (T.g 5 (by decide)) (pa_cons (pv 0) pa_nil)) pa_nil))))))))
      (pss_cons (ps_set (i := 3) scM.nd rfl (Or.inl rfl) (pe_op op_cat (pv 3) (pe_lst (pa_cons (pe_mkE (T.M 6 (by decide)) hr rfl (T.g 6 (by decide)) (pa_cons (pv 0) pa_nil)) (pa_cons (pe_mkE (T.M 7 (by decide)) hr rfl (T.g 7 (by decide)) (pa_cons (pv 0) pa_nil)) (pa_cons (pe_mkE (T.M 8 (by decide)) hr rfl (T.g 8 (by decide)) (pa_cons (pv 0) pa_nil)) (pa_cons (pe_mkE (T.M 9 (by decide)) hr rfl (T.g 9 (by decide)) (pa_cons (pe_tup (pa_cons (pv 0) (pa_cons (pv 1) (pa_cons (pv 1) pa_nil)))) pa_nil)) pa_nil)))))))
      (pss_cons (ps_set (i := 3) scM.nd rfl (Or.inl rfl) (pe_op op_cat (pv 3) (pe_lst (pa_cons (pe_mkE (T.M 10 (by decide)) hr rfl (T.g 10 (by decide)) (pa_cons (pv 0) pa_nil)) (pa_cons (pe_mkE (T.M 11 (by decide)) hr rfl (T.g 11 (by decide)) (pa_cons (pv 0) pa_nil)) (pa_cons (pe_mkE (T.M 12 (by decide)) hr rfl (T.g 12 (by decide)) (pa_cons (pv 1) pa_nil)) (pa_cons (pe_mkE (T.M 13 (by decide)) hr rfl (T.g 13 (by decide)) (pa_cons (pv 0) pa_nil)) (pa_cons (pe_mkE (T.M 14 (by decide)) hr rfl (T.g 14 (by decide)) (pa_cons (pv 1) pa_nil)) pa_nil))))))))
      (pss_cons (ps_set (i := 3) scM.nd rfl (Or.inl rfl) (pe_op op_cat (pv 3) (pe_lst (pa_cons (pe_mkE (T.M 15 (by decide)) hr rfl (T.g 15 (by decide)) (pa_cons (pv 2) pa_nil)) (pa_cons (pe_mkE (T.M 16 (by decide)) hr rfl (T.g 16 (by decide)) (pa_cons (pv 2) pa_nil)) (pa_cons (pe_mkE (T.M 17 (by decide)) hr rfl (T.g 17 (by decide)) (pa_cons (pv 2) pa_nil)) (pa_cons (pe_mkE (T.M 18 (by decide)) hr rfl (T.g 18 (by decide)) (pa_cons (pv 2) pa_nil)) (pa_cons (pe_mkE (T.M 19 (by decide)) hr rfl (T.g 19 (by decide)) (pa_cons (pv 2) pa_nil)) (pa_cons (pe_mkE (T.M 20 (by decide)) hr rfl (T.g 20 (by decide)) (pa_cons (pv 2) pa_nil)) pa_nil)))))))))
      (pss_one (ps_ret (pe_op op_cat (pv 3) (pe_lst (pa_cons (pe_mkE (T.M 21 (by decide)) hr rfl (T.g 21 (by decide)) (pa_cons (pv 2) pa_nil)) (pa_cons (pe_mkE (T.M 22 (by decide)) hr rfl (T.g 22 (by decide)) (pa_cons (pv 2) pa_nil)) (pa_cons (pe_mkE (T.M 23 (by decide)) hr rfl (T.g 23 (by decide)) (pa_cons (pv 2) pa_nil)) (pa_cons (pe_mkE (T.M 24 (by decide)) hr rfl (T.g 24 (by decide)) (pa_cons (pv 0) pa_nil)) pa_nil)))))))))))), ?_⟩
    refine seq_set (mk_new (mks_is (Evl.ev_var (i := 0) (σ := [some a, some (V.str s'), some (V.int n), none]) rfl) (mks_is (Evl.ev_var (i := 0) (σ := [some a, some (V.str s'), some (V.int n), none]) rfl) (mks_is (Evl.ev_var (i := 0) (σ := [some a, some (V.str s'), some (V.int n), none]) rfl) (mks_is (Evl.ev_var (i := 0) (σ := [some a, some (V.str s'), some (V.int n), none]) rfl) (mks_is (Evl.ev_var (i := 0) (σ := [some a, some (V.str s'), some (V.int n), none]) rfl) (mks_is (Evl.ev_var (i := 0) (σ := [some a, some (V.str s'), some (V.int n), none]) rfl) mks_nil)))))) (by simp) fun p1 e1 G1 t1 h1 r1 => ?_)
    refine seq_set (mk_cat rfl h1 r1 (mks_is (Evl.ev_var (i := 0) (σ := [some a, some (V.str s'), some (V.int n), some (V.ref p1)]) rfl) (mks_is (Evl.ev_var (i := 0) (σ := [some a, some (V.str s'), some (V.int n), some (V.ref p1)]) rfl) (mks_is (Evl.ev_var (i := 0) (σ := [some a, some (V.str s'), some (V.int n), some (V.ref p1)]) rfl) (mks_tup (Evl.ea_cons (Evl.ev_var (i := 0) (σ := [some a, some (V.str s'), some (V.int n), some (V.ref p1)]) rfl) (Evl.ea_cons (Evl.ev_var (i := 1) (σ := [some a, some (V.str s'), some (V.int n), some (V.ref p1)]) rfl) (Evl.ea_cons (Evl.ev_var (i := 1) (σ := [some a, some (V.str s'), some (V.int n), some (V.ref p1)]) rfl) Evl.ea_nil))) (by simp) mks_nil)))) (by simp) fun p2 e2 G2 u2 h2 r2 => ?_)
    have t2 := Same.trans t1 u2
    refine seq_set (mk_cat rfl h2 r2 (mks_is (Evl.ev_var (i := 0) (σ := [some a, some (V.str s'), some (V.int n), some (V.ref p2)]) rfl) (mks_is (Evl.ev_var (i := 0) (σ := [some a, some (V.str s'), some (V.int n), some (V.ref p2)]) rfl) (mks_is (Evl.ev_var (i := 1) (σ := [some a, some (V.str s'), some (V.int n), some (V.ref p2)]) rfl) (mks_is (Evl.ev_var (i := 0) (σ := [some a, some (V.str s'), some (V.int n), some (V.ref p2)]) rfl) (mks_is (Evl.ev_var (i := 1) (σ := [some a, some (V.str s'), some (V.int n), some (V.ref p2)]) rfl) mks_nil))))) (by simp) fun p3 e3 G3 u3 h3 r3 => ?_)
    have t3 := Same.trans t2 u3
    refine seq_set (mk_cat rfl h3 r3 (mks_is (Evl.ev_var (i := 2) (σ := [some a, some (V.str s'), some (V.int n), some (V.ref p3)]) rfl) (mks_is (Evl.ev_var (i := 2) (σ := [some a, some (V.str s'), some (V.int n), some (V.ref p3)]) rfl) (mks_is (Evl.ev_var (i := 2) (σ := [some a, some (V.str s'), some (V.int n), some (V.ref p3)]) rfl) (mks_is (Evl.ev_var (i := 2) (σ := [some a, some (V.str s'), some (V.int n), some (V.ref p3)]) rfl) (mks_is (Evl.ev_var (i := 2) (σ := [some a, some (V.str s'), some (V.int n), some (V.ref p3)]) rfl) (mks_is (Evl.ev_var (i := 2) (σ := [some a, some (V.str s'), some (V.int n), some (V.ref p3)]) rfl) mks_nil)))))) (by simp) fun p4 e4 G4 u4 h4 r4 => ?_)
    have t4 := Same.trans t3 u4
    refine ret_of (mk_cat rfl h4 r4 (mks_is (Evl.ev_var (i := 2) (σ := [some a, some (V.str s'), some (V.int n), some (V.ref p4)]) rfl) (mks_is (Evl.ev_var (i := 2) (σ := [some a, some (V.str s'), some (V.int n), some (V.ref p4)]) rfl) (mks_is (Evl.ev_var (i := 2) (σ := [some a, some (V.str s'), some (V.int n), some (V.ref p4)]) rfl) (mks_is (Evl.ev_var (i := 0) (σ := [some a, some (V.str s'), some (V.int n), some (V.ref p4)]) rfl) mks_nil)))) (by simp) fun p5 e5 G5 u5 h5 r5 => ?_)
    exact k _ _ _ (Same.trans t4 u5) h5 r5
theorem ok_law_by_name {f : Addr} {fd : FuncData} (F : Fun K "_law_by_name" "_law_by_name" sName f fd) (T : Txt P w K mg base C R) : FnOk P w K mg base CX0 3 f fd ["thing", "word", "many"] (spMade C) := by
  refine F.ok scN (fun vs H Q E h => ?_) (fun cdv A outer s H vs Q E hr h => ?_)
  · obtain ⟨a, s, n, rfl, _⟩ := h
    rfl
  · obtain ⟨a, s', n, rfl, k⟩ := h
    refine ⟨_, (pss_cons (ps_set (i := 3) scN.nd rfl (Or.inl rfl) (pe_lst (pa_cons (pe_mkEk (T.M 0 (by decide)) hr rfl (T.g 0 (by decide)) (pk_cons (pv 0) pk_nil)) (pa_cons (pe_mkEk (T.M 1 (by decide)) hr rfl (T.g 1 (by decide)) (pk_cons (pv 0) pk_nil)) (pa_cons (pe_mkEk (T.M 2 (by decide)) hr rfl (T.g 2 (by decide)) (pk_cons (pv 0) pk_nil)) (pa_cons (pe_mkEk (T.M 3 (by decide)) hr rfl (T.g 3 (by decide)) (pk_cons (pv 0) pk_nil)) pa_nil))))))
      (pss_cons (ps_set (i := 3) scN.nd rfl (Or.inl rfl) (pe_op op_cat (pv 3) (pe_lst (pa_cons (pe_mkEk (T.M 4 (by decide)) hr rfl (T.g 4 (by decide)) (pk_cons (pv 0) pk_nil)) (pa_cons (pe_mkEk (T.M 5 (by decide)) hr rfl (T.g 5 (by decide)) (pk_cons (pv 0) pk_nil)) (pa_cons (pe_mkEk (T.M 6 (by decide)) hr rfl (T.g 6 (by decide)) (pk_cons (pv 0) pk_nil)) (pa_cons (pe_mkEk (T.M 7 (by decide)) hr rfl (T.g 7 (by decide)) (pk_cons (pv 0) pk_nil)) pa_nil)))))))
      (pss_cons (ps_set (i := 3) scN.nd rfl (Or.inl rfl) (pe_op op_cat (pv 3) (pe_lst (pa_cons (pe_mkEk (T.M 8 (by decide)) hr rfl (T.g 8 (by decide)) (pk_cons (pv 0) pk_nil)) (pa_cons (pe_mkEk (T.M 9 (by decide)) hr rfl (T.g 9 (by decide)) (pk_cons (pe_tup (pa_cons (pv 0) (pa_cons (pv 1) (pa_cons (pv 1) pa_nil)))) pk_nil)) (pa_cons (pe_mkEk (T.M 10 (by decide)) hr rfl (T.g 10 (by decide)) (pk_cons (pv 0) pk_nil)) pa_nil))))))
      (pss_cons (ps_set (i := 3) scN.nd rfl (Or.inl rfl) (pe_op op_cat (pv 3) (pe_lst (pa_cons (pe_mkEk (T.M 11 (by decide)) hr rfl (T.g 11 (by decide)) (pk_cons (pv 0) pk_nil)) (pa_cons (pe_mkEk (T.M 12 (by decide)) hr rfl (T.g 12 (by decide)) (pk_cons (pv 1) pk_nil)) (pa_cons (pe_mkEk (T.M 13 (by decide)) hr rfl (T.g 13 (by decide)) (pk_cons (pv 0) pk_nil)) (pa_cons (pe_mkEk (T.M 14 (by decide)) hr rfl (T.g 14 (by decide)) (pk_cons (pv 1) pk_nil)) pa_nil)))))))
      (pss_cons (ps_set (i := 3) scN.nd rfl (Or.inl rfl) (pe_op op_cat (pv 3) (pe_lst (pa_cons (pe_mkEk (T.M 15 (by decide)) hr rfl (T.g 15 (by decide)) (pk_cons (pv 2) pk_nil)) (pa_cons (pe_mkEk (T.M 16 (by decide)) hr rfl (T.g 16 (by decide)) (pk_cons (pv 2) pk_nil)) (pa_cons (pe_mkEk (T.M 17 (by decide)) hr rfl (T.g 17 (by decide)) (pk_cons (pv 2) pk_nil)) (pa_cons (pe_mkEk (T.M 18 (by decide)) hr rfl (T.g 18 (by decide)) (pk_cons (pv 2) pk_nil)) pa_nil)))))))
      (pss_cons (ps_set (i := 3) scN.nd rfl (Or.inl rfl) (pe_op op_cat (pv 3) (pe_lst (pa_cons (pe_mkEk (T.M 19 (by decide)) hr rfl (T.g 19 (by decide)) (pk_cons (pv 2) pk_nil)) (pa_cons (pe_mkEk (T.M 20 (by decide)) hr rfl (T.g 20 (by decide)) (pk_cons (pv 2) pk_nil)) (pa_cons (pe_mkEk (T.M 21 (by decide)) hr rfl (T.g 21 (by decide)) (pk_cons (pv 2) pk_nil)) (pa_cons (pe_mkEk (T.M 22 (by decide)) hr rfl (T.g 22 (by decide)) (pk_cons (pv 2) pk_nil)) pa_nil)))))))
      (pss_one (ps_ret (pe_op op_cat (pv 3) (pe_lst (pa_cons (pe_mkEk (T.M 23 (by decide)) hr rfl (T.g 23 (by decide)) (pk_cons (pv 2) pk_nil)) (pa_cons (pe_mkEk (T.M 24 (by decide)) hr rfl (T.g 24 (by decide)) (pk_cons (pv 0) pk_nil)) pa_nil)))))))))))), ?_⟩
    refine seq_set (mk_new (mks_is (Evl.ev_var (i := 0) (σ := [some a, some (V.str s'), some (V.int n), none]) rfl) (mks_is (Evl.ev_var (i := 0) (σ := [some a, some (V.str s'), some (V.int n), none]) rfl) (mks_is (Evl.ev_var (i := 0) (σ := [some a, some (V.str s'), some (V.int n), none]) rfl) (mks_is (Evl.ev_var (i := 0) (σ := [some a, some (V.str s'), some (V.int n), none]) rfl) mks_nil)))) (by simp) fun p1 e1 G1 t1 h1 r1 => ?_)
    refine seq_set (mk_cat rfl h1 r1 (mks_is (Evl.ev_var (i := 0) (σ := [some a, some (V.str s'), some (V.int n), some (V.ref p1)]) rfl) (mks_is (Evl.ev_var (i := 0) (σ := [some a, some (V.str s'), some (V.int n), some (V.ref p1)]) rfl) (mks_is (Evl.ev_var (i := 0) (σ := [some a, some (V.str s'), some (V.int n), some (V.ref p1)]) rfl) (mks_is (Evl.ev_var (i := 0) (σ := [some a, some (V.str s'), some (V.int n), some (V.ref p1)]) rfl) mks_nil)))) (by simp) fun p2 e2 G2 u2 h2 r2 => ?_)
    have t2 := Same.trans t1 u2
    refine seq_set (mk_cat rfl h2 r2 (mks_is (Evl.ev_var (i := 0) (σ := [some a, some (V.str s'), some (V.int n), some (V.ref p2)]) rfl) (mks_tup (Evl.ea_cons (Evl.ev_var (i := 0) (σ := [some a, some (V.str s'), some (V.int n), some (V.ref p2)]) rfl) (Evl.ea_cons (Evl.ev_var (i := 1) (σ := [some a, some (V.str s'), some (V.int n), some (V.ref p2)]) rfl) (Evl.ea_cons (Evl.ev_var (i := 1) (σ := [some a, some (V.str s'), some (V.int n), some (V.ref p2)]) rfl) Evl.ea_nil))) (by simp) (mks_is (Evl.ev_var (i := 0) (σ := [some a, some (V.str s'), some (V.int n), some (V.ref p2)]) rfl) mks_nil))) (by simp) fun p3 e3 G3 u3 h3 r3 => ?_)
    have t3 := Same.trans t2 u3
    refine seq_set (mk_cat rfl h3 r3 (mks_is (Evl.ev_var (i := 0) (σ := [some a, some (V.str s'), some (V.int n), some (V.ref p3)]) rfl) (mks_is (Evl.ev_var (i := 1) (σ := [some a, some (V.str s'), some (V.int n), some (V.ref p3)]) rfl) (mks_is (Evl.ev_var (i := 0) (σ := [some a, some (V.str s'), some (V.int n), some (V.ref p3)]) rfl) (mks_is (Evl.ev_var (i := 1) (σ := [some a, some (V.str s'), some (V.int n), some (V.ref p3)]) rfl) mks_nil)))) (by simp) fun p4 e4 G4 u4 h4 r4 => ?_)
    have t4 := Same.trans t3 u4
    refine seq_set (mk_cat rfl h4 r4 (mks_is (Evl.ev_var (i := 2) (σ := [some a, some (V.str s'), some (V.int n), some (V.ref p4)]) rfl) (mks_is (Evl.ev_var (i := 2) (σ := [some a, some (V.str s'), some (V.int n), some (V.ref p4)]) rfl) (mks_is (Evl.ev_var (i := 2) (σ := [some a, some (V.str s'), some (V.int n), some (V.ref p4)]) rfl) (mks_is (Evl.ev_var (i := 2) (σ := [some a, some (V.str s'), some (V.int n), some (V.ref p4)]) rfl) mks_nil)))) (by simp) fun p5 e5 G5 u5 h5 r5 => ?_)
    have t5 := Same.trans t4 u5
    refine seq_set (mk_cat rfl h5 r5 (mks_is (Evl.ev_var (i := 2) (σ := [some a, some (V.str s'), some (V.int n), some (V.ref p5)]) rfl) (mks_is (Evl.ev_var (i := 2) (σ := [some a, some (V.str s'), some (V.int n), some (V.ref p5)]) rfl) (mks_is (Evl.ev_var (i := 2) (σ := [some a, some (V.str s'), some (V.int n), some (V.ref p5)]) rfl) (mks_is (Evl.ev_var (i := 2) (σ := [some a, some (V.str s'), some (V.int n), some (V.ref p5)]) rfl) mks_nil)))) (by simp) fun p6 e6 G6 u6 h6 r6 => ?_)
    have t6 := Same.trans t5 u6
    refine ret_of (mk_cat rfl h6 r6 (mks_is (Evl.ev_var (i := 2) (σ := [some a, some (V.str s'), some (V.int n), some (V.ref p6)]) rfl) (mks_is (Evl.ev_var (i := 0) (σ := [some a, some (V.str s'), some (V.int n), some (V.ref p6)]) rfl) mks_nil)) (by simp) fun p7 e7 G7 u7 h7 r7 => ?_)
    exact k _ _ _ (Same.trans t6 u7) h7 r7
end
end S


set_option Elab.async false
set_option linter.all false
set_option maxRecDepth 100000
set_option maxHeartbeats 4000000
namespace S
open PySem L2 G
/-- values that hold these -/
inductive Vss (H : Hp) : List V → List VS → Prop
  | nil : Vss H [] []
  | cons {v : V} {x : VS} {vs : List V} {xs : List VS} : x.At H v → Vss H vs xs → Vss H (v :: vs) (x :: xs)
theorem Vss.mono {H H' : Hp} (s : Same H H') : ∀ {vs : List V} {xs : List VS}, Vss H vs xs → Vss H' vs xs
  | _, _, .nil => .nil
  | _, _, .cons a b => .cons (VS.mono s a) (b.mono s)
theorem Vss.app {H : Hp} : ∀ {vs ws : List V} {xs ys : List VS}, Vss H vs xs → Vss H ws ys → Vss H (vs ++ ws) (xs ++ ys)
  | _, _, _, _, .nil, h => h
  | _, _, _, _, .cons a b, h => .cons a (b.app h)
theorem Vss.len {H : Hp} : ∀ {vs : List V} {xs : List VS}, Vss H vs xs → vs.length = xs.length
  | _, _, .nil => rfl
  | _, _, .cons _ b => congrArg Nat.succ b.len
theorem Ers.drop {H : Hp} : ∀ (n : Nat) {es : List V} {sp : Spec}, Ers H es sp → Ers H (es.drop n) (sp.drop n)
  | 0, _, _, h => h
  | _ + 1, _, _, .nil => .nil
  | n + 1, _, _, .cons _ _ c => Ers.drop n c
theorem Ers.take {H : Hp} : ∀ (n : Nat) {es : List V} {sp : Spec}, Ers H es sp → Ers H (es.take n) (sp.take n)
  | 0, _, _, _ => .nil
  | _ + 1, _, _, .nil => .nil
  | n + 1, _, _, .cons a b c => .cons a b (Ers.take n c)
def cutS (sp : Spec) (lo hi : Option Int) : Spec := (sp.drop (HT.sIx sp.length 0 lo)).take (HT.sIx sp.length sp.length hi - HT.sIx sp.length 0 lo)
theorem Ers.cut {H : Hp} {es : List V} {sp : Spec} (h : Ers H es sp) (lo hi : Option Int) : Ers H (cutV es lo hi) (cutS sp lo hi) := by
  unfold cutV cutS
  rw [h.len]
  exact (h.drop _).take _
section
variable {P : Program} {w : World} {K : PySem.W.Frag} {mg : Str → Option Value} {base : Heap} {C : Nat → Addr} {R : Addr}
theorem take_one {α : Type} {l : List α} {i : Nat} {x : α} (h : l[i]? = some x) : l.take (i + 1) = l.take i ++ [x] := by
  rw [List.take_succ, h]
  rfl
/-- [error.f for error in errors[lo:hi]] -/
theorem lc_f {σ : L2.St} {H : Hp} {p : Addr} {es : List V} {sp : Spec} {f : Str} {tl th : TO} {lo hi : Option Int} {x : Option V} {Q : VK} (hσ : σ = [some (.ref p), x, none]) (h1 : Evl.EvO tl σ H lo) (h2 : Evl.EvO th σ H hi) (hp : H p = some (.lst es)) (he : Ers H es sp)
    (hc : ∀ t ∈ cutS sp lo hi, t.2.1 = f ∧ Cl K t.1 f) (hl : (cutS sp lo hi).length ≤ 1000) (k : ∀ q vs H', Same H H' → H' q = some (.lst vs) → Vss H' vs ((cutS sp lo hi).map (·.2.2)) → Q (.ref q) H') :
    tLc (iList K (tSl (rSlL K) (tVar 0) tl th)) (gName 2) tYes (tErF K f (tVar 2)) [2] σ H Q := by
  subst hσ
  have hcut := he.cut lo hi
  refine ⟨_, rfl, h1 H (Evl.Ex.refl H) _ fun H1 s1 => h2 H1 s1 _ fun H2 s2 => ⟨p, es, rfl, SqL.of (s2 _ _ (s1 _ _ hp)), fun a na => ⟨a, rfl, ⟨_, SqL.of upd_same⟩, fun D nD => ?_⟩⟩⟩
  have sA : Same H (upd H2 a (.lst (cutV es lo hi))) := (Same.trans s1 s2).trans (Same.new na)
  have hE : Ers (upd H2 a (.lst (cutV es lo hi))) (cutV es lo hi) (cutS sp lo hi) := hcut.mono sA
  have hA : (upd H2 a (.lst (cutV es lo hi))) a = some (.lst (cutV es lo hi)) := upd_same
  generalize upd H2 a (.lst (cutV es lo hi)) = HA at nD sA hE hA ⊢
  refine lc_list (K := K) (a := a) (xs := cutV es lo hi) (fun i G => Same HA G ∧ ∃ acc, G D = some (.lst acc) ∧ Vss G acc (((cutS sp lo hi).map (·.2.2)).take i)) ⟨Same.new nD, [], upd_same, .nil⟩ (fun i G _ ⟨s, _⟩ => SqL.of (s _ _ hA)) ?_ ?_
  · rintro i y G hy ⟨s, acc, hD, hV⟩
    obtain ⟨e, Ce, fe, xe, v, rfl, hsp, hEr, hAt⟩ := hE.get hy
    obtain ⟨rfl, L⟩ := hc _ (List.mem_of_getElem? hsp)
    refine ⟨rfl, _, rfl, e, Ce, v, rfl, hEr.mono s, L, acc, hD, ?_, ?_⟩
    · have z := hV.len
      rw [List.length_take, List.length_map] at z
      exact Nat.lt_of_le_of_lt (by omega : acc.length ≤ 1000) (by decide)
    · have sD : Same HA (upd G D (.lst (acc ++ [v]))) := fun b o q => by
        rw [upd_ne (ne_of_none q nD)]
        exact s b o q
      refine ⟨sD, _, upd_same, ?_⟩
      have e1 : ((cutS sp lo hi).map (·.2.2))[i]? = some xe := by rw [List.getElem?_map, hsp]; rfl
      rw [take_one e1]
      have keepV : ∀ {vs : List V} {xs : List VS}, Vss G vs xs → (∀ t ys, G t = some (.tup ys) → t ≠ D) → Vss (upd G D (.lst (acc ++ [v]))) vs xs := by
        intro vs xs hh hn
        induction hh with
        | nil => exact .nil
        | @cons v' x' _ _ a b ih =>
          refine .cons ?_ ih
          cases x' with
          | is u => exact a
          | tup ys =>
            obtain ⟨t, e2, e3⟩ := a
            exact ⟨t, e2, by rw [upd_ne (hn t ys e3)]; exact e3⟩
      refine (keepV hV fun t ys q z => ?_).app (.cons (VS.mono sD hAt) .nil)
      rw [z, hD] at q
      cases q
  · rintro G ⟨s, acc, hD, hV⟩
    refine k D acc G (sA.trans s) hD ?_
    have z : (cutV es lo hi).length = ((cutS sp lo hi).map (·.2.2)).length := by rw [hE.len, List.length_map]
    rw [z, List.take_length] at hV
    exact hV
/-- errors[i].f -/
theorem ev_at {σ : L2.St} {H : Hp} {p : Addr} {es : List V} {e c : Addr} {f : Str} {v : V} (i : Nat) (hv : σ[0]? = some (some (.ref p))) (hp : H p = some (.lst es)) (hi : es[i]? = some (.ref e)) (hE : Er H e c f v) (L : Cl K c f) :
    Evl.Ev (tErF K f (tOp (rIxL K) (tVar 0) (tC (.int (i : Int))))) σ H v := fun H1 s1 Q q =>
  ⟨_, hv, p, es, _, _, rfl, rfl, SqL.of (s1 _ _ hp), atI_nat hi, e, c, v, rfl, hE.mono s1, L, q H1 (Evl.Ex.refl H1)⟩
def spStored (C : Nat → Addr) : Sp := fun vs H Q _ => ∃ (p : Addr) (es : List V) (a : V) (s : Str) (n : Int), vs = [.ref p] ∧ H p = some (.lst es) ∧ Ers H es (spec C a s n) ∧
  ∀ q ws H', Same H H' → H' q = some (.lst ws) → Vss H' ws ((spec C a s n).map (·.2.2)) → Q (.ref q) H'
theorem Ers.at_ {H : Hp} {es : List V} {sp : Spec} {i : Nat} {c : Addr} {f : Str} {x : VS} (h : Ers H es sp) (hs : sp[i]? = some (c, f, x)) : ∃ e v, es[i]? = some (.ref e) ∧ Er H e c f v ∧ x.At H v := by
  have hi : i < es.length := by rw [h.len]; exact (List.getElem?_eq_some_iff.mp hs).1
  obtain ⟨e, C', f', x', v, e1, e2, e3, e4⟩ := h.get (List.getElem?_eq_getElem hi)
  rw [e2] at hs
  cases hs
  exact ⟨e, v, by rw [List.getElem?_eq_getElem hi, e1], e3, e4⟩
theorem op_of {r : R2} {ta tb : TE} {σ : L2.St} {H : Hp} {Q : VK} (h : ta σ H fun x H1 => tb σ H1 fun y H2 => r x y H2 Q) : tOp r ta tb σ H Q := h
theorem scS : FnScope ["errors", "found", "error"] ["errors"] (defScope sStored) := ⟨rfl, rfl, rfl, by decide +kernel, rfl, by decide +kernel, by decide +kernel⟩
theorem ok_stored {f : Addr} {fd : FuncData} (F : Fun K "_law_stored" "_law_stored" sStored f fd) (T : Txt P w K mg base C R) : FnOk P w K mg base CX0 1 f fd ["errors"] (spStored C) := by
  refine F.ok scS (fun vs H Q E h => ?_) (fun cdv A outer s H vs Q E hr h => ?_)
  · obtain ⟨p, es, a, s, n, rfl, _⟩ := h
    rfl
  · obtain ⟨p, es, a, s', n, rfl, hp, he, k⟩ := h
    refine ⟨_, pss_cons (ps_set (i := 1) scS.nd rfl (Or.inl rfl) (pe_op op_cat (pe_lc (own := [("error", 2)]) (g := gName 2) (tt := tYes) (te := tErF K "value" (tVar 2)) rfl scS.nd (pi_list (pe_slice sl_list (pv 0) po_none (po_some pe_int))) (blkOk_by (N := ["errors", "found", "error"]) (sc := defScope sStored) (by decide +kernel)) (fun _ _ _ _ _ => pg_name (i := 2) scS.nd rfl (Or.inl rfl)) (fun _ _ _ _ _ => pts_nil) (fun _ _ _ _ _ => by exact pe_erF (pv 2))) (pe_lc (own := [("error", 2)]) (g := gName 2) (tt := tYes) (te := tErF K "name" (tVar 2)) rfl scS.nd (pi_list (pe_slice sl_list (pv 0) (po_some pe_int) (po_some pe_int))) (blkOk_by (N := ["errors", "found", "error"]) (sc := defScope sStored) (by decide +kernel)) (fun _ _ _ _ _ => pg_name (i := 2) scS.nd rfl (Or.inl rfl)) (fun _ _ _ _ _ => pts_nil) (fun _ _ _ _ _ => by exact pe_erF (pv 2)))))
      (pss_cons (ps_set (i := 1) scS.nd rfl (Or.inl rfl) (pe_op op_cat (pe_op op_cat (pv 1) (pe_lc (own := [("error", 2)]) (g := gName 2) (tt := tYes) (te := tErF K "position" (tVar 2)) rfl scS.nd (pi_list (pe_slice sl_list (pv 0) (po_some pe_int) (po_some pe_int))) (blkOk_by (N := ["errors", "found", "error"]) (sc := defScope sStored) (by decide +kernel)) (fun _ _ _ _ _ => pg_name (i := 2) scS.nd rfl (Or.inl rfl)) (fun _ _ _ _ _ => pts_nil) (fun _ _ _ _ _ => by exact pe_erF (pv 2)))) (pe_lst (pa_cons (pe_erF (pe_ix ix_list (pv 0) pe_int (fun _ _ => rfl))) (pa_cons (pe_erF (pe_ix ix_list (pv 0) pe_int (fun _ _ => rfl))) (pa_cons (pe_erF (pe_ix ix_list (pv 0) pe_int (fun _ _ => rfl))) pa_nil))))))
      (pss_one (ps_ret (pe_op op_cat (pv 1) (pe_lst (pa_cons (pe_erF (pe_ix ix_list (pv 0) pe_int (fun _ _ => rfl))) (pa_cons (pe_erF (pe_ix ix_list (pv 0) pe_int (fun _ _ => rfl))) (pa_cons (pe_erF (pe_ix ix_list (pv 0) pe_int (fun _ _ => rfl))) (pa_cons (pe_erF (pe_ix ix_list (pv 0) pe_int (fun _ _ => rfl))) (pa_cons (pe_erF (pe_ix ix_list (pv 0) pe_int (fun _ _ => rfl))) pa_nil)))))))))), ?_⟩
    have c1 : cutS (spec C a s' n) none (some 12) = [(C 0, fl 0, (.is a)), (C 1, fl 1, (.is a)), (C 2, fl 2, (.is a)), (C 3, fl 3, (.is a)), (C 4, fl 4, (.is a)), (C 5, fl 5, (.is a)), (C 6, fl 6, (.is a)), (C 7, fl 7, (.is a)), (C 8, fl 8, (.is a)), (C 9, fl 9, (.tup [a, .str s', .str s'])), (C 10, fl 10, (.is a)), (C 11, fl 11, (.is a))] := rfl
    have d1 : ∀ t ∈ cutS (spec C a s' n) none (some 12), t.2.1 = ("value" : Str) ∧ Cl K t.1 "value" := by
      rw [c1]
      exact List.forall_mem_cons.mpr ⟨⟨rfl, (T.M 0 (by decide)).L⟩, List.forall_mem_cons.mpr ⟨⟨rfl, (T.M 1 (by decide)).L⟩, List.forall_mem_cons.mpr ⟨⟨rfl, (T.M 2 (by decide)).L⟩, List.forall_mem_cons.mpr ⟨⟨rfl, (T.M 3 (by decide)).L⟩, List.forall_mem_cons.mpr ⟨⟨rfl, (T.M 4 (by decide)).L⟩, List.forall_mem_cons.mpr ⟨⟨rfl, (T.M 5 (by decide)).L⟩, List.forall_mem_cons.mpr ⟨⟨rfl, (T.M 6 (by decide)).L⟩, List.forall_mem_cons.mpr ⟨⟨rfl, (T.M 7 (by decide)).L⟩, List.forall_mem_cons.mpr ⟨⟨rfl, (T.M 8 (by decide)).L⟩, List.forall_mem_cons.mpr ⟨⟨rfl, (T.M 9 (by decide)).L⟩, List.forall_mem_cons.mpr ⟨⟨rfl, (T.M 10 (by decide)).L⟩, List.forall_mem_cons.mpr ⟨⟨rfl, (T.M 11 (by decide)).L⟩, fun t ht => absurd ht List.not_mem_nil⟩⟩⟩⟩⟩⟩⟩⟩⟩⟩⟩⟩
    have c2 : cutS (spec C a s' n) (some 12) (some 15) = [(C 12, fl 12, (.is (.str s'))), (C 13, fl 13, (.is a)), (C 14, fl 14, (.is (.str s')))] := rfl
    have d2 : ∀ t ∈ cutS (spec C a s' n) (some 12) (some 15), t.2.1 = ("name" : Str) ∧ Cl K t.1 "name" := by
      rw [c2]
      exact List.forall_mem_cons.mpr ⟨⟨rfl, (T.M 12 (by decide)).L⟩, List.forall_mem_cons.mpr ⟨⟨rfl, (T.M 13 (by decide)).L⟩, List.forall_mem_cons.mpr ⟨⟨rfl, (T.M 14 (by decide)).L⟩, fun t ht => absurd ht List.not_mem_nil⟩⟩⟩
    have c3 : cutS (spec C a s' n) (some 15) (some 17) = [(C 15, fl 15, (.is (.int n))), (C 16, fl 16, (.is (.int n)))] := rfl
    have d3 : ∀ t ∈ cutS (spec C a s' n) (some 15) (some 17), t.2.1 = ("position" : Str) ∧ Cl K t.1 "position" := by
      rw [c3]
      exact List.forall_mem_cons.mpr ⟨⟨rfl, (T.M 15 (by decide)).L⟩, List.forall_mem_cons.mpr ⟨⟨rfl, (T.M 16 (by decide)).L⟩, fun t ht => absurd ht List.not_mem_nil⟩⟩
    obtain ⟨x17, v17, g17, E17, A17⟩ := he.at_ (i := 17) (c := C 17) (f := fl 17) (x := (.is (.int n))) rfl
    obtain ⟨x18, v18, g18, E18, A18⟩ := he.at_ (i := 18) (c := C 18) (f := fl 18) (x := (.is (.int n))) rfl
    obtain ⟨x19, v19, g19, E19, A19⟩ := he.at_ (i := 19) (c := C 19) (f := fl 19) (x := (.is (.int n))) rfl
    obtain ⟨x20, v20, g20, E20, A20⟩ := he.at_ (i := 20) (c := C 20) (f := fl 20) (x := (.is (.int n))) rfl
    obtain ⟨x21, v21, g21, E21, A21⟩ := he.at_ (i := 21) (c := C 21) (f := fl 21) (x := (.is (.int n))) rfl
    obtain ⟨x22, v22, g22, E22, A22⟩ := he.at_ (i := 22) (c := C 22) (f := fl 22) (x := (.is (.int n))) rfl
    obtain ⟨x23, v23, g23, E23, A23⟩ := he.at_ (i := 23) (c := C 23) (f := fl 23) (x := (.is (.int n))) rfl
    obtain ⟨x24, v24, g24, E24, A24⟩ := he.at_ (i := 24) (c := C 24) (f := fl 24) (x := (.is a)) rfl
    -- found = [.. .value ..] + [.. .name ..]
    refine seq_set (op_of ?_)
    refine lc_f (p := p) (x := none) (lo := none) (hi := some 12) rfl Evl.eo_none (Evl.eo_some Evl.ev_c) hp he d1 (by rw [c1]; simp) fun q1 w1 H1 s1 h1 V1 => ?_
    refine lc_f (p := p) (x := none) (lo := some 12) (hi := some 15) rfl (Evl.eo_some Evl.ev_c) (Evl.eo_some Evl.ev_c) (s1 _ _ hp) (he.mono s1) d2 (by rw [c2]; simp) fun q2 w2 H2 s2 h2 V2 => ?_
    have l1 : w1.length = 12 := by rw [V1.len, c1]; rfl
    have l2 : w2.length = 3 := by rw [V2.len, c2]; rfl
    refine ⟨q1, q2, w1, w2, rfl, rfl, s2 _ _ h1, h2, Nat.le_trans (by omega : w1.length + w2.length ≤ 1000) (by decide), fun q3 n3 => ?_⟩
    have V3 := ((V1.mono s2).app V2).mono (Same.new (o := .lst (w1 ++ w2)) n3)
    have s3 : Same H (upd H2 q3 (.lst (w1 ++ w2))) := (s1.trans s2).trans (Same.new n3)
    have h3 : (upd H2 q3 (.lst (w1 ++ w2))) q3 = some (.lst (w1 ++ w2)) := upd_same
    generalize upd H2 q3 (.lst (w1 ++ w2)) = H3 at V3 s3 h3 ⊢
    -- found = found + [.. .position ..] + [..]
    refine seq_set (op_of (op_of ⟨_, rfl, ?_⟩))
    refine lc_f (p := p) (x := some (.ref q3)) (lo := some 15) (hi := some 17) rfl (Evl.eo_some Evl.ev_c) (Evl.eo_some Evl.ev_c) (s3 _ _ hp) (he.mono s3) d3 (by rw [c3]; simp) fun q4 w4 H4 s4 h4 V4 => ?_
    have l4 : w4.length = 2 := by rw [V4.len, c3]; rfl
    refine ⟨q3, q4, _, w4, rfl, rfl, s4 _ _ h3, h4, Nat.le_trans (by rw [List.length_append]; omega : (w1 ++ w2).length + w4.length ≤ 1000) (by decide), fun q5 n5 => ?_⟩
    have V5 := ((V3.mono s4).app V4).mono (Same.new (o := .lst (w1 ++ w2 ++ w4)) n5)
    have s5 : Same H (upd H4 q5 (.lst (w1 ++ w2 ++ w4))) := (s3.trans s4).trans (Same.new n5)
    have h5 : (upd H4 q5 (.lst (w1 ++ w2 ++ w4))) q5 = some (.lst (w1 ++ w2 ++ w4)) := upd_same
    generalize upd H4 q5 (.lst (w1 ++ w2 ++ w4)) = H5 at V5 s5 h5 ⊢
    refine lst_new (Evl.ea_cons (ev_at (σ := [some (V.ref p), some (V.ref q3), none]) (f := fl 17) 17 rfl (s5 _ _ hp) g17 (E17.mono s5) (T.M 17 (by decide)).L) (Evl.ea_cons (ev_at (σ := [some (V.ref p), some (V.ref q3), none]) (f := fl 18) 18 rfl (s5 _ _ hp) g18 (E18.mono s5) (T.M 18 (by decide)).L) (Evl.ea_cons (ev_at (σ := [some (V.ref p), some (V.ref q3), none]) (f := fl 19) 19 rfl (s5 _ _ hp) g19 (E19.mono s5) (T.M 19 (by decide)).L) Evl.ea_nil))) (by simp) fun q6 H6 s6 h6 => ?_
    refine ⟨q5, q6, _, _, rfl, rfl, s6 _ _ h5, h6, Nat.le_trans (by simp only [List.length_append, List.length_cons, List.length_nil]; omega : (w1 ++ w2 ++ w4).length + [v17, v18, v19].length ≤ 1000) (by decide), fun q7 n7 => ?_⟩
    have V7 := ((V5.mono s6).app (.cons (VS.mono (s5.trans s6) A17) (.cons (VS.mono (s5.trans s6) A18) (.cons (VS.mono (s5.trans s6) A19) .nil)))).mono (Same.new (o := .lst (w1 ++ w2 ++ w4 ++ [v17, v18, v19])) n7)
    have s7 : Same H (upd H6 q7 (.lst (w1 ++ w2 ++ w4 ++ [v17, v18, v19]))) := (s5.trans s6).trans (Same.new n7)
    have h7 : (upd H6 q7 (.lst (w1 ++ w2 ++ w4 ++ [v17, v18, v19]))) q7 = some (.lst (w1 ++ w2 ++ w4 ++ [v17, v18, v19])) := upd_same
    generalize upd H6 q7 (.lst (w1 ++ w2 ++ w4 ++ [v17, v18, v19])) = H7 at V7 s7 h7 ⊢
    refine ret_of (cat_new rfl h7 (Evl.ea_cons (ev_at (σ := [some (V.ref p), some (V.ref q7), none]) (f := fl 20) 20 rfl (s7 _ _ hp) g20 (E20.mono s7) (T.M 20 (by decide)).L) (Evl.ea_cons (ev_at (σ := [some (V.ref p), some (V.ref q7), none]) (f := fl 21) 21 rfl (s7 _ _ hp) g21 (E21.mono s7) (T.M 21 (by decide)).L) (Evl.ea_cons (ev_at (σ := [some (V.ref p), some (V.ref q7), none]) (f := fl 22) 22 rfl (s7 _ _ hp) g22 (E22.mono s7) (T.M 22 (by decide)).L) (Evl.ea_cons (ev_at (σ := [some (V.ref p), some (V.ref q7), none]) (f := fl 23) 23 rfl (s7 _ _ hp) g23 (E23.mono s7) (T.M 23 (by decide)).L) (Evl.ea_cons (ev_at (σ := [some (V.ref p), some (V.ref q7), none]) (f := fl 24) 24 rfl (s7 _ _ hp) g24 (E24.mono s7) (T.M 24 (by decide)).L) Evl.ea_nil))))) (by simp) (by simp only [List.length_append, List.length_cons, List.length_nil]; omega) fun q8 H8 s8 h8 => ?_)
    have m := s7.trans s8
    have V8 := (V7.mono s8).app (.cons (VS.mono m A20) (.cons (VS.mono m A21) (.cons (VS.mono m A22) (.cons (VS.mono m A23) (.cons (VS.mono m A24) .nil)))))
    rw [c1, c2, c3] at V8
    exact k _ _ _ m h8 V8
end
end S


set_option Elab.async false
set_option linter.all false
set_option maxRecDepth 100000
set_option maxHeartbeats 4000000
namespace S
open PySem L2 G
/-! ### data that is small enough to be shown -/
structure Sm (d : PyData) : Prop where
  sh : d.showable = true
  dp : d.depth ≤ 5
  lv : d.leavesShort 13 = true
  bk : d.bulk ≤ 1000
structure SmA (k : Nat) (ds : List PyData) : Prop where
  sh : PyData.showableAll ds = true
  dp : PyData.depthAll ds ≤ 4
  lv : PyData.leavesShortAll 13 ds = true
  bk : PyData.bulkAll ds ≤ k
theorem SmA.list {k : Nat} {ds : List PyData} (h : SmA k ds) (hk : k ≤ 1000) : Sm (.list ds) :=
  ⟨by simp only [PyData.showable]; exact h.sh, by simp only [PyData.depth]; exact Nat.succ_le_succ h.dp, by simp only [PyData.leavesShort]; exact h.lv, by simp only [PyData.bulk]; exact Nat.le_trans h.bk hk⟩
theorem sm_int {n : Int} (h0 : 0 ≤ n) (h1 : n ≤ 1000) : (PyData.int n).showable = true ∧ (PyData.int n).leavesShort 13 = true := by
  constructor
  · simp only [PyData.showable]
    refine decide_eq_true (Nat.lt_of_lt_of_le (PySem.Flt.log2_lt_of (k := 20) (by decide) (by omega : n.natAbs < 2 ^ 20)) (by decide))
  · simp only [PyData.leavesShort]
    exact decide_eq_true (PyData.shown_int_le2 (by omega) (by omega))
theorem SmA.more {k : Nat} : ∀ {ds : List PyData}, SmA k ds → SmA (k + 1) (ds ++ [.int 0])
  | [], h => by
    obtain ⟨a, b⟩ := sm_int (n := 0) (by decide) (by decide)
    refine ⟨?_, ?_, ?_, ?_⟩
    · show PyData.showableAll [.int 0] = true
      simp only [PyData.showableAll, a, Bool.and_true]
    · show PyData.depthAll [.int 0] ≤ 4
      simp only [PyData.depthAll, PyData.depth]; omega
    · show PyData.leavesShortAll 13 [.int 0] = true
      simp only [PyData.leavesShortAll, b, Bool.and_true]
    · show PyData.bulkAll [.int 0] ≤ k + 1
      simp only [PyData.bulkAll, PyData.bulk]; omega
  | d :: ds, h => by
    obtain ⟨h1, h2, h3, h4⟩ := h
    simp only [PyData.showableAll, PyData.depthAll, PyData.leavesShortAll, PyData.bulkAll, Bool.and_eq_true] at h1 h2 h3 h4
    have ih := SmA.more (k := k - (d.bulk + 1)) (ds := ds) ⟨h1.2, by omega, h3.2, by omega⟩
    obtain ⟨i1, i2, i3, i4⟩ := ih
    refine ⟨?_, ?_, ?_, ?_⟩
    · show PyData.showableAll (d :: (ds ++ [.int 0])) = true
      simp only [PyData.showableAll, h1.1, i1, Bool.and_true]
    · show PyData.depthAll (d :: (ds ++ [.int 0])) ≤ 4
      simp only [PyData.depthAll]; omega
    · show PyData.leavesShortAll 13 (d :: (ds ++ [.int 0])) = true
      simp only [PyData.leavesShortAll, h3.1, i3, Bool.and_true]
    · show PyData.bulkAll (d :: (ds ++ [.int 0])) ≤ k + 1
      simp only [PyData.bulkAll]; omega
theorem bulkAll_le {m : Nat} : ∀ {ds : List PyData}, (∀ d ∈ ds, d.bulk ≤ m) → PyData.bulkAll ds ≤ ds.length * (m + 1)
  | [], _ => by simp only [PyData.bulkAll]; exact Nat.zero_le _
  | d :: ds, h => by
    have a := h d List.mem_cons_self
    have b := bulkAll_le fun x hx => h x (List.mem_cons_of_mem _ hx)
    simp only [PyData.bulkAll, List.length_cons, Nat.succ_mul]
    omega
theorem depthAll_le {m : Nat} : ∀ {ds : List PyData}, (∀ d ∈ ds, d.depth ≤ m) → PyData.depthAll ds ≤ m
  | [], _ => by simp only [PyData.depthAll]; omega
  | d :: ds, h => by
    have a := h d List.mem_cons_self
    have b := depthAll_le fun x hx => h x (List.mem_cons_of_mem _ hx)
    simp only [PyData.depthAll]
    omega
def dueL (D : PyData) (s : Str) (n : Int) : List PyData := [D, D, D, D, D, D, D, D, D, .tuple [D, .str s, .str s], D, D, .str s, D, .str s, .int n, .int n, .int n, .int n, .int n, .int n, .int n, .int n, .int n, D]
theorem due_ok {D : PyData} {s : Str} {n : Int} (h : Sm D) (h0 : 0 ≤ n) (h1 : n ≤ 1000) (hs : Sm (.str s)) : (PyData.list (dueL D s n)).showable = true ∧ (PyData.list (dueL D s n)).depth ≤ 20 ∧ (PyData.list (dueL D s n)).shown.length ≤ sizeLine := by
  obtain ⟨a1, a2, a3, a4⟩ := h
  obtain ⟨b1, b2, b3, b4⟩ := hs
  obtain ⟨c1, c2⟩ := sm_int h0 h1
  refine ⟨?_, ?_, PyData.shown_fits_bulk (B := 13) (by decide) (by decide) ?_ ?_⟩
  · simp only [dueL, PyData.showable, PyData.showableAll] at a1 b1 c1 ⊢
    simp only [a1, c1, Bool.and_true]
  · have d0 : (PyData.int n).depth ≤ 6 := by simp only [PyData.depth]; omega
    have d1 : D.depth ≤ 6 := by omega
    have d2 : (PyData.str s).depth ≤ 6 := by omega
    have d3 : (PyData.tuple [D, .str s, .str s]).depth ≤ 6 := by simp only [PyData.depth, PyData.depthAll]; omega
    have d4 : PyData.depthAll (dueL D s n) ≤ 6 := depthAll_le (List.forall_mem_cons.mpr ⟨d1, (List.forall_mem_cons.mpr ⟨d1, (List.forall_mem_cons.mpr ⟨d1, (List.forall_mem_cons.mpr ⟨d1, (List.forall_mem_cons.mpr ⟨d1, (List.forall_mem_cons.mpr ⟨d1, (List.forall_mem_cons.mpr ⟨d1, (List.forall_mem_cons.mpr ⟨d1, (List.forall_mem_cons.mpr ⟨d1, (List.forall_mem_cons.mpr ⟨d3, (List.forall_mem_cons.mpr ⟨d1, (List.forall_mem_cons.mpr ⟨d1, (List.forall_mem_cons.mpr ⟨d2, (List.forall_mem_cons.mpr ⟨d1, (List.forall_mem_cons.mpr ⟨d2, (List.forall_mem_cons.mpr ⟨d0, (List.forall_mem_cons.mpr ⟨d0, (List.forall_mem_cons.mpr ⟨d0, (List.forall_mem_cons.mpr ⟨d0, (List.forall_mem_cons.mpr ⟨d0, (List.forall_mem_cons.mpr ⟨d0, (List.forall_mem_cons.mpr ⟨d0, (List.forall_mem_cons.mpr ⟨d0, (List.forall_mem_cons.mpr ⟨d0, (List.forall_mem_cons.mpr ⟨d1, fun d h => absurd h List.not_mem_nil⟩)⟩)⟩)⟩)⟩)⟩)⟩)⟩)⟩)⟩)⟩)⟩)⟩)⟩)⟩)⟩)⟩)⟩)⟩)⟩)⟩)⟩)⟩)⟩)⟩)
    simp only [PyData.depth]
    omega
  · simp only [dueL, PyData.leavesShort, PyData.leavesShortAll] at a3 b3 c2 ⊢
    simp only [a3, b3, c2, Bool.and_true]
  · have e0 : (PyData.int n).bulk ≤ 4000 := by simp only [PyData.bulk]; omega
    have e1 : D.bulk ≤ 4000 := by omega
    have e2 : (PyData.str s).bulk ≤ 4000 := by omega
    have e3 : (PyData.tuple [D, .str s, .str s]).bulk ≤ 4000 := by
      have q := bulkAll_le (m := 1000) (ds := [D, .str s, .str s]) (List.forall_mem_cons.mpr ⟨a4, List.forall_mem_cons.mpr ⟨b4, List.forall_mem_cons.mpr ⟨b4, fun d h => absurd h List.not_mem_nil⟩⟩⟩)
      simp only [PyData.bulk]
      exact Nat.le_trans q (by show 3 * 1001 ≤ 4000; decide)
    have q := bulkAll_le (m := 4000) (ds := dueL D s n) (List.forall_mem_cons.mpr ⟨e1, (List.forall_mem_cons.mpr ⟨e1, (List.forall_mem_cons.mpr ⟨e1, (List.forall_mem_cons.mpr ⟨e1, (List.forall_mem_cons.mpr ⟨e1, (List.forall_mem_cons.mpr ⟨e1, (List.forall_mem_cons.mpr ⟨e1, (List.forall_mem_cons.mpr ⟨e1, (List.forall_mem_cons.mpr ⟨e1, (List.forall_mem_cons.mpr ⟨e3, (List.forall_mem_cons.mpr ⟨e1, (List.forall_mem_cons.mpr ⟨e1, (List.forall_mem_cons.mpr ⟨e2, (List.forall_mem_cons.mpr ⟨e1, (List.forall_mem_cons.mpr ⟨e2, (List.forall_mem_cons.mpr ⟨e0, (List.forall_mem_cons.mpr ⟨e0, (List.forall_mem_cons.mpr ⟨e0, (List.forall_mem_cons.mpr ⟨e0, (List.forall_mem_cons.mpr ⟨e0, (List.forall_mem_cons.mpr ⟨e0, (List.forall_mem_cons.mpr ⟨e0, (List.forall_mem_cons.mpr ⟨e0, (List.forall_mem_cons.mpr ⟨e0, (List.forall_mem_cons.mpr ⟨e1, fun d h => absurd h List.not_mem_nil⟩)⟩)⟩)⟩)⟩)⟩)⟩)⟩)⟩)⟩)⟩)⟩)⟩)⟩)⟩)⟩)⟩)⟩)⟩)⟩)⟩)⟩)⟩)⟩)⟩)
    simp only [PyData.bulk]
    exact Nat.le_trans q (by show 25 * 4001 ≤ 2 ^ 20; decide)
/-! ### the thing: a list that may grow, or a dict -/
def Off (a : Addr) (H H' : Hp) : Prop := ∀ b o, b ≠ a → H b = some o → H' b = some o
def Emp (H H' : Hp) : Prop := ∀ b, H b = some (.lst []) → H' b = some (.lst [])
inductive Th (K : PySem.W.Frag) (H : Hp) (a : Addr) (j : Nat) : PyData → Prop
  | lst {xs : List V} {ds : List PyData} : H a = some (.lst xs) → xs ≠ [] → xs.length ≤ 4 + j → SmA (100 + j) ds → (∀ H', Emp H H' → DrA K H' true xs ds) → Th K H a j (.list ds)
  | dic : H a = some (.dK [(Sum.inr "a", V.int 1)]) → Th K H a j (.dict [(.str "a", .int 1)])
theorem Th.sm {K : PySem.W.Frag} {H : Hp} {a : Addr} {D : PyData} {j : Nat} (hj : j ≤ 6) (h : Th K H a j D) : Sm D := by
  cases h with
  | lst _ _ _ hs _ => exact hs.list (by omega)
  | dic _ => exact ⟨by decide +kernel, by decide +kernel, by decide +kernel, by decide +kernel⟩
theorem Off.of {a : Addr} {H H' : Hp} (s : Same H H') : Off a H H' := fun b o _ e => s b o e
theorem Off.trans {a : Addr} {H H1 H2 : Hp} (s : Off a H H1) (t : Off a H1 H2) : Off a H H2 := fun b o h e => t b o h (s b o h e)
theorem Th.mono {K : PySem.W.Frag} {H H' : Hp} {a : Addr} {D : PyData} {j : Nat} (s : Same H H') (h : Th K H a j D) : Th K H' a j D := by
  cases h with
  | lst ha h0 hl hs hd => exact .lst (s _ _ ha) h0 hl hs fun G t => hd G fun b e => t b (s _ _ e)
  | dic ha => exact .dic (s _ _ ha)
theorem Th.dr {K : PySem.W.Frag} {H : Hp} {a : Addr} {D : PyData} {j : Nat} (h : Th K H a j D) : ∃ m, Dr K H m (.ref a) D := by
  cases h with
  | lst ha _ _ _ hd => exact ⟨true, .lst (SqL.of ha) (hd H fun _ e => e)⟩
  | dic ha => exact ⟨false, .dic (kvs := [(Sum.inr "a", V.int 1)]) (ds := [.int 1]) ha (.cons (.int 1) .nil)⟩
/-- something else is changed, which was no empty list -/
theorem Th.off {K : PySem.W.Frag} {H H' : Hp} {a p : Addr} {D : PyData} (hne : a ≠ p) (hp : H p ≠ some (.lst [])) (s : Off p H H') {j : Nat} (h : Th K H a j D) : Th K H' a j D := by
  cases h with
  | lst ha h0 hl hs hd => exact .lst (s _ _ hne ha) h0 hl hs fun G t => hd G fun b e => t b (s _ _ (fun z => hp (z ▸ e)) e)
  | dic ha => exact .dic (s _ _ hne ha)
theorem DrA.app {K : PySem.W.Frag} {H : Hp} {m : Bool} : ∀ {xs ys : List V} {ds es : List PyData}, DrA K H m xs ds → DrA K H m ys es → DrA K H m (xs ++ ys) (ds ++ es)
  | _, _, _, _, .nil, h => h
  | _, _, _, _, .cons a b, h => .cons a (DrA.app b h)
/-- nothing but lists may be at a changed list's place -/
theorem Er.off {H H' : Hp} {a e C : Addr} {f : Str} {v : V} {o : HO} (ha : H a = some o) (hn : ∀ φ, o ≠ .ext φ) (s : Off a H H') (h : Er H e C f v) : Er H' e C f v := by
  obtain ⟨dx, h1, h2⟩ := h
  refine ⟨dx, s _ _ (fun z => ?_) h1, s _ _ (fun z => ?_) h2⟩
  · rw [z, ha] at h1
    exact hn _ (Option.some.inj h1)
  · rw [z, ha] at h2
    exact hn _ (Option.some.inj h2)
theorem Ers.off {H H' : Hp} {a : Addr} {o : HO} (ha : H a = some o) (hn : ∀ φ, o ≠ .ext φ) (ht : ∀ xs, o ≠ .tup xs) (s : Off a H H') : ∀ {es : List V} {sp : Spec}, Ers H es sp → Ers H' es sp
  | _, _, .nil => .nil
  | _, _, .cons (x := x) h b c => .cons (Er.off ha hn s h) (by
      cases x with
      | is u => exact b
      | tup xs =>
        obtain ⟨t, e1, e2⟩ := b
        refine ⟨t, e1, s _ _ (fun z => ?_) e2⟩
        rw [z, ha] at e2
        exact ht _ (Option.some.inj e2)) (Ers.off ha hn ht s c)
/-! ### what is stored, what is due -/
def VD (K : PySem.W.Frag) (H : Hp) (m : Bool) (x : VS) (d : PyData) : Prop := ∀ v, x.At H v → Dr K H m v d
inductive VDs (K : PySem.W.Frag) (H : Hp) (m : Bool) : List VS → List PyData → Prop
  | nil : VDs K H m [] []
  | cons {x : VS} {d : PyData} {xs : List VS} {ds : List PyData} : VD K H m x d → VDs K H m xs ds → VDs K H m (x :: xs) (d :: ds)
theorem VDs.dr {K : PySem.W.Frag} {H : Hp} {m : Bool} : ∀ {vs : List V} {xs : List VS} {ds : List PyData}, Vss H vs xs → VDs K H m xs ds → DrA K H m vs ds
  | _, _, _, .nil, .nil => .nil
  | _, _, _, .cons a b, .cons c d => .cons (c _ a) (VDs.dr b d)
theorem stored_dr {K : PySem.W.Frag} {H : Hp} {m : Bool} {t : Addr} {D : PyData} {s : Str} {n : Int} {C : Nat → Addr} {vs : List V} (h : Dr K H m (.ref t) D) (hv : Vss H vs ((spec C (.ref t) s n).map (·.2.2))) : DrA K H m vs (dueL D s n) := by
  have d : VD K H m (.is (.ref t)) D := fun v e => by cases (e : v = _); exact h
  have S : VD K H m (.is (.str s)) (.str s) := fun v e => by cases (e : v = _); exact .str s
  have N : VD K H m (.is (.int n)) (.int n) := fun v e => by cases (e : v = _); exact .int n
  have T : VD K H m (.tup [.ref t, .str s, .str s]) (.tuple [D, .str s, .str s]) := fun v e => by
    obtain ⟨u, rfl, hu⟩ := e
    exact .tup (SqT.of hu) (.cons h (.cons (.str s) (.cons (.str s) .nil)))
  exact VDs.dr hv (.cons d (.cons d (.cons d (.cons d (.cons d (.cons d (.cons d (.cons d (.cons d (.cons T (.cons d (.cons d (.cons S (.cons d (.cons S (.cons N (.cons N (.cons N (.cons N (.cons N (.cons N (.cons N (.cons N (.cons N (.cons d .nil)))))))))))))))))))))))))
theorem due_dr {K : PySem.W.Frag} {H : Hp} {m : Bool} {t u : Addr} {D : PyData} {s : Str} {n : Int} (h : Dr K H m (.ref t) D) (hu : H u = some (.tup [.ref t, .str s, .str s])) : DrA K H m [.ref t, .ref t, .ref t, .ref t, .ref t, .ref t, .ref t, .ref t, .ref t, .ref u, .ref t, .ref t, .str s, .ref t, .str s, .int n, .int n, .int n, .int n, .int n, .int n, .int n, .int n, .int n, .ref t] (dueL D s n) := by
  have T : Dr K H m (.ref u) (.tuple [D, .str s, .str s]) := .tup (SqT.of hu) (.cons h (.cons (.str s) (.cons (.str s) .nil)))
  exact (.cons h (.cons h (.cons h (.cons h (.cons h (.cons h (.cons h (.cons h (.cons h (.cons T (.cons h (.cons h (.cons (.str s) (.cons h (.cons (.str s) (.cons (.int n) (.cons (.int n) (.cons (.int n) (.cons (.int n) (.cons (.int n) (.cons (.int n) (.cons (.int n) (.cons (.int n) (.cons (.int n) (.cons h .nil)))))))))))))))))))))))))
/-! ### kinds: two lists of answers -/
def bools (i : Nat) (l : List Nat) : List PyData := l.map fun j => PyData.bool (decide (j = i))
theorem dp_bools {K : PySem.W.Frag} {H : Hp} (i : Nat) : ∀ l : List Nat, DpAll K H (l.map fun j => V.bl (decide (j = i))) (bools i l)
  | [] => .nil
  | j :: l => .cons (.bl _) (dp_bools i l)
theorem canLay_bools (i : Nat) : ∀ l : List Nat, PyData.canLayAll0 (bools i l) = true ∧ PyData.depthAll (bools i l) = 0
  | [] => ⟨by simp only [bools, List.map_nil, PyData.canLayAll0], by simp only [bools, List.map_nil, PyData.depthAll]⟩
  | j :: l => by
    obtain ⟨a, b⟩ := canLay_bools i l
    constructor
    · show PyData.canLayAll0 (PyData.bool _ :: bools i l) = true
      simp only [PyData.canLayAll0, PyData.canLay0, a, Bool.and_true]
    · show PyData.depthAll (PyData.bool _ :: bools i l) = 0
      simp only [PyData.depthAll, PyData.depth, b, Nat.max_self]
theorem shaped_bools (i : Nat) (l : List Nat) : SeqAt.shaped (.list (bools i l)) = true := by
  obtain ⟨a, b⟩ := canLay_bools i l
  unfold SeqAt.shaped
  simp only [PyData.canLay0, PyData.depth, a, b, Bool.true_and]
  exact decide_eq_true (by decide)
end S


set_option Elab.async false
set_option linter.all false
set_option maxRecDepth 100000
set_option maxHeartbeats 4000000
namespace S
open PySem L2 G
structure Lw (mg : Str → Option Value) : Prop where
  B : Bi mg
  isi : mg "isinstance" = none
  vE : mg "ValueError" = none
  lst : mg "list" = none
  rng : mg "range" = none
  mx : mg "max" = none
  mn : mg "min" = none
  en : mg "enumerate" = none
  rep : mg "repr" = none
abbrev NL : List Str := ["script", "start", "source", "thing", "word", "many", "errors", "at", "error", "due", "other"]
def spLaw (K : PySem.W.Frag) : Sp := fun vs H Q _ => ∃ (a : Addr) (ns : List Int), vs = [.ref a] ∧ SqL K H a (ns.map V.int) ∧ ns.length ≤ 63 ∧ (∀ z ∈ ns, Builtin.Int.intBits z ≤ 1048576) ∧ ∀ H', Q (.bl true) H'
section
variable {P : Program} {w : World} {K : PySem.W.Frag} {mg : Str → Option Value} {base : Heap} {C : Nat → Addr} {R : Addr}
theorem scL : FnScope NL ["script"] (defScope sLaw) := ⟨rfl, rfl, rfl, by decide +kernel, rfl, by decide +kernel, by decide +kernel⟩
/-- the helpers' addresses -/
structure Fs (P : Program) (w : World) (K : PySem.W.Frag) (mg : Str → Option Value) (base : Heap) (C : Nat → Addr) (fS fD fP fK fA fN fO : Addr) (dS dD dP dK dA dN dO : FuncData) : Prop where
  GS : FnOk P w K mg base CX0 1 fS dS ["script", "start"] (spSource K)
  GD : FnOk P w K mg base CX0 1 fD dD ["source", "span"] spDraw
  GP : FnOk P w K mg base CX0 2 fP dP ["source", "items"] (spPick K)
  GK : FnOk P w K mg base CX0 1 fK dK ["error"] (spKinds C)
  GA : FnOk P w K mg base CX0 3 fA dA ["thing", "word", "many"] (spMade C)
  GN : FnOk P w K mg base CX0 3 fN dN ["thing", "word", "many"] (spMade C)
  GO : FnOk P w K mg base CX0 1 fO dO ["errors"] (spStored C)
  bS : Binds K dS ["script", "start"] []
  bD : Binds K dD ["source", "span"] []
  bP : Binds K dP ["source", "items"] []
  bK : Binds K dK ["error"] []
  bA : Binds K dA ["thing", "word", "many"] []
  bN : Binds K dN ["thing", "word", "many"] []
  bO : Binds K dO ["errors"] []
  gS : mg "_law_source" = some (.ref fS)
  gD : mg "_law_draw" = some (.ref fD)
  gP : mg "_law_pick" = some (.ref fP)
  gK : mg "_law_kinds" = some (.ref fK)
  gA : mg "_law_by_place" = some (.ref fA)
  gN : mg "_law_by_name" = some (.ref fN)
  gO : mg "_law_stored" = some (.ref fO)
  kS : PySem.W.keepIn K (.ref fS) = true
  kD : PySem.W.keepIn K (.ref fD) = true
  kP : PySem.W.keepIn K (.ref fP) = true
  kK : PySem.W.keepIn K (.ref fK) = true
  kA : PySem.W.keepIn K (.ref fA) = true
  kN : PySem.W.keepIn K (.ref fN) = true
  kO : PySem.W.keepIn K (.ref fO) = true
theorem mem3 {α : Type} {P : α → Prop} {a b c x : α} {j : Nat} (h : [a, b, c][j]? = some x) (ha : P a) (hb : P b) (hc : P c) : P x := by
  match j, h with
  | 0, h => exact Option.some.inj h ▸ ha
  | 1, h => exact Option.some.inj h ▸ hb
  | 2, h => exact Option.some.inj h ▸ hc
  | j + 3, h => cases h
theorem log40 : (40 : Int).natAbs.log2 < 9000 := by decide +kernel
/-- thing = _law_pick(source, [[5], ['a', None], [[]], {'a': 1}]) -/
theorem ev_thing {σ : L2.St} {H : Hp} {p : Addr} {r m : Int} {E : XK} {Q : VK} (hv : σ[2]? = some (some (.ref p))) (hp : H p = some (.lst (Two r m))) (hf : Fine r m)
    (k : ∀ t D G r' m', Off p H G → G p = some (.lst (Two r' m')) → Fine r' m' → t ≠ p → H t = none → Th K G t 0 D → Q (.ref t) G) :
    tCall (spPick K) [] E (tCons (tVar 2) (tCons (tLst (tCons (tLst (tCons (tC (.int 5)) tNil)) (tCons (tLst (tCons (tC (.str "a")) (tCons (tC .non) tNil))) (tCons (tLst (tCons (tLst tNil) tNil)) (tCons (tDisp [(tC (.str "a"), tC (.int 1))]) tNil))))) tNil)) σ H Q := by
  refine ⟨_, hv, ⟨by show 1 ≤ sizeLine; decide, fun l1 n1 => ⟨by show 2 ≤ sizeLine; decide, fun l2 n2 => ⟨by show 0 ≤ sizeLine; decide, fun l3 n3 => ⟨by show 1 ≤ sizeLine; decide, fun l4 n4 l5 n5 => ⟨upd_same, [(Sum.inr "a", V.int 1)], rfl, by decide, by show 4 ≤ sizeLine; decide, fun l6 n6 => ?_⟩⟩⟩⟩⟩⟩
  have b1 := Same.new (o := .lst [V.int 5]) n1
  have b2 := Same.new (o := .lst [V.str "a", V.non]) n2
  have b3 := Same.new (o := .lst []) n3
  have b4 := Same.new (o := .lst [V.ref l3]) n4
  have b5 : Same (upd (upd (upd (upd H l1 (.lst [V.int 5])) l2 (.lst [V.str "a", V.non])) l3 (.lst [])) l4 (.lst [V.ref l3])) (upd (upd (upd (upd (upd (upd H l1 (.lst [V.int 5])) l2 (.lst [V.str "a", V.non])) l3 (.lst [])) l4 (.lst [V.ref l3])) l5 (.dK [])) l5 (.dK (mergeK [] [(Sum.inr "a", V.int 1)]))) := by
    rw [upd_upd]
    exact Same.new n5
  have b6 := Same.new (o := .lst [V.ref l1, V.ref l2, V.ref l4, V.ref l5]) n6
  have h1 := b6 _ _ (b5 _ _ (b4 _ _ (b3 _ _ (b2 _ _ (upd_same (H := H) (a := l1) (o := .lst [V.int 5]))))))
  have h2 := b6 _ _ (b5 _ _ (b4 _ _ (b3 _ _ (upd_same (H := upd H l1 (.lst [V.int 5])) (a := l2) (o := .lst [V.str "a", V.non])))))
  have h3 := b6 _ _ (b5 _ _ (b4 _ _ (upd_same (H := upd (upd H l1 (.lst [V.int 5])) l2 (.lst [V.str "a", V.non])) (a := l3) (o := .lst []))))
  have h4 := b6 _ _ (b5 _ _ (upd_same (H := upd (upd (upd H l1 (.lst [V.int 5])) l2 (.lst [V.str "a", V.non])) l3 (.lst [])) (a := l4) (o := .lst [V.ref l3])))
  have h5 := b6 _ _ (upd_same (H := upd (upd (upd (upd (upd H l1 (.lst [V.int 5])) l2 (.lst [V.str "a", V.non])) l3 (.lst [])) l4 (.lst [V.ref l3])) l5 (.dK [])) (a := l5) (o := .dK (mergeK [] [(Sum.inr "a", V.int 1)])))
  have sAll := ((((b1.trans b2).trans b3).trans b4).trans b5).trans b6
  have e1 : l1 ≠ p := (ne_of_none hp n1).symm
  have e2 : l2 ≠ p := (ne_of_none (b1 _ _ hp) n2).symm
  have e3 : l3 ≠ p := (ne_of_none (b2 _ _ (b1 _ _ hp)) n3).symm
  have e4 : l4 ≠ p := (ne_of_none (b3 _ _ (b2 _ _ (b1 _ _ hp))) n4).symm
  have e5 : l5 ≠ p := (ne_of_none (b4 _ _ (b3 _ _ (b2 _ _ (b1 _ _ hp)))) n5).symm
  have e6 : l6 ≠ p := (ne_of_none (b5 _ _ (b4 _ _ (b3 _ _ (b2 _ _ (b1 _ _ hp))))) n6).symm
  have h6 : (upd (upd (upd (upd (upd (upd (upd H l1 (.lst [V.int 5])) l2 (.lst [V.str "a", V.non])) l3 (.lst [])) l4 (.lst [V.ref l3])) l5 (.dK [])) l5 (.dK (mergeK [] [(Sum.inr "a", V.int 1)]))) l6 (.lst [V.ref l1, V.ref l2, V.ref l4, V.ref l5])) l6 = some (.lst [V.ref l1, V.ref l2, V.ref l4, V.ref l5]) := upd_same
  generalize upd (upd (upd (upd (upd (upd (upd H l1 (.lst [V.int 5])) l2 (.lst [V.str "a", V.non])) l3 (.lst [])) l4 (.lst [V.ref l3])) l5 (.dK [])) l5 (.dK (mergeK [] [(Sum.inr "a", V.int 1)]))) l6 (.lst [V.ref l1, V.ref l2, V.ref l4, V.ref l5]) = G at h1 h2 h3 h4 h5 h6 sAll ⊢
  refine ⟨p, l6, r, m, _, rfl, sAll _ _ hp, hf, e6, SqL.of h6, by show 1 ≤ 4; decide, by show 4 ≤ 1000; decide, fun j x r' m' hf' hx => ?_⟩
  have off : Off p H (upd G p (.lst (Two r' m'))) := fun b o hb e => by
    rw [upd_ne hb]
    exact sAll _ _ e
  have go : ∀ {b : Addr} {o : HO}, b ≠ p → G b = some o → upd G p (.lst (Two r' m')) b = some o := fun hb e => by
    rw [upd_ne hb]
    exact e
  match j, hx with
  | 0, hx => cases hx; exact k l1 _ _ r' m' off upd_same hf' e1 n1 (.lst (ds := [.int 5]) (j := 0) (go e1 h1) (by simp) (by decide) ⟨by decide +kernel, by decide +kernel, by decide +kernel, by decide +kernel⟩ fun _ _ => .cons (.int 5) .nil)
  | 1, hx => cases hx; exact k l2 _ _ r' m' off upd_same hf' e2 (b1.free n2) (.lst (ds := [.str "a", .none]) (j := 0) (go e2 h2) (by simp) (by decide) ⟨by decide +kernel, by decide +kernel, by decide +kernel, by decide +kernel⟩ fun _ _ => .cons (.str _) (.cons .non .nil))
  | 2, hx =>
    cases hx
    exact k l4 _ _ r' m' off upd_same hf' e4 (b1.free (b2.free (b3.free n4))) (.lst (ds := [.list []]) (j := 0) (go e4 h4) (by simp) (by show 1 ≤ 4; decide) ⟨by decide +kernel, by decide +kernel, by decide +kernel, by decide +kernel⟩ fun G' o => .cons (.lst (SqL.of (o _ (go e3 h3))) .nil) .nil)
  | 3, hx => cases hx; exact k l5 _ _ r' m' off upd_same hf' e5 (b1.free (b2.free (b3.free (b4.free n5)))) (.dic (go e5 h5))
  | j + 4, hx => cases hx
theorem if_no {c : TT} {t u : TS} {D : Ends} {σ : L2.St} {H : Hp} (h : Evl.EvT c σ H false) (k : ∀ H', Same H H' → u D σ H') : tIfS c t u D σ H :=
  h H (Evl.Ex.refl H) _ fun H' s => iteF (k H' s)
/-- isinstance(error, RoadError), isinstance(error, ValueError) -/
theorem ev_er {σ : L2.St} {H : Hp} {e : Addr} {i : Nat} {v c : V} {u : Value} (T : Txt P w K mg base C R) (hi : i < 25) (hv : σ[8]? = some (some (.ref e))) (hE : Er H e (C i) (fl i) v) (hc : ClsV c u) (hk : PySem.W.kitOne K (.ref (C i)) u = some true) :
    Evl.EvT (tNot (tB (tCB (rIsEr K) (tCons (tVar 8) (tCons (tC c) tNil))))) σ H false :=
  Evl.et_not (a := true) (Evl.et_B (Evl.ev_cb (Evl.ea_cons (Evl.ev_var hv) (Evl.ea_cons Evl.ev_c Evl.ea_nil)) fun H1 ex Q q => ⟨e, C i, fl i, v, _, _, _, rfl, hE.mono ex, (T.M i hi).L.F, hc, hk, q H1 (Evl.Ex.refl H1)⟩))
theorem range_map {α : Type} (f : Nat → α) (n : Nat) : (List.range (n + 1)).map f = (List.range n).map f ++ [f n] := by
  rw [List.range_succ, List.map_append]
  rfl
/-- _law_kinds(error) != [other == at for other in range(25)] -/
theorem ev_kinds {σ : L2.St} {H : Hp} {e : Addr} {i : Nat} {v : V} {E : XK} {x0 x1 x2 x3 x4 x5 x6 x9 : Option V} (hi : i < 25) (hσ : σ = [x0, x1, x2, x3, x4, x5, x6, some (.int (i : Int)), some (.ref e), x9, none]) (hE : Er H e (C i) (fl i) v) :
    Evl.EvT (tTest (tOp (rNeD K) (tCall (spKinds C) [] E (tCons (tVar 8) tNil)) (tLc (iRng1 (tCons (tC (.int 25)) tNil)) (gName 10) tYes (tOp rEq (tVar 10) (tVar 7)) [10]))) σ H false := by
  subst hσ
  refine fun H1 s1 Q k => ⟨_, rfl, e, i, v, rfl, hi, hE.mono s1, fun q G s2 hq => ⟨25, rfl, by decide, by decide, fun D nD => ?_⟩⟩
  refine lc_range (lo := 0) (n := 25) (fun j G' => Same G G' ∧ G' D = some (.lst ((List.range j).map fun j => V.bl (decide (j = i))))) ⟨Same.new nD, upd_same⟩ ?_ ?_
  · rintro j G' hj ⟨s3, hD⟩
    refine ⟨rfl, _, rfl, _, rfl, rfl, _, hD, Nat.lt_of_le_of_lt (by rw [List.length_map, List.length_range]; omega : _ ≤ 1000) (by decide), fun b o z => ?_, ?_⟩
    · rw [upd_ne (ne_of_none z nD)]
      exact s3 _ _ z
    · rw [upd_same, range_map]
      have e1 : decide (V.int (0 + (j : Int)) = V.int (i : Int)) = decide (j = i) := by
        by_cases z : j = i
        · subst z; rw [decide_eq_true rfl, decide_eq_true (by rw [Int.zero_add])]
        · rw [decide_eq_false z, decide_eq_false]
          intro z2
          injection z2 with z3
          omega
      rw [e1]
  · rintro G' ⟨s3, hD⟩
    refine ⟨.list (bools i (List.range 25)), .list (bools i (List.range 25)), .lst (SqL.of (s3 _ _ hq)) (dp_bools i _), .lst (SqL.of hD) (dp_bools i _), shaped_bools i _, shaped_bools i _, ?_⟩
    rw [SeqAt.eqv_refl _ (SeqAt.canLay_of_shaped (shaped_bools i _))]
    exact ⟨_, rfl, k G' (s2.trans s3)⟩
theorem rep9 {σ : L2.St} {H : Hp} {ta : TA} {x : V} {Q : VK} (ha : Evl.EvA ta σ H [x]) (k : ∀ q G, Same H G → G q = some (.lst [x, x, x, x, x, x, x, x, x]) → Q (.ref q) G) : tOp rRep (tLst ta) (tC (.int 9)) σ H Q := by
  refine op_of (lst_new ha (by decide : 1 ≤ 1000) fun l G s h => ⟨l, 9, [x], rfl, rfl, h, by decide, by decide, by show 1 * 9 ≤ sizeLine; decide, fun q nq => k q _ (s.trans (Same.new nq)) upd_same⟩)
theorem cat_at {p q : Addr} {xs ys : List V} {H : Hp} {Q : VK} (h1 : H p = some (.lst xs)) (h2 : H q = some (.lst ys)) (hl : xs.length + ys.length ≤ 1000) (k : ∀ r G, Same H G → G r = some (.lst (xs ++ ys)) → Q (.ref r) G) : rCat (.ref p) (.ref q) H Q :=
  ⟨p, q, xs, ys, rfl, rfl, h1, h2, Nat.le_trans hl (by decide), fun r nr => k r _ (Same.new nr) upd_same⟩
/-- due = .. -/
theorem ev_due {σ : L2.St} {H : Hp} {t : Addr} {s : Str} {n : Int} {Q : VK} {x0 x1 x2 x6 x7 x8 x9 x10 : Option V} (hσ : σ = [x0, x1, x2, some (.ref t), some (.str s), some (.int n), x6, x7, x8, x9, x10])
    (k : ∀ q u G, Same H G → G u = some (.tup [.ref t, .str s, .str s]) → G q = some (.lst [.ref t, .ref t, .ref t, .ref t, .ref t, .ref t, .ref t, .ref t, .ref t, .ref u, .ref t, .ref t, .str s, .ref t, .str s, .int n, .int n, .int n, .int n, .int n, .int n, .int n, .int n, .int n, .ref t]) → Q (.ref q) G) :
    tOp rCat (tOp rCat (tOp rCat (tOp rRep (tLst (tCons (tVar 3) tNil)) (tC (.int 9))) (tLst (tCons (tTup (tCons (tVar 3) (tCons (tVar 4) (tCons (tVar 4) tNil)))) (tCons (tVar 3) (tCons (tVar 3) (tCons (tVar 4) (tCons (tVar 3) (tCons (tVar 4) tNil)))))))) (tOp rRep (tLst (tCons (tVar 5) tNil)) (tC (.int 9)))) (tLst (tCons (tVar 3) tNil)) σ H Q := by
  subst hσ
  refine op_of (op_of (op_of (rep9 (Evl.ea_cons (Evl.ev_var rfl) Evl.ea_nil) fun l2 G2 s2 h2 => ?_)))
  refine ⟨_, rfl, _, rfl, _, rfl, by show 3 ≤ sizeLine; decide, fun u nu => ⟨_, rfl, _, rfl, _, rfl, _, rfl, _, rfl, by show 6 ≤ sizeLine; decide, fun l3 n3 => ?_⟩⟩
  have s3 := (Same.new (o := .tup [V.ref t, V.str s, V.str s]) nu).trans (Same.new (o := .lst [V.ref u, V.ref t, V.ref t, V.str s, V.ref t, V.str s]) n3)
  have hu := Same.new (o := .lst [V.ref u, V.ref t, V.ref t, V.str s, V.ref t, V.str s]) n3 _ _ (upd_same (H := G2) (a := u) (o := .tup [V.ref t, V.str s, V.str s]))
  have h3 := upd_same (H := upd G2 u (.tup [V.ref t, V.str s, V.str s])) (a := l3) (o := .lst [V.ref u, V.ref t, V.ref t, V.str s, V.ref t, V.str s])
  generalize upd (upd G2 u (.tup [V.ref t, V.str s, V.str s])) l3 (.lst [V.ref u, V.ref t, V.ref t, V.str s, V.ref t, V.str s]) = G3 at s3 hu h3 ⊢
  refine cat_at (s3 _ _ h2) h3 (by show 9 + 6 ≤ 1000; decide) fun l4 G4 s4 h4 => ?_
  refine rep9 (Evl.ea_cons (Evl.ev_var rfl) Evl.ea_nil) fun l6 G6 s6 h6 => ?_
  refine cat_at (s6 _ _ h4) h6 (by show 15 + 9 ≤ 1000; decide) fun l7 G7 s7 h7 => ?_
  refine lst_new (Evl.ea_cons (Evl.ev_var rfl) Evl.ea_nil) (by show 1 ≤ 1000; decide) fun l8 G8 s8 h8 => ?_
  refine cat_at (s8 _ _ h7) h8 (by show 24 + 1 ≤ 1000; decide) fun l9 G9 s9 h9 => ?_
  exact k l9 u G9 (((((s2.trans s3).trans s4).trans s6).trans s7).trans (s8.trans s9)) (s9 _ _ (s8 _ _ (s7 _ _ (s6 _ _ (s4 _ _ hu))))) h9
theorem pair_of {i j : Nat} {x y : V} {σ : L2.St} {H : Hp} {Q : L2.St → Hp → Prop} (h : Q ((σ.set i (some x)).set j (some y)) H) : gCons (gName i) (gCons (gName j) gNil) [x, y] σ H Q := ⟨_, _, rfl, _, _, rfl, rfl, h⟩
theorem seq_of {t u : TS} {D : Ends} {σ : L2.St} {H : Hp} (h : t { D with nx := u D } σ H) : tSeq t u D σ H := h
theorem Er.same_at {H : Hp} {e c : Addr} {f : Str} {v : V} (h : Er H e c f v) : ∃ o, H e = some o := let ⟨_, h1, _⟩ := h; ⟨_, h1⟩
/-- what a thing's list is not -/
theorem th_ne {K : PySem.W.Frag} {H : Hp} {t p : Addr} {j : Nat} {D : PyData} {xs : List V} (h : Th K H t j D) (hp : H p = some (.lst xs)) (hl : 4 + j < xs.length) : p ≠ t := by
  intro z
  subst z
  cases h with
  | lst ha _ hl2 _ _ =>
    rw [ha] at hp
    injection hp with hp
    injection hp with hp
    subst hp
    omega
  | dic ha =>
    rw [ha] at hp
    cases hp
theorem spec_at {a : V} {s : Str} {n : Int} {j : Nat} {c : Addr} {f : Str} {x : VS} (h : (spec C a s n)[j]? = some (c, f, x)) (hj : j < 25) : c = C j ∧ f = fl j := by
  have e : (spec C a s n).map (fun t => (t.1, t.2.1)) = (List.range 25).map fun i => (C i, fl i) := rfl
  have e1 : ((spec C a s n).map (fun t => (t.1, t.2.1)))[j]? = some (c, f) := by rw [List.getElem?_map, h]; rfl
  rw [e, List.getElem?_map, List.getElem?_range hj] at e1
  injection e1 with e2
  injection e2 with e3 e4
  exact ⟨e3.symm, e4.symm⟩
/-- if isinstance(thing, list): thing.append(0) -/
theorem if_thing {σ : L2.St} {H : Hp} {t : Addr} {j : Nat} {D : PyData} {Dn : Ends} (hj : j ≤ 6) (hv : σ[3]? = some (some (.ref t))) (hT : Th K H t j D) (k : ∀ G D', Off t H G → Th K G t (j + 1) D' → Dn.nx σ G) :
    tIfS (tB (tCB (rIsi K) (tCons (tVar 3) (tCons (tC (.ty "list")) tNil)))) (tDrop (tBM K "list" rAppend (tVar 3) (tCons (tC (.int 0)) tNil))) tNext Dn σ H := by
  cases hT with
  | lst ha h0 hl hs hd =>
    rename_i xs ds
    refine ⟨_, hv, _, _, _, _, _, rfl, .ty _, .base (.lst ha), kit_ty (by decide +kernel), _, rfl, iteT ?_⟩
    refine ⟨_, hv, .inl ⟨rfl, _, SqL.of ha⟩, t, xs, _, rfl, rfl, ha, Nat.lt_of_le_of_lt (by omega : xs.length ≤ 1000) (by decide), k _ _ (fun b o hb e => by rw [upd_ne hb]; exact e) (.lst upd_same (by simp) (by rw [List.length_append]; show xs.length + 1 ≤ _; omega) hs.more fun G em => DrA.app (hd G fun b e => em b ?_) (.cons (.int 0) .nil))⟩
    rw [upd_ne fun z => ?_]
    · exact e
    · rw [z, ha] at e
      exact h0 (HO.lst.inj (Option.some.inj e))
  | dic ha =>
    refine ⟨_, hv, _, _, _, _, _, rfl, .ty _, .base (.dK ha), kit_ty (by decide +kernel), _, rfl, iteF ?_⟩
    exact k H _ (fun _ _ _ e => e) (.dic ha)
theorem ok_law {f : Addr} {fd : FuncData} {fS fD fP fK fA fN fO : Addr} {dS dD dP dK dA dN dO : FuncData} (F : Fun K "law" "law" sLaw f fd) (T : Txt P w K mg base C R) (L : Lw mg)
    (Z : Fs P w K mg base C fS fD fP fK fA fN fO dS dD dP dK dA dN dO) : G.Ok P w K mg base CX0 5 f fd ["script"] (spLaw K) := by
  refine G.mk F scL (fun vs H Q E h => ?_) (fun cdv A outer s H vs Q E hg hr h => ?_)
  · obtain ⟨a, ns, rfl, _⟩ := h
    rfl
  · obtain ⟨a, ns, rfl, hS, hl, hb, k⟩ := h
    have r1 := hr.mono (by decide : 1 ≤ 4)
    have r2 := hr.mono (by decide : 2 ≤ 4)
    have r3 := hr.mono (by decide : 3 ≤ 4)
    refine ⟨_, pss_cons (ps_for PassesOwn.never rfl (pi_range1 rfl L.rng (pa_cons (pe_callB (call_max2 rfl) (by rfl) L.mx (by decide +kernel) (pa_cons pe_int (pa_cons (pe_callB (call_min2 rfl) (by rfl) L.mn (by decide +kernel) (pa_cons pe_int (pa_cons (pe_callB call_len_seq (by rfl) L.B.len PySem.boot_len (pa_cons (pv 0) pa_nil)) pa_nil))) pa_nil))) pa_nil)) (pg_name (i := 1) scL.nd rfl (Or.inl rfl))
        (pss_cons (ps_set (i := 2) scL.nd rfl (Or.inl rfl) (pe_call Z.GS r1 rfl Z.gS Z.kS Z.bS .nil pass0 (pa_cons (pv 0) (pa_cons (pv 1) pa_nil))))
        (pss_cons (ps_set (i := 3) scL.nd rfl (Or.inl rfl) (pe_call Z.GP r2 rfl Z.gP Z.kP Z.bP .nil pass0 (pa_cons (pv 2) (pa_cons (pe_lst (pa_cons (pe_lst (pa_cons pe_int pa_nil)) (pa_cons (pe_lst (pa_cons pe_str (pa_cons pe_non pa_nil))) (pa_cons (pe_lst (pa_cons (pe_lst pa_nil) pa_nil)) (pa_cons (pe_disp (pps_cons pe_str pe_int pps_nil) (by rfl) (by rfl) (fun z => by cases z) (by decide)) pa_nil))))) pa_nil))))
        (pss_cons (ps_par (i := 4) (j := 5) (by rfl) scL.nd rfl rfl (by decide) rfl rfl (pa_cons (pe_call Z.GP r2 rfl Z.gP Z.kP Z.bP .nil pass0 (pa_cons (pv 2) (pa_cons (pe_lst (pa_cons pe_str (pa_cons pe_str (pa_cons pe_str pa_nil)))) pa_nil))) (pa_cons (pe_call Z.GD r1 rfl Z.gD Z.kD Z.bD .nil pass0 (pa_cons (pv 2) (pa_cons pe_int pa_nil))) pa_nil)) (by rfl))
        (pss_one (ps_for PassesOwn.never rfl (pi_list (pe_lst (pa_cons (pe_call Z.GA r3 rfl Z.gA Z.kA Z.bA .nil pass0 (pa_cons (pv 3) (pa_cons (pv 4) (pa_cons (pv 5) pa_nil)))) (pa_cons (pe_call Z.GN r3 rfl Z.gN Z.kN Z.bN .nil pass0 (pa_cons (pv 3) (pa_cons (pv 4) (pa_cons (pv 5) pa_nil)))) pa_nil)))) (pg_name (i := 6) scL.nd rfl (Or.inl rfl))
          (pss_cons (ps_for PassesOwn.never rfl (pi_enum (by rfl) L.en (pa_cons (pv 6) pa_nil)) (pg_tup (by rfl) (pgs_cons (pg_name (i := 7) scL.nd rfl (Or.inr rfl)) (pgs_cons (pg_name (i := 8) scL.nd rfl (Or.inl rfl)) pgs_nil)))
            (pss_cons (ps_if (PW.pt (pw_or (pt_not (pt_val (pe_callB call_isEr (by rfl) L.isi (by decide +kernel) (pa_cons (pv 8) (pa_cons (pe_glob (v := .ref R) rfl T.gR rfl) pa_nil))))) (pw_or1 (pt_not (pt_val (pe_callB call_isEr (by rfl) L.isi (by decide +kernel) (pa_cons (pv 8) (pa_cons (pe_bltn (v := .ty "ValueError") (by rfl) L.vE (by decide +kernel) rfl) pa_nil))))))))
                (pss_one (ps_ret pe_bl)) pss_nil)
            (pss_one (ps_if (pt_cmpR (op_neD hr.units) (pe_call Z.GK r1 rfl Z.gK Z.kK Z.bK .nil pass0 (pa_cons (pv 8) pa_nil))
                (pe_lc (own := [("other", 10)]) (g := gName 10) (tt := tYes) (te := tOp rEq (tVar 10) (tVar 7)) rfl scL.nd (pi_range1 rfl L.rng (pa_cons pe_int pa_nil)) (blkOk_by (N := NL) (sc := defScope sLaw) (by decide +kernel)) (fun _ _ _ _ _ => pg_name (i := 10) scL.nd rfl (Or.inl rfl)) (fun _ _ _ _ _ => pts_nil) (fun _ _ _ _ _ => by exact (pe_cmpR op_eq (pv 10) (pv 7) (nomark _)))) (nomark _))
                (pss_one (ps_ret pe_bl)) pss_nil))))
          (pss_cons (ps_if (pt_val (pe_callB call_isi (by rfl) L.isi (by decide +kernel) (pa_cons (pv 3) (pa_cons (pe_bltn (v := .ty "list") (by rfl) L.lst (by decide +kernel) rfl) pa_nil))))
              (pss_one (ps_expr (pe_bm PySem.F.plainAttrs_list PySem.F.slot_list_append PySem.F.type_list_append mt_append (pv 3) (pa_cons pe_int pa_nil)))) pss_nil)
          (pss_cons (ps_set (i := 9) scL.nd rfl (Or.inl rfl) (pe_op op_cat (pe_op op_cat (pe_op op_cat (pe_op op_rep (pe_lst (pa_cons (pv 3) pa_nil)) pe_int) (pe_lst (pa_cons (pe_tup (pa_cons (pv 3) (pa_cons (pv 4) (pa_cons (pv 4) pa_nil)))) (pa_cons (pv 3) (pa_cons (pv 3) (pa_cons (pv 4) (pa_cons (pv 3) (pa_cons (pv 4) pa_nil)))))))) (pe_op op_rep (pe_lst (pa_cons (pv 5) pa_nil)) pe_int)) (pe_lst (pa_cons (pv 3) pa_nil))))
          (pss_one (ps_if (pt_cmpR op_ne (pe_callB (G.call_repr hg hr.units) (by rfl) L.rep (by decide +kernel) (pa_cons (pe_call Z.GO r1 rfl Z.gO Z.kO Z.bO .nil pass0 (pa_cons (pv 6) pa_nil)) pa_nil)) (pe_callB (G.call_repr hg hr.units) (by rfl) L.rep (by decide +kernel) (pa_cons (pv 9) pa_nil)) (nomark _))
              (pss_one (ps_ret pe_bl)) pss_nil)))))))))))
      (pss_one (ps_ret pe_bl)), ?_⟩
    refine ⟨_, rfl, a, _, rfl, .inl hS, _, _, rfl, _, _, rfl, _, rfl, ?_, ?_, for_range (lo := 0) (fun i σ H2 => (∃ v1 v2 v3 v4 v5 v6 v7 v8 v9 : Option V, σ = [some (.ref a), v1, v2, v3, v4, v5, v6, v7, v8, v9, none]) ∧ SqL K H2 a (ns.map V.int))
      ⟨⟨none, none, none, none, none, none, none, none, none, rfl⟩, hS⟩ ?_ ?_⟩
    · rw [List.length_map]; split <;> split <;> omega
    · rw [List.length_map]; split <;> split <;> omega
    · rintro i σ H2 hi ⟨⟨v1, v2, v3, v4, v5, v6, v7, v8, v9, rfl⟩, hS2⟩
      have hi4 : i ≤ 1000 := by
        rw [List.length_map] at hi
        revert hi
        split <;> split <;> intro hi <;> omega
      -- source = _law_source(script, start)
      refine seq_set ⟨_, rfl, _, rfl, a, ns, i, by rw [Int.zero_add]; rfl, hi4, hS2, hl, hb, fun p r m np hf => ?_⟩
      have ea : ∀ {H' : Hp}, Off p (upd H2 p (.lst (Two r m))) H' → SqL K H' a (ns.map V.int) := by
        intro H' off
        rcases hS2 with (h | ⟨o, h⟩) | h
        · exact .inl (.inl (off _ _ (ne_of_none h np) (Same.new np _ _ h)))
        · exact .inl (.inr ⟨o, off _ _ (ne_of_none h np) (Same.new np _ _ h)⟩)
        · exact .inr h
      -- thing = ..
      refine seq_set (ev_thing (p := p) rfl upd_same hf fun t D G r1 m1 off1 hp1 hf1 ht tn hT => ?_)
      -- word, many = ..
      refine ⟨_, rfl, by show 3 ≤ sizeLine; decide, fun l nl => ⟨p, l, r1, m1, _, rfl, Same.new nl _ _ hp1, hf1, (ne_of_none hp1 nl).symm, SqL.of upd_same, by show 1 ≤ 3; decide, by show 3 ≤ 1000; decide, fun j x r2 m2 hf2 hx => ?_⟩⟩
      obtain ⟨wd, rfl, hw⟩ : ∃ wd, x = V.str wd ∧ Sm (.str wd) := mem3 (P := fun x => ∃ wd, x = V.str wd ∧ Sm (.str wd)) hx ⟨_, rfl, ⟨by decide +kernel, by decide +kernel, by decide +kernel, by decide +kernel⟩⟩ ⟨_, rfl, ⟨by decide +kernel, by decide +kernel, by decide +kernel, by decide +kernel⟩⟩ ⟨_, rfl, ⟨by decide +kernel, by decide +kernel, by decide +kernel, by decide +kernel⟩⟩
      refine ⟨_, rfl, p, r2, m2, 40, rfl, upd_same, hf2, by decide, log40, fun many r3 m3 hf3 y0 y1 => ⟨_, _, rfl, ?_⟩⟩
      -- what stands now
      have offG : Off p G (upd (upd (upd G l (.lst [V.str "a", V.str "road", V.str "abcdefgh"])) p (.lst (Two r2 m2))) p (.lst (Two r3 m3))) := fun b o hb e => by
        rw [upd_ne hb, upd_ne hb]
        exact Same.new nl _ _ e
      have hT2 : Th K (upd (upd (upd G l (.lst [V.str "a", V.str "road", V.str "abcdefgh"])) p (.lst (Two r2 m2))) p (.lst (Two r3 m3))) t 0 D := by
        have T1 := hT.mono (Same.new (o := .lst [V.str "a", V.str "road", V.str "abcdefgh"]) nl)
        refine T1.off ht (fun z => ?_) fun b o hb e => by
          rw [upd_ne hb, upd_ne hb]
          exact e
        rw [Same.new nl _ _ hp1] at z
        cases z
      have hS3 := ea (off1.trans offG)
      generalize upd (upd (upd G l (.lst [V.str "a", V.str "road", V.str "abcdefgh"])) p (.lst (Two r2 m2))) p (.lst (Two r3 m3)) = G1 at hT2 hS3 offG ⊢
      have scr : ∀ {H' : Hp}, Off t G1 H' → SqL K H' a (ns.map V.int) := by
        intro H' off
        rcases hS2 with (h | ⟨o, h⟩) | h
        · have q := Same.new (o := .lst (Two r m)) np _ _ h
          exact .inl (.inl (off _ _ (ne_of_none q tn) (offG _ _ (ne_of_none h np) (off1 _ _ (ne_of_none h np) q))))
        · have q := Same.new (o := .lst (Two r m)) np _ _ h
          exact .inl (.inr ⟨o, off _ _ (ne_of_none q tn) (offG _ _ (ne_of_none h np) (off1 _ _ (ne_of_none h np) q))⟩)
        · exact .inr h
      -- for errors in [..]
      refine ⟨_, rfl, _, rfl, _, rfl, .ref t, wd, many, rfl, fun p1 es1 G2 s2 h1 E1 => ⟨_, rfl, _, rfl, _, rfl, .ref t, wd, many, rfl, fun p2 es2 G3 s3 h2 E2 => ⟨by show 2 ≤ sizeLine; decide, fun l nl2 => ?_⟩⟩⟩
      refine ⟨l, rfl, ⟨_, SqL.of upd_same⟩, for_list (K := K) (a := l) (xs := [V.ref p1, V.ref p2]) (fun i' σ H' => (∃ v6 v7 v8 v9 : Option V, σ = [some (.ref a), some (.int (0 + (i : Int))), some (.ref p), some (.ref t), some (.str wd), some (.int many), v6, v7, v8, v9, none]) ∧
          Off t G1 H' ∧ H' l = some (.lst [V.ref p1, V.ref p2]) ∧ l ≠ t ∧ (H' p1 = some (.lst es1) ∧ Ers H' es1 (spec C (.ref t) wd many)) ∧ (H' p2 = some (.lst es2) ∧ Ers H' es2 (spec C (.ref t) wd many)) ∧ ∃ D, Th K H' t i' D)
        ?_ (fun i' σ H' _ h => SqL.of h.2.2.1) ?_ ?_⟩
      · have n3 := Same.new (o := .lst [V.ref p1, V.ref p2]) nl2
        have sA := (s2.trans s3).trans n3
        refine ⟨⟨v6, v7, v8, v9, rfl⟩, Off.of sA, upd_same, fun z => ?_, ⟨n3 _ _ (s3 _ _ h1), (E1.mono s3).mono n3⟩, ⟨n3 _ _ h2, E2.mono n3⟩, D, hT2.mono sA⟩
        cases (hT2.mono (s2.trans s3)) with
        | lst ha _ _ _ _ => exact ne_of_none ha nl2 z.symm
        | dic ha => exact ne_of_none ha nl2 z.symm
      · rintro i' y σ H' hy ⟨⟨v6, v7, v8, v9, rfl⟩, offT, hl', hlt, ⟨w1, F1⟩, ⟨w2, F2⟩, D', hT3⟩
        have hi2 : i' < 2 := (List.getElem?_eq_some_iff.mp hy).1
        obtain ⟨pe, es, rfl, hpe, hE⟩ : ∃ pe es, y = V.ref pe ∧ H' pe = some (.lst es) ∧ Ers H' es (spec C (.ref t) wd many) := by
          match i', hy with
          | 0, hy => exact ⟨p1, es1, (Option.some.inj hy).symm, w1, F1⟩
          | 1, hy => exact ⟨p2, es2, (Option.some.inj hy).symm, w2, F2⟩
          | j + 2, hy => cases hy
        -- for at, error in enumerate(errors)
        refine ⟨_, rfl, pe, es, rfl, SqL.of hpe, for_it (walk_enum (K := K) (a := pe) (xs := es)) (fun j σ G' => (∃ v7 v8 : Option V, σ = [some (.ref a), some (.int (0 + (i : Int))), some (.ref p), some (.ref t), some (.str wd), some (.int many), some (.ref pe), v7, v8, v9, none]) ∧ Same H' G')
          ⟨⟨v7, v8, rfl⟩, Same.refl H'⟩ (fun j σ G' _ h => SqL.of (h.2 _ _ hpe)) ?_ ?_⟩
        · rintro j x σ G' G'' hj ⟨⟨v7, v8, rfl⟩, sj⟩ ⟨Tp, u, z, rfl, nT, rfl, hu, hz⟩
          cases (Option.some.inj hu)
          obtain ⟨e, Ce, fe, xe, v, rfl, hsp, hEr, hAt⟩ := hE.get hz
          have hj25 : j < 25 := by
            have := (List.getElem?_eq_some_iff.mp hsp).1
            exact this
          obtain ⟨rfl, rfl⟩ := spec_at hsp hj25
          have nT2 := Same.new (o := .tup [V.int (j : Int), V.ref e]) nT
          refine ⟨Tp, _, rfl, SqT.of upd_same, rfl, ?_⟩
          have hE2 := (hEr.mono sj).mono nT2
          refine pair_of ?_
          dsimp only [List.set]
          refine seq_of (if_no (Evl.et_or (ev_er (σ := [some (V.ref a), some (V.int (0 + (i : Int))), some (V.ref p), some (V.ref t), some (V.str wd), some (V.int many), some (V.ref pe), some (V.int (j : Int)), some (V.ref e), v9, none]) T hj25 rfl hE2 (.own R) (T.kitR j hj25)) fun _ => ev_er (σ := [some (V.ref a), some (V.int (0 + (i : Int))), some (V.ref p), some (V.ref t), some (V.str wd), some (V.int many), some (V.ref pe), some (V.int (j : Int)), some (V.ref e), v9, none]) T hj25 rfl hE2 (.ty "ValueError") (T.kitV j hj25)) fun G4 s4 => ?_)
          refine if_no (ev_kinds hj25 rfl (hE2.mono s4)) fun G5 s5 => ?_
          exact ⟨⟨_, _, rfl⟩, ((sj.trans nT2).trans s4).trans s5⟩
        · rintro σ G' ⟨⟨v7, v8, rfl⟩, sj⟩
          have hT4 := hT3.mono sj
          have len25 : ∀ {H : Hp} {es : List V}, Ers H es (spec C (.ref t) wd many) → 4 + i' < es.length := fun h => by
            rw [h.len]
            show 4 + i' < 25
            omega
          have offE : ∀ {G5 : Hp} {es : List V} {pq : Addr}, Off t G' G5 → (H' pq = some (.lst es) ∧ Ers H' es (spec C (.ref t) wd many)) → G5 pq = some (.lst es) ∧ Ers G5 es (spec C (.ref t) wd many) := by
            intro G5 es pq off ⟨z1, z2⟩
            refine ⟨off _ _ (th_ne hT3 z1 (len25 z2)) (sj _ _ z1), ?_⟩
            cases hT4 with
            | lst ha _ _ _ _ => exact Ers.off ha (fun _ z => by cases z) (fun _ z => by cases z) off (z2.mono sj)
            | dic ha => exact Ers.off ha (fun _ z => by cases z) (fun _ z => by cases z) off (z2.mono sj)
          refine seq_of ?_
          refine if_thing (by omega) rfl hT4 fun G5 D5 off5 hT5 => ?_
          obtain ⟨hpe5, hE5⟩ := offE off5 ⟨hpe, hE⟩
          dsimp only
          refine seq_set ?_
          refine ev_due rfl fun q u G6 s6 hu hq => ?_
          have sm := hT5.sm (by omega)
          obtain ⟨k1, k2, k3⟩ := due_ok sm y0 (by omega) hw
          refine ⟨_, rfl, pe, es, .ref t, wd, many, rfl, s6 _ _ hpe5, hE5.mono s6, fun q2 ws G7 s7 hq2 hV => ?_⟩
          have hT7 := (hT5.mono s6).mono s7
          obtain ⟨md, hdr⟩ := hT7.dr
          have hw25 : ws.length = 25 := hV.len
          obtain ⟨w0, wr, rfl⟩ : ∃ w0 wr, ws = w0 :: wr := by
            cases ws with
            | nil => cases hw25
            | cons w0 wr => exact ⟨w0, wr, rfl⟩
          refine ⟨q2, md, w0, wr, dueL D5 wd many, rfl, SqL.of hq2, stored_dr hdr hV, k1, k2, k3, _, rfl, q, md, _, _, dueL D5 wd many, rfl, SqL.of (s7 _ _ hq), due_dr hdr (s7 _ _ hu), k1, k2, k3, rfl, _, rfl, iteNS rfl ?_⟩
          have s67 := s6.trans s7
          have offAll : Off t H' G7 := ((Off.of sj).trans off5).trans (Off.of s67)
          have keepE : ∀ {es : List V} {pq : Addr}, (H' pq = some (.lst es) ∧ Ers H' es (spec C (.ref t) wd many)) → G7 pq = some (.lst es) ∧ Ers G7 es (spec C (.ref t) wd many) := fun z =>
            let ⟨z1, z2⟩ := offE off5 z
            ⟨s67 _ _ z1, z2.mono s67⟩
          exact ⟨⟨_, _, _, _, rfl⟩, offT.trans offAll, offAll _ _ hlt hl', hlt, keepE ⟨w1, F1⟩, keepE ⟨w2, F2⟩, D5, hT7⟩
      · rintro σ H' ⟨⟨v6, v7, v8, v9, rfl⟩, offT, _⟩
        exact ⟨⟨_, _, _, _, _, _, _, _, _, rfl⟩, scr offT⟩
    · rintro σ H2 ⟨⟨v1, v2, v3, v4, v5, v6, v7, v8, v9, rfl⟩, _⟩
      exact k H2
end
end S


set_option Elab.async false
set_option linter.all false
set_option maxRecDepth 100000
set_option maxHeartbeats 4000000
namespace S
open PySem L2 G
section
variable {K : PySem.W.Frag} {mg : Str → Option Value}
/-- what the written part tells of one of the classes -/
structure Ct (K : PySem.W.Frag) (mg : Str → Option Value) (x f : Str) (R C : Addr) : Prop where
  g : mg x = some (.ref C)
  L : Cl K C f
  lk : ∃ q N bs sn sub ab col dd k0 k1 k2 k3 k5, K.lookup C = some (excClassObj x q C N bs [.ref R, .type "ValueError", .type "Exception", .type "BaseException", .type "object"] true sn sub ab col dd k0 k1 k2 k3 k5 "ValueError.__new__")
theorem ct_mk {x f q : Str} {R C N : Addr} {bs : List Value} {sn : List Str} {sub : List Value} {ab : Bool} {col : Option Bool} {dd : Option Addr} {k0 k1 k2 k3 k5 : Option Value} {h : Heap} (X : K.In h) (G : h.Ns mainGlobals mg)
    (aC : PySem.W.nsIn K mainGlobals x = some (some (.ref C)))
    (lk : K.lookup C = some (excClassObj x q C N bs [.ref R, .type "ValueError", .type "Exception", .type "BaseException", .type "object"] true sn sub ab col dd k0 k1 k2 k3 k5 "ValueError.__new__"))
    (sa : PySem.W.findIn K (.ref C) "__setattr__" = some (some (.builtin "object.__setattr__"))) (eC : PySem.W.subIn K (.ref C) (.type "BaseException") = some true) (tC : PySem.W.typeIn K (.ref C) = some (.type "type")) (kC : PySem.W.keepIn K (.ref C) = true)
    (hg : PySem.W.findIn K (.ref C) "__getattribute__" = some (some (.builtin "BaseException.__getattribute__"))) (hk : PySem.W.findIn K (.ref C) "__getattr__" = some none) (hd : PySem.W.hasDictIn K C = true) (ha : PySem.W.findIn K (.ref C) "__class__" = some (some (.builtin "object.__class__")))
    (hn : PySem.W.specialIn K (.builtin "object.__class__") "__get__" = some (some (.builtin "getset_descriptor.__get__"))) (ht : PySem.W.takesIn K (.builtin "object.__class__") = some true) (hm : PySem.W.mroIn K C (.type "object") = some true)
    (no : PySem.W.findIn K (.ref C) f = some none) : Ct K mg x f R C :=
  ⟨PySem.W.mg_of X G aC, ⟨⟨⟨_, _, _, _, _, _, _, _, _, _, _, _, _, _, _, lk, (show PySem.HandSPX.refsVE [.type "ValueError", .type "Exception", .type "BaseException", .type "object"] = true by decide +kernel)⟩, sa, eC, tC, kC⟩, ⟨hg, hk, eC, hd, ha, hn, ht, hm⟩, no⟩, ⟨_, _, _, _, _, _, _, _, _, _, _, _, _, lk⟩⟩
theorem cls_of {x q : Str} {C N : Addr} {bs bm : List Value} {sn : List Str} {sub : List Value} {ab : Bool} {col : Option Bool} {dd : Option Addr} {k0 k1 k2 k3 k5 : Option Value} (lk : K.lookup C = some (excClassObj x q C N bs bm true sn sub ab col dd k0 k1 k2 k3 k5 "ValueError.__new__")) :
    ∃ cd, PySem.W.clsIn K C = some cd ∧ cd.name = x ∧ cd.mro = .ref C :: bm := by
  unfold PySem.W.clsIn
  rw [lk]
  exact ⟨_, rfl, rfl, rfl⟩
theorem Ct.ne {x y f g : Str} {R C D : Addr} (a : Ct K mg x f R C) (b : Ct K mg y g R D) (h : x ≠ y) : C ≠ D := by
  intro z
  subst z
  obtain ⟨_, _, _, _, _, _, _, _, _, _, _, _, _, l1⟩ := a.lk
  obtain ⟨_, _, _, _, _, _, _, _, _, _, _, _, _, l2⟩ := b.lk
  obtain ⟨c1, e1, n1, _⟩ := cls_of l1
  obtain ⟨c2, e2, n2, _⟩ := cls_of l2
  rw [e1] at e2
  cases e2
  exact h (n1.symm.trans n2)
theorem Ct.kitSelf {x f : Str} {R C : Addr} (a : Ct K mg x f R C) : PySem.W.kitOne K (.ref C) (.ref C) = some true := by
  unfold PySem.W.kitOne
  rw [if_pos (by simp)]
theorem kit_ref {t : Value} {D : Addr} (h1 : (PySem.W.clsIn K D).isSome = true) (h2 : PySem.W.typeIn K (.ref D) = some (.type "type")) : PySem.W.kitCls K t (.ref D) = PySem.W.subIn K t (.ref D) := by
  show (if ((PySem.W.clsIn K D).isSome && PySem.W.typeIn K (.ref D) == some (.type "type")) = true then PySem.W.subIn K t (.ref D) else none) = _
  rw [if_pos (by rw [h1, h2]; rfl)]
theorem sub_ref {C : Addr} {v c : Value} {cd : ClassData} {r : List Value} (e : PySem.W.clsIn K C = some cd) (hm : cd.mro = c :: r) : PySem.W.subIn K (.ref C) v = some ((c :: r).contains v) := by
  show ((PySem.W.clsIn K C).bind fun cd => if cd.mro.isEmpty then none else some (cd.mro.contains v)) = _
  rw [e, Option.bind_some, hm, if_neg (by simp)]
theorem Ct.kitNot {x y f g : Str} {R C D : Addr} (a : Ct K mg x f R C) (b : Ct K mg y g R D) (hne : C ≠ D) (hR : D ≠ R) : PySem.W.kitOne K (.ref C) (.ref D) = some false := by
  obtain ⟨_, _, _, _, _, _, _, _, _, _, _, _, _, l1⟩ := a.lk
  obtain ⟨_, _, _, _, _, _, _, _, _, _, _, _, _, l2⟩ := b.lk
  obtain ⟨c1, e1, _, m1⟩ := cls_of l1
  obtain ⟨c2, e2, _, _⟩ := cls_of l2
  unfold PySem.W.kitOne
  rw [if_neg (by simp [hne]), kit_ref (by rw [e2]; rfl) b.L.T.tyC, sub_ref e1 m1]
  have h2 : (Value.ref D == Value.ref C) = false := by simp [Ne.symm hne]
  have h3 : (Value.ref D == Value.ref R) = false := by simp [hR]
  rw [List.contains_cons, h2, List.contains_cons, h3]
  rfl
theorem Ct.kitR {x f : Str} {R C : Addr} (a : Ct K mg x f R C) (hR : PySem.W.isClsIn K R = true) (tR : PySem.W.typeIn K (.ref R) = some (.type "type")) : PySem.W.kitOne K (.ref C) (.ref R) = some true := by
  obtain ⟨_, _, _, _, _, _, _, _, _, _, _, _, _, l1⟩ := a.lk
  obtain ⟨c1, e1, _, m1⟩ := cls_of l1
  unfold PySem.W.kitOne
  split
  · rfl
  · rw [kit_ref hR tR, sub_ref e1 m1]
    simp
theorem Ct.kitV {x f : Str} {R C : Addr} (a : Ct K mg x f R C) : PySem.W.kitOne K (.ref C) (.type "ValueError") = some true := by
  obtain ⟨_, _, _, _, _, _, _, _, _, _, _, _, _, l1⟩ := a.lk
  obtain ⟨c1, e1, _, m1⟩ := cls_of l1
  unfold PySem.W.kitOne
  rw [if_neg (by simp)]
  show (if PySem.W.kitMeta "ValueError" = true then PySem.W.subIn K (.ref C) (.type "ValueError") else none) = some true
  rw [if_pos (by decide +kernel), sub_ref e1 m1]
  simp
end
end S


set_option Elab.async false
set_option linter.all false
set_option maxRecDepth 100000
set_option maxHeartbeats 4000000
namespace S
open PySem L2 G
section
variable {P : Program} {w : World} {K : PySem.W.Frag} {mg : Str → Option Value} {base : Heap}
theorem nm_inj : ∀ i, i < 25 → ∀ j, j < 25 → i ≠ j → nm i ≠ nm j := by decide +kernel
theorem nm_noR : ∀ i, i < 25 → nm i ≠ "RoadError" := by decide +kernel
def tabC (l : List Addr) (i : Nat) : Addr := l.getD i 0
theorem txt_mk {R C0 C1 C2 C3 C4 C5 C6 C7 C8 C9 C10 C11 C12 C13 C14 C15 C16 C17 C18 C19 C20 C21 C22 C23 C24 f0 f1 f2 f3 f4 f5 f6 f7 f8 f9 f10 f11 f12 f13 f14 f15 f16 f17 f18 f19 f20 f21 f22 f23 f24 N : Addr} {fd0 fd1 fd2 fd3 fd4 fd5 fd6 fd7 fd8 fd9 fd10 fd11 fd12 fd13 fd14 fd15 fd16 fd17 fd18 fd19 fd20 fd21 fd22 fd23 fd24 : FuncData} {q : Str} {bs bm : List Value} {sn : List Str} {sub : List Value} {ab : Bool} {col : Option Bool} {dd : Option Addr} {k0 k1 k2 k3 k5 : Option Value}
    (c0 : Ct K mg "BadHead" "value" R C0) (i0 : PySem.W.findIn K (.ref C0) "__init__" = some (some (.ref f0))) (t0 : PySem.W.typeIn K (.ref f0) = some (.type "function")) (F0 : Fun K "__init__" "BadHead.__init__" sI0 f0 fd0)
    (c1 : Ct K mg "BadSteps" "value" R C1) (i1 : PySem.W.findIn K (.ref C1) "__init__" = some (some (.ref f1))) (t1 : PySem.W.typeIn K (.ref f1) = some (.type "function")) (F1 : Fun K "__init__" "BadSteps.__init__" sI1 f1 fd1)
    (c2 : Ct K mg "NoStep" "value" R C2) (i2 : PySem.W.findIn K (.ref C2) "__init__" = some (some (.ref f2))) (t2 : PySem.W.typeIn K (.ref f2) = some (.type "function")) (F2 : Fun K "__init__" "NoStep.__init__" sI2 f2 fd2)
    (c3 : Ct K mg "BadBody" "value" R C3) (i3 : PySem.W.findIn K (.ref C3) "__init__" = some (some (.ref f3))) (t3 : PySem.W.typeIn K (.ref f3) = some (.type "function")) (F3 : Fun K "__init__" "BadBody.__init__" sI3 f3 fd3)
    (c4 : Ct K mg "BadChain" "value" R C4) (i4 : PySem.W.findIn K (.ref C4) "__init__" = some (some (.ref f4))) (t4 : PySem.W.typeIn K (.ref f4) = some (.type "function")) (F4 : Fun K "__init__" "BadChain.__init__" sI4 f4 fd4)
    (c5 : Ct K mg "NoBoundary" "value" R C5) (i5 : PySem.W.findIn K (.ref C5) "__init__" = some (some (.ref f5))) (t5 : PySem.W.typeIn K (.ref f5) = some (.type "function")) (F5 : Fun K "__init__" "NoBoundary.__init__" sI5 f5 fd5)
    (c6 : Ct K mg "NoPiece" "value" R C6) (i6 : PySem.W.findIn K (.ref C6) "__init__" = some (some (.ref f6))) (t6 : PySem.W.typeIn K (.ref f6) = some (.type "function")) (F6 : Fun K "__init__" "NoPiece.__init__" sI6 f6 fd6)
    (c7 : Ct K mg "BadStretches" "value" R C7) (i7 : PySem.W.findIn K (.ref C7) "__init__" = some (some (.ref f7))) (t7 : PySem.W.typeIn K (.ref f7) = some (.type "function")) (F7 : Fun K "__init__" "BadStretches.__init__" sI7 f7 fd7)
    (c8 : Ct K mg "BadName" "value" R C8) (i8 : PySem.W.findIn K (.ref C8) "__init__" = some (some (.ref f8))) (t8 : PySem.W.typeIn K (.ref f8) = some (.type "function")) (F8 : Fun K "__init__" "BadName.__init__" sI8 f8 fd8)
    (c9 : Ct K mg "BadRoad" "value" R C9) (i9 : PySem.W.findIn K (.ref C9) "__init__" = some (some (.ref f9))) (t9 : PySem.W.typeIn K (.ref f9) = some (.type "function")) (F9 : Fun K "__init__" "BadRoad.__init__" sI9 f9 fd9)
    (c10 : Ct K mg "BadTells" "value" R C10) (i10 : PySem.W.findIn K (.ref C10) "__init__" = some (some (.ref f10))) (t10 : PySem.W.typeIn K (.ref f10) = some (.type "function")) (F10 : Fun K "__init__" "BadTells.__init__" sI10 f10 fd10)
    (c11 : Ct K mg "NoMouth" "value" R C11) (i11 : PySem.W.findIn K (.ref C11) "__init__" = some (some (.ref f11))) (t11 : PySem.W.typeIn K (.ref f11) = some (.type "function")) (F11 : Fun K "__init__" "NoMouth.__init__" sI11 f11 fd11)
    (c12 : Ct K mg "NameTaken" "name" R C12) (i12 : PySem.W.findIn K (.ref C12) "__init__" = some (some (.ref f12))) (t12 : PySem.W.typeIn K (.ref f12) = some (.type "function")) (F12 : Fun K "__init__" "NameTaken.__init__" sI12 f12 fd12)
    (c13 : Ct K mg "UnknownName" "name" R C13) (i13 : PySem.W.findIn K (.ref C13) "__init__" = some (some (.ref f13))) (t13 : PySem.W.typeIn K (.ref f13) = some (.type "function")) (F13 : Fun K "__init__" "UnknownName.__init__" sI13 f13 fd13)
    (c14 : Ct K mg "TooSmall" "name" R C14) (i14 : PySem.W.findIn K (.ref C14) "__init__" = some (some (.ref f14))) (t14 : PySem.W.typeIn K (.ref f14) = some (.type "function")) (F14 : Fun K "__init__" "TooSmall.__init__" sI14 f14 fd14)
    (c15 : Ct K mg "BadStep" "position" R C15) (i15 : PySem.W.findIn K (.ref C15) "__init__" = some (some (.ref f15))) (t15 : PySem.W.typeIn K (.ref f15) = some (.type "function")) (F15 : Fun K "__init__" "BadStep.__init__" sI15 f15 fd15)
    (c16 : Ct K mg "BadChange" "position" R C16) (i16 : PySem.W.findIn K (.ref C16) "__init__" = some (some (.ref f16))) (t16 : PySem.W.typeIn K (.ref f16) = some (.type "function")) (F16 : Fun K "__init__" "BadChange.__init__" sI16 f16 fd16)
    (c17 : Ct K mg "TooDeep" "depth" R C17) (i17 : PySem.W.findIn K (.ref C17) "__init__" = some (some (.ref f17))) (t17 : PySem.W.typeIn K (.ref f17) = some (.type "function")) (F17 : Fun K "__init__" "TooDeep.__init__" sI17 f17 fd17)
    (c18 : Ct K mg "TooGreat" "size" R C18) (i18 : PySem.W.findIn K (.ref C18) "__init__" = some (some (.ref f18))) (t18 : PySem.W.typeIn K (.ref f18) = some (.type "function")) (F18 : Fun K "__init__" "TooGreat.__init__" sI18 f18 fd18)
    (c19 : Ct K mg "OtherHead" "head" R C19) (i19 : PySem.W.findIn K (.ref C19) "__init__" = some (some (.ref f19))) (t19 : PySem.W.typeIn K (.ref f19) = some (.type "function")) (F19 : Fun K "__init__" "OtherHead.__init__" sI19 f19 fd19)
    (c20 : Ct K mg "Held" "size" R C20) (i20 : PySem.W.findIn K (.ref C20) "__init__" = some (some (.ref f20))) (t20 : PySem.W.typeIn K (.ref f20) = some (.type "function")) (F20 : Fun K "__init__" "Held.__init__" sI20 f20 fd20)
    (c21 : Ct K mg "TooFar" "count" R C21) (i21 : PySem.W.findIn K (.ref C21) "__init__" = some (some (.ref f21))) (t21 : PySem.W.typeIn K (.ref f21) = some (.type "function")) (F21 : Fun K "__init__" "TooFar.__init__" sI21 f21 fd21)
    (c22 : Ct K mg "Hopeless" "body" R C22) (i22 : PySem.W.findIn K (.ref C22) "__init__" = some (some (.ref f22))) (t22 : PySem.W.typeIn K (.ref f22) = some (.type "function")) (F22 : Fun K "__init__" "Hopeless.__init__" sI22 f22 fd22)
    (c23 : Ct K mg "BadText" "line" R C23) (i23 : PySem.W.findIn K (.ref C23) "__init__" = some (some (.ref f23))) (t23 : PySem.W.typeIn K (.ref f23) = some (.type "function")) (F23 : Fun K "__init__" "BadText.__init__" sI23 f23 fd23)
    (c24 : Ct K mg "BadCommand" "command" R C24) (i24 : PySem.W.findIn K (.ref C24) "__init__" = some (some (.ref f24))) (t24 : PySem.W.typeIn K (.ref f24) = some (.type "function")) (F24 : Fun K "__init__" "BadCommand.__init__" sI24 f24 fd24)
    (gR : mg "RoadError" = some (.ref R)) (lR : K.lookup R = some (excClassObj "RoadError" q R N bs bm true sn sub ab col dd k0 k1 k2 k3 k5 "ValueError.__new__")) (cR : PySem.W.isClsIn K R = true) (tR : PySem.W.typeIn K (.ref R) = some (.type "type")) (isi : mg "isinstance" = none) :
    Txt P w K mg base (tabC [C0, C1, C2, C3, C4, C5, C6, C7, C8, C9, C10, C11, C12, C13, C14, C15, C16, C17, C18, C19, C20, C21, C22, C23, C24]) R := by
  have ct : ∀ i, i < 25 → Ct K mg (nm i) (fl i) R (tabC [C0, C1, C2, C3, C4, C5, C6, C7, C8, C9, C10, C11, C12, C13, C14, C15, C16, C17, C18, C19, C20, C21, C22, C23, C24] i) := by
    intro i hi
    match i, hi with
    | 0, _ => exact c0
    | 1, _ => exact c1
    | 2, _ => exact c2
    | 3, _ => exact c3
    | 4, _ => exact c4
    | 5, _ => exact c5
    | 6, _ => exact c6
    | 7, _ => exact c7
    | 8, _ => exact c8
    | 9, _ => exact c9
    | 10, _ => exact c10
    | 11, _ => exact c11
    | 12, _ => exact c12
    | 13, _ => exact c13
    | 14, _ => exact c14
    | 15, _ => exact c15
    | 16, _ => exact c16
    | 17, _ => exact c17
    | 18, _ => exact c18
    | 19, _ => exact c19
    | 20, _ => exact c20
    | 21, _ => exact c21
    | 22, _ => exact c22
    | 23, _ => exact c23
    | 24, _ => exact c24
    | n + 25, h => exact absurd h (by omega)
  have noR : ∀ i, i < 25 → tabC [C0, C1, C2, C3, C4, C5, C6, C7, C8, C9, C10, C11, C12, C13, C14, C15, C16, C17, C18, C19, C20, C21, C22, C23, C24] i ≠ R := by
    intro i hi z
    have a := ct i hi
    obtain ⟨_, _, _, _, _, _, _, _, _, _, _, _, _, l1⟩ := a.lk
    rw [z] at l1
    obtain ⟨a1, e1, n1, _⟩ := cls_of l1
    obtain ⟨a2, e2, n2, _⟩ := cls_of lR
    rw [e1] at e2
    cases e2
    exact nm_noR i hi (n1.symm.trans n2)
  refine ⟨?_, fun i hi => (ct i hi).g, fun i j hi hj => ?_, fun i hi => (ct i hi).kitR cR tR, fun i hi => (ct i hi).kitV, gR, isi⟩
  · intro i hi
    match i, hi with
    | 0, _ => exact mk0 F0 c0.L i0 t0
    | 1, _ => exact mk1 F1 c1.L i1 t1
    | 2, _ => exact mk2 F2 c2.L i2 t2
    | 3, _ => exact mk3 F3 c3.L i3 t3
    | 4, _ => exact mk4 F4 c4.L i4 t4
    | 5, _ => exact mk5 F5 c5.L i5 t5
    | 6, _ => exact mk6 F6 c6.L i6 t6
    | 7, _ => exact mk7 F7 c7.L i7 t7
    | 8, _ => exact mk8 F8 c8.L i8 t8
    | 9, _ => exact mk9 F9 c9.L i9 t9
    | 10, _ => exact mk10 F10 c10.L i10 t10
    | 11, _ => exact mk11 F11 c11.L i11 t11
    | 12, _ => exact mk12 F12 c12.L i12 t12
    | 13, _ => exact mk13 F13 c13.L i13 t13
    | 14, _ => exact mk14 F14 c14.L i14 t14
    | 15, _ => exact mk15 F15 c15.L i15 t15
    | 16, _ => exact mk16 F16 c16.L i16 t16
    | 17, _ => exact mk17 F17 c17.L i17 t17
    | 18, _ => exact mk18 F18 c18.L i18 t18
    | 19, _ => exact mk19 F19 c19.L i19 t19
    | 20, _ => exact mk20 F20 c20.L i20 t20
    | 21, _ => exact mk21 F21 c21.L i21 t21
    | 22, _ => exact mk22 F22 c22.L i22 t22
    | 23, _ => exact mk23 F23 c23.L i23 t23
    | 24, _ => exact mk24 F24 c24.L i24 t24
    | n + 25, h => exact absurd h (by omega)
  · by_cases e : j = i
    · subst e
      rw [decide_eq_true rfl]
      exact (ct j hj).kitSelf
    · rw [decide_eq_false e]
      exact (ct i hi).kitNot (ct j hj) ((ct i hi).ne (ct j hj) (nm_inj i hi j hj (Ne.symm e))) (noR j hj)
end
theorem all_mk {l : PySem.W.OpenLaw} {w : World} {K : PySem.W.Frag} {h : Heap} {mg : Str → Option Value} {fa R fL fS fD fP fK fA fN fO : Addr} {dL dS dD dP dK dA dN dO : FuncData} {C : Nat → Addr} (X : K.In h) (hNs : h.Ns mainGlobals mg) (hfa : mg "law" = some (.ref fa))
    (T : ∀ base : Heap, Txt l.prog w K mg base C R)
    (aL : PySem.W.nsIn K mainGlobals "law" = some (some (.ref fL))) (F : Fun K "law" "law" sLaw fL dL)
    (aS : PySem.W.nsIn K mainGlobals "_law_source" = some (some (.ref fS))) (FS : Fun K "_law_source" "_law_source" sSource fS dS)
    (aD : PySem.W.nsIn K mainGlobals "_law_draw" = some (some (.ref fD))) (FD : Fun K "_law_draw" "_law_draw" sDraw fD dD)
    (aP : PySem.W.nsIn K mainGlobals "_law_pick" = some (some (.ref fP))) (FP : Fun K "_law_pick" "_law_pick" sPick fP dP)
    (aK : PySem.W.nsIn K mainGlobals "_law_kinds" = some (some (.ref fK))) (FK : Fun K "_law_kinds" "_law_kinds" sKinds fK dK)
    (aA : PySem.W.nsIn K mainGlobals "_law_by_place" = some (some (.ref fA))) (FA : Fun K "_law_by_place" "_law_by_place" sPlace fA dA)
    (aN : PySem.W.nsIn K mainGlobals "_law_by_name" = some (some (.ref fN))) (FN : Fun K "_law_by_name" "_law_by_name" sName fN dN)
    (aO : PySem.W.nsIn K mainGlobals "_law_stored" = some (some (.ref fO))) (FO : Fun K "_law_stored" "_law_stored" sStored fO dO)
    (z1 : PySem.W.nsIn K mainGlobals "int" = some none) (z2 : PySem.W.nsIn K mainGlobals "len" = some none) (z3 : PySem.W.nsIn K mainGlobals "isinstance" = some none) (z4 : PySem.W.nsIn K mainGlobals "ValueError" = some none) (z5 : PySem.W.nsIn K mainGlobals "list" = some none)
    (z6 : PySem.W.nsIn K mainGlobals "range" = some none) (z7 : PySem.W.nsIn K mainGlobals "max" = some none) (z8 : PySem.W.nsIn K mainGlobals "min" = some none) (z9 : PySem.W.nsIn K mainGlobals "enumerate" = some none) (z10 : PySem.W.nsIn K mainGlobals "repr" = some none) :
    ∃ fd : FuncData, (∀ (s : Shared) (v : Value), BindsTo s fd ⟨[v], []⟩ [("script", v)]) ∧ ∀ base : Heap, K.In base → base.Ns mainGlobals mg → G.Ok l.prog w K mg base CX0 5 fa fd ["script"] (spLaw K) := by
  have e := hfa.symm.trans (PySem.W.mg_of X hNs aL)
  cases e
  have n : ∀ {x : Str}, PySem.W.nsIn K mainGlobals x = some none → mg x = none := fun z => PySem.W.mg_none_of X hNs z
  have B : Bi mg := ⟨n z1, n z2⟩
  have L : Lw mg := ⟨B, n z3, n z4, n z5, n z6, n z7, n z8, n z9, n z10⟩
  refine ⟨dL, ?_, fun base _ _ => ?_⟩
  · obtain ⟨_, _, _, _, _, _, _, _, _, rfl, _, _⟩ := F.ex
    exact fun s v => .of_eq rfl
  · have gD := PySem.W.mg_of X hNs aD
    have bD := FD.binds (ps := ["source", "span"]) fun _ _ _ _ _ _ us hl => match us, hl with | [_, _], _ => rfl
    exact ok_law F (T base) L
      { GS := ok_source FS B, GD := ok_draw FD B, GP := ok_pick FP B FD gD bD, GK := ok_kinds FK (T base), GA := ok_law_by_place FA (T base), GN := ok_law_by_name FN (T base), GO := ok_stored FO (T base)
        bS := FS.binds (ps := ["script", "start"]) fun _ _ _ _ _ _ us hl => match us, hl with | [_, _], _ => rfl
        bD := bD
        bP := FP.binds (ps := ["source", "items"]) fun _ _ _ _ _ _ us hl => match us, hl with | [_, _], _ => rfl
        bK := FK.binds (ps := ["error"]) fun _ _ _ _ _ _ us hl => match us, hl with | [_], _ => rfl
        bA := FA.binds (ps := ["thing", "word", "many"]) fun _ _ _ _ _ _ us hl => match us, hl with | [_, _, _], _ => rfl
        bN := FN.binds (ps := ["thing", "word", "many"]) fun _ _ _ _ _ _ us hl => match us, hl with | [_, _, _], _ => rfl
        bO := FO.binds (ps := ["errors"]) fun _ _ _ _ _ _ us hl => match us, hl with | [_], _ => rfl
        gS := PySem.W.mg_of X hNs aS, gD := gD, gP := PySem.W.mg_of X hNs aP, gK := PySem.W.mg_of X hNs aK, gA := PySem.W.mg_of X hNs aA, gN := PySem.W.mg_of X hNs aN, gO := PySem.W.mg_of X hNs aO
        kS := FS.kp, kD := FD.kp, kP := FP.kp, kK := FK.kp, kA := FA.kp, kN := FN.kp, kO := FO.kp }
end S


open PySem PySem.W PyProof.Rows
set_option Elab.async false
set_option maxRecDepth 100000 in
set_option maxHeartbeats 0 in
theorem PySem.Challenge.cw_roadsizes_k91_errors_by_hand_holds : PySem.Challenge.rw_roadsizes_k91_errors_by_hand.Holds := by
  w_on; o_law; k_head; (case hw => w_witness2)
  k_fill
  refine G.walk (l := PySem.Challenge.rw_roadsizes_k91_errors_by_hand) (n := 63) (k := 5) (sp := S.spLaw) (x := "script") rfl (by decide) rfl ⟨rfl, by decide, by decide⟩ (fun w h Y => PySem.W.kIn_of Y) ?F (fun K H a ns hl hb hS => ⟨a, ns, rfl, hS, hl, hb, fun _ => rfl⟩)
  case F =>
    intro w mg fa h KX hNs hmg
    refine' S.all_mk KX hNs hmg (fun base => S.txt_mk (S.ct_mk (x := "BadHead") (f := "value") KX hNs ?ga0 ?lk0 ?sa0 ?ec0 ?tc0 ?kc0 ?hg0 ?hk0 ?hd0 ?ha0 ?hn0 ?ht0 ?hm0 ?no0) ?ic0 ?ti0 (L2.fun_mk (st := S.sI0) ?fl0 ?fc0 ?fk0)
      (S.ct_mk (x := "BadSteps") (f := "value") KX hNs ?ga1 ?lk1 ?sa1 ?ec1 ?tc1 ?kc1 ?hg1 ?hk1 ?hd1 ?ha1 ?hn1 ?ht1 ?hm1 ?no1) ?ic1 ?ti1 (L2.fun_mk (st := S.sI1) ?fl1 ?fc1 ?fk1)
      (S.ct_mk (x := "NoStep") (f := "value") KX hNs ?ga2 ?lk2 ?sa2 ?ec2 ?tc2 ?kc2 ?hg2 ?hk2 ?hd2 ?ha2 ?hn2 ?ht2 ?hm2 ?no2) ?ic2 ?ti2 (L2.fun_mk (st := S.sI2) ?fl2 ?fc2 ?fk2)
      (S.ct_mk (x := "BadBody") (f := "value") KX hNs ?ga3 ?lk3 ?sa3 ?ec3 ?tc3 ?kc3 ?hg3 ?hk3 ?hd3 ?ha3 ?hn3 ?ht3 ?hm3 ?no3) ?ic3 ?ti3 (L2.fun_mk (st := S.sI3) ?fl3 ?fc3 ?fk3)
      (S.ct_mk (x := "BadChain") (f := "value") KX hNs ?ga4 ?lk4 ?sa4 ?ec4 ?tc4 ?kc4 ?hg4 ?hk4 ?hd4 ?ha4 ?hn4 ?ht4 ?hm4 ?no4) ?ic4 ?ti4 (L2.fun_mk (st := S.sI4) ?fl4 ?fc4 ?fk4)
      (S.ct_mk (x := "NoBoundary") (f := "value") KX hNs ?ga5 ?lk5 ?sa5 ?ec5 ?tc5 ?kc5 ?hg5 ?hk5 ?hd5 ?ha5 ?hn5 ?ht5 ?hm5 ?no5) ?ic5 ?ti5 (L2.fun_mk (st := S.sI5) ?fl5 ?fc5 ?fk5)
      (S.ct_mk (x := "NoPiece") (f := "value") KX hNs ?ga6 ?lk6 ?sa6 ?ec6 ?tc6 ?kc6 ?hg6 ?hk6 ?hd6 ?ha6 ?hn6 ?ht6 ?hm6 ?no6) ?ic6 ?ti6 (L2.fun_mk (st := S.sI6) ?fl6 ?fc6 ?fk6)
      (S.ct_mk (x := "BadStretches") (f := "value") KX hNs ?ga7 ?lk7 ?sa7 ?ec7 ?tc7 ?kc7 ?hg7 ?hk7 ?hd7 ?ha7 ?hn7 ?ht7 ?hm7 ?no7) ?ic7 ?ti7 (L2.fun_mk (st := S.sI7) ?fl7 ?fc7 ?fk7)
      (S.ct_mk (x := "BadName") (f := "value") KX hNs ?ga8 ?lk8 ?sa8 ?ec8 ?tc8 ?kc8 ?hg8 ?hk8 ?hd8 ?ha8 ?hn8 ?ht8 ?hm8 ?no8) ?ic8 ?ti8 (L2.fun_mk (st := S.sI8) ?fl8 ?fc8 ?fk8)
      (S.ct_mk (x := "BadRoad") (f := "value") KX hNs ?ga9 ?lk9 ?sa9 ?ec9 ?tc9 ?kc9 ?hg9 ?hk9 ?hd9 ?ha9 ?hn9 ?ht9 ?hm9 ?no9) ?ic9 ?ti9 (L2.fun_mk (st := S.sI9) ?fl9 ?fc9 ?fk9)
      (S.ct_mk (x := "BadTells") (f := "value") KX hNs ?ga10 ?lk10 ?sa10 ?ec10 ?tc10 ?kc10 ?hg10 ?hk10 ?hd10 ?ha10 ?hn10 ?ht10 ?hm10 ?no10) ?ic10 ?ti10 (L2.fun_mk (st := S.sI10) ?fl10 ?fc10 ?fk10)
      (S.ct_mk (x := "NoMouth") (f := "value") KX hNs ?ga11 ?lk11 ?sa11 ?ec11 ?tc11 ?kc11 ?hg11 ?hk11 ?hd11 ?ha11 ?hn11 ?ht11 ?hm11 ?no11) ?ic11 ?ti11 (L2.fun_mk (st := S.sI11) ?fl11 ?fc11 ?fk11)
      (S.ct_mk (x := "NameTaken") (f := "name") KX hNs ?ga12 ?lk12 ?sa12 ?ec12 ?tc12 ?kc12 ?hg12 ?hk12 ?hd12 ?ha12 ?hn12 ?ht12 ?hm12 ?no12) ?ic12 ?ti12 (L2.fun_mk (st := S.sI12) ?fl12 ?fc12 ?fk12)
      (S.ct_mk (x := "UnknownName") (f := "name") KX hNs ?ga13 ?lk13 ?sa13 ?ec13 ?tc13 ?kc13 ?hg13 ?hk13 ?hd13 ?ha13 ?hn13 ?ht13 ?hm13 ?no13) ?ic13 ?ti13 (L2.fun_mk (st := S.sI13) ?fl13 ?fc13 ?fk13)
      (S.ct_mk (x := "TooSmall") (f := "name") KX hNs ?ga14 ?lk14 ?sa14 ?ec14 ?tc14 ?kc14 ?hg14 ?hk14 ?hd14 ?ha14 ?hn14 ?ht14 ?hm14 ?no14) ?ic14 ?ti14 (L2.fun_mk (st := S.sI14) ?fl14 ?fc14 ?fk14)
      (S.ct_mk (x := "BadStep") (f := "position") KX hNs ?ga15 ?lk15 ?sa15 ?ec15 ?tc15 ?kc15 ?hg15 ?hk15 ?hd15 ?ha15 ?hn15 ?ht15 ?hm15 ?no15) ?ic15 ?ti15 (L2.fun_mk (st := S.sI15) ?fl15 ?fc15 ?fk15)
      (S.ct_mk (x := "BadChange") (f := "position") KX hNs ?ga16 ?lk16 ?sa16 ?ec16 ?tc16 ?kc16 ?hg16 ?hk16 ?hd16 ?ha16 ?hn16 ?ht16 ?hm16 ?no16) ?ic16 ?ti16 (L2.fun_mk (st := S.sI16) ?fl16 ?fc16 ?fk16)
      (S.ct_mk (x := "TooDeep") (f := "depth") KX hNs ?ga17 ?lk17 ?sa17 ?ec17 ?tc17 ?kc17 ?hg17 ?hk17 ?hd17 ?ha17 ?hn17 ?ht17 ?hm17 ?no17) ?ic17 ?ti17 (L2.fun_mk (st := S.sI17) ?fl17 ?fc17 ?fk17)
      (S.ct_mk (x := "TooGreat") (f := "size") KX hNs ?ga18 ?lk18 ?sa18 ?ec18 ?tc18 ?kc18 ?hg18 ?hk18 ?hd18 ?ha18 ?hn18 ?ht18 ?hm18 ?no18) ?ic18 ?ti18 (L2.fun_mk (st := S.sI18) ?fl18 ?fc18 ?fk18)
      (S.ct_mk (x := "OtherHead") (f := "head") KX hNs ?ga19 ?lk19 ?sa19 ?ec19 ?tc19 ?kc19 ?hg19 ?hk19 ?hd19 ?ha19 ?hn19 ?ht19 ?hm19 ?no19) ?ic19 ?ti19 (L2.fun_mk (st := S.sI19) ?fl19 ?fc19 ?fk19)
      (S.ct_mk (x := "Held") (f := "size") KX hNs ?ga20 ?lk20 ?sa20 ?ec20 ?tc20 ?kc20 ?hg20 ?hk20 ?hd20 ?ha20 ?hn20 ?ht20 ?hm20 ?no20) ?ic20 ?ti20 (L2.fun_mk (st := S.sI20) ?fl20 ?fc20 ?fk20)
      (S.ct_mk (x := "TooFar") (f := "count") KX hNs ?ga21 ?lk21 ?sa21 ?ec21 ?tc21 ?kc21 ?hg21 ?hk21 ?hd21 ?ha21 ?hn21 ?ht21 ?hm21 ?no21) ?ic21 ?ti21 (L2.fun_mk (st := S.sI21) ?fl21 ?fc21 ?fk21)
      (S.ct_mk (x := "Hopeless") (f := "body") KX hNs ?ga22 ?lk22 ?sa22 ?ec22 ?tc22 ?kc22 ?hg22 ?hk22 ?hd22 ?ha22 ?hn22 ?ht22 ?hm22 ?no22) ?ic22 ?ti22 (L2.fun_mk (st := S.sI22) ?fl22 ?fc22 ?fk22)
      (S.ct_mk (x := "BadText") (f := "line") KX hNs ?ga23 ?lk23 ?sa23 ?ec23 ?tc23 ?kc23 ?hg23 ?hk23 ?hd23 ?ha23 ?hn23 ?ht23 ?hm23 ?no23) ?ic23 ?ti23 (L2.fun_mk (st := S.sI23) ?fl23 ?fc23 ?fk23)
      (S.ct_mk (x := "BadCommand") (f := "command") KX hNs ?ga24 ?lk24 ?sa24 ?ec24 ?tc24 ?kc24 ?hg24 ?hk24 ?hd24 ?ha24 ?hn24 ?ht24 ?hm24 ?no24) ?ic24 ?ti24 (L2.fun_mk (st := S.sI24) ?fl24 ?fc24 ?fk24)
      (PySem.W.mg_of KX hNs ?aR) ?lR ?cR ?tR (PySem.W.mg_none_of KX hNs ?z3))
      ?aL (L2.fun_mk (st := S.sLaw) ?lL ?cL ?kL) ?aS (L2.fun_mk (st := S.sSource) ?lS ?cS ?kS) ?aD (L2.fun_mk (st := S.sDraw) ?lD ?cD ?kD) ?aP (L2.fun_mk (st := S.sPick) ?lP ?cP ?kP) ?aK (L2.fun_mk (st := S.sKinds) ?lK ?cK ?kK) ?aA (L2.fun_mk (st := S.sPlace) ?lA ?cA ?kA) ?aN (L2.fun_mk (st := S.sName) ?lN ?cN ?kN) ?aO (L2.fun_mk (st := S.sStored) ?lO ?cO ?kO) ?z1 ?z2 ?z3 ?z4 ?z5 ?z6 ?z7 ?z8 ?z9 ?z10
    (case aR => k_is)
    (case lR => k_is)
    (case cR => k_is)
    (case tR => k_is)
    (case ga0 => k_is)
    (case lk0 => k_is)
    (case sa0 => k_is)
    (case ec0 => k_is)
    (case tc0 => k_is)
    (case kc0 => k_is)
    (case hg0 => k_is)
    (case hk0 => k_is)
    (case hd0 => k_is)
    (case ha0 => k_is)
    (case hn0 => k_is)
    (case ht0 => k_is)
    (case hm0 => k_is)
    (case no0 => k_is)
    (case ic0 => k_is)
    (case ti0 => k_is)
    (case fl0 => k_is)
    (case fc0 => k_is)
    (case fk0 => k_is)
    (case ga1 => k_is)
    (case lk1 => k_is)
    (case sa1 => k_is)
    (case ec1 => k_is)
    (case tc1 => k_is)
    (case kc1 => k_is)
    (case hg1 => k_is)
    (case hk1 => k_is)
    (case hd1 => k_is)
    (case ha1 => k_is)
    (case hn1 => k_is)
    (case ht1 => k_is)
    (case hm1 => k_is)
    (case no1 => k_is)
    (case ic1 => k_is)
    (case ti1 => k_is)
    (case fl1 => k_is)
    (case fc1 => k_is)
    (case fk1 => k_is)
    (case ga2 => k_is)
    (case lk2 => k_is)
    (case sa2 => k_is)
    (case ec2 => k_is)
    (case tc2 => k_is)
    (case kc2 => k_is)
    (case hg2 => k_is)
    (case hk2 => k_is)
    (case hd2 => k_is)
    (case ha2 => k_is)
    (case hn2 => k_is)
    (case ht2 => k_is)
    (case hm2 => k_is)
    (case no2 => k_is)
    (case ic2 => k_is)
    (case ti2 => k_is)
    (case fl2 => k_is)
    (case fc2 => k_is)
    (case fk2 => k_is)
    (case ga3 => k_is)
    (case lk3 => k_is)
    (case sa3 => k_is)
    (case ec3 => k_is)
    (case tc3 => k_is)
    (case kc3 => k_is)
    (case hg3 => k_is)
    (case hk3 => k_is)
    (case hd3 => k_is)
    (case ha3 => k_is)
    (case hn3 => k_is)
    (case ht3 => k_is)
    (case hm3 => k_is)
    (case no3 => k_is)
    (case ic3 => k_is)
    (case ti3 => k_is)
    (case fl3 => k_is)
    (case fc3 => k_is)
    (case fk3 => k_is)
    (case ga4 => k_is)
    (case lk4 => k_is)
    (case sa4 => k_is)
    (case ec4 => k_is)
    (case tc4 => k_is)
    (case kc4 => k_is)
    (case hg4 => k_is)
    (case hk4 => k_is)
    (case hd4 => k_is)
    (case ha4 => k_is)
    (case hn4 => k_is)
    (case ht4 => k_is)
    (case hm4 => k_is)
    (case no4 => k_is)
    (case ic4 => k_is)
    (case ti4 => k_is)
    (case fl4 => k_is)
    (case fc4 => k_is)
    (case fk4 => k_is)
    (case ga5 => k_is)
    (case lk5 => k_is)
    (case sa5 => k_is)
    (case ec5 => k_is)
    (case tc5 => k_is)
    (case kc5 => k_is)
    (case hg5 => k_is)
    (case hk5 => k_is)
    (case hd5 => k_is)
    (case ha5 => k_is)
    (case hn5 => k_is)
    (case ht5 => k_is)
    (case hm5 => k_is)
    (case no5 => k_is)
    (case ic5 => k_is)
    (case ti5 => k_is)
    (case fl5 => k_is)
    (case fc5 => k_is)
    (case fk5 => k_is)
    (case ga6 => k_is)
    (case lk6 => k_is)
    (case sa6 => k_is)
    (case ec6 => k_is)
    (case tc6 => k_is)
    (case kc6 => k_is)
    (case hg6 => k_is)
    (case hk6 => k_is)
    (case hd6 => k_is)
    (case ha6 => k_is)
    (case hn6 => k_is)
    (case ht6 => k_is)
    (case hm6 => k_is)
    (case no6 => k_is)
    (case ic6 => k_is)
    (case ti6 => k_is)
    (case fl6 => k_is)
    (case fc6 => k_is)
    (case fk6 => k_is)
    (case ga7 => k_is)
    (case lk7 => k_is)
    (case sa7 => k_is)
    (case ec7 => k_is)
    (case tc7 => k_is)
    (case kc7 => k_is)
    (case hg7 => k_is)
    (case hk7 => k_is)
    (case hd7 => k_is)
    (case ha7 => k_is)
    (case hn7 => k_is)
    (case ht7 => k_is)
    (case hm7 => k_is)
    (case no7 => k_is)
    (case ic7 => k_is)
    (case ti7 => k_is)
    (case fl7 => k_is)
    (case fc7 => k_is)
    (case fk7 => k_is)
    (case ga8 => k_is)
    (case lk8 => k_is)
    (case sa8 => k_is)
    (case ec8 => k_is)
    (case tc8 => k_is)
    (case kc8 => k_is)
    (case hg8 => k_is)
    (case hk8 => k_is)
    (case hd8 => k_is)
    (case ha8 => k_is)
    (case hn8 => k_is)
    (case ht8 => k_is)
    (case hm8 => k_is)
    (case no8 => k_is)
    (case ic8 => k_is)
    (case ti8 => k_is)
    (case fl8 => k_is)
    (case fc8 => k_is)
    (case fk8 => k_is)
    (case ga9 => k_is)
    (case lk9 => k_is)
    (case sa9 => k_is)
    (case ec9 => k_is)
    (case tc9 => k_is)
    (case kc9 => k_is)
    (case hg9 => k_is)
    (case hk9 => k_is)
    (case hd9 => k_is)
    (case ha9 => k_is)
    (case hn9 => k_is)
    (case ht9 => k_is)
    (case hm9 => k_is)
    (case no9 => k_is)
    (case ic9 => k_is)
    (case ti9 => k_is)
    (case fl9 => k_is)
    (case fc9 => k_is)
    (case fk9 => k_is)
    (case ga10 => k_is)
    (case lk10 => k_is)
    (case sa10 => k_is)
    (case ec10 => k_is)
    (case tc10 => k_is)
    (case kc10 => k_is)
    (case hg10 => k_is)
    (case hk10 => k_is)
    (case hd10 => k_is)
    (case ha10 => k_is)
    (case hn10 => k_is)
    (case ht10 => k_is)
    (case hm10 => k_is)
    (case no10 => k_is)
    (case ic10 => k_is)
    (case ti10 => k_is)
    (case fl10 => k_is)
    (case fc10 => k_is)
    (case fk10 => k_is)
    (case ga11 => k_is)
    (case lk11 => k_is)
    (case sa11 => k_is)
    (case ec11 => k_is)
    (case tc11 => k_is)
    (case kc11 => k_is)
    (case hg11 => k_is)
    (case hk11 => k_is)
    (case hd11 => k_is)
    (case ha11 => k_is)
    (case hn11 => k_is)
    (case ht11 => k_is)
    (case hm11 => k_is)
    (case no11 => k_is)
    (case ic11 => k_is)
    (case ti11 => k_is)
    (case fl11 => k_is)
    (case fc11 => k_is)
    (case fk11 => k_is)
    (case ga12 => k_is)
    (case lk12 => k_is)
    (case sa12 => k_is)
    (case ec12 => k_is)
    (case tc12 => k_is)
    (case kc12 => k_is)
    (case hg12 => k_is)
    (case hk12 => k_is)
    (case hd12 => k_is)
    (case ha12 => k_is)
    (case hn12 => k_is)
    (case ht12 => k_is)
    (case hm12 => k_is)
    (case no12 => k_is)
    (case ic12 => k_is)
    (case ti12 => k_is)
    (case fl12 => k_is)
    (case fc12 => k_is)
    (case fk12 => k_is)
    (case ga13 => k_is)
    (case lk13 => k_is)
    (case sa13 => k_is)
    (case ec13 => k_is)
    (case tc13 => k_is)
    (case kc13 => k_is)
    (case hg13 => k_is)
    (case hk13 => k_is)
    (case hd13 => k_is)
    (case ha13 => k_is)
    (case hn13 => k_is)
    (case ht13 => k_is)
    (case hm13 => k_is)
    (case no13 => k_is)
    (case ic13 => k_is)
    (case ti13 => k_is)
    (case fl13 => k_is)
    (case fc13 => k_is)
    (case fk13 => k_is)
    (case ga14 => k_is)
    (case lk14 => k_is)
    (case sa14 => k_is)
    (case ec14 => k_is)
    (case tc14 => k_is)
    (case kc14 => k_is)
    (case hg14 => k_is)
    (case hk14 => k_is)
    (case hd14 => k_is)
    (case ha14 => k_is)
    (case hn14 => k_is)
    (case ht14 => k_is)
    (case hm14 => k_is)
    (case no14 => k_is)
    (case ic14 => k_is)
    (case ti14 => k_is)
    (case fl14 => k_is)
    (case fc14 => k_is)
    (case fk14 => k_is)
    (case ga15 => k_is)
    (case lk15 => k_is)
    (case sa15 => k_is)
    (case ec15 => k_is)
    (case tc15 => k_is)
    (case kc15 => k_is)
    (case hg15 => k_is)
    (case hk15 => k_is)
    (case hd15 => k_is)
    (case ha15 => k_is)
    (case hn15 => k_is)
    (case ht15 => k_is)
    (case hm15 => k_is)
    (case no15 => k_is)
    (case ic15 => k_is)
    (case ti15 => k_is)
    (case fl15 => k_is)
    (case fc15 => k_is)
    (case fk15 => k_is)
    (case ga16 => k_is)
    (case lk16 => k_is)
    (case sa16 => k_is)
    (case ec16 => k_is)
    (case tc16 => k_is)
    (case kc16 => k_is)
    (case hg16 => k_is)
    (case hk16 => k_is)
    (case hd16 => k_is)
    (case ha16 => k_is)
    (case hn16 => k_is)
    (case ht16 => k_is)
    (case hm16 => k_is)
    (case no16 => k_is)
    (case ic16 => k_is)
    (case ti16 => k_is)
    (case fl16 => k_is)
    (case fc16 => k_is)
    (case fk16 => k_is)
    (case ga17 => k_is)
    (case lk17 => k_is)
    (case sa17 => k_is)
    (case ec17 => k_is)
    (case tc17 => k_is)
    (case kc17 => k_is)
    (case hg17 => k_is)
    (case hk17 => k_is)
    (case hd17 => k_is)
    (case ha17 => k_is)
    (case hn17 => k_is)
    (case ht17 => k_is)
    (case hm17 => k_is)
    (case no17 => k_is)
    (case ic17 => k_is)
    (case ti17 => k_is)
    (case fl17 => k_is)
    (case fc17 => k_is)
    (case fk17 => k_is)
    (case ga18 => k_is)
    (case lk18 => k_is)
    (case sa18 => k_is)
    (case ec18 => k_is)
    (case tc18 => k_is)
    (case kc18 => k_is)
    (case hg18 => k_is)
    (case hk18 => k_is)
    (case hd18 => k_is)
    (case ha18 => k_is)
    (case hn18 => k_is)
    (case ht18 => k_is)
    (case hm18 => k_is)
    (case no18 => k_is)
    (case ic18 => k_is)
    (case ti18 => k_is)
    (case fl18 => k_is)
    (case fc18 => k_is)
    (case fk18 => k_is)
    (case ga19 => k_is)
    (case lk19 => k_is)
    (case sa19 => k_is)
    (case ec19 => k_is)
    (case tc19 => k_is)
    (case kc19 => k_is)
    (case hg19 => k_is)
    (case hk19 => k_is)
    (case hd19 => k_is)
    (case ha19 => k_is)
    (case hn19 => k_is)
    (case ht19 => k_is)
    (case hm19 => k_is)
    (case no19 => k_is)
    (case ic19 => k_is)
    (case ti19 => k_is)
    (case fl19 => k_is)
    (case fc19 => k_is)
    (case fk19 => k_is)
    (case ga20 => k_is)
    (case lk20 => k_is)
    (case sa20 => k_is)
    (case ec20 => k_is)
    (case tc20 => k_is)
    (case kc20 => k_is)
    (case hg20 => k_is)
    (case hk20 => k_is)
    (case hd20 => k_is)
    (case ha20 => k_is)
    (case hn20 => k_is)
    (case ht20 => k_is)
    (case hm20 => k_is)
    (case no20 => k_is)
    (case ic20 => k_is)
    (case ti20 => k_is)
    (case fl20 => k_is)
    (case fc20 => k_is)
    (case fk20 => k_is)
    (case ga21 => k_is)
    (case lk21 => k_is)
    (case sa21 => k_is)
    (case ec21 => k_is)
    (case tc21 => k_is)
    (case kc21 => k_is)
    (case hg21 => k_is)
    (case hk21 => k_is)
    (case hd21 => k_is)
    (case ha21 => k_is)
    (case hn21 => k_is)
    (case ht21 => k_is)
    (case hm21 => k_is)
    (case no21 => k_is)
    (case ic21 => k_is)
    (case ti21 => k_is)
    (case fl21 => k_is)
    (case fc21 => k_is)
    (case fk21 => k_is)
    (case ga22 => k_is)
    (case lk22 => k_is)
    (case sa22 => k_is)
    (case ec22 => k_is)
    (case tc22 => k_is)
    (case kc22 => k_is)
    (case hg22 => k_is)
    (case hk22 => k_is)
    (case hd22 => k_is)
    (case ha22 => k_is)
    (case hn22 => k_is)
    (case ht22 => k_is)
    (case hm22 => k_is)
    (case no22 => k_is)
    (case ic22 => k_is)
    (case ti22 => k_is)
    (case fl22 => k_is)
    (case fc22 => k_is)
    (case fk22 => k_is)
    (case ga23 => k_is)
    (case lk23 => k_is)
    (case sa23 => k_is)
    (case ec23 => k_is)
    (case tc23 => k_is)
    (case kc23 => k_is)
    (case hg23 => k_is)
    (case hk23 => k_is)
    (case hd23 => k_is)
    (case ha23 => k_is)
    (case hn23 => k_is)
    (case ht23 => k_is)
    (case hm23 => k_is)
    (case no23 => k_is)
    (case ic23 => k_is)
    (case ti23 => k_is)
    (case fl23 => k_is)
    (case fc23 => k_is)
    (case fk23 => k_is)
    (case ga24 => k_is)
    (case lk24 => k_is)
    (case sa24 => k_is)
    (case ec24 => k_is)
    (case tc24 => k_is)
    (case kc24 => k_is)
    (case hg24 => k_is)
    (case hk24 => k_is)
    (case hd24 => k_is)
    (case ha24 => k_is)
    (case hn24 => k_is)
    (case ht24 => k_is)
    (case hm24 => k_is)
    (case no24 => k_is)
    (case ic24 => k_is)
    (case ti24 => k_is)
    (case fl24 => k_is)
    (case fc24 => k_is)
    (case fk24 => k_is)
    (case aL => k_is)
    (case lL => k_is)
    (case cL => k_is)
    (case kL => k_is)
    (case aS => k_is)
    (case lS => k_is)
    (case cS => k_is)
    (case kS => k_is)
    (case aD => k_is)
    (case lD => k_is)
    (case cD => k_is)
    (case kD => k_is)
    (case aP => k_is)
    (case lP => k_is)
    (case cP => k_is)
    (case kP => k_is)
    (case aK => k_is)
    (case lK => k_is)
    (case cK => k_is)
    (case kK => k_is)
    (case aA => k_is)
    (case lA => k_is)
    (case cA => k_is)
    (case kA => k_is)
    (case aN => k_is)
    (case lN => k_is)
    (case cN => k_is)
    (case kN => k_is)
    (case aO => k_is)
    (case lO => k_is)
    (case cO => k_is)
    (case kO => k_is)
    (case z1 => k_is)
    (case z2 => k_is)
    (case z3 => k_is)
    (case z4 => k_is)
    (case z5 => k_is)
    (case z6 => k_is)
    (case z7 => k_is)
    (case z8 => k_is)
    (case z9 => k_is)
    (case z10 => k_is)
