import PyProof.Rows.All
import Wide.All
import OpenK.AllK
import Wide.FinOn
import HandS.ForMost
import HandS.EndBits
import HandS.Wide
import PyProof.ReprRoads
import HandS.OwnEq
import HandS.SetFor
import HandS.Strs
import HandS.Zip
import HandS.Walk
import HandS.Star
import HandS.IsInst
import HandS.TupAny
import HandS.Flow
import HandS.More
import HandS.GenList
import KE.DataMinMax
import HandS.ExcInit
import HandS.ExcIs
import HandS.Defaults
import HandS.MakeKwOnly
import HandS.ExcOwn
import HandS.WordsExc
import HandS.ExcField
import HandS.Comp
import HandS.Style
import KE.KRevSl
import PyProof.ReprBulk
import PySem.Challenge.RW_roadsizes_k46_stretches_refused
section
set_option Elab.async false
set_option linter.all false
set_option maxRecDepth 100000
set_option maxHeartbeats 4000000
/-! ## G: defs that are entered with no repr under way (guards known), so that repr of containers can be told -/
namespace G
open PySem PySem.Spec PyProof.Rows L2

/-- a def's promise, kept where no repr is under way -/
structure Ok (P : Program) (w : World) (K : PySem.W.Frag) (mg : Str → Option Value) (base : Heap) (CX : CXT) (k : Nat) (f : Addr) (fd : FuncData) (ps : List Str) (sp : Sp) : Prop where
  len : ∀ vs H Q E, sp vs H Q E → vs.length = ps.length
  go : ∀ (A : Around), A.guards = some [] → ∀ (outer : List Env) (s : Shared) (H : Hp) (args : Args) (us : List Value) (vs : List V) (Q : VK) (E : XK),
    Room k A → Env0 P w K mg base A outer s H → BindsTo s fd args (ps.zip us) → Vals vs us → sp vs H Q E → codeAny (model P w) A (.call (.ref f) args) (CR CX outer P w H s Q E) s
section
variable {P : Program} {w : World} {K : PySem.W.Frag} {mg : Str → Option Value} {base : Heap} {CX : CXT}
theorem Ok.mono {j k : Nat} {f : Addr} {fd : FuncData} {ps : List Str} {sp : Sp} (F : Ok P w K mg base CX j f fd ps sp) (h : j ≤ k) : Ok P w K mg base CX k f fd ps sp :=
  ⟨F.len, fun A hg outer s H args us vs Q E hr => F.go A hg outer s H args us vs Q E (hr.mono h)⟩
theorem Ok.of {k : Nat} {f : Addr} {fd : FuncData} {ps : List Str} {sp : Sp} (F : FnOk P w K mg base CX k f fd ps sp) : Ok P w K mg base CX k f fd ps sp :=
  ⟨F.len, fun A _ => F.run A⟩

theorem mk {k : Nat} {x qual : Str} {st : Stmt} {f : Addr} {fd : FuncData} {N ps : List Str} {sp : Sp} (F : Fun K x qual st f fd) (S : FnScope N ps (defScope st)) (len : ∀ vs H Q E, sp vs H Q E → vs.length = ps.length)
    (walk : ∀ (cdv : Value) (A : Around) (outer : List Env) (s : Shared) (H : Hp) (vs : List V) (Q : VK) (E : XK), A.guards = some [] → Room k (A.deeper (envOfC qual (defScope st) s.heap.objs.size f cdv)) → sp vs H Q E →
      ∃ t, PSs (cxOf CX P w K mg base N qual (defScope st) f cdv A outer s H E).nox (defBody st) t ∧ t { nx := fun _ H' => Q .non H', rt := Q } (start N vs) H) :
    Ok P w K mg base CX (k + 1) f fd ps sp := by
  refine ⟨len, ?_⟩
  obtain ⟨oc, od, kV, doc, pm, an, cdv, ct, osl, hfd, lk, cd⟩ := F.ex
  intro A hg outer s H args us vs Q E hr e0 hb rv hsp
  subst hfd
  have stay : ∀ b o, base.get? b = some o → s.heap.get? b = some o := fun b o e => (e0.bs b o e).1
  have KX : K.In s.heap := e0.mod.kin.keeps stay
  have par : ∀ y ∈ ps.zip us, (defScope st).names.lookup y.1 = some .local ∨ ((defScope st).names.lookup y.1 = some .cell ∧ ((cellsFrom (s.heap.objs.size + 1) (defScope st).names []).lookup y.1).isSome = true) := by
    rintro ⟨n, v⟩ hy
    cases S.par n (List.of_mem_zip hy).1 with
    | inl q => exact .inl q
    | inr q => exact .inr ⟨q, PySem.W.cellsFrom_some _ _ _ (.inl q)⟩
  refine codeAny_call_function hr.depth (KX _ _ lk) rfl S.co S.gen rfl (PySem.W.codeRec_of KX cd) (hb _ _ _ _ (wpAny_newFunctionEnv_cells S.kind par ?_))
  intro env he s1 x
  subst he
  refine ⟨(e0.mod.nolimit.keeps stay).keeps x.toInCall.keep, codeAny_func ?_⟩
  obtain ⟨t, ht, hq⟩ := walk cdv A outer s H vs Q E hg (hr.deeper _) hsp
  refine wpAny_mono (ht.nox.run [] s1 (start N vs) H _ (inv_start S hr.hd e0 (len _ _ _ _ hsp) rv x) hq) ?_ fun e s' hs => hs
  intro fl s' hs
  cases fl with
  | ret u => obtain ⟨v, σ', H', J, ru, q⟩ := hs; exact ⟨v, H', J.os, J.bare, J.base, J.hok, ru, q⟩
  | next => obtain ⟨σ', H', J, q⟩ := hs; exact ⟨.non, H', J.os, J.bare, J.base, J.hok, rfl, q⟩
  | brk => obtain ⟨_, _, _, q⟩ := hs; exact q.elim
  | cont => obtain ⟨_, _, _, q⟩ := hs; exact q.elim

/-- the law's entry: callerA has no guard -/
theorem enter {mb : Str → Option Value} {k : Nat} {fa a : Addr} {fd : FuncData} {x : Str} {sp : Sp} {s₁ : Shared} {vs : List Value} {H : Hp}
    (KX : K.In s₁.heap) (hns : s₁.heap.Ns mainGlobals mg) (hb : s₁.heap.Ns builtinsNs mb) (hbb : ∀ x : Str, x ≠ "__name__" → mb x = bootBuiltins x) (hlim : s₁.heap.NoLimit) (hgen : s₁.gens = #[])
    (ha : s₁.heap.get? a = some { cls := .type "list", data := .seq vs.toArray }) (hr : Room k callerA)
    (F : ∀ base : Heap, K.In base → base.Ns mainGlobals mg → Ok P w K mg base CX k fa fd [x] sp) (hbind : ∀ (s : Shared) (u : Value), BindsTo s fd ⟨[u], []⟩ [(x, u)])
    (hO : Only H) (hok : HOk P w H s₁.heap) (only_a : ∀ b o, H b = some o → b = a) (notK : (∃ o, H a = some o) → K.lookup a = none)
    (hsp : sp [.ref a] H (fun v _ => v = .bl true) fun _ _ _ => False) (hCX : ∀ H e s', CX [] H s₁ (fun _ _ _ => False) e s' → False) :
    codeAny (model P w) callerA (.call (.ref fa) ⟨[.ref a], []⟩) (fun r s' => r = .ok (.ret (.bool true)) ∧ OldK s₁.heap s'.heap ∧ s'.os = s₁.os ∧ AllBare s'.gens) s₁ := by
  have free : ∀ {b : Addr}, b ≠ a → H b = none := fun {b} hne => by
    cases q : H b with
    | none => rfl
    | some u => exact absurd (only_a b u q) hne
  have dic : ∀ {b : Addr} {m : Str → Option Value}, s₁.heap.Ns b m → (hidT s₁.heap H).Ns b m := by
    rintro b m ⟨o, es, ep, e, d, r⟩
    refine ⟨o, es, ep, hidT_get e (free ?_), d, r⟩
    rintro rfl
    rw [ha] at e
    cases e
    cases d
  have kin : K.In (hidT s₁.heap H) := by
    intro b o e
    refine hidT_get (KX b o e) ?_
    cases q : H b with
    | none => rfl
    | some u =>
      have hba := only_a b u q
      subst hba
      rw [notK ⟨u, q⟩] at e
      cases e
  obtain ⟨mc, l1, l2⟩ := hlim
  have e0 : Env0 P w K mg (hidT s₁.heap H) callerA [] s₁ H :=
    { frames := rfl, mod := ⟨kin, dic hns, ⟨mb, dic hb, hbb⟩, ⟨mc, dic l1, l2⟩⟩, bs := fun b o e => of_hidT e, bsz := Nat.le_of_eq (hidT_size _ _), funs := trivial, frf := fun b z => (List.not_mem_nil z).elim, hok := hok, bare := .of_eq hgen }
  refine codeAny_mono ((F _ kin (dic hns)).go callerA rfl [] s₁ H _ [.ref a] _ _ _ hr e0 (hbind s₁ (.ref a)) (.cons (show RelV (.ref a) (.ref a) from rfl) .nil) hsp) ?_
  intro r s' h
  match r, h with
  | .error e, h => exact (hCX H e s' h).elim
  | .ok .next, h => exact h.elim
  | .ok .brk, h => exact h.elim
  | .ok .cont, h => exact h.elim
  | .ok (.ret u), ⟨v, H', os, bare, un, hok', rv, q⟩ =>
    cases (q : v = .bl true)
    cases (rv : u = .bool true)
    refine ⟨rfl, OldK.of_keep fun b o e => ?_, os, bare⟩
    by_cases q : H b = none
    · exact un.keep b o e q List.not_mem_nil List.not_mem_nil
    · rcases hO b with z | ⟨ob, xs, z⟩
      · exact absurd z q
      · have k1 := (hok b _ z).1
        rw [e] at k1
        cases k1
        exact (hok' b _ (un.frzs b _ _ z)).1

theorem walk {l : PySem.W.OpenLaw} {n k : Nat} {q : Program} {loose : List Str} {XP : (Str → Option Value) → Heap → Prop} {YP : World → Heap → Prop} {d : DefRec} {K : Params → PySem.W.Frag} {sp : PySem.W.Frag → Sp} {x : Str}
    (hn : l.most = some n) (hn2 : n ≤ sizeLine) (hdf : d.params.defaults = []) (hr : Room k callerA) (hY : ∀ (w : World) (h : Heap), YP w h → (K w.params).In h)
    (F : ∀ (w : World) (mg : Str → Option Value) (fa : Addr) (h : Heap), (K w.params).In h → h.Ns mainGlobals mg → mg d.name = some (.ref fa) →
      ∃ fd : FuncData, (∀ (s : Shared) (u : Value), BindsTo s fd ⟨[u], []⟩ [(x, u)]) ∧ ∀ base : Heap, (K w.params).In base → base.Ns mainGlobals mg → Ok l.prog w (K w.params) mg base CX0 k fa fd [x] (sp (K w.params)))
    (hsp : ∀ (K : PySem.W.Frag) (H : Hp) (a : Addr) (ns : List Int), ns.length ≤ n → (∀ z ∈ ns, Builtin.Int.intBits z ≤ 1048576) → SqL K H a (ns.map V.int) → sp K [.ref a] H (fun v _ => v = .bl true) fun _ _ _ => False) :
    PySem.W.WalkO q loose XP YP l.row.toRowW d [] (fun f vs => PySem.call f vs) := by
  refine Att.attach_callB hn hdf ?_
  intro w s₀ s₁ mg mb fa o pm cd doc a vs ns G Y ho hd hcd hmg hobj hints hlen hbits hg
  have KX := hY w _ Y
  obtain ⟨fd, hb, hF⟩ := F w mg fa _ KX G.T.g hmg
  have rv := vals_ints hints
  have zl : ns.length ≤ sizeLine := Nat.le_trans hlen hn2
  have wish := fun (H : Hp) (S : SqL (K w.params) H a (ns.map V.int)) => hsp (K w.params) H a ns hlen hbits S
  by_cases hk : (K w.params).lookup a = none
  · refine enter (H := fun b => if b = a then some (.frz { cls := .type "list", data := .seq vs.toArray } (.lst (ns.map V.int))) else none) KX G.T.g G.T.b G.T.builtins G.T.nolimit hg hobj hr hF hb ?_ ?_ ?_ (fun _ => hk) (wish _ ?_) fun _ _ _ z => z
    · intro b
      by_cases e : b = a
      · exact .inr ⟨_, _, if_pos e⟩
      · exact .inl (if_neg e)
    · intro b o e
      by_cases z : b = a
      · subst z
        cases (if_pos rfl).symm.trans e
        exact ⟨hobj, by rw [List.length_map]; exact zl, vs, _, rv, hobj⟩
      · cases (if_neg z).symm.trans e
    · intro b o e
      by_cases z : b = a
      · exact z
      · cases (if_neg z).symm.trans e
    · exact .inl (.inr ⟨_, if_pos rfl⟩)
  · obtain ⟨o, ek⟩ := Option.ne_none_iff_exists'.mp hk
    have eo := (KX a o ek).symm.trans hobj
    cases eo
    refine enter (H := fun _ => none) KX G.T.g G.T.b G.T.builtins G.T.nolimit hg hobj hr hF hb (fun _ => .inl rfl) (fun b o e => nomatch e) (fun b o e => nomatch e) (fun ⟨o, e⟩ => nomatch e) (wish _ ?_) fun _ _ _ z => z
    refine .inr ⟨_, vs.toArray, _, ek, rfl, rfl, rfl, ?_, by simpa using rv⟩
    rw [List.size_toArray, hints.length]
    exact zl
end
end G

end
section
set_option Elab.async false
set_option linter.all false
set_option maxRecDepth 100000
set_option maxHeartbeats 4000000
/-! ## repr of containers; int ** int of great ints -/
namespace G
open PySem PySem.Spec PyProof.Rows L2
def keyD : Key → PyData
  | .inl i => .int i
  | .inr x => .str x
mutual
/-- data at a value: as it is read off the abstract heap; lists and no dict (true), or dicts and no list (false) -/
inductive Dr (K : PySem.W.Frag) (H : Hp) : Bool → V → PyData → Prop
  | non {m : Bool} : Dr K H m .non .none
  | bl {m : Bool} (b : Bool) : Dr K H m (.bl b) (.bool b)
  | int {m : Bool} (i : Int) : Dr K H m (.int i) (.int i)
  | str {m : Bool} (x : Str) : Dr K H m (.str x) (.str x)
  | lst {a : Addr} {xs : List V} {ds : List PyData} : SqL K H a xs → DrA K H true xs ds → Dr K H true (.ref a) (.list ds)
  | tup {m : Bool} {a : Addr} {xs : List V} {ds : List PyData} : SqT K H a xs → DrA K H m xs ds → Dr K H m (.ref a) (.tuple ds)
  | dic {a : Addr} {kvs : List (Key × V)} {ds : List PyData} : H a = some (.dK kvs) → DrA K H false (kvs.map (·.2)) ds → Dr K H false (.ref a) (.dict ((kvs.map fun p => keyD p.1).zip ds))
inductive DrA (K : PySem.W.Frag) (H : Hp) : Bool → List V → List PyData → Prop
  | nil {m : Bool} : DrA K H m [] []
  | cons {m : Bool} {v : V} {vs : List V} {d : PyData} {ds : List PyData} : Dr K H m v d → DrA K H m vs ds → DrA K H m (v :: vs) (d :: ds)
end
theorem DrA.len {K : PySem.W.Frag} {H : Hp} {m : Bool} : ∀ {vs : List V} {ds : List PyData}, DrA K H m vs ds → vs.length = ds.length
  | _, _, .nil => rfl
  | _, _, .cons _ t => congrArg Nat.succ (DrA.len t)
mutual
theorem Dr.noDict {K : PySem.W.Frag} {H : Hp} : ∀ (d : PyData) (v : V), Dr K H true v d → d.hasDict = false
  | .none, _, _ => by simp only [PyData.hasDict]
  | .bool _, _, _ => by simp only [PyData.hasDict]
  | .int _, _, _ => by simp only [PyData.hasDict]
  | .str _, _, _ => by simp only [PyData.hasDict]
  | .list ds, _, h => by
    cases h with
    | lst _ ha => simp only [PyData.hasDict]; exact DrA.noDict ds _ ha
  | .tuple ds, _, h => by
    cases h with
    | tup _ ha => simp only [PyData.hasDict]; exact DrA.noDict ds _ ha
  | .dict _, _, h => by cases h
theorem DrA.noDict {K : PySem.W.Frag} {H : Hp} : ∀ (ds : List PyData) (vs : List V), DrA K H true vs ds → PyData.hasDictAll ds = false
  | [], _, _ => by simp only [PyData.hasDictAll]
  | d :: ds, _, h => by
    cases h with
    | cons a b => simp only [PyData.hasDictAll, Dr.noDict d _ a, DrA.noDict ds _ b, Bool.or_self]
end
theorem keys_read {P : Program} {w : World} {h : Heap} : ∀ {es : List DictEntry} {kvs : List (Key × V)} {vs : List (Key × Value)}, Pairs (mixKind P w) es vs → KV kvs vs →
    ∃ as, ReadsAll h (es.map (·.key)) (kvs.map fun p => keyD p.1) as ∧ as = []
  | _, _, _, .nil, .nil => ⟨_, .nil, rfl⟩
  | _, _, _, .cons hk hv hp, .cons r t => by
    obtain ⟨as, q, e⟩ := keys_read (P := P) (w := w) (h := h) hp t
    subst e
    have hk' : keyIs _ _ = true := hk
    rw [← r.1] at hk'
    rename_i e' _ _ _ p' _
    rcases keyIs_shape hk' with ⟨i, t, ek, ev⟩ | ⟨x, t, ek, ev⟩
    · refine ⟨[], ?_, rfl⟩
      have z := ReadsAll.cons (h := h) (Reads.int i t) q
      rw [← ev] at z
      have ke : keyD p'.1 = .int i := by rw [ek]; rfl
      rw [List.map_cons, List.map_cons, ke]
      exact z
    · refine ⟨[], ?_, rfl⟩
      have z := ReadsAll.cons (h := h) (Reads.str x t) q
      rw [← ev] at z
      have ke : keyD p'.1 = .str x := by rw [ek]; rfl
      rw [List.map_cons, List.map_cons, ke]
      exact z
theorem vals_of {P : Program} {w : World} : ∀ {es : List DictEntry} {kvs : List (Key × V)} {vs : List (Key × Value)}, Pairs (mixKind P w) es vs → KV kvs vs → Vals (kvs.map (·.2)) (es.map (·.val))
  | _, _, _, .nil, .nil => .nil
  | _, _, _, .cons hk hv hp, .cons r t => .cons (by show RelV _ (DictEntry.val _); rw [hv]; exact r.2) (vals_of hp t)
section
variable {X : Cx} {pins : List (Addr × Obj)} {σ : L2.St} {H : Hp} {s : Shared}
mutual
theorem Dr.reads (I : Inv X pins σ H s) {m : Bool} : ∀ (d : PyData) (v : V) (u : Value), Dr X.K H m v d → RelV v u → ∃ as, Reads s.heap u d as ∧ (m = false → sysModules ∉ as)
  | .none, _, _, h, r => by
    cases h
    cases r
    exact ⟨_, Reads.none, fun _ => List.not_mem_nil⟩
  | .bool b, _, _, h, r => by
    cases h
    cases r
    exact ⟨_, Reads.bool b, fun _ => List.not_mem_nil⟩
  | .int i, _, _, h, r => by
    cases h
    obtain ⟨t, rfl⟩ := r
    exact ⟨_, Reads.int i t, fun _ => List.not_mem_nil⟩
  | .str x, _, _, h, r => by
    cases h
    obtain ⟨t, rfl⟩ := r
    exact ⟨_, Reads.str x t, fun _ => List.not_mem_nil⟩
  | .list ds, _, _, h, r => by
    cases h with
    | @lst a xs _ hs ha =>
      cases r
      obtain ⟨its, rv, ⟨o, n, ho, hc, _, hd⟩, _⟩ := I.list hs
      obtain ⟨as, hr, hn⟩ := DrA.reads I ds _ its ha rv
      exact ⟨_, Reads.list ho hc hd hr, fun z => by cases z⟩
  | .tuple ds, _, _, h, r => by
    cases h with
    | tup hs ha =>
      cases r
      obtain ⟨its, rv, ⟨o, ho, hc, n, hd⟩, _⟩ := I.tuple hs
      obtain ⟨as, hr, hn⟩ := DrA.reads I ds _ its ha rv
      exact ⟨_, Reads.tuple ho hc hd hr, hn⟩
  | .dict kds, _, _, h, r => by
    cases h with
    | @dic a kvs ds hs ha =>
      cases r
      obtain ⟨_, hsys, vs, rk, o, es, ep, ho, hx, hd, _, hp, _⟩ := (show ObjOk X.prog X.w H s.heap a (.dK kvs) from I.hok a _ hs)
      obtain ⟨_, hk, e⟩ := keys_read (h := s.heap) hp rk
      subst e
      have hl : (kvs.map fun p => keyD p.1).length = ds.length := by rw [List.length_map, ← ha.len, List.length_map]
      have e1 : ((kvs.map fun p => keyD p.1).zip ds).map (·.1) = kvs.map fun p => keyD p.1 := List.map_fst_zip (Nat.le_of_eq hl)
      have e2 : ((kvs.map fun p => keyD p.1).zip ds).map (·.2) = ds := List.map_snd_zip (Nat.le_of_eq hl.symm)
      have ha' : DrA X.K H false (kvs.map (·.2)) (((kvs.map fun p => keyD p.1).zip ds).map (·.2)) := by rw [e2]; exact ha
      obtain ⟨bs, hr, hn⟩ := DrA.reads2 I ((kvs.map fun p => keyD p.1).zip ds) _ _ ha' (vals_of hp rk)
      refine ⟨_, Reads.dict ho hx.1 hd (by rw [e1]; exact hk) hr, fun _ z => ?_⟩
      rcases List.mem_append.mp z with z | z
      · rcases List.mem_cons.mp z with e | e
        · rw [← e] at hsys
          simp at hsys
        · exact absurd e List.not_mem_nil
      · exact hn rfl z
theorem DrA.reads (I : Inv X pins σ H s) {m : Bool} : ∀ (ds : List PyData) (vs : List V) (us : List Value), DrA X.K H m vs ds → Vals vs us → ∃ as, ReadsAll s.heap us ds as ∧ (m = false → sysModules ∉ as)
  | [], _, _, h, r => by
    cases h
    cases r
    exact ⟨_, ReadsAll.nil, fun _ => List.not_mem_nil⟩
  | d :: ds, _, _, h, r => by
    cases h with
    | cons h1 h2 =>
      cases r with
      | cons r1 r2 =>
        obtain ⟨as, q1, n1⟩ := Dr.reads I d _ _ h1 r1
        obtain ⟨bs, q2, n2⟩ := DrA.reads I ds _ _ h2 r2
        exact ⟨_, ReadsAll.cons q1 q2, fun e z => (List.mem_append.mp z).elim (n1 e) (n2 e)⟩
theorem DrA.reads2 (I : Inv X pins σ H s) {m : Bool} : ∀ (kds : List (PyData × PyData)) (vs : List V) (us : List Value), DrA X.K H m vs (kds.map (·.2)) → Vals vs us → ∃ as, ReadsAll s.heap us (kds.map (·.2)) as ∧ (m = false → sysModules ∉ as)
  | [], _, _, h, r => by
    cases h
    cases r
    exact ⟨_, ReadsAll.nil, fun _ => List.not_mem_nil⟩
  | (k, d) :: ds, _, _, h, r => by
    cases h with
    | cons h1 h2 =>
      cases r with
      | cons r1 r2 =>
        obtain ⟨as, q1, n1⟩ := Dr.reads I d _ _ h1 r1
        obtain ⟨bs, q2, n2⟩ := DrA.reads2 I ds _ _ h2 r2
        exact ⟨_, ReadsAll.cons q1 q2, fun e z => (List.mem_append.mp z).elim (n1 e) (n2 e)⟩
end
end
/-- repr of a list that is not empty: what is read below it is none of the interpreter's own dict -/
theorem repr_top {prog : Program} {w : World} {A : Around} {E : Value → Shared → Prop} {s : Shared} {a : Addr} {o : Obj} {v : Value} {vs : List Value} {n : Nat} {ds : List PyData} {as : List Addr} {Q : Value → Shared → Prop} (ho : s.heap.get? a = some o) (hc : o.cls = .type "list") (hd : o.data = .seq (v :: vs).toArray n)
    (hr : ReadsAll s.heap (v :: vs) ds as) (hn : sysModules ∉ as) (hs : PyData.showableAll ds = true) (hg : A.guards = some []) (hu : A.units + ((PyData.list ds).depth + 1) < cLine) (hz : (PyData.list ds).shown.length ≤ sizeLine)
    (hQ : ∀ h' u tk, (∀ b o, s.heap.get? b = some o → h'.get? b = some o) → Q (.str (PyData.list ds).shown u) { s with heap := h', toks := tk }) : wpAny (model prog w) A (call (.builtin "repr") [.ref a]) Q E s := by
  have depth : (PyData.list ds).depth = PyData.depthAll ds + 1 := by simp only [PyData.depth]
  have text : (PyData.list ds).shown = listText (PyData.shownAll ds) := by simp only [PyData.shown]
  rw [text] at hz
  rw [depth] at hu
  obtain ⟨bs, most, items⟩ := ReprAllK.of_readsAll (prog := prog) (w := w) hr hs (fun _ => hn) (fun t ht => Nat.le_trans (listText_mem_le ht) hz)
  have apart : a ∉ bs := not_mem_of_deeper (.list ho hc hd (by simpa using hr)) (by rw [depth]; omega) most
  refine call_repr_slot (by omega) ⟨o, ho, hc⟩ F.slot_list_repr.toG ?_
  refine call_list_reprK ho hc hd apart (by simpa using items.length_eq) (fun i y e => items.item i y (by simpa using e)) hg (fun b _ => Clear.nil b) (by show A.units + 1 + _ < cLine; omega) (fun _ _ e => e) (fun h' u tk k => ⟨_, _, rfl, ?_⟩) hz
  rw [← text]
  exact hQ h' u tk k
def rRepr (K : PySem.W.Frag) : List V → Hp → VK → Prop := fun xs H Q => ∃ (a : Addr) (m : Bool) (y : V) (ys : List V) (ds : List PyData), xs = [.ref a] ∧ SqL K H a (y :: ys) ∧ DrA K H m (y :: ys) ds ∧ (PyData.list ds).showable = true ∧ (PyData.list ds).depth ≤ 20 ∧ (PyData.list ds).shown.length ≤ sizeLine ∧ Q (.str (PyData.list ds).shown) H
theorem call_repr {X : Cx} (hg : X.A.guards = some []) (hu : X.A.units + 64 < cLine) : CallR X (.builtin "repr") (rRepr X.K) := by
  intro pins s σ H xs us Q I r h
  obtain ⟨a, m, y, ys, ds, rfl, hL, hd, hs, hl, hz, q⟩ := h
  cases r with
  | cons rx rr =>
    cases rr
    cases rx
    have fin : ∀ (h' : Heap) (u : Tok) (tk : Nat), (∀ b o, s.heap.get? b = some o → h'.get? b = some o) → EP X pins σ Q (.str (PyData.list ds).shown u) { s with heap := h', toks := tk } := fun h' u tk k => ⟨.str (PyData.list ds).shown, H, I.kept (t' := tk) k, ⟨u, rfl⟩, q⟩
    obtain ⟨its, rv, ⟨o, n, ho, hc, _, hd'⟩, _⟩ := I.list hL
    obtain ⟨as, hr, hn⟩ := DrA.reads I ds _ its hd rv
    cases m with
    | true =>
      refine repr_of_reads' (.list ho hc hd' hr) hs (fun z => ?_) hg (by omega) (fun _ _ e => e) fin hz
      rw [show (PyData.list ds).hasDict = PyData.hasDictAll ds by simp only [PyData.hasDict], DrA.noDict ds _ hd] at z
      cases z
    | false =>
      cases rv with
      | cons r1 r2 => exact repr_top ho hc hd' hr (hn rfl) (by simpa only [PyData.showable] using hs) hg (by omega) hz fin
def rReprF : List V → Hp → VK → Prop := fun xs H Q => (xs = [.non] ∧ Q (.str "None") H) ∨ (∃ b, xs = [.bl b] ∧ Q (.str (if b then "True" else "False")) H) ∨ ∃ i, xs = [.int i] ∧ i.natAbs.log2 < 1920 ∧ Q (.str (toString i)) H
theorem call_reprF {X : Cx} : CallR X (.builtin "repr") rReprF := by
  intro pins s σ H xs us Q I r h
  rcases h with ⟨rfl, q⟩ | ⟨b, rfl, q⟩ | ⟨i, rfl, hz, q⟩
  · cases r with
    | cons rx rr => cases rr; cases rx; exact PySem.P.repr_of_none ⟨.str _, H, I.tok _, ⟨_, rfl⟩, q⟩
  · cases r with
    | cons rx rr => cases rr; cases rx; exact PySem.P.repr_of_bool ⟨.str _, H, I.tok _, ⟨_, rfl⟩, q⟩
  · cases r with
    | cons rx rr => cases rr; obtain ⟨t, rfl⟩ := rx; exact PySem.P.repr_of_int hz ⟨.str _, H, I.tok _, ⟨_, rfl⟩, q⟩
/-- a ** n, n a small written number, a of any size -/
theorem op_powN {X : Cx} : OpR X (binaryOp .Pow) (rI (fun i j => 0 ≤ j ∧ (Builtin.Int.intBits i : Int) * j ≤ 2 ^ 27) fun i j => .int (i ^ j.toNat)) := opI fun _ _ _ _ _ _ _ hc q => pow_int hc.1 hc.2 q
end G

end
section
set_option autoImplicit false
set_option Elab.async false
set_option linter.all false
set_option maxRecDepth 100000
set_option maxHeartbeats 4000000
/-! ## len, +, in, [] and != by a class's own methods -/
namespace WO
open PySem PySem.Spec PyProof.Rows L2
section
variable {X : Cx} {CX : CXT} {n : Nat} {f C : Addr} {fd : FuncData} {ps : List Str} {sp : Sp} {E : XK}
/-- an own method, run somewhere below the running body -/
theorem run_own {A : Around} {pins : List (Addr × Obj)} {s : Shared} {σ : L2.St} {H : Hp} {xs : List V} {us : List Value} {Z : VK} {G : Value → Shared → Prop} (F : FnOk X.prog X.w X.K X.mg X.base CX n f fd ps sp) (sb : Sub X n A) (hb : Binds X.K fd ps []) (hx : Passes CX X E)
    (I : Inv X pins σ H s) (r : Vals xs us) (hsp : sp xs H Z E) (k : ∀ z u H1 s1, Inv X pins σ H1 s1 → RelV z u → Z z H1 → G u s1) : wpAny (model X.prog X.w) A (call (.ref f) us) G X.xe s := by
  have hl := F.len _ _ _ _ hsp
  have lu : us.length = ps.length := by rw [← r.length]; exact hl
  have env : Env0 X.prog X.w X.K X.mg X.base A X.stack s H := by
    have e := I.env0
    exact ⟨by rw [sb.fr]; exact e.frames, e.mod, e.bs, e.bsz, e.funs, e.frf, e.hok, e.bare⟩
  refine wpAny_call (codeAny_mono (F.run A X.stack s H ⟨us, []⟩ us xs _ E sb.room env (by simpa using hb s us I.kIn (by simpa using lu)) r hsp) fun res s1 hq => ?_)
  match res, hq with
  | .error e, hq => exact hx pins σ H s e s1 I hq
  | .ok (.ret u), hq =>
    obtain ⟨z, H1, I1, rz, q⟩ := I.after hq
    exact k z u H1 s1 I1 rz q
  | .ok .next, hq => exact hq.elim
  | .ok .brk, hq => exact hq.elim
  | .ok .cont, hq => exact hq.elim
/-- an instance of the class at C -/
def InsC (C : Addr) (H : Hp) (a : Addr) : Prop := ∃ dx fs, H a = some (.ins C dx fs)
structure Own (K : PySem.W.Frag) (C f : Addr) (m : Str) : Prop where
  at' : PySem.W.findIn K (.ref C) m = some (some (.ref f))
  fn : PySem.W.isFn K (.ref f) = true
def rLenO (C : Addr) (sp : Sp) (E : XK) : List V → Hp → VK → Prop := fun xs H Q => ∃ a, xs = [.ref a] ∧ InsC C H a ∧ sp [.ref a] H (fun v H1 => ∃ k : Nat, v = .int k ∧ k < 1000000 ∧ Q (.int k) H1) E
theorem call_lenO (F : FnOk X.prog X.w X.K X.mg X.base CX n f fd ps sp) (hr : Room (n + 1) X.A) (O : Own X.K C f "__len__") (hb : Binds X.K fd ps []) (hx : Passes CX X E) : CallR X (.builtin "len") (rLenO C sp E) := by
  intro pins s σ H xs us Q I r h
  obtain ⟨a, rfl, ⟨dx, fs, ha⟩, hsp⟩ := h
  cases r with
  | cons ra rr =>
    cases rr
    cases ra
    obtain ⟨_, J, _⟩ := ins_get I.hok ha
    obtain ⟨od, J, _⟩ := J.look
    obtain ⟨m, hF⟩ := I.fr
    refine PySem.W.len_K hF I.ok.mod.kin J O.at' O.fn (run_own F (A := X.A.in1) (xs := [.ref a]) ⟨hr.in1, rfl⟩ hb hx I (.cons rfl .nil) hsp fun z u H1 s1 I1 rz q => ?_)
    obtain ⟨k, rfl, hk, q⟩ := q
    obtain ⟨t, rfl⟩ := rz
    exact ⟨⟨by omega, by omega⟩, .int k, H1, I1.tok _, ⟨_, rfl⟩, q⟩
def rAddO (C : Addr) (sp : Sp) (E : XK) : R2 := fun x y H Q => ∃ a b, x = .ref a ∧ y = .ref b ∧ InsC C H a ∧ InsC C H b ∧ sp [.ref a, .ref b] H (fun v H1 => ∃ c, v = .ref c ∧ Q (.ref c) H1) E
theorem op_addO (F : FnOk X.prog X.w X.K X.mg X.base CX n f fd ps sp) (hr : Room n X.A) (O : Own X.K C f "__add__") (hc : PySem.W.selfFirst X.K C = true) (hb : Binds X.K fd ps []) (hx : Passes CX X E) : OpR X (binaryOp .Add) (rAddO C sp E) := by
  intro pins s σ H x y v u Q I rx ry h
  obtain ⟨a, b, rfl, rfl, ⟨dx, fs, ha⟩, ⟨dy, gs, hb'⟩, hsp⟩ := h
  cases rx
  cases ry
  obtain ⟨_, J, _⟩ := ins_get I.hok ha
  obtain ⟨_, J', _⟩ := ins_get I.hok hb'
  obtain ⟨od, J, _⟩ := J.look
  obtain ⟨od', J', _⟩ := J'.look
  obtain ⟨m, hF⟩ := I.fr
  refine PySem.W.binop_K (op := .Add) hF I.ok.mod.kin J J'.type hc O.at' O.fn (run_own F (A := X.A) (xs := [.ref a, .ref b]) ⟨hr, rfl⟩ hb hx I (.cons rfl (.cons rfl .nil)) hsp fun z u H1 s1 I1 rz q => ?_)
  obtain ⟨c, rfl, q⟩ := q
  cases rz
  exact ⟨.ref c, H1, I1, rfl, q⟩
def rInO (C : Addr) (sp : Sp) (E : XK) : R2 := fun x y H Q => ∃ a, y = .ref a ∧ InsC C H a ∧ sp [.ref a, x] H (fun v H1 => ∃ b, v = .bl b ∧ Q (.bl b) H1) E
def rNotInO (C : Addr) (sp : Sp) (E : XK) : R2 := fun x y H Q => ∃ a, y = .ref a ∧ InsC C H a ∧ sp [.ref a, x] H (fun v H1 => ∃ b, v = .bl b ∧ Q (.bl (!b)) H1) E
theorem op_inO (F : FnOk X.prog X.w X.K X.mg X.base CX n f fd ps sp) (hr : Room n X.A) (O : Own X.K C f "__contains__") (hb : Binds X.K fd ps []) (hx : Passes CX X E) : OpR X (compareOp .In) (rInO C sp E) := by
  intro pins s σ H x y v u Q I rx ry h
  obtain ⟨a, rfl, ⟨dx, fs, ha⟩, hsp⟩ := h
  cases ry
  obtain ⟨_, J, _⟩ := ins_get I.hok ha
  obtain ⟨od, J, _⟩ := J.look
  obtain ⟨m, hF⟩ := I.fr
  refine PySem.W.in_K hF I.ok.mod.kin J O.at' O.fn (run_own F (A := X.A) (xs := [.ref a, x]) ⟨hr, rfl⟩ hb hx I (.cons rfl (.cons rx .nil)) hsp fun z u H1 s1 I1 rz q => ?_)
  obtain ⟨b, rfl, q⟩ := q
  cases rz
  exact wpAny_truthy_bool ⟨.bl b, H1, I1, rfl, q⟩
theorem op_notInO (F : FnOk X.prog X.w X.K X.mg X.base CX n f fd ps sp) (hr : Room n X.A) (O : Own X.K C f "__contains__") (hb : Binds X.K fd ps []) (hx : Passes CX X E) : OpR X (compareOp .NotIn) (rNotInO C sp E) := by
  intro pins s σ H x y v u Q I rx ry h
  obtain ⟨a, rfl, ⟨dx, fs, ha⟩, hsp⟩ := h
  cases ry
  obtain ⟨_, J, _⟩ := ins_get I.hok ha
  obtain ⟨od, J, _⟩ := J.look
  obtain ⟨m, hF⟩ := I.fr
  refine PySem.W.notIn_K hF I.ok.mod.kin J O.at' O.fn (run_own F (A := X.A) (xs := [.ref a, x]) ⟨hr, rfl⟩ hb hx I (.cons rfl (.cons rx .nil)) hsp fun z u H1 s1 I1 rz q => ?_)
  obtain ⟨b, rfl, q⟩ := q
  cases rz
  exact wpAny_truthy_bool ⟨.bl (!b), H1, I1, rfl, q⟩
/-- o[e] by the own __getitem__ -/
def rIxO (C : Addr) (sp : Sp) (E : XK) : R2 := fun x y H Q => ∃ a, x = .ref a ∧ InsC C H a ∧ sp [.ref a, y] H Q E
theorem pe_ixO {a b : Expr} {ta tb : TE} {pos : Pos} (F : FnOk X.prog X.w X.K X.mg X.base CX n f fd ps sp) (hr : Room (n + 1) X.A) (O : Own X.K C f "__getitem__") (hf : PySem.W.fnIn X.K f = true) (hb : Binds X.K fd ps []) (hx : Passes CX X E) (ha : PE X a ta) (hi : PE X b tb)
    (hs : ∀ v i, subscripted b true v i = runValue (.builtin "lifetime.subscript" ⟨[v, i], []⟩)) : PE X (.Subscript a b pos) (tOp (rIxO C sp E) ta tb) := by
  refine ⟨fun pins s σ H Q I h => ?_⟩
  refine Subscript_ (binT ha hi I h fun v u s2 x y H2 I2 rx ry q => ?_)
  obtain ⟨p, rfl, ⟨dx, fs, hp⟩, hsp⟩ := q
  cases rx
  obtain ⟨_, J, _⟩ := ins_get I2.hok hp
  obtain ⟨od, J, _⟩ := J.look
  obtain ⟨m, hF⟩ := I2.fr
  exact PySem.W.sub_K hF I2.ok.mod.kin J O.at' hf O.fn (run_own F (A := X.A.in1) (xs := [.ref p, y]) ⟨hr.in1, rfl⟩ hb hx I2 (.cons rfl (.cons ry .nil)) hsp fun z u H1 s1 I1 rz q => ⟨z, H1, I1, rz, q⟩) (hs _ _)
/-- == by the own __eq__, either answer -/
def rEqO (C : Addr) (sp : Sp) (E : XK) : R2 := fun x y H Q => ∃ a b, x = .ref a ∧ y = .ref b ∧ InsC C H a ∧ InsC C H b ∧ sp [.ref a, .ref b] H (fun v H1 => ∃ c, v = .bl c ∧ Q (.bl c) H1) E
theorem op_eqO (F : FnOk X.prog X.w X.K X.mg X.base CX n f fd ps sp) (hr : Room n X.A) (O : Own X.K C f "__eq__") (hb : Binds X.K fd ps []) (hx : Passes CX X E) : OpR X (compareOp .Eq) (rEqO C sp E) := by
  intro pins s σ H x y v u Q I rx ry h
  obtain ⟨a, b, rfl, rfl, ⟨dx, fs, ha⟩, ⟨dy, gs, hb'⟩, hsp⟩ := h
  cases rx
  cases ry
  obtain ⟨_, J, _⟩ := ins_get I.hok ha
  obtain ⟨_, J', _⟩ := ins_get I.hok hb'
  obtain ⟨od, J, _⟩ := J.look
  obtain ⟨od', J', _⟩ := J'.look
  obtain ⟨m, hF⟩ := I.fr
  show wpAny (model X.prog X.w) X.A (richCompare .Eq (.ref a) (.ref b)) (EP X pins σ Q) X.xe s
  refine PySem.W.cmp_K (op := .Eq) (tb := .ref C) hr.units0 hF I.ok.mod.kin J J'.type (by simp [PySem.W.notFirst]) O.at' O.fn (run_own F (A := X.A) (xs := [.ref a, .ref b]) ⟨hr, rfl⟩ hb hx I (.cons rfl (.cons rfl .nil)) hsp fun z u H1 s1 I1 rz q => ?_)
  obtain ⟨c, rfl, q⟩ := q
  cases rz
  exact ⟨.bl c, H1, I1, rfl, q⟩
end
end WO

end
section
set_option autoImplicit false
set_option Elab.async false
set_option linter.all false
set_option maxRecDepth 100000
set_option maxHeartbeats 4000000
/-! ## set(a list of hin), and sorted of it -/
namespace WS
open PySem PySem.Spec PyProof.Rows L2
abbrev empt (Wd : World) : Obj := { cls := .type "set", dict := none, data := .set #[] 0 (.fresh 0 0 (!Wd.params.followText "set-order")) }
abbrev walker (ls : Addr) : Obj := { cls := .type "list_iterator", data := .fields #[.ref ls, .int 0 0] }
section
variable {Pg : Program} {Wd : World} {Ar : Around} {Ex : Value → Shared → Prop} {sh : Shared}
/-- what is left of a new set, filled -/
def Filled (Wd : World) (sh : Shared) (zs : List Int) (s2 : Shared) : Prop := ∃ hp tk c, s2 = { sh with heap := hp, toks := tk } ∧ SetR Wd hp sh.heap.objs.size (fun j => decide (j ∈ zs)) c ∧ c ≤ zs.length ∧ ∀ b o, sh.heap.get? b = some o → hp.get? b = some o
set_option maxHeartbeats 3200000 in
/-- __init__ of the new set at the end of the heap -/
theorem init_list {ls : Addr} {arr : Array Value} {zs : List Int} (ok : Ar.handled = none) (at0 : sh.heap.IsList ls arr) (hin : IntsAre arr.toList zs) (few : zs.length + 1 < scanBound) (tS : Shared.TypeIs { sh with heap := sh.heap.push (empt Wd) } (.ref sh.heap.objs.size) "set") :
    codeAny (model Pg Wd) Ar (.call (.builtin "set.__init__") ⟨[.ref sh.heap.objs.size, .ref ls], []⟩) (wants (fun r s2 => r = .none ∧ Filled Wd sh zs s2) Ex) { sh with heap := sh.heap.push (empt Wd) } := by
  have size_eq : arr.size = zs.length := by
    have q := IntsAre.length hin
    rwa [Array.length_toList] at q
  refine codeAny_call_builtin (R := wants _ Ex) F.called_set.init.plain F.entry_set_init (check_set_init_1 tS ?_)
  obtain ⟨⟨oc, od, oda, osl⟩, gl, cl, nl, dl⟩ := at0
  simp only at cl dl
  subst cl; subst dl
  have gl2 : (sh.heap.push (empt Wd)).get? ls = some { cls := .type "list", dict := od, data := .seq arr nl, slots := osl } := Heap.get?_push_of_some _ gl
  have k1 := F.sub_list_set
  have k2 := F.sub_list_frozenset
  have k3 : (Value.type "list" == Value.type "dict") = false := by decide
  have il : (sh.heap.push (empt Wd)).IsList ls arr := ⟨_, gl2, rfl, nl, rfl⟩
  unfold Builtin.«set.__init__» noKeywords Builtin.Frozenset.updateFrom
  generalize eI : pyIter = IT
  wp_walk
  subst eI
  refine wpAny_pyIter_list il ?_
  refine wpAny_bind (wpAny_runValue ?_)
  have low : ls < sh.heap.objs.size := Heap.lt_size gl
  have sz : (sh.heap.push (empt Wd)).objs.size = sh.heap.objs.size + 1 := Heap.size_push ..
  have ne1 : ls ≠ (sh.heap.push (empt Wd)).objs.size := by rw [sz]; exact Nat.ne_of_lt (Nat.lt_succ_of_lt low)
  have ne2 : sh.heap.objs.size ∉ [(sh.heap.push (empt Wd)).objs.size, ls] := by
    rw [sz]
    intro z
    rcases List.mem_cons.mp z with e | e
    · exact absurd e (Nat.ne_of_lt (Nat.lt_succ_self _))
    · exact absurd (List.mem_singleton.mp e) (Nat.ne_of_gt low)
  have item : ∀ (i : Nat) (v : Value), arr[i]? = some v → ∃ k t, zs[i]? = some k ∧ v = .int k t := by
    intro i v hv
    have hi : i < zs.length := by rw [← size_eq]; exact (Array.getElem?_eq_some_iff.mp hv).1
    obtain ⟨t, e⟩ := PyProof.Rows.IntsAre.int_at hin i v (by rw [Array.getElem?_toList]; exact hv)
    refine ⟨zs[i], t, List.getElem?_eq_getElem hi, ?_⟩
    rw [e, List.getD_eq_getElem?_getD, List.getElem?_eq_getElem hi] <;> rfl
  refine set_update_ints ((Walks.list (by simp [ok]) _ ls ne1 arr).toS) sh.heap.objs.size ne2 zs size_eq few item (arr.size - 0) 0 _ (by omega) (Nat.zero_le _) ⟨⟨_, Heap.get?_push_size _ rfl, rfl, rfl⟩, (il.push _)⟩ ?first0 ?rest0
  case first0 =>
    have g : ((sh.heap.push (empt Wd)).push (walker ls)).get? sh.heap.objs.size = some (empt Wd) := Heap.get?_push_of_some _ (Heap.get?_push_size _ rfl)
    exact ⟨0, Nat.le_refl 0, setR_new_at g⟩
  case rest0 =>
    rintro ⟨hp, g2, d2, tk, os2⟩ c mv hc R
    have eg : g2 = sh.gens := mv.gens
    have ed : d2 = sh.drawn := mv.drawn
    have eo : os2 = sh.os := mv.os
    subst eg; subst ed; subst eo
    show wpAny _ _ _ _ _ _
    refine wpAny_pure ?_
    show wpAny _ _ (ret Value.none) _ _ _
    rw [size_eq] at hc
    refine wpAny_pure ⟨rfl, hp, tk, c, rfl, R, hc, fun b o e => ?_⟩
    have lb : b < sh.heap.objs.size := Heap.lt_size e
    refine mv.heap b o ?_ (Heap.get?_push_of_some _ (Heap.get?_push_of_some _ e))
    rw [sz]
    intro z
    rcases List.mem_cons.mp z with e | e
    · exact absurd e (Nat.ne_of_lt lb)
    · exact absurd (List.mem_singleton.mp e) (Nat.ne_of_lt (Nat.lt_succ_of_lt lb))
set_option maxHeartbeats 3200000 in
theorem set_of_list {ls : Addr} {arr : Array Value} (zs : List Int) {Qv : Value → Shared → Prop} (ok : Ar.handled = none) (at0 : sh.heap.IsList ls arr) (hin : IntsAre arr.toList zs) (few : zs.length + 1 < scanBound)
    (k : ∀ s2, Filled Wd sh zs s2 → Qv (.ref sh.heap.objs.size) s2) : wpAny (model Pg Wd) Ar (call (.type "set") [.ref ls]) Qv Ex sh := by
  obtain ⟨c0, tl0, mro0⟩ := F.called_set.mro
  have f1 := F.called_set.made
  have f2 := F.called_set.sub
  refine wpAny_call (codeAny_of_tree ?_)
  show wpAny _ _ (callAny (.type "set") _) _ _ _
  refine wpAny_pure ⟨Code.quiet_builtin _ (by decide +kernel), codeAny_builtin F.entry_type_call ?_⟩
  rw [Around.under_plain (weight_type_call_type "set" [.ref ls] []) rfl]
  have f3 := F.called_set.notType
  have f4 := F.called_set.canCreate
  have f5 := F.typeCall_set_1 (.ref ls)
  repeat (any_goals (first | assumption | wp_step))
  refine codeAny_mono (code_set_led1 (.ref ls) (E := Ex) (Q₁ := fun ob s1 => ob = .ref sh.heap.objs.size ∧ s1 = { sh with heap := sh.heap.push (empt Wd) }) ⟨rfl, rfl⟩) fun r s1 hr => ?_
  match r, hr with
  | .error e, hr => exact hr
  | .ok .next, hr => exact hr.elim
  | .ok .brk, hr => exact hr.elim
  | .ok .cont, hr => exact hr.elim
  | .ok (.ret ob), hr =>
    obtain ⟨rfl, rfl⟩ := hr
    have tS : Shared.TypeIs { sh with heap := sh.heap.push (empt Wd) } (.ref sh.heap.objs.size) "set" := ⟨_, Heap.get?_push_size _ rfl, rfl⟩
    have f6 := F.called_set.init.lookup
    have f7 := F.called_set.init.bind (.ref sh.heap.objs.size)
    repeat (any_goals (first | assumption | wp_step))
    refine codeAny_mono (init_list (zs := zs) (Ex := Ex) (by simp [ok]) at0 hin few tS) fun r2 s2 hr2 => ?_
    match r2, hr2 with
    | .error e, hr2 => exact hr2
    | .ok .next, hr2 => exact hr2.elim
    | .ok .brk, hr2 => exact hr2.elim
    | .ok .cont, hr2 => exact hr2.elim
    | .ok (.ret v), hr2 =>
      obtain ⟨rfl, hF⟩ := hr2
      obtain ⟨hp, tk, c, rfl, R, hc, hk⟩ := hF
      repeat (any_goals (first | assumption | wp_step))
      exact k _ ⟨hp, tk, c, rfl, R, hc, hk⟩
end
section
variable {X : Cx}
def rSetL (K : PySem.W.Frag) (Wd : World) : List V → Hp → VK → Prop := fun xs H Q => ∃ (l : Addr) (zs : List Int), xs = [.ref l] ∧ SqL K H l (zs.map V.int) ∧ zs.length ≤ 4000 ∧ ∀ (p : Addr) (c : Nat), H p = none → c ≤ zs.length → Q (.ref p) (upd H p (SetO Wd p (fun j => decide (j ∈ zs)) c))
theorem cr_setL (hc : X.calm = true) : CallR X (.type "set") (rSetL X.K X.w) := by
  intro pins s σ H xs us Q I r h
  obtain ⟨l, zs, rfl, hL, few, q⟩ := h
  rw [Vals.ref1 r]
  obtain ⟨its, rv, pl, _⟩ := I.list hL
  refine set_of_list zs (I.ok.hd hc) pl.isList (by simpa using ints_of_vals rv) (by unfold scanBound; omega) fun s2 hF => ?_
  obtain ⟨hp, tk, c, rfl, R, hc2, hk⟩ := hF
  exact ⟨.ref _, upd H s.heap.objs.size (SetO X.w s.heap.objs.size (fun j => decide (j ∈ zs)) c), I.laid (t' := tk) hk (Nat.le_refl _) (setO_new R), rfl, q _ c (I.hok.fresh (Nat.le_refl _)) hc2⟩
end
end WS

end
section
set_option autoImplicit false
set_option Elab.async false
set_option linter.all false
set_option maxRecDepth 100000
set_option maxHeartbeats 4000000
/-! ## pieces for any law -/
namespace Y
open PySem L2 G
theorem of_upd {H : Hp} {p : Addr} {o : HO} (h : H p = none) : Same H (upd H p o) := fun a u e => by
  rw [upd_ne (ne_of_none e h)]
  exact e
theorem add_upd {H G : Hp} {D : Addr} {o : HO} (nD : H D = none) (s : Same H G) : Same H (upd G D o) := fun b u e => by
  rw [upd_ne (ne_of_none e nD)]
  exact s _ _ e
/-- a def of the text that is called by its name, and keeps a promise -/
structure Df (P : Program) (w : World) (K : PySem.W.Frag) (mg : Str → Option Value) (base : Heap) (k : Nat) (x : Str) (ps : List Str) (sp : Sp) : Prop where
  ex : ∃ (f : Addr) (fd : FuncData), FnOk P w K mg base CX0 k f fd ps sp ∧ mg x = some (.ref f) ∧ PySem.W.keepIn K (.ref f) = true ∧ Binds K fd ps []
structure Fd (K : PySem.W.Frag) (mg : Str → Option Value) (x : Str) (st : Stmt) (ps : List Str) : Prop where
  ex : ∃ (f : Addr) (fd : FuncData), Fun K x x st f fd ∧ mg x = some (.ref f) ∧ PySem.W.keepIn K (.ref f) = true ∧ Binds K fd ps []
theorem Fd.df {P : Program} {w : World} {K : PySem.W.Frag} {mg : Str → Option Value} {base : Heap} {x : Str} {st : Stmt} {ps : List Str} {k : Nat} {sp : Sp} (h : Fd K mg x st ps) (ok : ∀ f fd, Fun K x x st f fd → FnOk P w K mg base CX0 k f fd ps sp) : Df P w K mg base k x ps sp := by
  obtain ⟨f, fd, h1, h2, h3, h4⟩ := h.ex
  exact ⟨f, fd, ok f fd h1, h2, h3, h4⟩
theorem set_then {te : TE} {i : Nat} {t2 : TS} {D : Ends} {σ : L2.St} {H : Hp} (h : te σ H fun v H1 => t2 D (σ.set i (some v)) H1) : tSeq (tAsg te (gName i)) t2 D σ H := h
theorem len_put {f : Str} {v : V} {fs : List (Str × V)} {n : Nat} (h : fs.length < n) : (putF f v fs).length < n + 1 := Nat.lt_of_le_of_lt (length_putF f v fs) (Nat.succ_lt_succ h)
theorem take_snoc {α : Type} {l : List α} {i : Nat} {x : α} (h : l[i]? = some x) : l.take (i + 1) = l.take i ++ [x] := by
  rw [List.take_succ, h]
  rfl
theorem drop_at {α : Type} {l : List α} {i : Nat} {x : α} (h : l[i]? = some x) : l.drop i = x :: l.drop (i + 1) := by
  obtain ⟨hi, ex⟩ := List.getElem?_eq_some_iff.mp h
  rw [← ex, ← List.drop_eq_getElem_cons hi]
section
variable {X : Cx} {tg it : Expr}
theorem pi_or {w1 w2 : TI} (h1 : PI X tg it w1) (h2 : PI X tg it w2) : PI X tg it (fun σ H R => w1 σ H R ∨ w2 σ H R) := ⟨fun pins s σ H R I h => h.elim (h1.run pins s σ H R I) (h2.run pins s σ H R I)⟩
def tDead : TS := fun _ _ _ => False
theorem ps_dead {b : List Stmt} : PSs X b tDead := ⟨fun _ _ _ _ _ _ h => h.elim⟩
end
def SAt (H : Hp) (l : Addr) (xs : List V) : Prop := H l = some (.lst xs) ∨ H l = some (.tup xs)
theorem SAt.mono {H H' : Hp} {l : Addr} {xs : List V} (s : Same H H') (h : SAt H l xs) : SAt H' l xs := h.elim (fun e => .inl (s _ _ e)) fun e => .inr (s _ _ e)
section
variable {K : PySem.W.Frag} {H : Hp} {σ : L2.St} {l : Addr} {xs : List V}
theorem or_seq {te : TE} {R : It → Hp → Prop} (ht : ∀ Q : VK, Q (.ref l) H → te σ H Q) (hl : SAt H l xs) (k : ∀ (J : It) (Gd : Hp → Prop), (∀ H', Same H H' → Gd H') → Walk J xs.length Gd (YAt xs) → R J H) : iList K te σ H R ∨ iTup K te σ H R :=
  hl.elim (fun e => .inl (ht _ ⟨l, rfl, ⟨xs, SqL.of e⟩, k _ _ (fun H' s => SqL.of (s _ _ e)) walk_list⟩)) fun e => .inr (ht _ ⟨l, rfl, ⟨xs, SqT.of e⟩, k _ _ (fun H' s => SqT.of (s _ _ e)) walk_tup⟩)
end
theorem at0 {y0 : V} {ys : List V} : atI (y0 :: ys) (0 : Int) = some y0 := by exact atI_nat (xs := y0 :: ys) (j := 0) rfl
def ni (l : List Nat) : List V := (l.map fun n => ((n : Nat) : Int)).map V.int
theorem ni_len (l : List Nat) : (ni l).length = l.length := by
  unfold ni
  rw [List.length_map, List.length_map]
theorem ni_get {l : List Nat} {i : Nat} {x : V} (h : (ni l)[i]? = some x) : ∃ b, l[i]? = some b ∧ x = .int ((b : Nat) : Int) := by
  unfold ni at h
  rw [List.getElem?_map, List.getElem?_map] at h
  cases e : l[i]? with
  | none => rw [e] at h; cases h
  | some b =>
    rw [e] at h
    cases h
    exact ⟨b, rfl, rfl⟩
theorem ni_at {l : List Nat} {i b : Nat} (h : l[i]? = some b) : (ni l)[i]? = some (.int ((b : Nat) : Int)) := by
  unfold ni
  rw [List.getElem?_map, List.getElem?_map, h]
  rfl
theorem ni_app (l m : List Nat) : ni (l ++ m) = ni l ++ ni m := by
  unfold ni
  rw [List.map_append, List.map_append]
theorem ni_drop (l : List Nat) (i : Nat) : (ni l).drop i = ni (l.drop i) := by
  unfold ni
  rw [← List.map_drop, ← List.map_drop]
theorem ni_take (l : List Nat) (i : Nat) : (ni l).take i = ni (l.take i) := by
  unfold ni
  rw [← List.map_take, ← List.map_take]
theorem line2 : 2 ≤ sizeLine ∧ 3 ≤ sizeLine ∧ 1 ≤ sizeLine ∧ 0 ≤ sizeLine := by decide
/-- xs[k:] -/
theorem cut_from (xs : List V) (k : Nat) : cutV xs (some (k : Int)) none = xs.drop k := by
  unfold cutV
  rw [HT.sIx_none, HT.sIx_nat]
  by_cases h : k ≤ xs.length
  · rw [Nat.min_eq_left h]
    exact List.take_of_length_le (by rw [List.length_drop]; omega)
  · rw [Nat.min_eq_right (by omega), List.drop_of_length_le (by omega), List.drop_of_length_le (by omega), List.take_nil]
theorem six_pos {n k : Nat} (h : 0 < k) (hn : 0 < n) (d : Nat) : HT.sIx n d (some (k : Int)) ≠ 0 := by
  rw [HT.sIx_nat]
  omega
structure Bn (mg : Str → Option Value) : Prop where
  isi : mg "isinstance" = none
  bool : mg "bool" = none
  int : mg "int" = none
  tuple : mg "tuple" = none
  list : mg "list" = none
  len : mg "len" = none
  range : mg "range" = none
  zip : mg "zip" = none
  min : mg "min" = none
  max : mg "max" = none
  sorted : mg "sorted" = none
  set : mg "set" = none
  enum : mg "enumerate" = none
end Y

end
section
set_option autoImplicit false
/-! ## chains: what the numbers do -/
namespace N
/-- the pieces of a body -/
def L : List Nat → Nat → Nat
  | [], _ => 1
  | c :: r, b => b / c * L r c + (if b % c = 0 then 0 else L r (b % c))
/-- the boundary with a number -/
def B : List Nat → Nat → Nat
  | [], _ => 0
  | c :: r, n => n / L r c * c + B r (n % L r c)
/-- the rest of a place -/
def rem : List Nat → Nat → Nat
  | [], p => p
  | c :: r, p => rem r (p % c)
def dig : List Nat → Nat → List Nat
  | [], p => [p]
  | c :: r, p => p / c :: dig r (p % c)
theorem L_cons (c : Nat) (r : List Nat) (b : Nat) : L (c :: r) b = b / c * L r c + (if b % c = 0 then 0 else L r (b % c)) := by conv => lhs; unfold L
theorem B_cons (c : Nat) (r : List Nat) (n : Nat) : B (c :: r) n = n / L r c * c + B r (n % L r c) := by conv => lhs; unfold B
theorem rem_cons (c : Nat) (r : List Nat) (p : Nat) : rem (c :: r) p = rem r (p % c) := by conv => lhs; unfold rem
/-- cuts: falling, none of them 0 -/
def Fall : List Nat → Prop
  | [] => True
  | c :: r => 0 < c ∧ (∀ d ∈ r, d < c) ∧ Fall r
theorem Fall.pos : ∀ {l : List Nat}, Fall l → ∀ d ∈ l, 0 < d
  | [], _, d, h => by cases h
  | c :: r, f, d, h => by
    rcases List.mem_cons.mp h with e | e
    · rw [e]; exact f.1
    · exact f.2.2.pos d e
theorem L_pos : ∀ (l : List Nat), Fall l → ∀ b, 0 < b → 0 < L l b
  | [], _, b, _ => by unfold L; omega
  | c :: r, f, b, hb => by
    unfold L
    have h1 := L_pos r f.2.2 c f.1
    by_cases h : b % c = 0
    · rw [if_pos h]
      have h2 : 0 < b / c := Nat.div_pos (Nat.le_of_dvd hb (Nat.dvd_of_mod_eq_zero h)) f.1
      exact Nat.lt_of_lt_of_le (Nat.mul_pos h2 h1) (Nat.le_add_right _ _)
    · rw [if_neg h]
      have h2 := L_pos r f.2.2 (b % c) (by omega)
      omega
theorem B_zero : ∀ l : List Nat, B l 0 = 0
  | [] => rfl
  | c :: r => by
    unfold B
    rw [Nat.zero_div, Nat.zero_mod, B_zero r, Nat.zero_mul]
theorem rem_zero : ∀ l : List Nat, rem l 0 = 0
  | [] => rfl
  | c :: r => by
    unfold rem
    rw [Nat.zero_mod, rem_zero r]
/-- two numbers in parts: which one is less -/
theorem parts_lt {q j Q R c : Nat} (hj : j < c) (hR : R < c) : q * c + j < Q * c + R ↔ q < Q ∨ (q = Q ∧ j < R) := by
  constructor
  · intro h
    rcases Nat.lt_trichotomy q Q with a | a | a
    · exact .inl a
    · subst a
      exact .inr ⟨rfl, by omega⟩
    · have := Nat.mul_le_mul_right c a
      rw [Nat.succ_mul] at this
      omega
  · rintro (a | ⟨rfl, a⟩)
    · have := Nat.mul_le_mul_right c a
      rw [Nat.succ_mul] at this
      omega
    · omega
/-- the boundaries below a body are one less than its pieces -/
theorem below : ∀ (l : List Nat), Fall l → ∀ b, 0 < b → ∀ m, (l = [] → m = 0) → (B l m < b ↔ m < L l b)
  | [], _, b, hb, m, hm => by
    rw [hm rfl]
    unfold B L
    omega
  | c :: r, f, b, hb, m, _ => by
    have hc := f.1
    have hk := L_pos r f.2.2 c hc
    have ih := below r f.2.2
    have hj := Nat.mod_lt m hk
    have hR := Nat.mod_lt b hc
    have e1 := Nat.div_add_mod m (L r c)
    have e2 := Nat.div_add_mod b c
    have nil : r = [] → m % L r c = 0 := fun e => by
      rw [e]
      show m % 1 = 0
      exact Nat.mod_one m
    have hB : B r (m % L r c) < c := (ih c hc _ nil).mpr hj
    -- what is left of the body
    have left : ∀ (x : Nat), x < L r c → (r = [] → x = 0) → (B r x < b % c ↔ x < (if b % c = 0 then 0 else L r (b % c))) := fun x hx hn => by
      by_cases h : b % c = 0
      · rw [if_pos h, h]
        omega
      · rw [if_neg h]
        exact ih (b % c) (by omega) x hn
    have most : (if b % c = 0 then 0 else L r (b % c)) ≤ L r c := by
      by_cases h : b % c = 0
      · rw [if_pos h]
        omega
      · rw [if_neg h]
        cases r with
        | nil => exact Nat.le_refl _
        | cons d s =>
          rcases Nat.lt_or_ge (L (d :: s) c) (L (d :: s) (b % c)) with z | z
          · have q := (ih (b % c) (by omega) (L (d :: s) c) (fun e => by cases e)).mpr z
            have q2 := (ih c hc (L (d :: s) c) (fun e => by cases e)).mp (by omega)
            omega
          · exact z
    have goal : (m / L r c < b / c ∨ (m / L r c = b / c ∧ B r (m % L r c) < b % c)) ↔ (m / L r c < b / c ∨ (m / L r c = b / c ∧ m % L r c < (if b % c = 0 then 0 else L r (b % c)))) := by
      rw [left _ hj nil]
    rw [B_cons, L_cons]
    have h1 := parts_lt (q := m / L r c) (Q := b / c) hB hR
    rw [Nat.mul_comm c] at e2
    rw [e2] at h1
    refine h1.trans (goal.trans ?_)
    generalize hX : (if b % c = 0 then 0 else L r (b % c)) = X at most ⊢
    rw [Nat.mul_comm (L r c)] at e1
    rcases Nat.lt_or_ge X (L r c) with z | z
    · have h2 := parts_lt (q := m / L r c) (Q := b / c) hj z
      rw [e1] at h2
      exact h2.symm
    · have eX : X = L r c := Nat.le_antisymm most z
      rw [eX]
      constructor
      · rintro (a | ⟨a, _⟩)
        · have := Nat.mul_le_mul_right (L r c) a
          rw [Nat.succ_mul] at this
          omega
        · rw [← a]
          omega
      · intro h
        rcases Nat.lt_trichotomy (m / L r c) (b / c) with a | a | a
        · exact .inl a
        · exact .inr ⟨a, hj⟩
        · have := Nat.mul_le_mul_right (L r c) a
          rw [Nat.succ_mul] at this
          omega
/-- boundaries go up -/
theorem up : ∀ (l : List Nat), Fall l → l ≠ [] → ∀ n, B l n < B l (n + 1)
  | [], _, h, _ => absurd rfl h
  | c :: r, f, _, n => by
    have hk := L_pos r f.2.2 c f.1
    have hj := Nat.mod_lt n hk
    have nil : r = [] → n % L r c = 0 := fun e => by
      rw [e]
      show n % 1 = 0
      exact Nat.mod_one n
    have hB : B r (n % L r c) < c := (below r f.2.2 c f.1 _ nil).mpr hj
    have e1 := Nat.div_add_mod n (L r c)
    rw [B_cons, B_cons]
    by_cases h : n % L r c + 1 = L r c
    · have e2 : n + 1 = 0 + L r c * (n / L r c + 1) := by rw [Nat.mul_add]; omega
      have d : (n + 1) / L r c = n / L r c + 1 := by rw [e2, Nat.add_mul_div_left _ _ hk, Nat.zero_div, Nat.zero_add]
      have m : (n + 1) % L r c = 0 := by rw [e2, Nat.add_mul_mod_self_left, Nat.zero_mod]
      rw [d, m, B_zero, Nat.succ_mul]
      omega
    · have e2 : n + 1 = (n % L r c + 1) + L r c * (n / L r c) := by omega
      have d : (n + 1) / L r c = n / L r c := by rw [e2, Nat.add_mul_div_left _ _ hk, Nat.div_eq_of_lt (by omega), Nat.zero_add]
      have m : (n + 1) % L r c = n % L r c + 1 := by rw [e2, Nat.add_mul_mod_self_left, Nat.mod_eq_of_lt (by omega)]
      rw [d, m]
      have hr : r ≠ [] := fun e => h (by rw [e]; show n % 1 + 1 = 1; rw [Nat.mod_one])
      have := up r f.2.2 hr (n % L r c)
      omega
theorem up_lt {l : List Nat} (f : Fall l) (h : l ≠ []) : ∀ {m n : Nat}, m < n → B l m < B l n
  | m, 0, q => absurd q (Nat.not_lt_zero _)
  | m, n + 1, q => by
    rcases Nat.lt_or_ge m n with a | a
    · exact Nat.lt_trans (up_lt f h a) (up l f h n)
    · have e : m = n := by omega
      rw [e]
      exact up l f h n
theorem up_iff {l : List Nat} (f : Fall l) (h : l ≠ []) {m n : Nat} : B l m < B l n ↔ m < n := by
  constructor
  · intro q
    rcases Nat.lt_trichotomy m n with a | a | a
    · exact a
    · rw [a] at q; omega
    · have := up_lt f h a; omega
  · exact up_lt f h
theorem eq_of_lt_iff {a b : Nat} (h : ∀ m, m < a ↔ m < b) : a = b := by
  have h1 := h a
  have h2 := h b
  omega
/-- the boundary with a number has so many up to it -/
theorem L_B {l : List Nat} (f : Fall l) (h : l ≠ []) {n : Nat} (hn : 0 < n) : L l (B l n) = n := by
  have p : 0 < B l n := by
    have := up_lt f h hn
    omega
  refine eq_of_lt_iff fun m => ?_
  rw [← below l f (B l n) p m fun e => absurd e h, up_iff f h]
theorem L_B1 {l : List Nat} (f : Fall l) (h : l ≠ []) {n : Nat} : L l (B l n + 1) = n + 1 := by
  refine eq_of_lt_iff fun m => ?_
  rw [← below l f (B l n + 1) (by omega) m fun e => absurd e h]
  constructor
  · intro q
    rcases Nat.lt_or_ge m (n + 1) with a | a
    · exact a
    · have := up_lt f h (m := n) (n := m) (by omega)
      omega
  · intro q
    rcases Nat.lt_or_ge m n with a | a
    · have := up_lt f h a
      omega
    · have e : m = n := by omega
      rw [e]
      omega
theorem rem_B : ∀ (l : List Nat), Fall l → ∀ n, (l = [] → n = 0) → rem l (B l n) = 0
  | [], _, n, h => by rw [h rfl]; rfl
  | c :: r, f, n, _ => by
    have hk := L_pos r f.2.2 c f.1
    have hj := Nat.mod_lt n hk
    have nil : r = [] → n % L r c = 0 := fun e => by
      rw [e]
      show n % 1 = 0
      exact Nat.mod_one n
    have hB : B r (n % L r c) < c := (below r f.2.2 c f.1 _ nil).mpr hj
    rw [B_cons, rem_cons, Nat.add_comm, Nat.add_mul_mod_self_right, Nat.mod_eq_of_lt hB]
    exact rem_B r f.2.2 _ nil
/-- the first boundary is the least cut -/
theorem B_one : ∀ (l : List Nat), Fall l → ∀ (h : l ≠ []), B l 1 = l.getLast h
  | [], _, h => absurd rfl h
  | [c], _, _ => by
    rw [B_cons]
    show 1 / 1 * c + 0 = c
    omega
  | c :: d :: s, f, _ => by
    have ih := B_one (d :: s) f.2.2 (by simp)
    have lt : (d :: s).getLast (by simp) < c := f.2.1 _ (List.getLast_mem _)
    have k1 : 1 < L (d :: s) c := (below (d :: s) f.2.2 c f.1 1 (fun e => by cases e)).mp (by rw [ih]; exact lt)
    rw [List.getLast_cons (by simp)]
    rw [B_cons, Nat.div_eq_of_lt k1, Nat.mod_eq_of_lt k1, ih]
    omega
theorem last_le : ∀ (l : List Nat), Fall l → ∀ (h : l ≠ []), ∀ d ∈ l, l.getLast h ≤ d
  | [], _, h, _, _ => absurd rfl h
  | [c], _, _, d, hd => by
    have e : d = c := by simpa using hd
    rw [e]
    exact Nat.le_refl _
  | c :: e :: s, f, _, d, hd => by
    rw [List.getLast_cons (by simp)]
    rcases List.mem_cons.mp hd with q | q
    · rw [q]
      exact Nat.le_of_lt (f.2.1 _ (List.getLast_mem _))
    · exact last_le (e :: s) f.2.2 (by simp) d q
theorem L_mono_lt {l : List Nat} (f : Fall l) (h : l ≠ []) {n b : Nat} (hb : B l n < b) : n < L l b := (below l f b (by omega) n fun e => absurd e h).mp hb
end N
namespace N
/-- how many pieces each cut's part makes -/
def cn : List Nat → List Nat
  | [] => []
  | c :: r => L r c :: cn r
theorem cn_len : ∀ l : List Nat, (cn l).length = l.length
  | [] => rfl
  | c :: r => congrArg Nat.succ (cn_len r)
theorem cn_at : ∀ {l : List Nat} {i k : Nat}, (cn l)[i]? = some k → ∃ c, l[i]? = some c ∧ k = L (l.drop (i + 1)) c
  | [], i, k, h => by cases h
  | c :: r, 0, k, h => by
    cases h
    exact ⟨c, rfl, rfl⟩
  | c :: r, i + 1, k, h => by
    obtain ⟨d, a, b⟩ := cn_at (l := r) (i := i) h
    exact ⟨d, a, b⟩
/-- the number of pieces of any body -/
def PC (l : List Nat) (b : Nat) : Nat := if b = 0 then 1 else L l b
def sm : List Nat → Nat → Nat
  | [], _ => 0
  | c :: r, b => b / c * L r c + sm r (b % c)
theorem sm_cons (c : Nat) (r : List Nat) (b : Nat) : sm (c :: r) b = b / c * L r c + sm r (b % c) := by conv => lhs; unfold sm
theorem sm_nil (b : Nat) : sm [] b = 0 := rfl
theorem rem_nil (b : Nat) : rem [] b = b := rfl
theorem sm_zero : ∀ l : List Nat, sm l 0 = 0
  | [] => rfl
  | c :: r => by
    unfold sm
    rw [Nat.zero_div, Nat.zero_mod, Nat.zero_mul, sm_zero r]
theorem L_sm : ∀ (l : List Nat) (b : Nat), 0 < b → L l b = sm l b + (if 0 < rem l b then 1 else 0)
  | [], b, h => by
    unfold L sm rem
    rw [if_pos h]
  | c :: r, b, h => by
    rw [L_cons, rem_cons]
    unfold sm
    by_cases z : b % c = 0
    · rw [if_pos z, z, sm_zero, rem_zero, if_neg (by omega)]
    · rw [if_neg z, L_sm r (b % c) (by omega), Nat.add_assoc]
theorem PC_sm (l : List Nat) (b : Nat) : PC l b = sm l b + (if 0 < rem l b ∨ b = 0 then 1 else 0) := by
  unfold PC
  by_cases h : b = 0
  · rw [if_pos h, if_pos (.inr h), h, sm_zero]
  · rw [if_neg h, L_sm l b (by omega)]
    by_cases z : 0 < rem l b
    · rw [if_pos z, if_pos (.inl z)]
    · rw [if_neg z, if_neg (by omega)]
theorem Fall.drop : ∀ {l : List Nat}, Fall l → ∀ i, Fall (l.drop i)
  | [], _, i => by rw [List.drop_nil]; trivial
  | c :: r, f, 0 => f
  | c :: r, f, i + 1 => f.2.2.drop i
theorem le_B {l : List Nat} (f : Fall l) (h : l ≠ []) : ∀ n, n ≤ B l n
  | 0 => Nat.zero_le _
  | n + 1 => by
    have := le_B f h n
    have := up l f h n
    omega
theorem L_le {l : List Nat} (f : Fall l) {b : Nat} (hb : 0 < b) : L l b ≤ b := by
  cases l with
  | nil => exact hb
  | cons c r =>
    have p := L_pos (c :: r) f b hb
    have q := (below (c :: r) f b hb (L (c :: r) b - 1) fun e => by cases e).mpr (by omega)
    have := le_B f (by simp) (L (c :: r) b - 1)
    omega
theorem dig_rem : ∀ (l : List Nat) (p : Nat), ∃ ds, dig l p = ds ++ [rem l p]
  | [], p => ⟨[], rfl⟩
  | c :: r, p => by
    obtain ⟨ds, e⟩ := dig_rem r (p % c)
    exact ⟨p / c :: ds, by unfold dig; rw [e, rem_cons]; rfl⟩
theorem dig_len : ∀ (l : List Nat) (p : Nat), (dig l p).length = l.length + 1
  | [], p => rfl
  | c :: r, p => congrArg Nat.succ (dig_len r (p % c))
end N
namespace N
theorem fall_snoc : ∀ {l : List Nat} {x : Nat}, Fall l → 0 < x → (∀ d ∈ l, x < d) → Fall (l ++ [x])
  | [], x, _, h, _ => ⟨h, (fun d hd => by cases hd), trivial⟩
  | c :: r, x, f, h, hd => by
    refine ⟨f.1, fun d q => ?_, fall_snoc f.2.2 h fun d q => hd d (List.mem_cons_of_mem _ q)⟩
    rcases List.mem_append.mp q with q | q
    · exact f.2.1 d q
    · rw [List.mem_singleton.mp q]
      exact hd c List.mem_cons_self
end N

end
section
set_option Elab.async false
set_option linter.all false
set_option maxRecDepth 100000
set_option maxHeartbeats 4000000
/-! ## where the law draws from -/
namespace S
open PySem L2
def top (i : Nat) : Stmt := PySem.Challenge.pw_roadsizes_k46_stretches_refused.main.body.getD i (.Pass ⟨0, 0, 0, 0⟩)
abbrev sSource : Stmt := top 26
abbrev sDraw : Stmt := top 27
abbrev sPick : Stmt := top 21
/-- the built-ins that these defs call -/
structure Bi (mg : Str → Option Value) : Prop where
  int : mg "int" = none
  len : mg "len" = none
/-- a source: two numbers that are not negative, the second one small -/
def Two (r m : Int) : List V := [.int r, .int m]
structure Fine (r m : Int) : Prop where
  r0 : 0 ≤ r
  m0 : 0 ≤ m
  m1 : m < 2147483648
def At (H : Hp) (p : Addr) : Prop := ∃ r m, H p = some (.lst (Two r m)) ∧ Fine r m
theorem bits_lt (x : Int) : x.natAbs < 2 ^ (Builtin.Int.intBits x) := by
  unfold Builtin.Int.intBits
  split
  · rename_i h
    have e : x = 0 := by simpa using h
    subst e
    decide
  · exact Nat.lt_log2_self
theorem bits_le {x : Int} {n : Nat} (h : x.natAbs < 2 ^ n) : Builtin.Int.intBits x ≤ n := by
  unfold Builtin.Int.intBits
  split
  · exact Nat.zero_le _
  · rename_i q
    have ne : x.natAbs ≠ 0 := fun e => q (by simp [Int.natAbs_eq_zero.mp e])
    exact (Nat.log2_lt ne).mpr h
theorem cube_ok {m z : Int} (h0 : 0 ≤ m) (h1 : m < 2147483648) (hz : Builtin.Int.intBits z ≤ 1048576) : (Builtin.Int.intBits (m * 40127 + z) : Int) * 3 ≤ 2 ^ 27 := by
  have b1 := bits_lt z
  have b2 : z.natAbs < 2 ^ 1048576 := Nat.lt_of_lt_of_le b1 (Nat.pow_le_pow_right (by decide) hz)
  have b3 : (m * 40127 + z).natAbs < 2 ^ 1048577 := by
    have e : (2 : Nat) ^ 1048577 = 2 ^ 1048576 * 2 := Nat.pow_succ ..
    have e2 : (2 : Nat) ^ 100 ≤ 2 ^ 1048576 := Nat.pow_le_pow_right (by decide) (by decide)
    have e3 : (2 : Nat) ^ 100 = 1267650600228229401496703205376 := by decide
    generalize (2 : Nat) ^ 1048576 = t at *
    rw [e]
    omega
  have b4 := bits_le b3
  have e27 : (2 : Int) ^ 27 = 134217728 := by decide
  rw [e27]
  omega
/-! ### promises -/
def spSource (K : PySem.W.Frag) : Sp := fun vs H Q _ => ∃ (a : Addr) (ns : List Int) (i : Nat), vs = [.ref a, .int i] ∧ i ≤ 1000 ∧ SqL K H a (ns.map V.int) ∧ ns.length ≤ 63 ∧ (∀ z ∈ ns, Builtin.Int.intBits z ≤ 1048576) ∧
  ∀ p r m, H p = none → Fine r m → Q (.ref p) (upd H p (.lst (Two r m)))
def spDraw : Sp := fun vs H Q _ => ∃ (p : Addr) (r m span : Int), vs = [.ref p, .int span] ∧ H p = some (.lst (Two r m)) ∧ Fine r m ∧ 1 ≤ span ∧ span.natAbs.log2 < 9000 ∧
  ∀ k r' m', Fine r' m' → 0 ≤ k → k < span → Q (.int k) (upd H p (.lst (Two r' m')))
def spPick (K : PySem.W.Frag) : Sp := fun vs H Q _ => ∃ (p l : Addr) (r m : Int) (xs : List V), vs = [.ref p, .ref l] ∧ H p = some (.lst (Two r m)) ∧ Fine r m ∧ l ≠ p ∧ SqL K H l xs ∧ 1 ≤ xs.length ∧ xs.length ≤ 1000 ∧
  ∀ (j : Nat) (x : V) (r' m' : Int), Fine r' m' → xs[j]? = some x → Q x (upd H p (.lst (Two r' m')))
section
variable {P : Program} {w : World} {K : PySem.W.Frag} {mg : Str → Option Value} {base : Heap}
theorem sc1 : FnScope ["script", "start", "seed", "cell", "digits"] ["script", "start"] (defScope sSource) := ⟨rfl, rfl, rfl, by decide +kernel, rfl, by decide +kernel, by decide +kernel⟩
theorem ints_at {ns : List Int} {i : Nat} {x : V} (h : (ns.map V.int)[i]? = some x) : ∃ z, x = .int z ∧ z ∈ ns ∧ ns[i]? = some z := by
  rw [List.getElem?_map] at h
  cases e : ns[i]? with
  | none => rw [e] at h; cases h
  | some z => rw [e] at h; exact ⟨z, (Option.some.inj h).symm, List.mem_of_getElem? e, rfl⟩
theorem ok_source {f : Addr} {fd : FuncData} (F : Fun K "_law_stream" "_law_stream" sSource f fd) (B : Bi mg) : FnOk P w K mg base CX0 1 f fd ["script", "start"] (spSource K) := by
  refine F.ok sc1 (fun vs H Q E h => ?_) (fun cdv A outer s H vs Q E hr h => ?_)
  · obtain ⟨a, ns, i, rfl, _⟩ := h
    rfl
  · obtain ⟨a, ns, st, rfl, hst, hS, hl, hb, k⟩ := h
    refine ⟨_, pss_cons (ps_set (i := 2) sc1.nd rfl (Or.inl rfl) (pe_op op_add pe_int (pv 1)))
      (pss_cons (ps_for PassesOwn.never rfl (pi_list (pv 0)) (pg_name (i := 3) sc1.nd rfl (Or.inl rfl))
        (pss_one (ps_set (i := 2) sc1.nd rfl (Or.inl rfl) (pe_op op_add (pe_op op_mod
          (pe_op G.op_powN (pe_callTy call_int1 (by rfl) B.int (by decide +kernel) (pa_cons (pe_op op_add (pe_op op_mul (pv 2) pe_int) (pv 3)) pa_nil)) pe_int) pe_int) pe_int))))
      (pss_cons (ps_set (i := 4) sc1.nd rfl (Or.inl rfl) pe_int)
      (pss_cons (ps_if (PW.pt (pw_and (pt_cmpR op_lt (pv 1) (pe_callB call_len_seq (by rfl) B.len PySem.boot_len (pa_cons (pv 0) pa_nil)) (nomark _))
          (pw_and1 (pt_cmpR op_ge (pe_ix ix_list (pv 0) (pv 1) (fun _ _ => rfl)) (pe_op op_pow pe_int pe_int) (nomark _)))))
        (pss_one (ps_set (i := 4) sc1.nd rfl (Or.inl rfl) (pe_op op_sub (pe_ix ix_list (pv 0) (pv 1) (fun _ _ => rfl)) (pe_op op_pow pe_int pe_int)))) pss_nil)
      (pss_one (ps_ret (pe_lst (pa_cons (pv 4) (pa_cons (pv 2) pa_nil)))))))), ?_⟩
    -- mixed = 97 + start
    refine ⟨_, rfl, _, _, rfl, rfl, ?_⟩
    -- for cell in script
    refine ⟨_, rfl, a, rfl, ⟨_, hS⟩, for_list (K := K) (a := a) (xs := ns.map V.int) (fun i σ H2 => ∃ (m : Int) (c : Option V), σ = [some (.ref a), some (.int st), some (.int m), c, none] ∧ H2 = H ∧ (0 ≤ m ∧ m < 2147483648))
      ⟨_, none, rfl, rfl, by omega, by omega⟩ (fun i σ H2 _ ⟨_, _, _, e, _⟩ => by rw [e]; exact hS) ?_ ?_⟩
    · rintro i y σ H2 hi ⟨m, c, rfl, rfl, h0, h1⟩
      obtain ⟨z, rfl, hz, _⟩ := ints_at hi
      refine ⟨_, rfl, _, _, rfl, rfl, .inl ⟨by omega, by omega⟩, _, rfl, _, _, rfl, rfl, .inl ⟨_, rfl, _, _, rfl, rfl, ⟨by decide, cube_ok h0 h1 (hb z hz)⟩, _, _, rfl, rfl, (by show (0 : Int) < 2147483629; decide), _, _, rfl, rfl, ?_⟩⟩
      refine ⟨_, _, rfl, rfl, ?_⟩
      have e1 := Int.emod_nonneg ((m * 40127 + z) ^ (3 : Int).toNat) (b := 2147483629) (by decide)
      have e2 := Int.emod_lt_of_pos ((m * 40127 + z) ^ (3 : Int).toNat) (b := 2147483629) (by decide)
      exact ⟨Int.add_nonneg e1 (by decide), Int.lt_of_lt_of_le (Int.add_lt_add_right e2 1) (by decide)⟩
    · rintro σ H2 ⟨m, c, rfl, rfl, h0, h1⟩
      -- rest = 0; if start < len(script) and script[start] >= 10 ** 18
      refine ⟨_, rfl, _, rfl, a, _, rfl, .inl hS, _, _, rfl, rfl, _, rfl, ?_⟩
      have fin : ∀ r : Int, 0 ≤ r → tRet (tLst (tCons (tVar 4) (tCons (tVar 2) tNil))) { nx := fun _ H' => Q .non H', rt := Q } [some (.ref a), some (.int st), some (.int m), c, some (.int r)] H2 := fun r hr =>
        ⟨_, rfl, _, rfl, (by show 2 ≤ sizeLine; decide), fun p hp => k p r m hp ⟨hr, h0, h1⟩⟩
      by_cases hlt : st < ns.length
      · have e : decide ((st : Int) < ((ns.map V.int).length : Int)) = true := by
          rw [List.length_map]
          exact decide_eq_true (by omega)
        rw [e]
        refine iteT ?_
        have hit : (ns.map V.int)[st]? = some (V.int ns[st]) := by rw [List.getElem?_map, List.getElem?_eq_getElem hlt]; rfl
        refine ⟨_, rfl, _, rfl, a, _, _, _, rfl, rfl, hS, atI_nat hit, _, _, rfl, rfl, ⟨by decide, by decide, by decide⟩, _, _, rfl, rfl, _, rfl, ?_⟩
        refine ite2 (fun hge => ?_) (fun _ => fin 0 (by decide))
        refine ⟨_, rfl, _, rfl, a, _, _, _, rfl, rfl, hS, atI_nat hit, _, _, rfl, rfl, ⟨by decide, by decide, by decide⟩, _, _, rfl, rfl, ?_⟩
        exact fin _ (Int.sub_nonneg_of_le (of_decide_eq_true hge))
      · have e : decide ((st : Int) < ((ns.map V.int).length : Int)) = false := by
          rw [List.length_map]
          exact decide_eq_false (by omega)
        rw [e]
        exact iteF (iteF (fin 0 (by decide)))
theorem fits {a : Int} {n : Nat} (h : 0 ≤ a) (h1 : a < 2 ^ n) : a.natAbs < 2 ^ n := by
  have e : ((2 : Int) ^ n) = ((2 ^ n : Nat) : Int) := by rw [Int.natCast_pow]; rfl
  rw [e] at h1
  omega
theorem sc2 : FnScope ["stream", "size", "found"] ["stream", "size"] (defScope sDraw) := ⟨rfl, rfl, rfl, by decide +kernel, rfl, by decide +kernel, by decide +kernel⟩
theorem ok_draw {f : Addr} {fd : FuncData} (F : Fun K "_law_draw" "_law_draw" sDraw f fd) (B : Bi mg) : FnOk P w K mg base CX0 1 f fd ["stream", "size"] spDraw := by
  refine F.ok sc2 (fun vs H Q E h => ?_) (fun cdv A outer s H vs Q E hr h => ?_)
  · obtain ⟨p, r, m, span, rfl, _⟩ := h
    rfl
  · obtain ⟨p, r, m, span, rfl, hp, ⟨r0, m0, m1⟩, s1, s2, k⟩ := h
    refine ⟨_, pss_cons (ps_if (pt_cmpR op_ge (pe_ix ix_list (pv 0) pe_int (fun _ _ => rfl)) (pv 1) (nomark _))
        (pss_cons (ps_set (i := 2) sc2.nd rfl (Or.inl rfl) (pe_op op_mod (pe_callTy call_int1 (by rfl) B.int (by decide +kernel) (pa_cons (pe_ix ix_list (pv 0) pe_int (fun _ _ => rfl)) pa_nil)) (pv 1)))
        (pss_cons (ps_asg (pe_op op_fdivW (pe_ix ix_list (pv 0) pe_int (fun _ _ => rfl)) (pv 1)) (pg_sub (pv 0) pe_int set_list))
        (pss_one (ps_ret (pv 2))))) pss_nil)
      (pss_cons (ps_asg (pe_op op_mod (pe_callTy call_int1 (by rfl) B.int (by decide +kernel) (pa_cons (pe_op op_add (pe_op op_mul (pe_ix ix_list (pv 0) pe_int (fun _ _ => rfl)) pe_int) pe_int) pa_nil)) pe_int) (pg_sub (pv 0) pe_int set_list))
      (pss_one (ps_ret (pe_op op_mod (pe_op op_fdiv (pe_op op_mod (pe_op op_pow (pe_op op_mod (pe_op op_pow (pe_callTy call_int1 (by rfl) B.int (by decide +kernel) (pa_cons (pe_ix ix_list (pv 0) pe_int (fun _ _ => rfl)) pa_nil)) pe_int) pe_int) pe_int) pe_int) pe_int) (pv 1))))), ?_⟩
    have g0 : atI (Two r m) 0 = some (.int r) := rfl
    refine ⟨_, rfl, p, _, _, _, rfl, rfl, SqL.of hp, g0, _, rfl, _, _, rfl, rfl, _, rfl, ?_⟩
    refine ite2 (fun hge => ?_) (fun hlt => ?_)
    · have hge' : span ≤ r := of_decide_eq_true hge
      have q0 : 0 ≤ r / span := Int.ediv_nonneg r0 (by omega)
      refine ⟨_, rfl, p, _, _, _, rfl, rfl, SqL.of hp, g0, .inl ⟨_, rfl, _, rfl, _, _, rfl, rfl, (by show 0 < span; omega), ?_⟩⟩
      refine ⟨_, rfl, p, _, _, _, rfl, rfl, SqL.of hp, g0, _, rfl, _, _, rfl, rfl, ⟨(by omega), s2⟩, ?_⟩
      refine ⟨_, rfl, p, _, _, _, rfl, rfl, hp, rfl, ?_⟩
      exact ⟨_, rfl, k (r % span) (r / span) m ⟨q0, m0, m1⟩ (Int.emod_nonneg _ (by omega)) (Int.emod_lt_of_pos _ (by omega))⟩
    · have g1 : atI (Two r m) 1 = some (.int m) := rfl
      have e1 := Int.emod_nonneg (m * 48271 + 12345) (b := 2147483647) (by decide)
      have e2 := Int.emod_lt_of_pos (m * 48271 + 12345) (b := 2147483647) (by decide)
      refine ⟨_, rfl, p, _, _, _, rfl, rfl, SqL.of hp, g1, _, _, rfl, rfl, .inl ⟨by omega, by omega⟩, _, _, rfl, rfl, .inl ⟨_, rfl, _, _, rfl, rfl, (by show (0 : Int) < 2147483647; decide), ?_⟩⟩
      refine ⟨_, rfl, p, _, _, _, rfl, rfl, hp, rfl, ?_⟩
      have hp2 : (upd H p (.lst (Two r ((m * 48271 + 12345) % 2147483647)))) p = some (.lst (Two r ((m * 48271 + 12345) % 2147483647))) := upd_same
      have g2 : atI (Two r ((m * 48271 + 12345) % 2147483647)) 1 = some (.int ((m * 48271 + 12345) % 2147483647)) := rfl
      have f1 := Int.emod_nonneg (((m * 48271 + 12345) % 2147483647) ^ (3 : Int).toNat) (b := 2147483629) (by decide)
      have f2 := Int.emod_lt_of_pos (((m * 48271 + 12345) % 2147483647) ^ (3 : Int).toNat) (b := 2147483629) (by decide)
      refine ⟨_, rfl, p, _, _, _, rfl, rfl, SqL.of hp2, g2, .inl ⟨_, rfl, _, _, rfl, rfl, ⟨by decide, by decide, by omega⟩, _, _, rfl, rfl, (by show (0 : Int) < 2147483629; decide), ?_⟩⟩
      generalize (((m * 48271 + 12345) % 2147483647) ^ (3 : Int).toNat) % 2147483629 = u at f1 f2 ⊢
      refine ⟨_, _, rfl, rfl, ⟨by decide, by decide, by omega⟩, _, _, rfl, rfl, (by show (0 : Int) < 1000000007; decide), _, _, rfl, rfl, ⟨by decide, by decide⟩, _, rfl, _, _, rfl, rfl, (by show 0 < span; omega), ?_⟩
      exact k _ r _ ⟨r0, e1, by omega⟩ (Int.emod_nonneg _ (by omega)) (Int.emod_lt_of_pos _ (by omega))
end
end S

end
section
set_option autoImplicit false
set_option Elab.async false
set_option linter.all false
set_option maxRecDepth 100000
set_option maxHeartbeats 4000000
/-! ## the program's chains -/
namespace CP
open PySem L2 G Y
abbrev sInteger : Stmt := S.top 1
abbrev sWithin : Stmt := S.top 2
abbrev sCInit : Stmt := inClass (S.top 11) 0
abbrev sCHas : Stmt := inClass (S.top 11) 1
abbrev sCGet : Stmt := inClass (S.top 11) 2
abbrev sCPieces : Stmt := inClass (S.top 11) 6
abbrev sCDigits : Stmt := inClass (S.top 11) 7
abbrev sCStretch : Stmt := inClass (S.top 11) 8
abbrev sCBoundary : Stmt := inClass (S.top 11) 10
abbrev sAreCuts : Stmt := S.top 12
abbrev sCounts : Stmt := S.top 13
abbrev sPieces : Stmt := S.top 14
/-- cuts: falling, at most 1000 -/
structure Cuts (l : List Nat) : Prop where
  fall : N.Fall l
  le : ∀ c ∈ l, c ≤ 1000
  len : l.length ≤ 1000
theorem Cuts.at {l : List Nat} (h : Cuts l) {i c : Nat} (e : l[i]? = some c) : 0 < c ∧ c ≤ 1000 := ⟨h.fall.pos c (List.mem_of_getElem? e), h.le c (List.mem_of_getElem? e)⟩
theorem Cuts.drop {l : List Nat} (h : Cuts l) (i : Nat) : Cuts (l.drop i) := ⟨h.fall.drop i, fun c hc => h.le c (List.mem_of_mem_drop hc), by rw [List.length_drop]; have := h.len; omega⟩
section
variable {P : Program} {w : World} {K : PySem.W.Frag} {mg : Str → Option Value} {base : Heap} {C : Addr}
def spInteger : Sp := fun vs H Q _ => ∃ v : Int, vs = [.int v] ∧ Q (.bl true) H
theorem scIn : FnScope ["value"] ["value"] (defScope sInteger) := ⟨rfl, rfl, rfl, by decide +kernel, rfl, by decide +kernel, by decide +kernel⟩
theorem ok_integer {f : Addr} {fd : FuncData} (F : Fun K "is_integer" "is_integer" sInteger f fd) (B : Bn mg) : FnOk P w K mg base CX0 1 f fd ["value"] spInteger := by
  refine F.ok scIn (fun vs H Q E h => ?_) (fun cdv A outer s H vs Q E hr h => ?_)
  · obtain ⟨v, rfl, _⟩ := h
    rfl
  · obtain ⟨v, rfl, k⟩ := h
    refine ⟨_, pss_one (ps_ret (pe_and (pe_callB call_isi (by rfl) B.isi (by decide +kernel) (pa_cons (pv 0) (pa_cons (pe_bltn (v := .ty "int") (by rfl) B.int (by decide +kernel) rfl) pa_nil)))
      (pe_one (pe_not (pe_callB call_isi (by rfl) B.isi (by decide +kernel) (pa_cons (pv 0) (pa_cons (pe_bltn (v := .ty "bool") (by rfl) B.bool (by decide +kernel) rfl) pa_nil))))))), ?_⟩
    exact ⟨_, rfl, _, _, _, _, _, rfl, .ty _, .base (.int _), kit_ty (r := true) (by decide +kernel), _, rfl, iteT ⟨_, rfl, _, _, _, _, _, rfl, .ty _, .base (.int _), kit_ty (r := false) (by decide +kernel), _, rfl, k⟩⟩
def spWithin : Sp := fun vs H Q _ => ∃ v a b : Int, vs = [.int v, .int a, .int b] ∧ Q (.bl (decide (a ≤ v ∧ v ≤ b))) H
theorem sc3 : FnScope ["value", "least", "greatest"] ["value", "least", "greatest"] (defScope sWithin) := ⟨rfl, rfl, rfl, by decide +kernel, rfl, by decide +kernel, by decide +kernel⟩
theorem ok_within {f : Addr} {fd : FuncData} (F : Fun K "is_within" "is_within" sWithin f fd) (DI : Df P w K mg base 1 "is_integer" ["value"] spInteger) : FnOk P w K mg base CX0 2 f fd ["value", "least", "greatest"] spWithin := by
  obtain ⟨fI, fdI, GI, gI, kI, bI⟩ := DI.ex
  refine F.ok sc3 (fun vs H Q E h => ?_) (fun cdv A outer s H vs Q E hr h => ?_)
  · obtain ⟨v, a, b, rfl, _⟩ := h
    rfl
  · obtain ⟨v, a, b, rfl, k⟩ := h
    refine ⟨_, pss_one (ps_ret (pe_and (pe_call GI hr rfl gI kI bI .nil pass0 (pa_cons (pv 0) pa_nil)) (pe_one (pe_chain op_le op_le (pv 1) (pv 0) (pv 2))))), ?_⟩
    refine ⟨_, rfl, v, rfl, _, rfl, iteT ⟨_, rfl, _, rfl, _, _, rfl, rfl, _, rfl, ?_⟩⟩
    refine ite2 (fun h1 => ⟨_, rfl, _, _, rfl, rfl, ?_⟩) (fun h1 => ?_)
    · have e1 : a ≤ v := of_decide_eq_true h1
      rw [show decide (a ≤ v ∧ v ≤ b) = decide (v ≤ b) by
        by_cases z : v ≤ b
        · rw [decide_eq_true z, decide_eq_true ⟨e1, z⟩]
        · rw [decide_eq_false z, decide_eq_false fun q => z q.2]] at k
      exact k
    · rw [show decide (a ≤ v ∧ v ≤ b) = false from decide_eq_false fun q => h1 (decide_eq_true q.1)] at k
      exact k
/-- _pieces -/
def spPieces (K : PySem.W.Frag) : Sp := fun vs H Q _ => ∃ (b : Nat) (l : List Nat) (t u : Addr), vs = [.int (b : Int), .ref t, .ref u] ∧ SqT K H t (ni l) ∧ SqT K H u (ni (N.cn l)) ∧ Cuts l ∧ ∀ H', Same H H' → Q (.int ((N.PC l b : Nat) : Int)) H'
abbrev NPc : List Str := ["body", "cuts", "counts", "pieces", "rest", "cut", "count"]
theorem scPc : FnScope NPc ["body", "cuts", "counts"] (defScope sPieces) := ⟨rfl, rfl, rfl, by decide +kernel, rfl, by decide +kernel, by decide +kernel⟩
theorem sqT_same {H H' : Hp} {a : Addr} {xs : List V} (s : Same H H') (h : SqT K H a xs) : SqT K H' a xs := h.elim (fun h => .inl (h.elim (fun h => .inl (s _ _ h)) fun ⟨o, h⟩ => .inr ⟨o, s _ _ h⟩)) .inr
theorem ok_pieces {f : Addr} {fd : FuncData} (F : Fun K "_pieces" "_pieces" sPieces f fd) (B : Bn mg) : FnOk P w K mg base CX0 1 f fd ["body", "cuts", "counts"] (spPieces K) := by
  refine F.ok scPc (fun vs H Q E h => ?_) (fun cdv A outer s H vs Q E hr h => ?_)
  · obtain ⟨b, l, t, u, rfl, _⟩ := h
    rfl
  · obtain ⟨b, l, t, u, rfl, hT, hU, hl, k⟩ := h
    refine ⟨_, pss_cons (ps_set (i := 3) scPc.nd rfl (Or.inl rfl) pe_int)
      (pss_cons (ps_set (i := 4) scPc.nd rfl (Or.inl rfl) (pv 0))
      (pss_cons (ps_for PassesOwn.never rfl (RZ.pi_zipA (by rfl) B.zip (pa_cons (pv 1) (pa_cons (pv 2) pa_nil))) (pg_tup (by rfl) (pgs_cons (pg_name (i := 5) scPc.nd rfl (.inl rfl)) (pgs_cons (pg_name (i := 6) scPc.nd rfl (.inl rfl)) pgs_nil)))
        (pss_cons (ps_set (i := 3) scPc.nd rfl (Or.inl rfl) (pe_op op_add (pv 3) (pe_op op_mul (pe_op op_fdiv (pv 4) (pv 5)) (pv 6))))
        (pss_one (ps_set (i := 4) scPc.nd rfl (Or.inl rfl) (pe_op op_mod (pv 4) (pv 5))))))
      (pss_cons (ps_if (PW.pt (pw_or (pt_cmpR op_gt (pv 4) pe_int (nomark _)) (pw_or1 (pt_cmpR op_eq (pv 0) pe_int (nomark _))))) (pss_one (ps_set (i := 3) scPc.nd rfl (Or.inl rfl) (pe_op op_add (pv 3) pe_int))) pss_nil)
      (pss_one (ps_ret (pv 3)))))), ?_⟩
    refine ⟨_, rfl, _, rfl, _, rfl, t, u, _, _, rfl, .inr ⟨hT, hU, ?_⟩⟩
    refine RZ.for_zipT (by rw [ni_len, ni_len, N.cn_len]) (fun i σ G => Same H G ∧ ∃ (p r : Nat) (q1 q2 : Option V), σ = [some (.int (b : Int)), some (.ref t), some (.ref u), some (.int (p : Int)), some (.int (r : Int)), q1, q2] ∧ p + N.sm (l.drop i) r = N.sm l b ∧ N.rem (l.drop i) r = N.rem l b)
      ⟨Same.refl H, 0, b, _, _, rfl, by rw [List.drop_zero, Nat.zero_add], by rw [List.drop_zero]⟩ (fun i σ G z => ⟨sqT_same z.1 hT, sqT_same z.1 hU⟩) ?_ ?_
    · rintro i x y T σ G hx hy ⟨s1, p, r, q1, q2, rfl, e1, e2⟩ hT0
      obtain ⟨c, hc, rfl⟩ := ni_get hx
      obtain ⟨n, hn, rfl⟩ := ni_get hy
      obtain ⟨c2, hc2, en⟩ := N.cn_at hn
      rw [hc] at hc2
      cases hc2
      have pc := hl.at hc
      have nle := N.L_le (hl.drop (i + 1)).fall pc.1
      rw [← en] at nle
      refine ⟨T, _, rfl, SqT.of upd_same, rfl, _, _, rfl, _, _, rfl, rfl, ?_⟩
      refine ⟨_, rfl, _, rfl, _, rfl, _, _, rfl, rfl, ⟨by omega, by omega⟩, _, rfl, _, _, rfl, rfl, .inr ⟨by omega, by omega⟩, _, _, rfl, rfl, ?_⟩
      refine ⟨_, rfl, _, rfl, _, _, rfl, rfl, by show (0 : Int) < (c : Int); omega, ?_⟩
      refine ⟨s1.trans (of_upd hT0), p + r / c * n, r % c, _, _, rfl, ?_, ?_⟩
      · rw [drop_at hc] at e1
        rw [N.sm_cons, ← en] at e1
        omega
      · rw [drop_at hc, N.rem_cons] at e2
        exact e2
    · rintro σ G ⟨s1, p, r, q1, q2, rfl, e1, e2⟩
      rw [ni_len, List.drop_length] at e1 e2
      rw [N.sm_nil] at e1
      rw [N.rem_nil] at e2
      have fin : ∀ z : Nat, z = N.PC l b → Q (.int (z : Int)) G := fun z e => by rw [e]; exact k G s1
      refine ⟨_, rfl, _, _, rfl, rfl, _, rfl, ite2 (fun c => ?_) (fun c => ⟨_, rfl, rfl, _, rfl, ite2 (fun d => ?_) (fun d => ?_)⟩)⟩
      · refine ⟨_, rfl, _, _, rfl, rfl, _, rfl, fin (p + 1) ?_⟩
        have c2 : (0 : Int) < (r : Int) := of_decide_eq_true c
        rw [N.PC_sm, if_pos (.inl (by omega))]
        omega
      · refine ⟨_, rfl, _, _, rfl, rfl, _, rfl, fin (p + 1) ?_⟩
        have d2 : V.int (b : Int) = V.int 0 := of_decide_eq_true d
        injection d2 with d2
        rw [N.PC_sm, if_pos (.inr (by omega))]
        omega
      · refine ⟨_, rfl, fin p ?_⟩
        have c2 : ¬ (0 : Int) < (r : Int) := fun z => c (decide_eq_true z)
        have d2 : b ≠ 0 := fun z => d (decide_eq_true (by rw [z]; rfl))
        rw [N.PC_sm, if_neg (by omega)]
        omega
end
end CP

end
section
set_option autoImplicit false
set_option Elab.async false
set_option linter.all false
set_option maxRecDepth 100000
set_option maxHeartbeats 4000000
namespace CP
open PySem L2 G Y
section
variable {P : Program} {w : World} {K : PySem.W.Frag} {mg : Str → Option Value} {base : Heap} {C : Addr}
/-- _piece_counts -/
def spCounts (K : PySem.W.Frag) : Sp := fun vs H Q _ => ∃ (l : List Nat) (t : Addr), vs = [.ref t] ∧ SqT K H t (ni l) ∧ Cuts l ∧ ∀ u H', Same H H' → H' u = some (.tup (ni (N.cn l))) → Q (.ref u) H'
theorem scCn : FnScope ["cuts", "counts", "at"] ["cuts"] (defScope sCounts) := ⟨rfl, rfl, rfl, by decide +kernel, rfl, by decide +kernel, by decide +kernel⟩
theorem ok_counts {f : Addr} {fd : FuncData} (F : Fun K "_piece_counts" "_piece_counts" sCounts f fd) (B : Bn mg) (DP : Df P w K mg base 1 "_pieces" ["body", "cuts", "counts"] (spPieces K)) : FnOk P w K mg base CX0 2 f fd ["cuts"] (spCounts K) := by
  obtain ⟨fP, fdP, GP, gP, kP, bP⟩ := DP.ex
  refine F.ok scCn (fun vs H Q E h => ?_) (fun cdv A outer s H vs Q E hr h => ?_)
  · obtain ⟨l, t, rfl, _⟩ := h
    rfl
  · obtain ⟨l, t, rfl, hT, hl, k⟩ := h
    refine ⟨_, pss_cons (ps_set (i := 1) scCn.nd rfl (Or.inl rfl) (pe_tup pa_nil))
      (pss_cons (ps_for PassesOwn.never rfl (pi_range3 (by rfl) B.range (pa_cons (pe_op op_sub (pe_callB call_len_seq (by rfl) B.len PySem.boot_len (pa_cons (pv 0) pa_nil)) pe_int) (pa_cons (pe_un un_neg pe_int) (pa_cons (pe_un un_neg pe_int) pa_nil)))) (pg_name (i := 2) scCn.nd rfl (Or.inl rfl))
        (pss_one (ps_set (i := 1) scCn.nd rfl (Or.inl rfl) (pe_tup (pa_cons (pe_call GP hr rfl gP kP bP .nil pass0 (pa_cons (pe_ix ix_tup (pv 0) (pv 2) (fun _ _ => rfl)) (pa_cons (pe_slice sl_tup (pv 0) (po_some (pe_op op_add (pv 2) pe_int)) po_none) (pa_cons (pv 1) pa_nil)))) (StX.pa_star (pv 1) pa_nil))))))
      (pss_one (ps_ret (pv 1)))), ?_⟩
    have ln := hl.len
    refine ⟨line2.2.2.2, fun u0 h0 => ?_⟩
    have s0 : Same H (upd H u0 (.tup [])) := of_upd h0
    refine ⟨_, rfl, t, _, rfl, .inr (sqT_same s0 hT), _, _, rfl, rfl, 1, rfl, 1, rfl, _, _, _, _, rfl, RgC.neg (by rw [ni_len]; omega) (by rw [ni_len]; omega) (by decide) (by decide), ?_⟩
    rw [ni_len]
    refine for_rangeC (n := ((l.length : Int) - 1 - -1).toNat) (fun i σ G => Same H G ∧ ∃ u q, σ = [some (.ref t), some (.ref u), q] ∧ G u = some (.tup (ni (N.cn (l.drop (l.length - i))))))
      ⟨s0, u0, _, rfl, by rw [Nat.sub_zero, List.drop_length]; exact upd_same⟩ ?_ ?_
    · rintro i σ G hi ⟨s1, u, q, rfl, hu⟩
      have hi2 : i < l.length := by omega
      obtain ⟨c, hc⟩ : ∃ c, l[l.length - 1 - i]? = some c := ⟨_, List.getElem?_eq_getElem (by omega)⟩
      have pc := hl.at hc
      have ei : (l.length : Int) - 1 + (i : Int) * -1 = ((l.length - 1 - i : Nat) : Int) := by omega
      have e2 : l.length - 1 - i + 1 = l.length - i := by omega
      have e3 : l.length - (i + 1) = l.length - 1 - i := by omega
      dsimp only
      rw [ei]
      refine ⟨_, rfl, _, rfl, t, _, _, _, rfl, rfl, sqT_same s1 hT, atI_nat (ni_at hc), _, rfl, _, rfl, _, _, rfl, rfl, _, rfl, t, _, rfl, sqT_same s1 hT, ?_, fun a ha => ?_⟩
      · intro z
        have e4 : ((l.length - 1 - i : Nat) : Int) + 1 = ((l.length - i : Nat) : Int) := by omega
        rw [e4] at z
        exact six_pos (by omega) (by rw [ni_len]; omega) 0 z.1
      have e4 : cutV (ni l) (some (((l.length - 1 - i : Nat) : Int) + 1)) none = ni (l.drop (l.length - i)) := by
        rw [show ((l.length - 1 - i : Nat) : Int) + 1 = ((l.length - i : Nat) : Int) by omega, cut_from, ni_drop]
      rw [e4]
      have s2 : Same G (upd G a (.tup (ni (l.drop (l.length - i))))) := of_upd ha
      refine ⟨_, rfl, c, l.drop (l.length - i), a, u, rfl, SqT.of upd_same, SqT.of (s2 _ _ hu), hl.drop _, fun G2 s3 => ?_⟩
      have hu2 := s3 _ _ (s2 _ _ hu)
      refine ⟨_, rfl, u, _, rfl, .inl (SqT.of hu2), ?_, fun v hv => ?_⟩
      · rw [List.append_nil]
        show (ni (N.cn (l.drop (l.length - i)))).length + 1 ≤ sizeLine
        rw [ni_len, N.cn_len, List.length_drop]
        exact Nat.le_trans (show l.length - (l.length - i) + 1 ≤ 1001 by omega) (by decide)
      · refine ⟨(s1.trans s2).trans (s3.trans (of_upd hv)), v, _, rfl, ?_⟩
        rw [upd_same, e3, drop_at hc, e2, List.append_nil]
        have e5 : N.PC (l.drop (l.length - i)) c = N.L (l.drop (l.length - i)) c := if_neg (by omega)
        rw [e5]
        rfl
    · rintro σ G ⟨s1, u, q, rfl, hu⟩
      rw [show l.length - ((l.length : Int) - 1 - -1).toNat = 0 by omega, List.drop_zero] at hu
      exact ⟨_, rfl, k u G s1 hu⟩
/-- _are_cuts of cuts -/
def spAre : Sp := fun vs H Q _ => ∃ (l : List Nat) (t : Addr), vs = [.ref t] ∧ SAt H t (ni l) ∧ Cuts l ∧ ∀ H', Same H H' → Q (.bl true) H'
theorem scAre : FnScope ["value", "before", "cut"] ["value"] (defScope sAreCuts) := ⟨rfl, rfl, rfl, by decide +kernel, rfl, by decide +kernel, by decide +kernel⟩
theorem ok_are {f : Addr} {fd : FuncData} (F : Fun K "_are_cuts" "_are_cuts" sAreCuts f fd) (B : Bn mg) (gC : ∃ t, mg "GREATEST_CUT" = some (.int 1000 t)) (DW : Df P w K mg base 2 "is_within" ["value", "least", "greatest"] spWithin) : FnOk P w K mg base CX0 3 f fd ["value"] spAre := by
  obtain ⟨fW, fdW, GW, gW, kW, bW⟩ := DW.ex
  obtain ⟨tkC, gC⟩ := gC
  refine F.ok scAre (fun vs H Q E h => ?_) (fun cdv A outer s H vs Q E hr h => ?_)
  · obtain ⟨l, t, rfl, _⟩ := h
    rfl
  · obtain ⟨l, t, rfl, hT, hl, k⟩ := h
    refine ⟨_, pss_cons (ps_if (pt_not (pt_val (pe_callB call_isiT (by rfl) B.isi (by decide +kernel) (pa_cons (pv 0) (pa_cons (pe_tup (pa_cons (pe_bltn (v := .ty "list") (by rfl) B.list (by decide +kernel) rfl) (pa_cons (pe_bltn (v := .ty "tuple") (by rfl) B.tuple (by decide +kernel) rfl) pa_nil))) pa_nil))))) ps_dead pss_nil)
      (pss_cons (ps_set (i := 1) scAre.nd rfl (Or.inl rfl) (pe_op op_add (pe_glob (v := .int 1000) rfl gC ⟨_, rfl⟩) pe_int))
      (pss_cons (ps_for PassesOwn.never rfl (pi_or (pi_list (pv 0)) (pi_tup (pv 0))) (pg_name (i := 2) scAre.nd rfl (Or.inl rfl))
        (pss_cons (ps_if (pt_not (pt_val (pe_call GW hr rfl gW kW bW .nil pass0 (pa_cons (pv 2) (pa_cons pe_int (pa_cons (pe_op op_sub (pv 1) pe_int) pa_nil)))))) ps_dead pss_nil)
        (pss_one (ps_set (i := 1) scAre.nd rfl (Or.inl rfl) (pv 2)))))
      (pss_one (ps_ret pe_bl)))), ?_⟩
    refine ⟨_, rfl, line2.1, fun p hp => ?_⟩
    have sp : Same H (upd H p (.tup [.ty "list", .ty "tuple"])) := of_upd hp
    have hT2 := hT.mono sp
    have rest : (tSeq (tAsg (tOp (rI0 fun i j => .int (i + j)) (tC (.int 1000)) (tC (.int 1))) (gName 1)) (tSeq (tFor (fun σ H R => iList K (tVar 0) σ H R ∨ iTup K (tVar 0) σ H R) (gName 2) (tSeq (tIfS (tNot (tB (tCall spWithin [] E0 (tCons (tVar 2) (tCons (tC (.int 1)) (tCons (tOp (rI0 fun i j => .int (i - j)) (tVar 1) (tC (.int 1))) tNil)))))) tDead tNext) (tAsg (tVar 2) (gName 1)))) (tRet (tC (.bl true)))))
        { nx := fun _ H' => Q .non H', rt := Q } [some (.ref t), none, none] (upd H p (.tup [.ty "list", .ty "tuple"])) := by
      refine ⟨_, _, rfl, rfl, ?_⟩
      refine or_seq (fun Q2 h => ⟨_, rfl, h⟩) hT2 fun J Gd hG wk => ?_
      refine for_it wk (fun i σ G => Same H G ∧ Same (upd H p (.tup [.ty "list", .ty "tuple"])) G ∧ ∃ (b : Int) (q : Option V), σ = [some (.ref t), some (.int b), q] ∧ ∀ c ∈ l.drop i, (c : Int) < b)
        ⟨sp, Same.refl _, 1001, _, rfl, fun c hc => by have := hl.le c (List.mem_of_mem_drop hc); omega⟩ (fun i σ G _ z => hG G z.2.1) ?_ ?_
      · rintro i x σ G G' hi ⟨s1, s2, b, q, rfl, hb⟩ ⟨rfl, hx⟩
        obtain ⟨c, hc, rfl⟩ := ni_get hx
        have pc := hl.at hc
        have lt := hb c (by rw [drop_at hc]; exact List.mem_cons_self)
        have fl := (hl.drop i).fall
        rw [drop_at hc] at fl
        dsimp only
        refine ⟨_, rfl, _, rfl, _, _, rfl, rfl, (c : Int), 1, b - 1, rfl, ?_⟩
        rw [decide_eq_true (by omega)]
        exact ⟨_, rfl, iteF ⟨_, rfl, s1, s2, (c : Int), _, rfl, fun d hd => by have := fl.2.1 d hd; omega⟩⟩
      · rintro σ G ⟨s1, s2, b, q, rfl, hb⟩
        exact k G s1
    have kl : PySem.W.kitAny K (.type "list") [.type "list", .type "tuple"] = some true := by
      unfold PySem.W.kitAny
      rw [kit_ty (r := true) (by decide +kernel)]
    have kt : PySem.W.kitAny K (.type "tuple") [.type "list", .type "tuple"] = some true := by
      unfold PySem.W.kitAny
      rw [kit_ty (r := false) (by decide +kernel)]
      unfold PySem.W.kitAny
      rw [kit_ty (r := true) (by decide +kernel)]
    rcases hT2 with e | e
    · exact ⟨_, p, _, _, _, _, rfl, upd_same, .cons (.ty _) (.cons (.ty _) .nil), .base (.lst e), kl, _, rfl, iteF rest⟩
    · exact ⟨_, p, _, _, _, _, rfl, upd_same, .cons (.ty _) (.cons (.ty _) .nil), .base (.tup e), kt, _, rfl, iteF rest⟩
end
end CP

end
section
set_option autoImplicit false
set_option Elab.async false
set_option linter.all false
set_option maxRecDepth 100000
set_option maxHeartbeats 4000000
namespace CP
open PySem L2 G Y
theorem nk : ¬ (("cuts" : Str) = "_counts") := by decide +kernel
def cfl (t u : Addr) : List (Str × V) := putF "_counts" (.ref u) (putF "cuts" (.ref t) [])
theorem cfl_cuts (t u : Addr) : (cfl t u).lookup ("cuts" : Str) = some (.ref t) := by
  unfold cfl
  rw [lookup_putF, if_neg nk, lookup_putF, if_pos rfl]
theorem cfl_counts (t u : Addr) : (cfl t u).lookup ("_counts" : Str) = some (.ref u) := by
  unfold cfl
  rw [lookup_putF, if_pos rfl]
/-- a chain stands at a -/
def ChAt (C : Addr) (H : Hp) (l : List Nat) (a : Addr) : Prop := ∃ dx t u, H a = some (.ins C dx (cfl t u)) ∧ H t = some (.tup (ni l)) ∧ H u = some (.tup (ni (N.cn l)))
theorem ChAt.mono {C : Addr} {H H' : Hp} (s : Same H H') {l : List Nat} {a : Addr} (h : ChAt C H l a) : ChAt C H' l a := by
  obtain ⟨dx, t, u, h1, h2, h3⟩ := h
  exact ⟨dx, t, u, s _ _ h1, s _ _ h2, s _ _ h3⟩
structure Ct (K : PySem.W.Frag) (mg : Str → Option Value) (C : Addr) : Prop where
  g : mg "Chain" = some (.ref C)
  cl : Cls K C
  nC : NoAttr K C "cuts"
  nK : NoAttr K C "_counts"
section
variable {P : Program} {w : World} {K : PySem.W.Frag} {mg : Str → Option Value} {base : Heap} {C : Addr}
def spCInit (C : Addr) : Sp := fun vs H Q _ => ∃ (x l dx : Addr) (cs : List Nat) (H0 : Hp), vs = [.ref x, .ref l] ∧ H x = some (.ins C dx []) ∧ H0 x = none ∧ Same H0 H ∧ SAt H0 l (ni cs) ∧ Cuts cs ∧ ∀ H', Same H0 H' → ChAt C H' cs x → Q .non H'
theorem scCI : FnScope ["self", "cuts"] ["self", "cuts"] (defScope sCInit) := ⟨rfl, rfl, rfl, by decide +kernel, rfl, by decide +kernel, by decide +kernel⟩
theorem ok_cinit {f : Addr} {fd : FuncData} (F : Fun K "__init__" "Chain.__init__" sCInit f fd) (B : Bn mg) (T : Ct K mg C) (DA : Df P w K mg base 3 "_are_cuts" ["value"] spAre) (DC : Df P w K mg base 2 "_piece_counts" ["cuts"] (spCounts K)) : FnOk P w K mg base CX0 4 f fd ["self", "cuts"] (spCInit C) := by
  obtain ⟨fA, fdA, GA, gA, kA, bA⟩ := DA.ex
  obtain ⟨fC, fdC, GC, gC, kC, bC⟩ := DC.ex
  refine F.ok scCI (fun vs H Q E h => ?_) (fun cdv A outer s H vs Q E hr h => ?_)
  · obtain ⟨x, l, dx, cs, H0, rfl, _⟩ := h
    rfl
  · obtain ⟨x, l, dx, cs, H0, rfl, hx, hx0, s0, hl, hc, k⟩ := h
    refine ⟨_, pss_cons (ps_if (pt_not (pt_val (pe_call GA hr rfl gA kA bA .nil pass0 (pa_cons (pv 1) pa_nil)))) ps_dead pss_nil)
      (pss_cons (ps_fld (pv 0) (pe_callTy call_tuple_of (by rfl) B.tuple (by decide +kernel) (pa_cons (pv 1) pa_nil)) rfl)
      (pss_one (ps_fld (pv 0) (pe_call GC (hr.mono (by decide)) rfl gC kC bC .nil pass0 (pa_cons (pe_fld (pv 0) rfl) pa_nil)) rfl))), ?_⟩
    refine ⟨_, rfl, cs, l, rfl, hl.mono s0, hc, fun G1 s1 => ⟨_, rfl, iteF ?_⟩⟩
    have s01 := s0.trans s1
    have hx1 := s1 _ _ hx
    have fin : ∀ (t : Addr) (G2 : Hp), Same G1 G2 → G2 t = some (.tup (ni cs)) → sFld K (tVar 0) (tC (.ref t)) "cuts" { nx := fun σ H => sFld K (tVar 0) (tCall (spCounts K) [] E0 (tCons (tFld K (tVar 0) "cuts") tNil)) "_counts" { nx := fun _ H' => Q .non H', rt := Q } σ H, rt := Q } [some (.ref x), some (.ref l)] G2 := fun t G2 s2 ht => by
      have hx2 := s2 _ _ hx1
      have s02 := s01.trans s2
      have tx : t ≠ x := fun z => by
        rw [z, hx2] at ht
        cases ht
      refine ⟨_, rfl, x, C, dx, _, rfl, hx2, T.cl, T.nC, by decide, ?_⟩
      have s3 : Same H0 (upd G2 x (.ins C dx (putF "cuts" (.ref t) []))) := add_upd hx0 s02
      have ht3 : (upd G2 x (.ins C dx (putF "cuts" (.ref t) []))) t = some (.tup (ni cs)) := by rw [upd_ne tx]; exact ht
      refine ⟨_, rfl, x, C, dx, _, _, rfl, upd_same, T.cl, T.nC, by rw [lookup_putF, if_pos rfl], cs, t, rfl, SqT.of ht3, hc, fun u G3 s4 hu => ?_⟩
      refine ⟨_, rfl, x, C, dx, _, rfl, s4 _ _ upd_same, T.cl, T.nK, len_put (by decide), ?_⟩
      have ux : u ≠ x := fun z => by
        rw [z, s4 _ _ upd_same] at hu
        cases hu
      refine k _ (add_upd hx0 (s3.trans s4)) ⟨dx, t, u, upd_same, ?_, ?_⟩
      · rw [upd_ne tx]
        exact s4 _ _ ht3
      · rw [upd_ne ux]
        exact hu
    rcases (hl.mono s0).mono s1 with e | e
    · exact ⟨_, rfl, l, _, rfl, .inl ⟨SqL.of e, fun t nt => fin t _ (of_upd nt) upd_same⟩⟩
    · exact ⟨_, rfl, l, _, rfl, .inr ⟨SqT.of e, fin l _ (Same.refl _) e⟩⟩
/-- Chain(cuts) -/
theorem made_ch {H : Hp} {Z : VK} {E : XK} {l x dx : Addr} {cs : List Nat} (hx : H x = none) (hdx : H dx = none) (ne : dx ≠ x) (hl : SAt H l (ni cs)) (hc : Cuts cs) (k : ∀ H', Same H H' → ChAt C H' cs x → Z .non H') :
    spCInit C (.ref x :: ([.ref l] ++ [])) (upd (upd H dx (.own x)) x (.ins C dx [])) Z E :=
  ⟨x, l, dx, cs, H, rfl, upd_same, hx, (of_upd hdx).trans (of_upd (by rw [upd_ne ne.symm]; exact hx)), hl, hc, k⟩
/-- pieces -/
def spCPieces (C : Addr) : Sp := fun vs H Q _ => ∃ (a : Addr) (b : Nat) (cs : List Nat), vs = [.ref a, .int (b : Int)] ∧ ChAt C H cs a ∧ Cuts cs ∧ ∀ H', Same H H' → Q (.int ((N.PC cs b : Nat) : Int)) H'
theorem scCP : FnScope ["self", "body"] ["self", "body"] (defScope sCPieces) := ⟨rfl, rfl, rfl, by decide +kernel, rfl, by decide +kernel, by decide +kernel⟩
theorem ok_cpieces {f : Addr} {fd : FuncData} (F : Fun K "pieces" "Chain.pieces" sCPieces f fd) (T : Ct K mg C) (DP : Df P w K mg base 1 "_pieces" ["body", "cuts", "counts"] (spPieces K)) : FnOk P w K mg base CX0 2 f fd ["self", "body"] (spCPieces C) := by
  obtain ⟨fP, fdP, GP, gP, kP, bP⟩ := DP.ex
  refine F.ok scCP (fun vs H Q E h => ?_) (fun cdv A outer s H vs Q E hr h => ?_)
  · obtain ⟨a, b, cs, rfl, _⟩ := h
    rfl
  · obtain ⟨a, b, cs, rfl, ⟨dx, t, u, h1, h2, h3⟩, hc, k⟩ := h
    exact ⟨_, pss_one (ps_ret (pe_call GP hr rfl gP kP bP .nil pass0 (pa_cons (pv 1) (pa_cons (pe_fld (pv 0) rfl) (pa_cons (pe_fld (pv 0) rfl) pa_nil))))), _, rfl, _, rfl, a, C, dx, _, _, rfl, h1, T.cl, T.nC, cfl_cuts t u, _, rfl, a, C, dx, _, _, rfl, h1, T.cl, T.nK, cfl_counts t u, b, cs, t, u, rfl, SqT.of h2, SqT.of h3, hc, k⟩
/-- digits -/
def spCDigits (C : Addr) : Sp := fun vs H Q _ => ∃ (a : Addr) (p : Nat) (cs : List Nat), vs = [.ref a, .int (p : Int)] ∧ ChAt C H cs a ∧ Cuts cs ∧ ∀ t H', Same H H' → H' t = some (.tup (ni (N.dig cs p))) → Q (.ref t) H'
theorem scCD : FnScope ["self", "place", "told", "rest", "cut"] ["self", "place"] (defScope sCDigits) := ⟨rfl, rfl, rfl, by decide +kernel, rfl, by decide +kernel, by decide +kernel⟩
theorem ok_cdigits {f : Addr} {fd : FuncData} (F : Fun K "digits" "Chain.digits" sCDigits f fd) (T : Ct K mg C) : FnOk P w K mg base CX0 1 f fd ["self", "place"] (spCDigits C) := by
  refine F.ok scCD (fun vs H Q E h => ?_) (fun cdv A outer s H vs Q E hr h => ?_)
  · obtain ⟨a, p, cs, rfl, _⟩ := h
    rfl
  · obtain ⟨a, p, cs, rfl, ⟨dx, t, u, h1, h2, h3⟩, hc, k⟩ := h
    refine ⟨_, pss_cons (ps_set (i := 2) scCD.nd rfl (Or.inl rfl) (pe_lst pa_nil))
      (pss_cons (ps_set (i := 3) scCD.nd rfl (Or.inl rfl) (pv 1))
      (pss_cons (ps_for PassesOwn.never rfl (pi_tup (pe_fld (pv 0) rfl)) (pg_name (i := 4) scCD.nd rfl (Or.inl rfl))
        (pss_cons (ps_expr (pe_bm PySem.F.plainAttrs_list PySem.F.slot_list_append PySem.F.type_list_append mt_append (pv 2) (pa_cons (pe_op op_fdiv (pv 3) (pv 4)) pa_nil)))
        (pss_one (ps_set (i := 3) scCD.nd rfl (Or.inl rfl) (pe_op op_mod (pv 3) (pv 4))))))
      (pss_one (ps_ret (pe_tup (StX.pa_star (pv 2) (pa_cons (pv 3) pa_nil))))))), ?_⟩
    have ln := hc.len
    refine ⟨line2.2.2.2, fun D hD => ?_⟩
    have s0 : Same H (upd H D (.lst [])) := of_upd hD
    refine ⟨_, rfl, _, rfl, a, C, dx, _, _, rfl, s0 _ _ h1, T.cl, T.nC, cfl_cuts t u, ?_⟩
    refine ⟨t, rfl, ⟨_, SqT.of (s0 _ _ h2)⟩, for_it walk_tup (fun i σ G => Same H G ∧ ∃ (ds : List Nat) (r : Nat) (q : Option V), σ = [some (.ref a), some (.int (p : Int)), some (.ref D), some (.int (r : Int)), q] ∧ G D = some (.lst (ni ds)) ∧ ds.length = i ∧ ds ++ N.dig (cs.drop i) r = N.dig cs p)
      ⟨s0, [], p, _, rfl, upd_same, rfl, rfl⟩ (fun i σ G _ z => SqT.of (z.1 _ _ h2)) ?_ ?_⟩
    · rintro i x σ G G' hi ⟨s1, ds, r, q, rfl, hG, hd, ed⟩ ⟨rfl, hx⟩
      obtain ⟨c, hcc, rfl⟩ := ni_get hx
      have pc := hc.at hcc
      rw [ni_len] at hi
      dsimp only
      refine ⟨_, rfl, .inl ⟨rfl, _, SqL.of hG⟩, _, rfl, _, rfl, _, _, rfl, rfl, ⟨by omega, by omega⟩, D, _, _, rfl, rfl, hG, by rw [ni_len]; exact small1000 (by omega), ?_⟩
      refine ⟨_, rfl, _, rfl, _, _, rfl, rfl, by show (0 : Int) < (c : Int); omega, ?_⟩
      refine ⟨add_upd hD s1, ds ++ [r / c], r % c, _, rfl, ?_, by simp; exact hd, ?_⟩
      · rw [upd_same, ni_app]
        rfl
      · rw [drop_at hcc] at ed
        rw [List.append_assoc]
        exact ed
    · rintro σ G ⟨s1, ds, r, q, rfl, hG, hd, ed⟩
      rw [ni_len, List.drop_length] at ed
      refine ⟨_, rfl, D, _, rfl, .inr (SqL.of hG), _, rfl, ?_, fun v hv => ?_⟩
      · rw [ni_len] at hd
        rw [List.length_append, ni_len]
        exact Nat.le_trans (show ds.length + 1 ≤ 1001 by omega) (by decide)
      · refine k v _ (s1.trans (of_upd hv)) ?_
        rw [upd_same, ← ed, ni_app]
        rfl
/-- _boundary -/
def spCBound (C : Addr) : Sp := fun vs H Q _ => ∃ (a : Addr) (n : Nat) (cs : List Nat), vs = [.ref a, .int (n : Int)] ∧ ChAt C H cs a ∧ Cuts cs ∧ ∀ H', Same H H' → Q (.int ((N.B cs n : Nat) : Int)) H'
abbrev NBo : List Str := ["self", "number", "place", "rest", "cut", "count"]
theorem scCB : FnScope NBo ["self", "number"] (defScope sCBoundary) := ⟨rfl, rfl, rfl, by decide +kernel, rfl, by decide +kernel, by decide +kernel⟩
theorem ok_cbound {f : Addr} {fd : FuncData} (F : Fun K "_boundary" "Chain._boundary" sCBoundary f fd) (B : Bn mg) (T : Ct K mg C) : FnOk P w K mg base CX0 1 f fd ["self", "number"] (spCBound C) := by
  refine F.ok scCB (fun vs H Q E h => ?_) (fun cdv A outer s H vs Q E hr h => ?_)
  · obtain ⟨a, n, cs, rfl, _⟩ := h
    rfl
  · obtain ⟨a, n, cs, rfl, ⟨dx, t, u, h1, h2, h3⟩, hl, k⟩ := h
    refine ⟨_, pss_cons (ps_set (i := 2) scCB.nd rfl (Or.inl rfl) pe_int)
      (pss_cons (ps_set (i := 3) scCB.nd rfl (Or.inl rfl) (pv 1))
      (pss_cons (ps_for PassesOwn.never rfl (RZ.pi_zipA (by rfl) B.zip (pa_cons (pe_fld (pv 0) rfl) (pa_cons (pe_fld (pv 0) rfl) pa_nil))) (pg_tup (by rfl) (pgs_cons (pg_name (i := 4) scCB.nd rfl (.inl rfl)) (pgs_cons (pg_name (i := 5) scCB.nd rfl (.inl rfl)) pgs_nil)))
        (pss_cons (ps_set (i := 2) scCB.nd rfl (Or.inl rfl) (pe_op op_add (pv 2) (pe_op op_mul (pe_op op_fdiv (pv 3) (pv 5)) (pv 4))))
        (pss_one (ps_set (i := 3) scCB.nd rfl (Or.inl rfl) (pe_op op_mod (pv 3) (pv 5))))))
      (pss_one (ps_ret (pv 2))))), ?_⟩
    refine ⟨_, rfl, _, rfl, a, C, dx, _, _, rfl, h1, T.cl, T.nC, cfl_cuts t u, _, rfl, a, C, dx, _, _, rfl, h1, T.cl, T.nK, cfl_counts t u, t, u, _, _, rfl, .inr ⟨SqT.of h2, SqT.of h3, ?_⟩⟩
    refine RZ.for_zipT (by rw [ni_len, ni_len, N.cn_len]) (fun i σ G => Same H G ∧ ∃ (p r : Nat) (q1 q2 : Option V), σ = [some (.ref a), some (.int (n : Int)), some (.int (p : Int)), some (.int (r : Int)), q1, q2] ∧ p + N.B (cs.drop i) r = N.B cs n)
      ⟨Same.refl H, 0, n, _, _, rfl, by rw [List.drop_zero, Nat.zero_add]⟩ (fun i σ G z => ⟨SqT.of (z.1 _ _ h2), SqT.of (z.1 _ _ h3)⟩) ?_ ?_
    · rintro i x y Tt σ G hx hy ⟨s1, p, r, q1, q2, rfl, e1⟩ hT0
      obtain ⟨c, hc, rfl⟩ := ni_get hx
      obtain ⟨m, hn, rfl⟩ := ni_get hy
      obtain ⟨c2, hc2, en⟩ := N.cn_at hn
      rw [hc] at hc2
      cases hc2
      have pc := hl.at hc
      have nle := N.L_le (hl.drop (i + 1)).fall pc.1
      have npos := N.L_pos (cs.drop (i + 1)) (hl.drop (i + 1)).fall c pc.1
      rw [← en] at nle npos
      refine ⟨Tt, _, rfl, SqT.of upd_same, rfl, _, _, rfl, _, _, rfl, rfl, ?_⟩
      refine ⟨_, rfl, _, rfl, _, rfl, _, _, rfl, rfl, ⟨by omega, by omega⟩, _, rfl, _, _, rfl, rfl, .inr ⟨by omega, by omega⟩, _, _, rfl, rfl, ?_⟩
      refine ⟨_, rfl, _, rfl, _, _, rfl, rfl, by show (0 : Int) < (m : Int); omega, ?_⟩
      refine ⟨s1.trans (of_upd hT0), p + r / m * c, r % m, _, _, rfl, ?_⟩
      rw [drop_at hc, N.B_cons, ← en] at e1
      omega
    · rintro σ G ⟨s1, p, r, q1, q2, rfl, e1⟩
      rw [ni_len, List.drop_length] at e1
      have e2 : p = N.B cs n := e1
      rw [← e2] at k
      exact ⟨_, rfl, k G s1⟩
end
end CP

end
section
set_option autoImplicit false
set_option Elab.async false
set_option linter.all false
set_option maxRecDepth 100000
set_option maxHeartbeats 4000000
namespace CP
open PySem L2 G Y
theorem nk2 : (¬ (("pieces" : Str) = "cuts") ∧ ¬ (("pieces" : Str) = "_counts")) ∧ (¬ (("_boundary" : Str) = "cuts") ∧ ¬ (("_boundary" : Str) = "_counts")) ∧ (¬ (("digits" : Str) = "cuts") ∧ ¬ (("digits" : Str) = "_counts")) ∧ (¬ (("stretch" : Str) = "cuts") ∧ ¬ (("stretch" : Str) = "_counts")) := by decide +kernel
theorem no_fld {m : Str} (t u : Addr) (h : ¬ (m = "cuts") ∧ ¬ (m = "_counts")) : (cfl t u).lookup m = none := by
  unfold cfl
  rw [lookup_putF, if_neg h.2, lookup_putF, if_neg h.1]
  rfl
/-- a method, and what it promises -/
structure Me (P : Program) (w : World) (K : PySem.W.Frag) (mg : Str → Option Value) (base : Heap) (C : Addr) (k : Nat) (m : Str) (ps : List Str) (sp : Sp) : Prop where
  ex : ∃ (f : Addr) (fd : FuncData), FnOk P w K mg base CX0 k f fd ps sp ∧ Meth K C m f ∧ Binds K fd ps []
section
variable {P : Program} {w : World} {K : PySem.W.Frag} {mg : Str → Option Value} {base : Heap} {C : Addr}
theorem ChAt.ins {H : Hp} {l : List Nat} {a : Addr} (h : ChAt C H l a) {m : Str} (hm : ¬ (m = "cuts") ∧ ¬ (m = "_counts")) : ∃ dx fs, H a = some (.ins C dx fs) ∧ fs.lookup m = none := by
  obtain ⟨dx, t, u, h1, _, _⟩ := h
  exact ⟨dx, _, h1, no_fld t u hm⟩
def stretchZ (cs : List Nat) (b n : Nat) : Int := (if n = N.PC cs b then (b : Int) else ((N.B cs n : Nat) : Int)) - ((N.B cs (n - 1) : Nat) : Int)
def spCStretch (C : Addr) : Sp := fun vs H Q _ => ∃ (a : Addr) (b n : Nat) (cs : List Nat), vs = [.ref a, .int (b : Int), .int (n : Int)] ∧ ChAt C H cs a ∧ Cuts cs ∧ 1 ≤ n ∧ n ≤ N.PC cs b ∧ ∀ H', Same H H' → Q (.int (stretchZ cs b n)) H'
theorem scCS : FnScope ["self", "body", "number", "pieces", "end"] ["self", "body", "number"] (defScope sCStretch) := ⟨rfl, rfl, rfl, by decide +kernel, rfl, by decide +kernel, by decide +kernel⟩
theorem ok_cstretch {f : Addr} {fd : FuncData} (F : Fun K "stretch" "Chain.stretch" sCStretch f fd) (T : Ct K mg C) (DW : Df P w K mg base 2 "is_within" ["value", "least", "greatest"] spWithin) (MP : Me P w K mg base C 2 "pieces" ["self", "body"] (spCPieces C)) (MB : Me P w K mg base C 1 "_boundary" ["self", "number"] (spCBound C)) : FnOk P w K mg base CX0 3 f fd ["self", "body", "number"] (spCStretch C) := by
  obtain ⟨fW, fdW, GW, gW, kW, bW⟩ := DW.ex
  obtain ⟨fP, fdP, GP, mP, bP⟩ := MP.ex
  obtain ⟨fB, fdB, GB, mB, bB⟩ := MB.ex
  refine F.ok scCS (fun vs H Q E h => ?_) (fun cdv A outer s H vs Q E hr h => ?_)
  · obtain ⟨a, b, n, cs, rfl, _⟩ := h
    rfl
  · obtain ⟨a, b, n, cs, rfl, hc, hl, n1, n2, k⟩ := h
    have r1 := hr.mono (by decide : 1 ≤ 2)
    refine ⟨_, pss_cons (ps_set (i := 3) scCS.nd rfl (Or.inl rfl) (pe_meth (pv 0) T.cl mP GP hr bP .nil pass0 (pa_cons (pv 1) pa_nil)))
      (pss_cons (ps_if (pt_not (pt_val (pe_call GW hr rfl gW kW bW .nil pass0 (pa_cons (pv 2) (pa_cons pe_int (pa_cons (pv 3) pa_nil)))))) ps_dead pss_nil)
      (pss_cons (ps_set (i := 4) scCS.nd rfl (Or.inl rfl) (pe_ifExp (pt_cmpR op_eq (pv 2) (pv 3) (nomark _)) (pv 1) (pe_meth (pv 0) T.cl mB GB r1 bB .nil pass0 (pa_cons (pv 2) pa_nil))))
      (pss_one (ps_ret (pe_op op_sub (pv 4) (pe_meth (pv 0) T.cl mB GB r1 bB .nil pass0 (pa_cons (pe_op op_sub (pv 2) pe_int) pa_nil))))))), ?_⟩
    obtain ⟨dx, fs, i1, i2⟩ := hc.ins nk2.1
    refine ⟨_, rfl, a, dx, fs, rfl, i1, i2, _, rfl, a, b, cs, rfl, hc, hl, fun G1 s1 => ?_⟩
    refine ⟨_, rfl, _, rfl, (n : Int), 1, ((N.PC cs b : Nat) : Int), rfl, ?_⟩
    rw [decide_eq_true (by omega)]
    refine ⟨_, rfl, iteF ?_⟩
    have hc1 := hc.mono s1
    have last : ∀ (G2 : Hp) (e : Int), Same G1 G2 → e = (if n = N.PC cs b then (b : Int) else ((N.B cs n : Nat) : Int)) → tRet (tOp (rI0 fun i j => .int (i - j)) (tVar 4) (tMeth C "_boundary" (spCBound C) [] E0 (tVar 0) (tCons (tOp (rI0 fun i j => .int (i - j)) (tVar 2) (tC (.int 1))) tNil))) { nx := fun _ H' => Q .non H', rt := Q } [some (.ref a), some (.int (b : Int)), some (.int (n : Int)), some (.int ((N.PC cs b : Nat) : Int)), some (.int e)] G2 := fun G2 e s2 he => by
      have hc2 := hc1.mono s2
      obtain ⟨dx, fs, i1, i2⟩ := hc2.ins nk2.2.1
      refine ⟨_, rfl, _, rfl, a, dx, fs, rfl, i1, i2, _, rfl, _, _, rfl, rfl, a, n - 1, cs, ?_, hc2, hl, fun G3 s3 => ⟨_, _, rfl, rfl, ?_⟩⟩
      · show [V.ref a, V.int ((n : Int) - 1)] = _
        rw [show (n : Int) - 1 = ((n - 1 : Nat) : Int) by omega]
      · have := k G3 ((s1.trans s2).trans s3)
        unfold stretchZ at this
        rw [← he] at this
        exact this
    refine ⟨_, rfl, _, rfl, rfl, _, rfl, ite2 (fun e => ?_) (fun e => ?_)⟩
    · have e2 : V.int (n : Int) = V.int ((N.PC cs b : Nat) : Int) := of_decide_eq_true e
      injection e2 with e2
      exact ⟨_, rfl, last G1 _ (Same.refl _) (by rw [if_pos (by omega)])⟩
    · have e2 : n ≠ N.PC cs b := fun z => e (decide_eq_true (by rw [← z]))
      obtain ⟨dx, fs, i1, i2⟩ := hc1.ins nk2.2.1
      exact ⟨_, rfl, a, dx, fs, rfl, i1, i2, _, rfl, a, n, cs, rfl, hc1, hl, fun G2 s2 => last G2 _ s2 (by rw [if_neg e2])⟩
/-- place in chain -/
def spCHas (C : Addr) : Sp := fun vs H Q _ => ∃ (a : Addr) (p : Nat) (cs : List Nat), vs = [.ref a, .int (p : Int)] ∧ ChAt C H cs a ∧ Cuts cs ∧ ∀ H', Same H H' → Q (.bl (decide (0 < p ∧ N.rem cs p = 0))) H'
theorem scCHs : FnScope ["self", "place"] ["self", "place"] (defScope sCHas) := ⟨rfl, rfl, rfl, by decide +kernel, rfl, by decide +kernel, by decide +kernel⟩
theorem ok_chas {f : Addr} {fd : FuncData} (F : Fun K "__contains__" "Chain.__contains__" sCHas f fd) (T : Ct K mg C) (DI : Df P w K mg base 1 "is_integer" ["value"] spInteger) (MD : Me P w K mg base C 1 "digits" ["self", "place"] (spCDigits C)) : FnOk P w K mg base CX0 2 f fd ["self", "place"] (spCHas C) := by
  obtain ⟨fI, fdI, GI, gI, kI, bI⟩ := DI.ex
  obtain ⟨fD, fdD, GD, mD, bD⟩ := MD.ex
  refine F.ok scCHs (fun vs H Q E h => ?_) (fun cdv A outer s H vs Q E hr h => ?_)
  · obtain ⟨a, p, cs, rfl, _⟩ := h
    rfl
  · obtain ⟨a, p, cs, rfl, hc, hl, k⟩ := h
    refine ⟨_, pss_one (ps_ret (pe_and (pe_call GI hr rfl gI kI bI .nil pass0 (pa_cons (pv 1) pa_nil)) (pe_and (pe_cmpR op_gt (pv 1) pe_int (nomark _)) (pe_one (pe_cmpR op_eq (pe_ix ix_tup (pe_meth (pv 0) T.cl mD GD hr bD .nil pass0 (pa_cons (pv 1) pa_nil)) (pe_un un_neg pe_int) (fun _ _ => rfl)) pe_int (nomark _)))))), ?_⟩
    refine ⟨_, rfl, (p : Int), rfl, _, rfl, iteT ⟨_, rfl, _, _, rfl, rfl, _, rfl, ite2 (fun c => ?_) (fun c => ?_)⟩⟩
    · have c2 : (0 : Int) < (p : Int) := of_decide_eq_true c
      obtain ⟨dx, fs, i1, i2⟩ := hc.ins nk2.2.2.1
      refine ⟨_, rfl, a, dx, fs, rfl, i1, i2, _, rfl, a, p, cs, rfl, hc, hl, fun t G s1 ht => ?_⟩
      obtain ⟨ds, ed⟩ := N.dig_rem cs p
      rw [ed] at ht
      refine ⟨1, rfl, t, _, _, .int ((N.rem cs p : Nat) : Int), rfl, rfl, SqT.of ht, ?_, rfl, ?_⟩
      · rw [ni_app]
        exact atI_last _ _
      · have e : decide (V.int ((N.rem cs p : Nat) : Int) = V.int 0) = decide (0 < p ∧ N.rem cs p = 0) := by
          by_cases z : N.rem cs p = 0
          · rw [decide_eq_true (by rw [z]; rfl), decide_eq_true ⟨by omega, z⟩]
          · rw [decide_eq_false (fun q => by injection q with q; omega), decide_eq_false fun q => z q.2]
        rw [e]
        exact k G s1
    · have c2 : ¬ (0 : Int) < (p : Int) := fun z => c (decide_eq_true z)
      have := k H (Same.refl H)
      rw [decide_eq_false (by omega)] at this
      exact this
/-- chain[number] -/
def spCGet (C : Addr) : Sp := fun vs H Q _ => ∃ (a : Addr) (n : Nat) (cs : List Nat), vs = [.ref a, .int (n : Int)] ∧ ChAt C H cs a ∧ Cuts cs ∧ 1 ≤ n ∧ cs ≠ [] ∧ ∀ H', Same H H' → Q (.int ((N.B cs n : Nat) : Int)) H'
theorem scCG : FnScope ["self", "at"] ["self", "at"] (defScope sCGet) := ⟨rfl, rfl, rfl, by decide +kernel, rfl, by decide +kernel, by decide +kernel⟩
theorem ok_cget {f : Addr} {fd : FuncData} (F : Fun K "__getitem__" "Chain.__getitem__" sCGet f fd) (B : Bn mg) (T : Ct K mg C) (DI : Df P w K mg base 1 "is_integer" ["value"] spInteger) (MB : Me P w K mg base C 1 "_boundary" ["self", "number"] (spCBound C)) : FnOk P w K mg base CX0 2 f fd ["self", "at"] (spCGet C) := by
  obtain ⟨fI, fdI, GI, gI, kI, bI⟩ := DI.ex
  obtain ⟨fB, fdB, GB, mB, bB⟩ := MB.ex
  refine F.ok scCG (fun vs H Q E h => ?_) (fun cdv A outer s H vs Q E hr h => ?_)
  · obtain ⟨a, n, cs, rfl, _⟩ := h
    rfl
  · obtain ⟨a, n, cs, rfl, hc, hl, n1, ne, k⟩ := h
    refine ⟨_, pss_cons (ps_if (PW.pt (pw_or (pt_not (pt_val (pe_call GI hr rfl gI kI bI .nil pass0 (pa_cons (pv 1) pa_nil)))) (pw_or (pt_cmpR op_lt (pv 1) pe_int (nomark _)) (pw_or1 (pt_cmpR op_eq (pe_callB call_len_seq (by rfl) B.len PySem.boot_len (pa_cons (pe_fld (pv 0) rfl) pa_nil)) pe_int (nomark _)))))) ps_dead pss_nil)
      (pss_one (ps_ret (pe_meth (pv 0) T.cl mB GB hr bB .nil pass0 (pa_cons (pv 1) pa_nil)))), ?_⟩
    obtain ⟨dx, t, u, h1, h2, h3⟩ := id hc
    refine ⟨_, rfl, (n : Int), rfl, _, rfl, iteF ⟨_, rfl, _, _, rfl, rfl, _, rfl, ?_⟩⟩
    rw [decide_eq_false (by omega)]
    refine iteF ⟨_, rfl, a, C, dx, _, _, rfl, h1, T.cl, T.nC, cfl_cuts t u, t, _, rfl, .inr (SqT.of h2), rfl, _, rfl, ?_⟩
    rw [decide_eq_false (fun z => by
      injection z with z
      rw [ni_len] at z
      exact ne (List.length_eq_zero_iff.mp (by omega)))]
    obtain ⟨dx, fs, i1, i2⟩ := hc.ins nk2.2.1
    exact iteF ⟨_, rfl, a, dx, fs, rfl, i1, i2, _, rfl, a, n, cs, rfl, hc, hl, k⟩
end
end CP

end
section
set_option autoImplicit false
set_option linter.all false
namespace N
/-! ## sums of chains, and bodies parted one cut after another -/
def cu (c b : Nat) : List Nat := if h : 0 < c ∧ c < b then c :: cu c (b - c) else [b]
termination_by b
decreasing_by omega
theorem cu_lt {c b : Nat} (h : 0 < c) (h2 : c < b) : cu c b = c :: cu c (b - c) := by
  rw [cu, dif_pos ⟨h, h2⟩]
theorem cu_le {c b : Nat} (h2 : b ≤ c) : cu c b = [b] := by
  rw [cu, dif_neg (by omega)]
def pt : List Nat → List Nat → List Nat
  | [], ss => ss
  | c :: r, ss => pt r (ss.flatMap (cu c))
theorem pt_app : ∀ (l a b : List Nat), pt l (a ++ b) = pt l a ++ pt l b
  | [], a, b => rfl
  | c :: r, a, b => by
    unfold pt
    rw [List.flatMap_append, pt_app r]
theorem pt_cat : ∀ (l m ss : List Nat), pt (l ++ m) ss = pt m (pt l ss)
  | [], m, ss => rfl
  | c :: r, m, ss => pt_cat r m _
theorem pt_lt {c b : Nat} (r : List Nat) (h : 0 < c) (h2 : c < b) : pt (c :: r) [b] = pt r [c] ++ pt (c :: r) [b - c] := by
  show pt r (([b] : List Nat).flatMap (cu c)) = pt r [c] ++ pt r (([b - c] : List Nat).flatMap (cu c))
  rw [← pt_app, List.flatMap_singleton, List.flatMap_singleton, cu_lt h h2]
  rfl
theorem pt_le {c b : Nat} (r : List Nat) (h2 : b ≤ c) : pt (c :: r) [b] = pt r [b] := by
  show pt r (([b] : List Nat).flatMap (cu c)) = pt r [b]
  rw [List.flatMap_singleton, cu_le h2]
theorem cu_mem {c : Nat} (h : 0 < c) : ∀ (b : Nat), ∀ s ∈ cu c b, s ≤ c ∧ s ≤ b ∧ (0 < b → 0 < s) := by
  intro b
  induction b using Nat.strongRecOn with
  | ind b ih =>
    intro s hs
    by_cases h2 : c < b
    · rw [cu_lt h h2] at hs
      rcases List.mem_cons.mp hs with z | z
      · omega
      · have := ih (b - c) (by omega) s z
        omega
    · rw [cu_le (by omega)] at hs
      rw [List.mem_singleton.mp hs]
      omega
theorem cu_sum {c : Nat} (h : 0 < c) : ∀ (b : Nat), (cu c b).sum = b := by
  intro b
  induction b using Nat.strongRecOn with
  | ind b ih =>
    by_cases h2 : c < b
    · rw [cu_lt h h2, List.sum_cons, ih (b - c) (by omega)]
      omega
    · rw [cu_le (by omega)]
      simp
theorem cu_len {c : Nat} (h : 0 < c) (b : Nat) : 0 < (cu c b).length := by
  by_cases h2 : c < b
  · rw [cu_lt h h2]
    simp
  · rw [cu_le (by omega)]
    simp
theorem flat_len {c : Nat} (h : 0 < c) : ∀ ss : List Nat, ss.length ≤ (ss.flatMap (cu c)).length
  | [] => Nat.zero_le _
  | s :: ss => by
    have := flat_len h ss
    have := cu_len h s
    rw [List.flatMap_cons, List.length_append, List.length_cons]
    omega
theorem pt_len : ∀ {l : List Nat}, (∀ c ∈ l, 0 < c) → ∀ ss, ss.length ≤ (pt l ss).length
  | [], _, ss => Nat.le_refl _
  | c :: r, f, ss => Nat.le_trans (flat_len (f c List.mem_cons_self) ss) (pt_len (fun d hd => f d (List.mem_cons_of_mem _ hd)) _)
theorem flat_sum {c : Nat} (h : 0 < c) : ∀ ss : List Nat, (ss.flatMap (cu c)).sum = ss.sum
  | [] => rfl
  | s :: ss => by
    rw [List.flatMap_cons, List.sum_append, cu_sum h, flat_sum h ss, List.sum_cons]
theorem pt_sum : ∀ {l : List Nat}, (∀ c ∈ l, 0 < c) → ∀ ss, (pt l ss).sum = ss.sum
  | [], _, ss => rfl
  | c :: r, f, ss => (pt_sum (fun d hd => f d (List.mem_cons_of_mem _ hd)) _).trans (flat_sum (f c List.mem_cons_self) ss)
theorem pt_bound {m : Nat} : ∀ {l : List Nat}, (∀ c ∈ l, 0 < c) → ∀ ss, (∀ s ∈ ss, s ≤ m) → ∀ s ∈ pt l ss, s ≤ m
  | [], _, ss, h => h
  | c :: r, f, ss, h => pt_bound (l := r) (fun d hd => f d (List.mem_cons_of_mem _ hd)) _ fun s hs => by
    obtain ⟨b, hb, hs⟩ := List.mem_flatMap.mp hs
    have := cu_mem (f c List.mem_cons_self) b s hs
    have := h b hb
    omega
theorem pt_pos : ∀ {l : List Nat}, (∀ c ∈ l, 0 < c) → ∀ ss, (∀ s ∈ ss, 0 < s) → ∀ s ∈ pt l ss, 0 < s
  | [], _, ss, h => h
  | c :: r, f, ss, h => pt_pos (l := r) (fun d hd => f d (List.mem_cons_of_mem _ hd)) _ fun s hs => by
    obtain ⟨b, hb, hs⟩ := List.mem_flatMap.mp hs
    exact (cu_mem (f c List.mem_cons_self) b s hs).2.2 (h b hb)
theorem pt_cuts : ∀ {l : List Nat}, (∀ c ∈ l, 0 < c) → ∀ ss, ∀ c ∈ l, ∀ s ∈ pt l ss, s ≤ c
  | [], _, ss, c, h => by cases h
  | c :: r, f, ss, d, hd => by
    rcases List.mem_cons.mp hd with z | z
    · subst z
      exact pt_bound (l := r) (fun d hd => f d (List.mem_cons_of_mem _ hd)) _ fun s hs => by
        obtain ⟨b, hb, hs⟩ := List.mem_flatMap.mp hs
        exact (cu_mem (f d List.mem_cons_self) b s hs).1
    · exact pt_cuts (l := r) (fun d hd => f d (List.mem_cons_of_mem _ hd)) _ d z
theorem flat_id {c : Nat} : ∀ {ss : List Nat}, (∀ s ∈ ss, s ≤ c) → ss.flatMap (cu c) = ss
  | [], _ => rfl
  | s :: ss, h => by
    rw [List.flatMap_cons, cu_le (h s List.mem_cons_self), flat_id fun t ht => h t (List.mem_cons_of_mem _ ht)]
    rfl
/-- cuts that are not less than all stretches do nothing -/
theorem pt_idle {m : Nat} : ∀ {l : List Nat}, (∀ c ∈ l, 0 < c) → ∀ ss, (∀ s ∈ ss, s ≤ m) → pt l ss = pt (l.filter fun d => decide (d < m)) ss
  | [], _, ss, h => rfl
  | c :: r, f, ss, h => by
    have f2 : ∀ d ∈ r, 0 < d := fun d hd => f d (List.mem_cons_of_mem _ hd)
    by_cases hc : c < m
    · rw [List.filter_cons_of_pos (by simpa using hc)]
      exact pt_idle f2 _ fun s hs => by
        obtain ⟨b, hb, hs⟩ := List.mem_flatMap.mp hs
        have := cu_mem (f c List.mem_cons_self) b s hs
        have := h b hb
        omega
    · rw [List.filter_cons_of_neg (by simpa using hc)]
      show pt r (ss.flatMap (cu c)) = _
      rw [flat_id fun s hs => by have := h s hs; omega]
      exact pt_idle f2 ss h
/-! ### the pieces of a chain, by its boundaries -/
theorem L_lt {c b : Nat} (r : List Nat) (h : 0 < c) (h2 : c < b) : L (c :: r) b = L r c + L (c :: r) (b - c) := by
  obtain ⟨d, rfl⟩ : ∃ d, b = d + c := ⟨b - c, by omega⟩
  rw [Nat.add_sub_cancel, L_cons, L_cons, Nat.add_div_right _ h, Nat.add_mod_right, Nat.succ_mul]
  omega
theorem B_ge {c k : Nat} (r : List Nat) (h : 0 < L r c) (h2 : L r c ≤ k) : B (c :: r) k = c + B (c :: r) (k - L r c) := by
  obtain ⟨d, rfl⟩ : ∃ d, k = d + L r c := ⟨k - L r c, by omega⟩
  rw [Nat.add_sub_cancel, B_cons, B_cons, Nat.add_div_right _ h, Nat.add_mod_right, Nat.succ_mul]
  omega
theorem B_lt {c k : Nat} (r : List Nat) (h2 : k < L r c) : B (c :: r) k = B r k := by
  rw [B_cons, Nat.div_eq_of_lt h2, Nat.mod_eq_of_lt h2]
  omega
theorem L_le1 {c b : Nat} {r : List Nat} (h0 : 0 < b) (h : b ≤ c) : L (c :: r) b = L r b := by
  rw [L_cons]
  by_cases e : b = c
  · subst e
    rw [Nat.div_self h0, Nat.mod_self, if_pos rfl]
    omega
  · rw [Nat.div_eq_of_lt (by omega), Nat.mod_eq_of_lt (by omega), if_neg (by omega)]
    omega
theorem pt_L : ∀ (l : List Nat), Fall l → ∀ b, 0 < b → (pt l [b]).length = L l b ∧ ∀ k, k < L l b → ((pt l [b]).take k).sum = B l k
  | [], _, b, hb => ⟨rfl, fun k hk => by
    have : k = 0 := by
      have : k < 1 := hk
      omega
    subst this
    rfl⟩
  | c :: r, f, b, hb => by
    induction b using Nat.strongRecOn with
    | ind b ih =>
      by_cases h : c < b
      · obtain ⟨a1, a2⟩ := pt_L r f.2.2 c f.1
        have c0 := f.1
        obtain ⟨b1, b2⟩ := ih (b - c) (by omega) (by omega)
        have lp := L_pos r f.2.2 c f.1
        rw [pt_lt r f.1 h, L_lt r f.1 h]
        refine ⟨by rw [List.length_append, a1, b1], fun k hk => ?_⟩
        rw [List.take_append, a1, List.sum_append]
        by_cases hk2 : k < L r c
        · rw [a2 k hk2, B_lt r hk2, show k - L r c = 0 by omega]
          simp
        · rw [List.take_of_length_le (by omega), pt_sum f.2.2.pos, b2 (k - L r c) (by omega), B_ge (k := k) r lp (by omega)]
          simp
      · obtain ⟨a1, a2⟩ := pt_L r f.2.2 b hb
        rw [pt_le r (by omega), L_le1 hb (by omega)]
        refine ⟨a1, fun k hk => ?_⟩
        rw [a2 k hk, B_lt r]
        by_cases e : b = c
        · rw [← e]
          exact hk
        · by_cases hr : r = []
          · rw [hr] at hk ⊢
            exact hk
          · have q := (below r f.2.2 b hb k fun e => absurd e hr).mpr hk
            exact L_mono_lt f.2.2 hr (by omega)
theorem pt_at {l : List Nat} (f : Fall l) {b i : Nat} (hb : 0 < b) (h : i < L l b) : ∃ x, (pt l [b])[i]? = some x ∧ x + B l i = if i + 1 < L l b then B l (i + 1) else b := by
  obtain ⟨a1, a2⟩ := pt_L l f b hb
  have hi : i < (pt l [b]).length := by omega
  refine ⟨(pt l [b])[i], List.getElem?_eq_getElem hi, ?_⟩
  have s1 : ((pt l [b]).take (i + 1)).sum = ((pt l [b]).take i).sum + (pt l [b])[i] := by
    rw [List.take_succ, List.getElem?_eq_getElem hi, List.sum_append]
    simp
  rw [a2 i h] at s1
  by_cases e : i + 1 < L l b
  · rw [if_pos e]
    rw [a2 (i + 1) e] at s1
    omega
  · rw [if_neg e]
    rw [List.take_of_length_le (by omega), pt_sum f.pos] at s1
    simp at s1
    omega
/-! ### sums -/
def lo (l : List Nat) : Nat := l.foldl min 1001
theorem lt_foldl {d : Nat} : ∀ (l : List Nat) (m : Nat), d < l.foldl min m ↔ d < m ∧ ∀ x ∈ l, d < x
  | [], m => by simp
  | x :: l, m => by
    rw [List.foldl_cons, lt_foldl l]
    constructor
    · rintro ⟨h1, h2⟩
      exact ⟨by omega, fun y hy => by
        rcases List.mem_cons.mp hy with z | z
        · omega
        · exact h2 y z⟩
    · rintro ⟨h1, h2⟩
      have := h2 x List.mem_cons_self
      exact ⟨by omega, fun y hy => h2 y (List.mem_cons_of_mem _ hy)⟩
theorem lt_lo {d : Nat} {l : List Nat} : d < lo l ↔ d < 1001 ∧ ∀ x ∈ l, d < x := lt_foldl l 1001
def add (a b : List Nat) : List Nat := a ++ b.filter fun d => decide (d < lo a)
theorem add_assoc' (a b c : List Nat) : add (add a b) c = add a (add b c) := by
  unfold add
  rw [List.filter_append, List.filter_filter, List.append_assoc]
  congr 2
  refine List.filter_congr fun d hd => ?_
  rw [Bool.eq_iff_iff]
  simp only [Bool.and_eq_true, decide_eq_true_eq]
  rw [lt_lo, lt_lo, lt_lo]
  constructor
  · rintro ⟨h1, h2⟩
    have ha : ∀ x ∈ a, d < x := fun x hx => h2 x (List.mem_append_left _ hx)
    refine ⟨⟨h1, ha⟩, h1, fun x hx => ?_⟩
    by_cases e : x < lo a
    · exact h2 x (List.mem_append_right _ (List.mem_filter.mpr ⟨hx, decide_eq_true e⟩))
    · have := lt_lo.mpr ⟨h1, ha⟩
      omega
  · rintro ⟨⟨h1, ha⟩, _, hb⟩
    refine ⟨h1, fun x hx => ?_⟩
    rcases List.mem_append.mp hx with z | z
    · exact ha x z
    · exact hb x (List.mem_filter.mp z).1
theorem add_nil (a : List Nat) : add a [] = a := List.append_nil a
theorem add_self (a : List Nat) : add a a = a := by
  unfold add
  rw [List.filter_eq_nil_iff.mpr fun x hx => ?_, List.append_nil]
  intro z
  have := (lt_lo.mp (of_decide_eq_true z)).2 x hx
  omega
theorem nil_add {a : List Nat} (h : ∀ c ∈ a, c ≤ 1000) : add [] a = a := by
  unfold add
  rw [List.nil_append]
  exact List.filter_eq_self.mpr fun x hx => decide_eq_true (by
    have := h x hx
    show x < 1001
    omega)
theorem Fall.filter {p : Nat → Bool} : ∀ {l : List Nat}, Fall l → Fall (l.filter p)
  | [], _ => trivial
  | c :: r, f => by
    by_cases h : p c = true
    · rw [List.filter_cons_of_pos h]
      exact ⟨f.1, fun d hd => f.2.1 d (List.mem_filter.mp hd).1, f.2.2.filter⟩
    · rw [List.filter_cons_of_neg h]
      exact f.2.2.filter
theorem Fall.append : ∀ {a b : List Nat}, Fall a → Fall b → (∀ d ∈ b, ∀ x ∈ a, d < x) → Fall (a ++ b)
  | [], b, _, fb, _ => fb
  | c :: r, b, fa, fb, h => ⟨fa.1, fun d hd => by
      rcases List.mem_append.mp hd with z | z
      · exact fa.2.1 d z
      · exact h d z c List.mem_cons_self, fa.2.2.append fb fun d hd x hx => h d hd x (List.mem_cons_of_mem _ hx)⟩
theorem add_fall {a b : List Nat} (fa : Fall a) (fb : Fall b) : Fall (add a b) :=
  fa.append fb.filter fun d hd x hx => (lt_lo.mp (of_decide_eq_true (List.mem_filter.mp hd).2)).2 x hx
theorem add_le {a b : List Nat} (ha : ∀ c ∈ a, c ≤ 1000) (hb : ∀ c ∈ b, c ≤ 1000) : ∀ c ∈ add a b, c ≤ 1000 := fun c hc => by
  rcases List.mem_append.mp hc with z | z
  · exact ha c z
  · exact hb c (List.mem_filter.mp z).1
theorem add_len (a b : List Nat) : (add a b).length ≤ a.length + b.length := by
  unfold add
  rw [List.length_append]
  have := List.length_filter_le (fun d => decide (d < lo a)) b
  omega
/-- the law's own test -/
theorem lo_last {a : List Nat} (fa : Fall a) {d : Nat} (hd : d ≤ 1000) : (d < lo a) ↔ (a = [] ∨ ∃ x, a.getLast? = some x ∧ d < x) := by
  rw [lt_lo]
  by_cases h : a = []
  · subst h
    simp
    omega
  · rw [List.getLast?_eq_some_getLast h]
    constructor
    · rintro ⟨_, h2⟩
      exact .inr ⟨_, rfl, h2 _ (List.getLast_mem h)⟩
    · rintro (z | ⟨x, e, z⟩)
      · exact absurd z h
      · cases e
        exact ⟨by omega, fun y hy => by have := last_le a fa h y hy; omega⟩
/-- what is parted by both -/
theorem pt_add {a b : List Nat} (fa : Fall a) (fb : Fall b) (hb : ∀ c ∈ b, c ≤ 1000) (n : Nat) : pt (add a b) [n] = pt b (pt a [n]) := by
  unfold add
  rw [pt_cat]
  by_cases h : a = []
  · subst h
    have := nil_add hb
    unfold add at this
    rw [List.nil_append] at this
    rw [this]
  · have e : ∀ s ∈ pt a [n], s ≤ a.getLast h := pt_cuts fa.pos [n] _ (List.getLast_mem h)
    rw [pt_idle fb.pos _ e]
    congr 1
    refine List.filter_congr fun d hd => ?_
    rw [decide_eq_decide, lo_last fa (hb d hd), List.getLast?_eq_some_getLast h]
    constructor
    · rintro (z | ⟨x, e, z⟩)
      · exact absurd z h
      · cases e
        exact z
    · exact fun z => .inr ⟨_, rfl, z⟩
theorem add_more {a b : List Nat} (fa : Fall a) (fb : Fall b) (hb : ∀ c ∈ b, c ≤ 1000) {n : Nat} (hn : 0 < n) : L a n ≤ L (add a b) n := by
  rw [← (pt_L a fa n hn).1, ← (pt_L _ (add_fall fa fb) n hn).1, pt_add fa fb hb]
  exact pt_len fb.pos _
end N

end
section
set_option autoImplicit false
set_option Elab.async false
set_option linter.all false
set_option maxRecDepth 100000
set_option maxHeartbeats 4000000
/-! ## for in a generator's body -/
namespace GF
open PySem PySem.Spec PyProof.Rows L2 GenW
section
variable {M : Model} {c : Code} {fs : List Frame} {A : Around} {R : GenEnd} {Y : Protocol} {n : Nat} {s₀ s : Shared} {env : Env}
variable {K : Flow → Sem PySem.Fin} {J : Value → Sem PySem.Fin} {lv : List Value → List Value} {gd : Bool → Bool}
theorem seg_For {tg iter : Expr} {body : List Stmt} {pos : Pos}
    (h : wpAny M (A.over c fs) (eval iter env) (fun x s1 => wpAny M (A.over c fs) (pyIter x) (fun it s2 => ∀ p, Seg M A R Y n s₀ (.forLoop tg it body [] env) (M.den (.forLoop tg it body [] env))
      (.ret (fun r => ((match r with | .ok f => (.pure f : Sem Flow) | .error e => .raise e).onRaise (cameBack env)).wrap K J gd lv) none (gd false) (lv []) c p [] :: fs) s2)
      (fun x s' => Seg M A R Y n s₀ c (J x) fs s') s1) (fun x s' => Seg M A R Y n s₀ c (J x) fs s') s)
    (hs : ∀ x, foldedSetIterable iter env x = pure x) : Seg M A R Y n s₀ c ((exec (.For tg iter body [] pos) env).wrap K J gd lv) fs s := by
  rw [exec_For]
  refine seg_bind_wrap (wpAny_standAt (seg_bind_wrap (wpAny_mono h (fun x s1 h1 => ?_) fun _ _ x => x)))
  refine seg_bind_wrap (wpAny_of_eq (hs x) (seg_bind_wrap (wpAny_standAt ?_)))
  refine seg_bind_wrap (wpAny_holding (wpAny_mono h1 (fun it s2 h2 => ?_) fun _ _ x => x))
  exact seg_call h2
end
section
variable {prog : Program} {w : World} {fs : List Frame} {A : Around} {R : GenEnd} {Y : Protocol} {n : Nat} {s₀ s : Shared} {env : Env}
theorem seg_forLoop {tg : Expr} {it : Value} {body : List Stmt} {EE : Value → Shared → Prop}
    (hE : ∀ x s', EE x s' → Seg (model prog w) A R Y n s₀ (.forLoop tg it body [] env) ((do noteFrame x env; theTreesLotGoes x : Sem Unit).wrap (fun _ => .raise x) .raise id id) fs s')
    (h : wpAny (model prog w) (A.over (.forLoop tg it body [] env) fs) (pyNext it) (fun r s' => match r with
      | none => Seg (model prog w) A R Y n s₀ (.forLoop tg it body [] env) (.pure (.again (.block [] env))) fs s'
      | some v => wpAny (model prog w) (A.over (.forLoop tg it body [] env) fs) (letOwnedTupleGo tg it v) (fun _ s1 => wpAny (model prog w) (A.over (.forLoop tg it body [] env) fs) (assign tg env v) (fun _ s2 =>
          Seg (model prog w) A R Y n s₀ (.forLoop tg it body [] env) ((execs body env).wrap (fun f => match f with
            | .next | .cont => .pure (.again (.forLoop tg it body [] env))
            | .brk => .pure (.done .next)
            | .ret v => .pure (.done (.ret v))) (fun e => (do noteFrame e env; theTreesLotGoes e : Sem Unit).wrap (fun _ => .raise e) .raise id id) id id) fs s2) EE s1) EE s') EE s) :
    Seg (model prog w) A R Y n s₀ (.forLoop tg it body [] env) ((model prog w).den (.forLoop tg it body [] env)) fs s := by
  have hE2 : ∀ x s', EE x s' → Seg (model prog w) A R Y n s₀ (.forLoop tg it body [] env) ((do noteFrame x env; theTreesLotGoes x : Sem Unit).bind (fun _ => .raise x)) fs s' := fun x s' hx => by
    rw [Sem.bind_eq_wrap]
    exact hE x s' hx
  show Seg _ A R Y n s₀ _ ((forTurn tg it body [] env).onRaise (fun x => do noteFrame x env; theTreesLotGoes x)) fs s
  unfold forTurn
  rw [Sem.onRaise_eq_wrap]
  refine seg_bind_wrap (wpAny_standAt (?_)); refine seg_bind_wrap (wpAny_onRaise (wpAny_mono h (fun r s1 h1 => ?_) fun x s' hx => wpAny_standAt (hE2 x s' hx)))
  cases r with
  | none => exact h1
  | some v =>
    refine seg_bind_wrap (wpAny_mono h1 (fun _ s1' h1' => ?_) fun x s' hx => hE2 x s' hx)
    refine seg_bind_wrap (wpAny_mono h1' (fun _ s2 h2 => ?_) fun x s' hx => hE2 x s' hx)
    rw [Sem.bind_eq_wrap', Sem.wrap_wrap]
    rw [Sem.wrap_congr (execs body env) _ _ (K' := fun fl => match fl with
      | .next | .cont => .pure (.again (.forLoop tg it body [] env))
      | .brk => .pure (.done .next)
      | .ret x => .pure (.done (.ret x)))
      (H' := fun x => (do noteFrame x env; theTreesLotGoes x : Sem Unit).wrap (fun _ => .raise x) .raise id id) (fun fl => by cases fl <;> rfl)
      (fun x => by first | exact Sem.bind_eq_wrap _ _ | (show (do noteFrame x env; theTreesLotGoes x : Sem Unit).bind (fun _ => .raise x) = _; rw [Sem.bind_eq_wrap]))]
    exact h2
end
section
variable {X : Cx}
def tGFor (wi : TI) (g : TG) (tb : TGn) : TGn := fun D ys σ H => wi σ H fun J H1 => ∃ W : Nat → Nat → List V → L2.St → Hp → Prop, (∃ m, W 0 m ys σ H1) ∧ ∀ i m ys σ H, W i m ys σ H →
  (J.stop i H ∧ D.nx ys σ H) ∨ (J.go i H ∧ ∃ N : List V → L2.St → Hp → Prop, (∀ ys' σ' H', N ys' σ' H' → ∃ m', m' < m ∧ W (i + 1) m' ys' σ' H') ∧ ∀ x H', J.yld i H x H' → g x σ H' fun σ2 H2 => tb { D with nx := N, ct := N, bk := D.nx } ys σ2 H2)
theorem gs_for {tg iter : Expr} {body : List Stmt} {wi : TI} {gg : TG} {tb : TGn} {pos : Pos} (hp : PassesOwn (model X.prog X.w) X.A X.env X.xe) (hc : X.calm = true) (hi : PI X tg iter wi) (hg : PG X tg gg) (hb : GSs X body tb)
    (hs : ∀ x, foldedSetIterable iter X.env x = pure x := by intro _; rfl) : GS X (.For tg iter body [] pos) (tGFor wi gg tb) := by
  refine ⟨fun A S ip R n ys s₀ c fs K J gd lv s σ H D g hn k I0 ht => ?_⟩
  have hI := I0
  obtain ⟨acc, cc, r, I⟩ := hI
  refine seg_For ?_ hs
  rw [g.over]
  refine wpAny_mono (hi.run _ s σ H _ I ht) (fun v s1 h1 => wpAny_mono h1 (fun itv s2 h2 p => ?_) fun x s' hx => k.exc n s₀ x s' hx) fun x s' hx => k.exc n s₀ x s' hx
  obtain ⟨it, fp, tn, Jt, H2, e, I2, T, st2, f2, W, ⟨m0, w0⟩, turn⟩ := h2
  subst e
  have gl := fun (kk : Result → Sem PySem.Fin) => gc_loop (k := kk) (c' := .forLoop tg (.ref it) body [] X.env) (l := lv []) (kp := []) (p := p) g rfl rfl
  have stat : ∀ {H' : Hp} {a2 : Array Value} {c2 : Nat}, (∀ b ∈ fp, H' b = none) → ∀ b ∈ fp, FpOk X ((S, lstObj a2 c2) :: ip) H' b := fun {H' a2 c2} hn b hb => by
    obtain ⟨_, q1, q2, q3, q4, q5⟩ := f2 b hb
    refine ⟨hn b hb, q1, q2, q3, q4, fun p hp => ?_⟩
    rcases List.mem_append.mp hp with z | z
    · exact q5 p (List.mem_append_left _ z)
    · rcases List.mem_cons.mp z with z | z
      · rw [z]
        exact q5 (S, lstObj acc cc) (List.mem_append_right _ List.mem_cons_self)
      · exact q5 p (List.mem_append_right _ (List.mem_cons_of_mem _ z))
  have neS : ∀ b ∈ fp, b ≠ S := fun b hb z => by
    obtain ⟨_, _, _, _, _, q5⟩ := f2 b hb
    exact q5 (S, lstObj acc cc) (List.mem_append_right _ List.mem_cons_self) z.symm
  have loop : ∀ (m i n : Nat) (ys : List V) (s₀ s : Shared) (σ : L2.St) (H : Hp), n + ys.length = sizeLine → W i m ys σ H → GI X S ip ys σ H s → tn i s.heap → (∀ b ∈ fp, H b = none) →
      Seg (model X.prog X.w) A R (GY X S) n s₀ (.forLoop tg (.ref it) body [] X.env) ((model X.prog X.w).den (.forLoop tg (.ref it) body [] X.env))
        (.ret (fun rr => ((match rr with | .ok fl => (.pure fl : Sem Flow) | .error x => .raise x).onRaise (cameBack X.env)).wrap K J gd lv) none (gd false) (lv []) c p [] :: fs) s := by
    intro m
    induction m using Nat.strongRecOn with
    | ind m ih =>
      intro i n ys s₀ s σ H hn w hI st fr
      have ee : ∀ (n : Nat) (s₀ : Shared) (x : Value) (s' : Shared), X.xe x s' → Seg (model X.prog X.w) A R (GY X S) n s₀ (.forLoop tg (.ref it) body [] X.env)
          ((do noteFrame x X.env; theTreesLotGoes x : Sem Unit).wrap (fun _ => .raise x) .raise id id) (.ret (fun rr => ((match rr with | .ok fl => (.pure fl : Sem Flow) | .error x => .raise x).onRaise (cameBack X.env)).wrap K J gd lv) none (gd false) (lv []) c p [] :: fs) s' := fun n s₀ x s' hx => by
        refine seg_wrap ?_
        rw [(gl _).over]
        exact wpAny_bind (wpAny_mono (hp x s' hx) (fun _ _ cb => wpAny_theTreesLotGoes (seg_leaf (.error x) (seg_cameBack g k cb))) fun y _ cb => seg_leaf (.error y) (seg_cameBack g k cb))
      refine seg_forLoop (EE := X.xe) (ee n s₀) ?_
      rw [(gl _).over]
      obtain ⟨acc, cc, r, I⟩ := hI
      rcases turn i m ys σ H w with ⟨stop, qn⟩ | ⟨go, N, hN, step⟩
      · refine wpAny_mono (T.done X rfl rfl rfl hc i _ s σ H X.xe I (stat fr) st stop) (fun r4 s4 h4 => ?_) fun _ _ x => x
        obtain ⟨hr4, I4⟩ := h4
        subst hr4
        refine seg_again rfl ?_
        exact seg_leaf (.ok .next) (k.ok n ys s₀ s4 .next hn ⟨σ, H, ⟨acc, cc, r, I4⟩, qn⟩)
      · refine wpAny_mono (T.item X rfl rfl rfl hc i _ s σ H X.xe I (stat fr) st go) (fun r4 s4 h4 => ?_) fun _ _ x => x
        obtain ⟨u, hr4, h4⟩ := h4
        subst hr4
        refine wpAny_mono h4 (fun _ s5 h5 => ?_) fun _ _ x => x
        obtain ⟨x, H5, I5, r5, y5, st5, fr5⟩ := h5
        have J5 := I5.pinned (stat fr5) (T.obj _ _ st5)
        refine wpAny_mono (hg.run _ s5 σ H5 x u _ J5 r5 (step x H5 y5)) (fun _ s6 h6 => ?_) fun _ _ x => x
        obtain ⟨σ6, H6, I6, q6⟩ := h6
        have gl2 : ∀ kk : Result → Sem PySem.Fin, GC X S (ip ++ pinsAt fp s5.heap) A (.forLoop tg (.ref it) body [] X.env) (.ret kk none (gd false) (lv []) c p [] :: fs) id := fun kk => { gl kk with
          ip := fun p hp => by
            rcases List.mem_append.mp hp with z | z
            · exact g.ip p z
            · exact neS p.1 (of_pinsAt z).1 }
        have back : ∀ {ys7 : List V} {σ7 : L2.St} {H7 : Hp} {s7 : Shared}, GI X S (ip ++ pinsAt fp s5.heap) ys7 σ7 H7 s7 → GI X S ip ys7 σ7 H7 s7 ∧ tn (i + 1) s7.heap ∧ ∀ b ∈ fp, H7 b = none := fun {ys7 σ7 H7 s7} h7 => by
          obtain ⟨acc7, cc7, r7, I7⟩ := h7
          have I7' : Inv X (((S, lstObj acc7 cc7) :: ip) ++ pinsAt fp s5.heap) σ7 H7 s7 := I7
          refine ⟨⟨acc7, cc7, r7, I7'.unpinned⟩, T.keep _ _ _ st5 fun b hb o e => (I7'.pin (b, o) (List.mem_append_right _ (List.mem_append_right _ (mem_pinsAt hb e)))).1, fun b hb => ?_⟩
          obtain ⟨o, e, dd⟩ := T.obj _ _ st5 b hb
          exact (I7'.pin (b, o) (List.mem_append_right _ (List.mem_append_right _ (mem_pinsAt hb e)))).2.1
        refine hb.run A S (ip ++ pinsAt fp s5.heap) R n ys s₀ _ _ _ _ id id s6 σ6 H6 { D with nx := N, ct := N, bk := D.nx } (gl2 _) hn ⟨fun n' ys' s₀' s7 f hn' hs => ?_, fun n' s₀' x s3 hx => ee n' s₀' x s3 hx⟩ ⟨acc, cc, r, I6⟩ q6
        cases f with
        | next =>
          obtain ⟨σ7, H7, I7, n7⟩ := hs
          obtain ⟨m', hm, w7⟩ := hN ys' σ7 H7 n7
          obtain ⟨b1, b2, b3⟩ := back I7
          exact seg_again rfl (ih m' hm (i + 1) n' ys' s₀' s7 σ7 H7 hn' w7 b1 b2 b3)
        | cont =>
          obtain ⟨σ7, H7, I7, n7⟩ := hs
          obtain ⟨m', hm, w7⟩ := hN ys' σ7 H7 n7
          obtain ⟨b1, b2, b3⟩ := back I7
          exact seg_again rfl (ih m' hm (i + 1) n' ys' s₀' s7 σ7 H7 hn' w7 b1 b2 b3)
        | brk =>
          obtain ⟨σ7, H7, I7, q7⟩ := hs
          exact seg_leaf (.ok .next) (k.ok n' ys' s₀' s7 .next hn' ⟨σ7, H7, (back I7).1, q7⟩)
        | ret v =>
          obtain ⟨x7, σ7, H7, I7, r7, q7⟩ := hs
          exact seg_leaf (.ok (.ret v)) (k.ok n' ys' s₀' s7 (.ret v) hn' ⟨x7, σ7, H7, (back I7).1, r7, q7⟩)
  exact loop m0 0 n ys s₀ s2 σ H2 hn w0 ⟨acc, cc, r, I2⟩ st2 fun b hb => (f2 b hb).1
end
end GF

end
section
set_option autoImplicit false
set_option Elab.async false
set_option linter.all false
set_option maxRecDepth 100000
set_option maxHeartbeats 4000000
namespace CP
open PySem L2 G Y
abbrev sCPart : Stmt := inClass (S.top 11) 9
def dI (n : Nat) : PyData := .int ((n : Nat) : Int)
theorem dp_ints {K : PySem.W.Frag} {H : Hp} : ∀ l : List Nat, DpAll K H (ni l) (l.map dI)
  | [] => .nil
  | x :: l => .cons (.int _) (dp_ints l)
theorem lay_ints : ∀ l : List Nat, PyData.canLayAll0 (l.map dI) = true
  | [] => rfl
  | x :: l => lay_ints l
theorem deep_ints : ∀ l : List Nat, PyData.depthAll (l.map dI) = 0
  | [] => by simp only [List.map_nil, PyData.depthAll]
  | x :: l => by simp only [List.map_cons, PyData.depthAll, dI, PyData.depth, deep_ints l, Nat.max_self]
theorem shp_list (l : List Nat) : SeqAt.shaped (.list (l.map dI)) = true := by
  unfold SeqAt.shaped
  rw [show (PyData.list (l.map dI)).canLay0 = true by simp only [PyData.canLay0, lay_ints], Bool.true_and]
  refine decide_eq_true ?_
  simp only [PyData.depth, deep_ints]
  decide
theorem shp_tup (l : List Nat) : SeqAt.shaped (.tuple (l.map dI)) = true := by
  unfold SeqAt.shaped
  rw [show (PyData.tuple (l.map dI)).canLay0 = true by simp only [PyData.canLay0, lay_ints], Bool.true_and]
  refine decide_eq_true ?_
  simp only [PyData.depth, deep_ints]
  decide
theorem eqv_nil : ∀ l : List Nat, PyData.eqv (.list (l.map dI)) (.list []) = decide (l = [])
  | [] => by simp [PyData.eqv, PyData.eqvAll]
  | x :: l => by simp [PyData.eqv, PyData.eqvAll]
theorem eqv_tup (l : List Nat) : PyData.eqv (.tuple (l.map dI)) (.tuple (l.map dI)) = true := SeqAt.eqv_refl _ (by simp only [PyData.canLay0, lay_ints])
/-- a list beside a new empty one -/
theorem eq_nil {K : PySem.W.Frag} {H : Hp} {Q : VK} {D e : Addr} {l : List Nat} (hD : SqL K H D (ni l)) (he : SqL K H e []) (q : Q (.bl (decide (l = []))) H) : rEqD K (.ref D) (.ref e) H Q :=
  ⟨_, _, .lst hD (dp_ints l), .lst he .nil, shp_list l, by decide +kernel, by rw [eqv_nil]; exact q⟩
theorem ne_nil {K : PySem.W.Frag} {H : Hp} {Q : VK} {D e : Addr} {l : List Nat} (hD : SqL K H D (ni l)) (he : SqL K H e []) (q : Q (.bl (!decide (l = []))) H) : rNeD K (.ref D) (.ref e) H Q :=
  ⟨_, _, .lst hD (dp_ints l), .lst he .nil, shp_list l, by decide +kernel, by rw [eqv_nil]; exact q⟩
theorem ne_tups {K : PySem.W.Frag} {H : Hp} {Q : VK} {t u : Addr} {l : List Nat} (ht : SqT K H t (ni l)) (hu : SqT K H u (ni l)) (q : Q (.bl false) H) : rNeD K (.ref t) (.ref u) H Q :=
  ⟨_, _, .tup ht (dp_ints l), .tup hu (dp_ints l), shp_tup l, shp_tup l, by rw [eqv_tup]; exact q⟩
structure Mw (P : Program) (w : World) (K : PySem.W.Frag) (mg : Str → Option Value) (base : Heap) (C : Addr) : Prop where
  ex : ∃ (f : Addr) (fd : FuncData), FnOk P w K mg base CX0 4 f fd ["self", "cuts"] (spCInit C) ∧ Mk K C f ∧ Binds K fd ["self", "cuts"] []
structure Op (P : Program) (w : World) (K : PySem.W.Frag) (mg : Str → Option Value) (base : Heap) (C : Addr) (k : Nat) (m : Str) (ps : List Str) (sp : Sp) : Prop where
  ex : ∃ (f : Addr) (fd : FuncData), FnOk P w K mg base CX0 k f fd ps sp ∧ WO.Own K C f m ∧ Binds K fd ps [] ∧ PySem.W.fnIn K f = true
end CP

end
section
set_option autoImplicit false
set_option linter.all false
/-! ## periods of beginnings -/
namespace N
/-- f i = f (i + q) for n places from i on -/
def per (f : Nat → Bool) (q : Nat) : Nat → Nat → Bool
  | 0, _ => true
  | n + 1, i => (f i == f (i + q)) && per f q n (i + 1)
/-- q is a period of the first k places -/
def Pd (f : Nat → Bool) (k q : Nat) : Bool := per f q (k - q) 0
def lpF (f : Nat → Bool) (k : Nat) : Nat → Nat → Nat
  | 0, q => q
  | s + 1, q => if Pd f k q = true then q else lpF f k s (q + 1)
/-- the least period of the first k places -/
def lp (f : Nat → Bool) (k : Nat) : Nat := lpF f k (k - 1) 1
def nrmF (f : Nat → Bool) : Nat → Nat → List Nat
  | 0, _ => []
  | s + 1, n => if lp f n < n then lp f n :: nrmF f s (lp f n) else []
/-- the least period, that of the places below it, and so on -/
def nrm (f : Nat → Bool) (n : Nat) : List Nat := nrmF f n n
theorem per_iff {f : Nat → Bool} {q : Nat} : ∀ n i, per f q n i = true ↔ ∀ j, i ≤ j → j < i + n → f j = f (j + q)
  | 0, i => ⟨fun _ j h1 h2 => by omega, fun _ => rfl⟩
  | n + 1, i => by
    unfold per
    rw [Bool.and_eq_true, per_iff n (i + 1), beq_iff_eq]
    constructor
    · rintro ⟨a, b⟩ j h1 h2
      by_cases e : j = i
      · rw [e]
        exact a
      · exact b j (by omega) (by omega)
    · exact fun h => ⟨h i (Nat.le_refl _) (by omega), fun j h1 h2 => h j (by omega) (by omega)⟩
theorem pd_iff {f : Nat → Bool} {k q : Nat} : Pd f k q = true ↔ ∀ i, i + q < k → f i = f (i + q) := by
  unfold Pd
  rw [per_iff]
  exact ⟨fun h i hi => h i (Nat.zero_le _) (by omega), fun h i _ hi => h i (by omega)⟩
theorem pd_self (f : Nat → Bool) (k q : Nat) (h : k ≤ q) : Pd f k q = true := pd_iff.mpr fun i hi => by omega
theorem lpF_spec {f : Nat → Bool} {k : Nat} : ∀ s q, q ≤ lpF f k s q ∧ lpF f k s q ≤ q + s ∧ (∀ j, q ≤ j → j < lpF f k s q → Pd f k j = false) ∧ (lpF f k s q < q + s → Pd f k (lpF f k s q) = true)
  | 0, q => ⟨Nat.le_refl _, Nat.le_refl _, fun j h1 h2 => absurd (show j < q from h2) (by omega), fun h => absurd (show q < q + 0 from h) (by omega)⟩
  | s + 1, q => by
    unfold lpF
    by_cases c : Pd f k q = true
    · rw [if_pos c]
      exact ⟨Nat.le_refl _, by omega, fun j h1 h2 => by omega, fun _ => c⟩
    · rw [if_neg c]
      obtain ⟨h1, h2, h3, h4⟩ := lpF_spec (f := f) (k := k) s (q + 1)
      refine ⟨by omega, by omega, fun j j1 j2 => ?_, fun h => h4 (by omega)⟩
      by_cases e : j = q
      · rw [e]
        simpa using c
      · exact h3 j (by omega) j2
theorem lp_spec {f : Nat → Bool} {k : Nat} (h : 0 < k) : 1 ≤ lp f k ∧ lp f k ≤ k ∧ Pd f k (lp f k) = true ∧ ∀ q, 1 ≤ q → Pd f k q = true → lp f k ≤ q := by
  obtain ⟨h1, h2, h3, h4⟩ := lpF_spec (f := f) (k := k) (k - 1) 1
  refine ⟨h1, by unfold lp; omega, ?_, fun q q1 hq => ?_⟩
  · by_cases c : lpF f k (k - 1) 1 < 1 + (k - 1)
    · exact h4 c
    · exact pd_self f k _ (by unfold lp; omega)
  · by_cases c : lp f k ≤ q
    · exact c
    · have := h3 q q1 (by unfold lp at c; omega)
      rw [hq] at this
      cases this
theorem lp_zero (f : Nat → Bool) : lp f 0 = 1 := rfl
theorem lp_eq {f : Nat → Bool} {k r : Nat} (h : 0 < k) (r1 : 1 ≤ r) (hr : Pd f k r = true) (least : ∀ q, 1 ≤ q → q ≤ k → Pd f k q = true → r ≤ q) : lp f k = r := by
  obtain ⟨h1, h2, h3, h4⟩ := lp_spec (f := f) h
  exact Nat.le_antisymm (h4 r r1 hr) (least _ h1 h2 h3)
/-- what stands at the k-th place of the borders -/
def bd (f : Nat → Bool) (k : Nat) : Int := (k : Int) - (lp f k : Int)
/-- a candidate for the border behind k places -/
structure Cand (f : Nat → Bool) (k : Nat) (b : Int) : Prop where
  ok : b = -1 ∨ ∃ j : Nat, b = (j : Int) ∧ j < k ∧ Pd f k (k - j) = true
  all : ∀ j, j < k → Pd f k (k - j) = true → f j = f k → (j : Int) ≤ b
theorem cand_first (f : Nat → Bool) (k : Nat) : Cand f k (bd f k) := by
  by_cases h : k = 0
  · subst h
    exact ⟨.inl (by unfold bd; rw [lp_zero]; rfl), fun j hj => by omega⟩
  · obtain ⟨h1, h2, h3, h4⟩ := lp_spec (f := f) (k := k) (by omega)
    refine ⟨.inr ⟨k - lp f k, by unfold bd; omega, by omega, by rw [show k - (k - lp f k) = lp f k by omega]; exact h3⟩, fun j hj hp _ => ?_⟩
    have := h4 (k - j) (by omega) hp
    unfold bd
    omega
theorem cand_next {f : Nat → Bool} {k j : Nat} (h : Cand f k (j : Int)) (hne : f j ≠ f k) : j < k ∧ Cand f k (bd f j) := by
  obtain ⟨j', ej, hj, hp⟩ : ∃ j' : Nat, (j : Int) = (j' : Int) ∧ j' < k ∧ Pd f k (k - j') = true := by
    rcases h.ok with h | h
    · omega
    · exact h
  have e : j' = j := by omega
  subst e
  have hp := pd_iff.mp hp
  refine ⟨hj, ⟨?_, fun i hi hq he => ?_⟩⟩
  · by_cases z : j' = 0
    · left
      rw [z]
      unfold bd
      rw [lp_zero]
      rfl
    · obtain ⟨h1, h2, h3, h4⟩ := lp_spec (f := f) (k := j') (by omega)
      have h3 := pd_iff.mp h3
      refine .inr ⟨j' - lp f j', by unfold bd; omega, by omega, pd_iff.mpr fun i hi => ?_⟩
      have a := h3 i (by omega)
      have b := hp (i + lp f j') (by omega)
      rw [a, b]
      congr 1
      omega
  · have le := h.all i hi hq he
    have ne : i ≠ j' := fun z => hne (by rw [← z]; exact he)
    have hq := pd_iff.mp hq
    have per : Pd f j' (j' - i) = true := pd_iff.mpr fun x hx => by
      have a := hq x (by omega)
      have b := hp (x + (j' - i)) (by omega)
      rw [a, b]
      congr 1
      omega
    have := (lp_spec (f := f) (k := j') (by omega)).2.2.2 (j' - i) (by omega) per
    unfold bd
    omega
theorem cand_end {f : Nat → Bool} {k : Nat} {b : Int} (h : Cand f k b) (stop : b < 0 ∨ ∃ j : Nat, b = (j : Int) ∧ f j = f k) : b + 1 = bd f (k + 1) := by
  have key : ∀ r : Nat, 1 ≤ r → (b : Int) = (k : Int) - r → Pd f (k + 1) r = true → (∀ q, 1 ≤ q → q ≤ k + 1 → Pd f (k + 1) q = true → r ≤ q) → b + 1 = bd f (k + 1) := fun r r1 e hr hl => by
    unfold bd
    rw [lp_eq (Nat.succ_pos _) r1 hr hl]
    omega
  have low : ∀ q, 1 ≤ q → q ≤ k → Pd f (k + 1) q = true → ((k - q : Nat) : Int) ≤ b := fun q q1 q2 hq => by
    have hq := pd_iff.mp hq
    refine h.all (k - q) (by omega) (pd_iff.mpr fun i hi => ?_) ?_
    · rw [show k - (k - q) = q by omega]
      exact hq i (by omega)
    · rw [hq (k - q) (by omega)]
      congr 1
      omega
  rcases stop with stop | ⟨j, rfl, he⟩
  · have e : b = -1 := by
      rcases h.ok with h | ⟨j, h, _⟩
      · exact h
      · omega
    refine key (k + 1) (by omega) (by omega) (pd_self f _ _ (Nat.le_refl _)) fun q q1 q2 hq => ?_
    by_cases c : q ≤ k
    · have := low q q1 c hq
      omega
    · omega
  · rcases h.ok with h' | ⟨j', ej, hj, hp⟩
    · omega
    · have e : j' = j := by omega
      subst e
      have hp := pd_iff.mp hp
      refine key (k - j') (by omega) (by omega) (pd_iff.mpr fun i hi => ?_) fun q q1 q2 hq => ?_
      · by_cases c : i + (k - j') < k
        · exact hp i c
        · have e : i = j' := by omega
          subst e
          rw [he]
          congr 1
          omega
      · by_cases c : q ≤ k
        · have := low q q1 c hq
          omega
        · omega
theorem nrmF_eq {f : Nat → Bool} : ∀ n s, n ≤ s → nrmF f s n = nrmF f n n := by
  intro n
  induction n using Nat.strongRecOn with
  | ind n ih =>
    intro s hs
    cases n with
    | zero =>
      cases s with
      | zero => rfl
      | succ s =>
        unfold nrmF
        rw [if_neg (by rw [lp_zero]; omega)]
    | succ n =>
      cases s with
      | zero => omega
      | succ s =>
        unfold nrmF
        by_cases c : lp f (n + 1) < n + 1
        · rw [if_pos c, if_pos c, ih _ c s (by omega), ih _ c n (by omega)]
        · rw [if_neg c, if_neg c]
theorem nrm_step (f : Nat → Bool) (n : Nat) : nrm f n = if lp f n < n then lp f n :: nrm f (lp f n) else [] := by
  cases n with
  | zero => rw [if_neg (by rw [lp_zero]; omega)]; rfl
  | succ n =>
    show nrmF f (n + 1) (n + 1) = _
    rw [nrmF]
    by_cases c : lp f (n + 1) < n + 1
    · rw [if_pos c, if_pos c, nrmF_eq _ n (by omega)]
      rfl
    · rw [if_neg c, if_neg c]
theorem nrm_fall {f : Nat → Bool} : ∀ n, Fall (nrm f n) ∧ (∀ d ∈ nrm f n, d < n) ∧ (nrm f n).length ≤ n := by
  intro n
  induction n using Nat.strongRecOn with
  | ind n ih =>
    rw [nrm_step]
    by_cases c : lp f n < n
    · rw [if_pos c]
      obtain ⟨a, b, d⟩ := ih _ c
      have p := (lp_spec (f := f) (k := n) (by omega)).1
      refine ⟨⟨by omega, b, a⟩, fun e he => ?_, by rw [List.length_cons]; omega⟩
      rcases List.mem_cons.mp he with h | h
      · rw [h]
        exact c
      · have := b e h
        omega
    · rw [if_neg c]
      exact ⟨trivial, (fun _ h => by cases h), Nat.zero_le _⟩
end N

end
section
set_option autoImplicit false
set_option linter.all false
/-! ## periods of chains -/
namespace N
/-- whether a place is 0 or a boundary -/
def fm (cs : List Nat) (p : Nat) : Bool := decide (rem cs p = 0)
theorem fm_zero (cs : List Nat) : fm cs 0 = true := decide_eq_true (rem_zero cs)
theorem fm_head (c : Nat) (l : List Nat) (p : Nat) : fm (c :: l) (p + c) = fm (c :: l) p := by
  unfold fm
  rw [rem_cons, rem_cons, Nat.add_mod_right]
theorem fm_low {c : Nat} {l : List Nat} {p : Nat} (h : p < c) : fm (c :: l) p = fm l p := by
  unfold fm
  rw [rem_cons, Nat.mod_eq_of_lt h]
theorem pd_head (c : Nat) (l : List Nat) (k : Nat) : Pd (fm (c :: l)) k c = true := pd_iff.mpr fun i _ => (fm_head c l i).symm
theorem pd_congr {f g : Nat → Bool} {k q : Nat} (h : ∀ i, i < k → f i = g i) : Pd f k q = Pd g k q := by
  rw [Bool.eq_iff_iff, pd_iff, pd_iff]
  exact ⟨fun a i hi => by rw [← h i (by omega), ← h (i + q) hi]; exact a i hi, fun a i hi => by rw [h i (by omega), h (i + q) hi]; exact a i hi⟩
/-- where some place is one, some cut is a period -/
theorem pd_some : ∀ (cs : List Nat), Fall cs → ∀ n, (∃ p, 1 ≤ p ∧ p < n ∧ fm cs p = true) → ∃ c, 1 ≤ c ∧ c < n ∧ Pd (fm cs) n c = true
  | [], _, n, ⟨p, h1, h2, h3⟩ => by
    have : p = 0 := of_decide_eq_true h3
    omega
  | c :: l, hf, n, ⟨p, h1, h2, h3⟩ => by
    by_cases hc : c < n
    · exact ⟨c, hf.1, hc, pd_head c l n⟩
    · obtain ⟨d, d1, d2, d3⟩ := pd_some l hf.2.2 n ⟨p, h1, h2, by rw [← fm_low (c := c) (by omega)]; exact h3⟩
      exact ⟨d, d1, d2, by rw [pd_congr (g := fm l) fun i hi => fm_low (by omega)]; exact d3⟩
/-- the least period below n, if there is a place below n -/
theorem lp_lt {cs : List Nat} (hf : Fall cs) {n : Nat} : lp (fm cs) n < n ↔ ∃ p, 1 ≤ p ∧ p < n ∧ fm cs p = true := by
  constructor
  · intro h
    obtain ⟨h1, h2, h3, _⟩ := lp_spec (f := fm cs) (k := n) (by omega)
    refine ⟨_, h1, h, ?_⟩
    have := pd_iff.mp h3 0 (by omega)
    rw [fm_zero, Nat.zero_add] at this
    exact this.symm
  · intro h
    obtain ⟨c, c1, c2, c3⟩ := pd_some cs hf n h
    exact Nat.lt_of_le_of_lt ((lp_spec (f := fm cs) (k := n) (by omega)).2.2.2 c c1 c3) c2
/-- one place more than two first cuts tells no more -/
theorem lp_more {c : Nat} {l : List Nat} (hc : 0 < c) (m : Nat) (hm : 2 * c ≤ m) : lp (fm (c :: l)) m = lp (fm (c :: l)) (2 * c) := by
  have hcp := pd_head c l (2 * c)
  obtain ⟨h1, h2, h3, h4⟩ := lp_spec (f := fm (c :: l)) (k := 2 * c) (by omega)
  have le := h4 c hc hcp
  have h3' := pd_iff.mp h3
  refine lp_eq (by omega) h1 (pd_iff.mpr fun i hi => ?_) fun q q1 q2 hq => ?_
  · have back : ∀ x, fm (c :: l) x = fm (c :: l) (x % c) := fun x => by
      unfold fm
      rw [rem_cons, rem_cons, Nat.mod_mod]
    rw [back i, back (i + lp (fm (c :: l)) (2 * c)), h3' (i % c) (by have := Nat.mod_lt i hc; omega), back, Nat.mod_add_mod]
  · exact h4 q q1 (pd_iff.mpr fun i hi => pd_iff.mp hq i (by omega))
theorem nrm_more {c : Nat} {l : List Nat} (hc : 0 < c) (m : Nat) (hm : 2 * c ≤ m) : nrm (fm (c :: l)) m = nrm (fm (c :: l)) (2 * c) := by
  have hcp := pd_head c l (2 * c)
  have le := (lp_spec (f := fm (c :: l)) (k := 2 * c) (by omega)).2.2.2 c hc hcp
  rw [nrm_step, nrm_step (fm (c :: l)) (2 * c), lp_more hc m hm, if_pos (by omega), if_pos (by omega)]
theorem nrm_nil (n : Nat) : nrm (fm []) n = [] := by
  rw [nrm_step, if_neg]
  rw [lp_lt (cs := []) trivial]
  rintro ⟨p, h1, h2, h3⟩
  have : p = 0 := of_decide_eq_true h3
  omega
/-- so many places tell all -/
def hd (cs : List Nat) : Nat := match cs with | [] => 0 | c :: _ => c
theorem nrm_cuts {cs : List Nat} (hf : Fall cs) (hb : ∀ c ∈ cs, c ≤ 1000) {n : Nat} (hn : n ≤ 2 * hd cs) : ∀ d ∈ nrm (fm cs) n, d ≤ 1000 := by
  cases cs with
  | nil => rw [nrm_nil]; exact fun _ h => by cases h
  | cons c l =>
    have c1 := hb c List.mem_cons_self
    have hn : n ≤ 2 * c := hn
    rw [nrm_step]
    by_cases h : lp (fm (c :: l)) n < n
    · rw [if_pos h]
      have le : lp (fm (c :: l)) n ≤ c := (lp_spec (f := fm (c :: l)) (k := n) (by omega)).2.2.2 c hf.1 (pd_head c l n)
      intro d hd2
      rcases List.mem_cons.mp hd2 with e | e
      · omega
      · have := (nrm_fall (f := fm (c :: l)) (lp (fm (c :: l)) n)).2.1 d e
        omega
    · rw [if_neg h]
      exact fun _ h => by cases h
theorem fall_len : ∀ {l : List Nat} {m : Nat}, Fall l → (∀ d ∈ l, d ≤ m) → l.length ≤ m
  | [], _, _, _ => Nat.zero_le _
  | c :: r, m, f, h => by
    have h1 := h c List.mem_cons_self
    have := fall_len (l := r) (m := m - 1) f.2.2 fun d hd => by
      have := f.2.1 d hd
      omega
    have := f.1
    rw [List.length_cons]
    omega
end N

end
section
set_option autoImplicit false
set_option Elab.async false
set_option linter.all false
set_option maxRecDepth 100000
set_option maxHeartbeats 4000000
/-! ## borders, least_periods -/
namespace CP
open PySem L2 G Y
abbrev sLeastP : Stmt := S.top 16
abbrev sBorders : Stmt := S.top 17
/-- the borders of the first n - 1 places -/
def bl (f : Nat → Bool) (n : Nat) : List V := (List.range n).map fun k => V.int (N.bd f k)
theorem bl_len (f : Nat → Bool) (n : Nat) : (bl f n).length = n := by
  unfold bl
  rw [List.length_map, List.length_range]
theorem bl_snoc (f : Nat → Bool) (n : Nat) : bl f (n + 1) = bl f n ++ [.int (N.bd f n)] := by
  unfold bl
  rw [List.range_succ, List.map_append]
  rfl
theorem bl_at {f : Nat → Bool} {n k : Nat} (h : k < n) : (bl f n)[k]? = some (.int (N.bd f k)) := by
  unfold bl
  rw [List.getElem?_map, List.getElem?_range h]
  rfl
/-- marks -/
def bm (φ : Nat → Bool) (n : Nat) : List V := (List.range n).map fun p => V.bl (φ p)
theorem bm_len (φ : Nat → Bool) (n : Nat) : (bm φ n).length = n := by
  unfold bm
  rw [List.length_map, List.length_range]
theorem bm_at {φ : Nat → Bool} {n p : Nat} (h : p < n) : (bm φ n)[p]? = some (V.bl (φ p)) := by
  unfold bm
  rw [List.getElem?_map, List.getElem?_range h]
  rfl
theorem bl_beq (x y : Bool) : decide (V.bl x = V.bl y) = decide (x = y) := by
  cases x <;> cases y <;> rfl
theorem app_run {K : PySem.W.Frag} {σ : L2.St} {H : Hp} {D : Ends} {R : Addr} {xs : List V} {b : Int} (h1 : σ[1]? = some (some (.ref R))) (h3 : σ[3]? = some (some (.int b))) (hR : H R = some (.lst xs)) (hz : xs.length < sizeLine) (k : D.nx σ (upd H R (.lst (xs ++ [.int (b + 1)])))) :
    tDrop (tBM K "list" rAppend (tVar 1) (tCons (tOp (rI0 fun i j => .int (i + j)) (tVar 3) (tC (.int 1))) tNil)) D σ H :=
  ⟨_, h1, .inl ⟨rfl, _, SqL.of hR⟩, _, h3, _, _, rfl, rfl, R, _, _, rfl, rfl, hR, hz, k⟩
section
variable {P : Program} {w : World} {K : PySem.W.Frag} {mg : Str → Option Value} {base : Heap} {C : Addr}
def spBorders : Sp := fun vs H Q _ => ∃ (D : Addr) (n : Nat) (φ : Nat → Bool), vs = [.ref D] ∧ H D = some (.lst (bm φ n)) ∧ n ≤ 5000 ∧ ∀ E H', Same H H' → H' E = some (.lst (bl φ (n + 1))) → Q (.ref E) H'
theorem scBo : FnScope ["marks", "found", "mark", "border"] ["marks"] (defScope sBorders) := ⟨rfl, rfl, rfl, by decide +kernel, rfl, by decide +kernel, by decide +kernel⟩
theorem ok_borders {f : Addr} {fd : FuncData} (F : Fun K "borders" "borders" sBorders f fd) : FnOk P w K mg base CX0 1 f fd ["marks"] spBorders := by
  refine F.ok scBo (fun vs H Q E h => ?_) (fun cdv A outer s H vs Q E hr h => ?_)
  · obtain ⟨D, n, φ, rfl, _⟩ := h
    rfl
  · obtain ⟨D, n, φ, rfl, hD, hn, k⟩ := h
    refine ⟨_, pss_cons (ps_set (i := 1) scBo.nd rfl (Or.inl rfl) (pe_lst (pa_cons (pe_un un_neg pe_int) pa_nil)))
      (pss_cons (ps_for PassesOwn.never rfl (pi_list (pv 0)) (pg_name (i := 2) scBo.nd rfl (Or.inl rfl))
        (pss_cons (ps_set (i := 3) scBo.nd rfl (Or.inl rfl) (pe_ix ix_list (pv 1) (pe_un un_neg pe_int) (fun _ _ => rfl)))
        (pss_cons (ps_while PassesOwn.never (PW.pt (pw_and (pt_cmpR op_ge (pv 3) pe_int (nomark _)) (pw_and1 (pt_cmpR op_ne (pe_ix ix_list (pv 0) (pv 3) (fun _ _ => rfl)) (pv 2) (nomark _)))))
          (pss_one (ps_set (i := 3) scBo.nd rfl (Or.inl rfl) (pe_ix ix_list (pv 1) (pv 3) (fun _ _ => rfl)))))
        (pss_one (ps_expr (pe_bm PySem.F.plainAttrs_list PySem.F.slot_list_append PySem.F.type_list_append mt_append (pv 1) (pa_cons (pe_op op_add (pv 3) pe_int) pa_nil)))))))
      (pss_one (ps_ret (pv 1)))), ?_⟩
    refine set_then (i := 1) ⟨_, rfl, line2.2.2.1, fun R hR => ?_⟩
    have s0 : Same H (upd H R (.lst [.int (-1)])) := of_upd hR
    refine ⟨_, rfl, D, rfl, ⟨_, SqL.of (s0 _ _ hD)⟩, for_list (K := K) (a := D) (xs := bm φ n) (fun i σ G => Same H G ∧ G R = some (.lst (bl φ (i + 1))) ∧ ∃ q2 q3, σ = [some (.ref D), some (.ref R), q2, q3])
      ⟨s0, upd_same, _, _, rfl⟩ (fun i σ G _ z => SqL.of (z.1 _ _ hD)) ?_ ?_⟩
    · rintro i x σ G hx ⟨s1, hG, q2, q3, rfl⟩
      have hi : i < n := by
        have := (List.getElem?_eq_some_iff.mp hx).1
        rw [bm_len] at this
        exact this
      obtain rfl : x = .bl (φ i) := Option.some.inj (hx.symm.trans (bm_at hi))
      have hD1 := s1 _ _ hD
      refine set_then (i := 3) ⟨_, rfl, _, rfl, R, _, _, .int (N.bd φ i), rfl, rfl, SqL.of hG, by rw [bl_snoc]; exact atI_last _ _, ?_⟩
      refine ⟨fun m σ G' => G' = G ∧ ∃ b : Int, σ = [some (.ref D), some (.ref R), some (.bl (φ i)), some (.int b)] ∧ N.Cand φ i b ∧ m = (b + 1).toNat, ⟨_, rfl, _, rfl, N.cand_first _ _, rfl⟩, ?_⟩
      rintro m σ G' ⟨rfl, b, rfl, hb, rfl⟩
      have fin : b + 1 = N.bd φ (i + 1) → Same H (upd G' R (.lst (bl φ (i + 1) ++ [.int (b + 1)]))) ∧ (upd G' R (.lst (bl φ (i + 1) ++ [.int (b + 1)]))) R = some (.lst (bl φ (i + 1 + 1))) ∧ ∃ q2 q3, [some (V.ref D), some (.ref R), some (.bl (φ i)), some (.int b)] = [some (.ref D), some (.ref R), q2, q3] := fun e => by
        refine ⟨add_upd hR s1, ?_, _, _, rfl⟩
        rw [upd_same, bl_snoc _ (i + 1), e]
      have sz : (bl φ (i + 1)).length < sizeLine := by
        rw [bl_len]
        exact Nat.lt_of_le_of_lt (show i + 1 ≤ 5001 by omega) (by decide)
      refine ⟨_, rfl, _, _, rfl, rfl, _, rfl, ite2 (fun c => ?_) (fun c => ?_)⟩
      · have c2 : 0 ≤ b := of_decide_eq_true c
        obtain ⟨j, rfl⟩ := Int.eq_ofNat_of_zero_le c2
        have hj : j < i := by
          rcases hb.ok with h | ⟨j', e, h, _⟩
          · omega
          · omega
        refine ⟨_, rfl, _, rfl, D, _, _, .bl (φ j), rfl, rfl, SqL.of hD1, atI_nat (bm_at (by omega)), _, rfl, rfl, _, rfl, ?_⟩
        rw [bl_beq]
        by_cases e : φ j = φ i
        · rw [decide_eq_true e]
          exact iteF (app_run rfl rfl hG sz (fin (N.cand_end hb (.inr ⟨j, rfl, e⟩))))
        · rw [decide_eq_false e]
          obtain ⟨_, hb2⟩ := N.cand_next hb e
          refine iteT ⟨fun σ' G2 => G2 = G' ∧ σ' = [some (.ref D), some (.ref R), some (.bl (φ i)), some (.int (N.bd φ j))], fun σ' G2 z => ⟨(N.bd φ j + 1).toNat, ?_, z.1, _, z.2, hb2, rfl⟩, ?_⟩
          · by_cases z : j = 0
            · subst z
              unfold N.bd
              rw [N.lp_zero]
              decide
            · have := (N.lp_spec (f := φ) (k := j) (by omega)).1
              unfold N.bd
              omega
          · exact ⟨_, rfl, _, rfl, R, _, _, .int (N.bd φ j), rfl, rfl, SqL.of hG, atI_nat (bl_at (by omega)), rfl, rfl⟩
      · have c2 : ¬ 0 ≤ b := fun z => c (decide_eq_true z)
        exact iteF (app_run rfl rfl hG sz (fin (N.cand_end hb (.inl (by omega)))))
    · rintro σ G ⟨s1, hG, q2, q3, rfl⟩
      rw [bm_len] at hG
      exact ⟨_, rfl, k R G s1 hG⟩
def spLeastP : Sp := fun vs H Q _ => ∃ (D : Addr) (n : Nat) (φ : Nat → Bool), vs = [.ref D] ∧ H D = some (.lst (bm φ n)) ∧ n ≤ 5000 ∧ ∀ E H', Same H H' → H' E = some (.lst (ni (N.nrm φ n))) → Q (.ref E) H'
theorem scLp : FnScope ["marks", "found_borders", "length", "found"] ["marks"] (defScope sLeastP) := ⟨rfl, rfl, rfl, by decide +kernel, rfl, by decide +kernel, by decide +kernel⟩
theorem ok_leastp {f : Addr} {fd : FuncData} (F : Fun K "least_periods" "least_periods" sLeastP f fd) (B : Bn mg) (DB : Df P w K mg base 1 "borders" ["marks"] spBorders) : FnOk P w K mg base CX0 2 f fd ["marks"] spLeastP := by
  obtain ⟨fB, fdB, GB, gB, kB, bB⟩ := DB.ex
  refine F.ok scLp (fun vs H Q E h => ?_) (fun cdv A outer s H vs Q E hr h => ?_)
  · obtain ⟨D, n, φ, rfl, _⟩ := h
    rfl
  · obtain ⟨D, n, φ, rfl, hD, hn, k⟩ := h
    refine ⟨_, pss_cons (ps_set (i := 1) scLp.nd rfl (Or.inl rfl) (pe_call GB hr rfl gB kB bB .nil pass0 (pa_cons (pv 0) pa_nil)))
      (pss_cons (ps_set (i := 2) scLp.nd rfl (Or.inl rfl) (pe_callB call_len_seq (by rfl) B.len PySem.boot_len (pa_cons (pv 0) pa_nil)))
      (pss_cons (ps_set (i := 3) scLp.nd rfl (Or.inl rfl) (pe_lst pa_nil))
      (pss_cons (ps_while PassesOwn.never (pt_cmpR op_gt (pe_ix ix_list (pv 1) (pv 2) (fun _ _ => rfl)) pe_int (nomark _))
        (pss_cons (ps_set (i := 2) scLp.nd rfl (Or.inl rfl) (pe_op op_sub (pv 2) (pe_ix ix_list (pv 1) (pv 2) (fun _ _ => rfl))))
        (pss_one (ps_expr (pe_bm PySem.F.plainAttrs_list PySem.F.slot_list_append PySem.F.type_list_append mt_append (pv 3) (pa_cons (pv 2) pa_nil))))))
      (pss_one (ps_ret (pv 3)))))), ?_⟩
    refine set_then (i := 1) ⟨_, rfl, D, n, φ, rfl, hD, hn, fun R G s1 hR => ?_⟩
    refine set_then (i := 2) ⟨_, rfl, D, _, rfl, .inl (SqL.of (s1 _ _ hD)), ?_⟩
    rw [bm_len]
    refine set_then (i := 3) ⟨line2.2.2.2, fun R2 hR2 => ?_⟩
    have s2 : Same G (upd G R2 (.lst [])) := of_upd hR2
    refine ⟨fun m σ G2 => Same G G2 ∧ m ≤ n ∧ ∃ l : List Nat, σ = [some (.ref D), some (.ref R), some (.int (m : Int)), some (.ref R2)] ∧ G2 R2 = some (.lst (ni l)) ∧ l.length + m ≤ n ∧ N.nrm φ n = l ++ N.nrm φ m, ⟨n, s2, Nat.le_refl _, [], rfl, upd_same, by simp, rfl⟩, ?_⟩
    rintro m σ G2 ⟨s3, hm, l, rfl, hl, hlm, e⟩
    have hR3 := s3 _ _ hR
    have at1 : atI (bl φ (n + 1)) (m : Int) = some (.int (N.bd φ m)) := atI_nat (bl_at (by omega))
    refine ⟨_, rfl, _, rfl, R, _, _, .int (N.bd φ m), rfl, rfl, SqL.of hR3, at1, _, _, rfl, rfl, _, rfl, ?_⟩
    rw [N.nrm_step φ m] at e
    by_cases c : N.lp φ m < m
    · rw [if_pos c] at e
      rw [decide_eq_true (show (0 : Int) < N.bd φ m by unfold N.bd; omega)]
      refine iteT ⟨fun σ' G' => Same G G' ∧ N.lp φ m ≤ n ∧ ∃ l : List Nat, σ' = [some (.ref D), some (.ref R), some (.int ((N.lp φ m : Nat) : Int)), some (.ref R2)] ∧ G' R2 = some (.lst (ni l)) ∧ l.length + N.lp φ m ≤ n ∧ N.nrm φ n = l ++ N.nrm φ (N.lp φ m), fun σ' G' z => ⟨_, c, z⟩, ?_⟩
      refine set_then (i := 2) ⟨_, rfl, _, rfl, _, rfl, R, _, _, .int (N.bd φ m), rfl, rfl, SqL.of hR3, at1, _, _, rfl, rfl, ?_⟩
      have e2 : (m : Int) - N.bd φ m = ((N.lp φ m : Nat) : Int) := by unfold N.bd; omega
      dsimp only
      rw [e2]
      refine ⟨_, rfl, .inl ⟨rfl, _, SqL.of hl⟩, _, rfl, R2, _, _, rfl, rfl, hl, ?_, add_upd hR2 s3, by omega, l ++ [N.lp φ m], rfl, ?_, ?_, ?_⟩
      · rw [ni_len]
        exact Nat.lt_of_le_of_lt (show l.length ≤ 5000 by omega) (by decide)
      · rw [upd_same, ni_app]
        rfl
      · rw [List.length_append, List.length_singleton]
        omega
      · rw [e, List.append_assoc]
        rfl
    · rw [if_neg c] at e
      rw [decide_eq_false (show ¬ (0 : Int) < N.bd φ m by unfold N.bd; omega)]
      rw [List.append_nil] at e
      refine iteF ⟨_, rfl, k R2 G2 (s1.trans s3) ?_⟩
      rw [e]
      exact hl
end
end CP

end
section
set_option autoImplicit false
set_option linter.all false
/-! ## stretches and their ends -/
namespace N
/-- how far a place lies behind the begin of its stretch -/
def off : List Nat → Nat → Nat
  | [], p => p
  | s :: r, p => if p < s then p else off r (p - s)
/-- whether a stretch begins at a place -/
def st (ss : List Nat) (p : Nat) : Bool := off ss p == 0
theorem off_lt {s p : Nat} (r : List Nat) (h : p < s) : off (s :: r) p = p := by
  rw [off, if_pos h]
theorem off_ge {s p : Nat} (r : List Nat) (h : s ≤ p) : off (s :: r) p = off r (p - s) := by
  rw [off, if_neg (by omega)]
theorem off_app : ∀ (a b : List Nat) (p : Nat), a.sum ≤ p → off (a ++ b) p = off b (p - a.sum)
  | [], b, p, _ => rfl
  | s :: a, b, p, h => by
    rw [List.sum_cons] at h ⊢
    rw [List.cons_append, off_ge _ (by omega), off_app a b (p - s) (by omega)]
    congr 1
    omega
theorem off_cu {c : Nat} (h : 0 < c) (X : List Nat) : ∀ (s p : Nat), p < s → off (cu c s ++ X) p = p % c := by
  intro s
  induction s using Nat.strongRecOn with
  | ind s ih =>
    intro p hp
    by_cases h2 : c < s
    · rw [cu_lt h h2, List.cons_append]
      by_cases h3 : p < c
      · rw [off_lt _ h3, Nat.mod_eq_of_lt h3]
      · rw [off_ge _ (by omega), ih (s - c) (by omega) (p - c) (by omega), ← Nat.mod_eq_sub_mod (by omega)]
    · rw [cu_le (by omega), List.singleton_append, off_lt _ hp, Nat.mod_eq_of_lt (by omega)]
theorem off_flat {c : Nat} (h : 0 < c) : ∀ (ss : List Nat) (p : Nat), p < ss.sum → off (ss.flatMap (cu c)) p = off ss p % c
  | [], p, hp => by simp at hp
  | s :: r, p, hp => by
    rw [List.sum_cons] at hp
    rw [List.flatMap_cons]
    by_cases h2 : p < s
    · rw [off_cu h _ s p h2, off_lt _ h2]
    · rw [off_app _ _ _ (by rw [cu_sum h]; omega), cu_sum h, off_flat h r _ (by omega), off_ge _ (by omega)]
theorem off_pt : ∀ {cs : List Nat}, (∀ c ∈ cs, 0 < c) → ∀ (ss : List Nat) (p : Nat), p < ss.sum → off (pt cs ss) p = rem cs (off ss p)
  | [], _, ss, p, _ => rfl
  | c :: r, f, ss, p, hp => by
    have hc := f c List.mem_cons_self
    show off (pt r (ss.flatMap (cu c))) p = _
    rw [off_pt (fun d hd => f d (List.mem_cons_of_mem _ hd)) _ p (by rw [flat_sum hc]; exact hp), off_flat hc ss p hp, rem_cons]
theorem st_pt {cs : List Nat} (f : ∀ c ∈ cs, 0 < c) {n p : Nat} (hp : p < n) : st (pt cs [n]) p = fm cs p := by
  unfold st fm
  rw [off_pt f [n] p (by simpa using hp), off_lt _ hp]
  rfl
theorem st_zero {s : Nat} (r : List Nat) (h : 0 < s) : st (s :: r) 0 = true := by
  unfold st
  rw [off_lt _ h]
  rfl
theorem st_inj : ∀ {a b : List Nat}, (∀ s ∈ a, 0 < s) → (∀ s ∈ b, 0 < s) → a.sum = b.sum → (∀ p, p < a.sum → st a p = st b p) → a = b
  | [], [], _, _, _, _ => rfl
  | [], s :: r, _, hb, h, _ => by
    have := hb s List.mem_cons_self
    simp at h
    omega
  | s :: r, [], ha, _, h, _ => by
    have := ha s List.mem_cons_self
    simp at h
    omega
  | s :: a, t :: b, ha, hb, h, hp => by
    have s0 := ha s List.mem_cons_self
    have t0 := hb t List.mem_cons_self
    have ha' : ∀ x ∈ a, 0 < x := fun x hx => ha x (List.mem_cons_of_mem _ hx)
    have hb' : ∀ x ∈ b, 0 < x := fun x hx => hb x (List.mem_cons_of_mem _ hx)
    rw [List.sum_cons, List.sum_cons] at h
    have first : ∀ {s t : Nat} {a b : List Nat}, 0 < s → s < t → (∀ x ∈ a, 0 < x) → s + a.sum = t + b.sum → (∀ p, p < s + a.sum → st (s :: a) p = st (t :: b) p) → False := fun {s t a b} s0 lt ha h hp => by
      have := hp s (by omega)
      unfold st at this
      rw [off_ge _ (Nat.le_refl s), off_lt _ lt, Nat.sub_self] at this
      cases a with
      | nil => simp at h; omega
      | cons x a =>
        rw [off_lt _ (ha x List.mem_cons_self)] at this
        have e : s = 0 := by simpa using this
        omega
    rw [List.sum_cons] at hp
    have e : s = t := by
      rcases Nat.lt_trichotomy s t with q | q | q
      · exact (first s0 q ha' h hp).elim
      · exact q
      · exact (first t0 q hb' h.symm fun p h2 => (hp p (by omega)).symm).elim
    subst e
    rw [st_inj ha' hb' (by omega) fun p h2 => by
      have := hp (s + p) (by omega)
      unfold st at this ⊢
      rw [off_ge _ (by omega), off_ge _ (by omega), Nat.add_sub_cancel_left] at this
      exact this]
theorem off_at : ∀ (row : List Nat) (i s j : Nat), row[i]? = some s → j < s → off row ((row.take i).sum + j) = j
  | [], i, s, j, h, _ => by cases i <;> cases h
  | x :: r, 0, s, j, h, hj => by
    cases h
    simp [off_lt _ hj]
  | x :: r, i + 1, s, j, h, hj => by
    rw [List.take_succ_cons, List.sum_cons, off_ge _ (by omega), show x + (r.take i).sum + j - x = (r.take i).sum + j by omega]
    exact off_at r i s j h hj
/-! ### a row of periods that stops too early -/
def an (φ : Nat → Bool) (n : Nat) : Bool := (List.range n).any fun p => decide (1 ≤ p) && φ p
theorem an_iff {φ : Nat → Bool} {n : Nat} : an φ n = true ↔ ∃ p, 1 ≤ p ∧ p < n ∧ φ p = true := by
  unfold an
  rw [List.any_eq_true]
  constructor
  · rintro ⟨p, h1, h2⟩
    rw [Bool.and_eq_true, decide_eq_true_iff] at h2
    exact ⟨p, h2.1, List.mem_range.mp h1, h2.2⟩
  · rintro ⟨p, h1, h2, h3⟩
    exact ⟨p, List.mem_range.mpr h2, by rw [Bool.and_eq_true, decide_eq_true_iff]; exact ⟨h1, h3⟩⟩
def skF (φ : Nat → Bool) : Nat → Nat → Bool
  | 0, _ => false
  | s + 1, n => if lp φ n < n then skF φ s (lp φ n) else an φ n
/-- whether a place is left where there is no period any more -/
def sk (φ : Nat → Bool) (n : Nat) : Bool := skF φ n n
theorem skF_eq {φ : Nat → Bool} : ∀ n s, n ≤ s → skF φ s n = skF φ n n := by
  intro n
  induction n using Nat.strongRecOn with
  | ind n ih =>
    intro s hs
    cases n with
    | zero =>
      cases s with
      | zero => rfl
      | succ s =>
        unfold skF
        rw [if_neg (by rw [lp_zero]; omega)]
        rfl
    | succ n =>
      cases s with
      | zero => omega
      | succ s =>
        unfold skF
        by_cases c : lp φ (n + 1) < n + 1
        · rw [if_pos c, if_pos c, ih _ c s (by omega), ih _ c n (by omega)]
        · rw [if_neg c, if_neg c]
theorem sk_step (φ : Nat → Bool) (n : Nat) : sk φ n = if lp φ n < n then sk φ (lp φ n) else an φ n := by
  cases n with
  | zero => rw [if_neg (by rw [lp_zero]; omega)]; rfl
  | succ n =>
    show skF φ (n + 1) (n + 1) = _
    rw [skF]
    by_cases c : lp φ (n + 1) < n + 1
    · rw [if_pos c, if_pos c, skF_eq _ n (by omega)]
      rfl
    · rw [if_neg c, if_neg c]
theorem nrm_tells {φ : Nat → Bool} (h0 : φ 0 = true) : ∀ n, sk φ n = false → ∀ p, p < n → φ p = fm (nrm φ n) p := by
  intro n
  induction n using Nat.strongRecOn with
  | ind n ih =>
    intro hs p hp
    rw [sk_step] at hs
    rw [nrm_step]
    by_cases c : lp φ n < n
    · rw [if_pos c] at hs ⊢
      obtain ⟨h1, h2, h3, h4⟩ := lp_spec (f := φ) (k := n) (by omega)
      have per := pd_iff.mp h3
      have back : ∀ k i, i + k * lp φ n < n → φ i = φ (i + k * lp φ n) := by
        intro k
        induction k with
        | zero => intro i _; rw [Nat.zero_mul, Nat.add_zero]
        | succ k ik =>
          intro i hi
          rw [Nat.add_mul, Nat.one_mul] at hi ⊢
          rw [ik i (by omega), per (i + k * lp φ n) (by omega)]
          congr 1
          omega
      have e := Nat.mod_add_div p (lp φ n)
      rw [Nat.mul_comm] at e
      have := back (p / lp φ n) (p % lp φ n) (by omega)
      rw [e] at this
      have ml := Nat.mod_lt p (show 0 < lp φ n by omega)
      rw [← this, ih _ c hs (p % lp φ n) ml]
      unfold fm
      rw [rem_cons]
    · rw [if_neg c] at hs ⊢
      unfold fm
      rw [rem_nil]
      by_cases z : p = 0
      · rw [z, h0]
        rfl
      · rw [decide_eq_false z]
        cases e : φ p with
        | false => rfl
        | true =>
          rw [an_iff.mpr ⟨p, by omega, hp, e⟩] at hs
          cases hs
theorem lp_congr {φ ψ : Nat → Bool} {n : Nat} (h : ∀ i, i < n → φ i = ψ i) (hn : 0 < n) : lp φ n = lp ψ n := by
  obtain ⟨h1, h2, h3, h4⟩ := lp_spec (f := ψ) (k := n) hn
  exact lp_eq hn h1 (by rw [pd_congr h]; exact h3) fun q q1 _ hq => h4 q q1 (by rw [← pd_congr h]; exact hq)
theorem chain_sk {φ : Nat → Bool} {cs : List Nat} (hf : Fall cs) : ∀ n, (∀ p, p < n → φ p = fm cs p) → sk φ n = false := by
  intro n
  induction n using Nat.strongRecOn with
  | ind n ih =>
    intro h
    rw [sk_step]
    by_cases c : lp φ n < n
    · rw [if_pos c]
      exact ih _ c fun p hp => h p (by omega)
    · rw [if_neg c]
      cases e : an φ n with
      | false => rfl
      | true =>
        exfalso
        obtain ⟨p, h1, h2, h3⟩ := an_iff.mp e
        apply c
        rw [lp_congr h (by omega), lp_lt hf]
        exact ⟨p, h1, h2, by rw [← h p h2]; exact h3⟩
/-- what is parted so: just if no place is left -/
theorem parts_so {row : List Nat} (h : ∀ s ∈ row, 0 < s) (hr : row ≠ []) : pt (nrm (st row) row.sum) [row.sum] = row ↔ sk (st row) row.sum = false := by
  have h0 : st row 0 = true := by
    cases row with
    | nil => exact (hr rfl).elim
    | cons s r => exact st_zero r (h s List.mem_cons_self)
  have hsum : 0 < row.sum := by
    cases row with
    | nil => exact (hr rfl).elim
    | cons s r =>
      have := h s List.mem_cons_self
      rw [List.sum_cons]
      omega
  obtain ⟨f1, f2, f3⟩ := nrm_fall (f := st row) row.sum
  constructor
  · intro e
    refine chain_sk f1 _ fun p hp => ?_
    rw [← st_pt f1.pos hp, e]
  · intro e
    refine st_inj (pt_pos f1.pos _ (by simpa using hsum)) h ((pt_sum f1.pos _).trans (by simp)) fun p hp => ?_
    rw [pt_sum f1.pos] at hp
    have hp : p < row.sum := by simpa using hp
    rw [st_pt f1.pos hp, nrm_tells h0 _ e p hp]
end N

end
section
set_option autoImplicit false
set_option Elab.async false
set_option linter.all false
set_option maxRecDepth 100000
set_option maxHeartbeats 4000000
/-! ## parted: a generator -/
namespace GF
open PySem L2 GenW
theorem gfor_range {lo : Int} {n : Nat} {g : TG} {tb : TGn} {D : GEnds} {ys : List V} {σ : L2.St} {H : Hp} (Pv : Nat → List V → L2.St → Hp → Prop) (h0 : Pv 0 ys σ H)
    (hs : ∀ i ys σ H, i < n → Pv i ys σ H → g (.int (lo + i)) σ H fun σ2 H2 => tb { D with nx := Pv (i + 1), ct := Pv (i + 1), bk := D.nx } ys σ2 H2) (hd : ∀ ys σ H, Pv n ys σ H → D.nx ys σ H) :
    ∃ W : Nat → Nat → List V → L2.St → Hp → Prop, (∃ m, W 0 m ys σ H) ∧ ∀ i m ys σ H, W i m ys σ H →
      ((Itr lo n).stop i H ∧ D.nx ys σ H) ∨ ((Itr lo n).go i H ∧ ∃ N : List V → L2.St → Hp → Prop, (∀ ys' σ' H', N ys' σ' H' → ∃ m', m' < m ∧ W (i + 1) m' ys' σ' H') ∧ ∀ x H', (Itr lo n).yld i H x H' → g x σ H' fun σ2 H2 => tb { D with nx := N, ct := N, bk := D.nx } ys σ2 H2) := by
  refine ⟨fun i m ys σ H => m = n - i ∧ i ≤ n ∧ Pv i ys σ H, ⟨n, by simp, Nat.zero_le _, h0⟩, ?_⟩
  rintro i m ys σ H ⟨rfl, hi, p⟩
  by_cases hlt : i < n
  · refine .inr ⟨hlt, Pv (i + 1), fun ys' σ' H' p' => ⟨n - (i + 1), by omega, rfl, hlt, p'⟩, fun x H' y => ?_⟩
    obtain ⟨e, y⟩ := y
    subst e y
    exact hs i ys σ _ hlt p
  · have e : i = n := by omega
    subst e
    exact .inl ⟨Nat.le_refl _, hd ys σ H p⟩
theorem passG {X : Cx} : Passes (CX X.prog X.w) X E0 := fun pins σ H s e s' I hc => by
  obtain ⟨_, _, _, _, _, _, _, _, _, _, _, _, hW⟩ := hc
  exact hW.elim
theorem noStop0 {K : PySem.W.Frag} : NoStop K E0 := fun _ _ _ h => h.elim
end GF
namespace CP
open PySem L2 G Y GenW
section
variable {P : Program} {w : World} {K : PySem.W.Frag} {mg : Str → Option Value} {base : Heap} {C : Addr}
def spCPart (C : Addr) : SpG := fun vs H cont _ => ∃ (a : Addr) (b : Nat) (cs : List Nat), vs = [.ref a, .int (b : Int)] ∧ ChAt C H cs a ∧ Cuts cs ∧ 0 < b ∧ b ≤ 1000 ∧ ∀ H', Same H H' → cont (ni (N.pt cs [b])) H'
abbrev NPt : List Str := ["self", "body", "start", "number", "end"]
theorem scPt : GScope NPt ["self", "body"] (defScope sCPart) := ⟨rfl, rfl, rfl, by decide +kernel, rfl, by decide +kernel, by decide +kernel⟩
structure Mg (P : Program) (w : World) (K : PySem.W.Frag) (mg : Str → Option Value) (base : Heap) (C : Addr) (k : Nat) (m : Str) (ps : List Str) (sp : SpG) : Prop where
  ex : ∃ (f : Addr) (fd : FuncData), GFn P w K mg base k f fd ps sp ∧ Meth K C m f ∧ Binds K fd ps []
theorem ok_cpart {f : Addr} {fd : FuncData} (F : Fun K "parted" "Chain.parted" sCPart f fd) (B : Bn mg) (T : Ct K mg C) (MP : Me P w K mg base C 2 "pieces" ["self", "body"] (spCPieces C)) (MB : Me P w K mg base C 1 "_boundary" ["self", "number"] (spCBound C)) : GFn P w K mg base 3 f fd ["self", "body"] (spCPart C) := by
  obtain ⟨fP, fdP, GP, mP, bP⟩ := MP.ex
  obtain ⟨fB, fdB, GB, mB, bB⟩ := MB.ex
  obtain ⟨oc, od, kV, dc, pm, an, cdv, ct, os, rfl, lk, hcd⟩ := F.ex
  refine gfn_of lk hcd scPt (fun vs H Q E h => ?_) (fun A outer s H vs Q E pn hr h => ?_)
  · obtain ⟨a, b, cs, rfl, _⟩ := h
    rfl
  · obtain ⟨a, b, cs, rfl, hc, hl, hb, hb2, k⟩ := h
    have r1 := hr.mono (by decide : 1 ≤ 2)
    refine ⟨_, gss_cons (gs_ps (ps_set (i := 2) scPt.nd rfl (Or.inl rfl) pe_int))
      (gss_cons (GF.gs_for owns_gcx rfl (pi_range2 (by rfl) B.range (pa_cons pe_int (pa_cons (pe_meth (pv 0) T.cl mP GP hr bP .nil pass0 (pa_cons (pv 1) pa_nil)) pa_nil))) (pg_name (i := 3) scPt.nd rfl (Or.inl rfl))
        (gss_cons (gs_ps (ps_set (i := 4) scPt.nd rfl (Or.inl rfl) (pe_meth (pv 0) T.cl mB GB r1 bB .nil pass0 (pa_cons (pv 3) pa_nil))))
        (gss_cons (gs_yield (pe_op op_sub (pv 4) (pv 2)))
        (gss_cons (gs_ps (ps_set (i := 2) scPt.nd rfl (Or.inl rfl) (pv 4))) gss_nil))))
      (gss_cons (gs_yield (pe_op op_sub (pv 1) (pv 2))) gss_nil)), ?_⟩
    obtain ⟨dx, fs, i1, i2⟩ := hc.ins nk2.1
    have hL := N.L_pos cs hl.fall b hb
    have hLb := N.L_le hl.fall hb
    have ePC : N.PC cs b = N.L cs b := if_neg (by omega)
    refine ⟨_, rfl, a, dx, fs, rfl, i1, i2, _, rfl, a, b, cs, rfl, hc, hl, fun G0 s0 => ?_⟩
    rw [ePC]
    refine ⟨_, _, rfl, ⟨by decide, by decide, by omega, by omega⟩, ?_⟩
    have hn : (((N.L cs b : Nat) : Int) - 1).toNat = N.L cs b - 1 := by omega
    rw [hn]
    refine GF.gfor_range (fun i ys σ G => Same H G ∧ ys = ni ((N.pt cs [b]).take i) ∧ ∃ q1 q2, σ = [some (.ref a), some (.int (b : Int)), some (.int ((N.B cs i : Nat) : Int)), q1, q2])
      ⟨s0, rfl, _, _, by rw [N.B_zero]; rfl⟩ ?_ ?_
    · rintro i ys σ G hi ⟨s1, rfl, q1, q2, rfl⟩
      obtain ⟨x, hx, ex⟩ := N.pt_at hl.fall hb (i := i) (by omega)
      rw [if_pos (by omega)] at ex
      obtain ⟨dx, fs, i1, i2⟩ := (hc.mono s1).ins nk2.2.1
      refine ⟨_, rfl, a, dx, fs, rfl, i1, i2, _, rfl, a, i + 1, cs, ?_, hc.mono s1, hl, fun G2 s2 => ?_⟩
      · show [V.ref a, V.int (1 + (i : Int))] = _
        rw [show 1 + (i : Int) = ((i + 1 : Nat) : Int) by omega]
      · refine ⟨?_, _, rfl, _, rfl, _, _, rfl, rfl, ?_⟩
        · rw [ni_len]
          have := List.length_take_le i (N.pt cs [b])
          exact small1000 (by omega)
        · refine ⟨_, rfl, s1.trans s2, ?_, _, _, rfl⟩
          rw [take_snoc hx, ni_app]
          show _ ++ [V.int (((N.B cs (i + 1) : Nat) : Int) - ((N.B cs i : Nat) : Int))] = _ ++ [V.int (x : Int)]
          rw [show ((N.B cs (i + 1) : Nat) : Int) - ((N.B cs i : Nat) : Int) = (x : Int) by omega]
    · rintro ys σ G ⟨s1, rfl, q1, q2, rfl⟩
      obtain ⟨x, hx, ex⟩ := N.pt_at hl.fall hb (i := N.L cs b - 1) (by omega)
      rw [if_neg (by omega)] at ex
      refine ⟨?_, _, rfl, _, rfl, _, _, rfl, rfl, ?_⟩
      · rw [ni_len]
        have := List.length_take_le (N.L cs b - 1) (N.pt cs [b])
        exact small1000 (by omega)
      · have := k G s1
        have e1 := take_snoc hx
        rw [List.take_of_length_le (by rw [(N.pt_L cs hl.fall b hb).1]; omega)] at e1
        rw [e1, ni_app] at this
        have this : Q (ni ((N.pt cs [b]).take (N.L cs b - 1)) ++ [V.int (x : Int)]) G := this
        rw [show (x : Int) = (b : Int) - ((N.B cs (N.L cs b - 1) : Nat) : Int) by omega] at this
        exact this
end
end CP

end
section
set_option autoImplicit false
set_option Elab.async false
set_option linter.all false
set_option maxRecDepth 100000
set_option maxHeartbeats 4000000
/-! ## shown -/
namespace CP
open PySem L2 G Y
abbrev sShMarks : Stmt := S.top 24
abbrev sAreStr : Stmt := S.top 23
abbrev sShown : Stmt := S.top 21
/-- stretches -/
structure Stz (row : List Nat) : Prop where
  pos : ∀ s ∈ row, 0 < s
  ne : row ≠ []
  len : row.length ≤ 100
  sum : row.sum ≤ 300
theorem Stz.le {row : List Nat} (h : Stz row) {s : Nat} (hs : s ∈ row) : s ≤ 300 := by
  have : ∀ (l : List Nat), s ∈ l → s ≤ l.sum := by
    intro l
    induction l with
    | nil => intro z; cases z
    | cons x l ih =>
      intro z
      rw [List.sum_cons]
      rcases List.mem_cons.mp z with e | e
      · omega
      · have := ih e
        omega
  exact Nat.le_trans (this _ hs) h.sum
theorem take_sum {row : List Nat} {i s : Nat} (h : row[i]? = some s) : (row.take (i + 1)).sum = (row.take i).sum + s := by
  rw [take_snoc h, List.sum_append]
  simp
theorem take_le : ∀ (row : List Nat) (i : Nat), (row.take i).sum ≤ row.sum
  | [], i => by simp
  | x :: r, 0 => by simp
  | x :: r, i + 1 => by
    have := take_le r i
    simp
    omega
theorem bm_next {row : List Nat} {i s : Nat} (h : row[i]? = some s) (hs : 0 < s) : (bm (N.st row) (row.take i).sum ++ [V.bl true]) ++ (List.replicate (s - 1) [V.bl false]).flatten = bm (N.st row) (row.take (i + 1)).sum := by
  rw [take_sum h]
  have e1 : (List.replicate (s - 1) [V.bl false]).flatten = List.replicate (s - 1) (V.bl false) := by
    induction (s - 1) with
    | zero => rfl
    | succ k ih => rw [List.replicate_succ, List.flatten_cons, ih, List.replicate_succ]; rfl
  rw [e1]
  apply List.ext_getElem?
  intro p
  generalize ha : (row.take i).sum = a
  have at1 : ∀ j, j < s → N.st row (a + j) = (j == 0) := fun j hj => by
    unfold N.st
    rw [← ha, N.off_at row i s j h hj]
  by_cases h1 : p < a
  · rw [List.append_assoc, List.getElem?_append_left (by rw [bm_len]; exact h1), bm_at h1, bm_at (by omega)]
  · by_cases h2 : p < a + s
    · rw [bm_at h2, show p = a + (p - a) by omega, at1 (p - a) (by omega), List.append_assoc, List.getElem?_append_right (by rw [bm_len]; omega), bm_len, Nat.add_sub_cancel_left]
      by_cases h3 : p - a = 0
      · rw [h3]
        rfl
      · rw [List.singleton_append]
        obtain ⟨k, hk⟩ : ∃ k, p - a = k + 1 := ⟨p - a - 1, by omega⟩
        rw [hk, List.getElem?_cons_succ, List.getElem?_replicate_of_lt (by omega)]
        rfl
    · rw [List.getElem?_eq_none (by simp [bm_len]; omega), List.getElem?_eq_none (by rw [bm_len]; omega)]
section
variable {P : Program} {w : World} {K : PySem.W.Frag} {mg : Str → Option Value} {base : Heap} {C : Addr}
def spShMarks : Sp := fun vs H Q _ => ∃ (D : Addr) (row : List Nat), vs = [.ref D] ∧ H D = some (.lst (ni row)) ∧ Stz row ∧ ∀ R H', Same H H' → H' R = some (.lst (bm (N.st row) row.sum)) → Q (.ref R) H'
theorem scSm2 : FnScope ["stretches", "marks", "stretch"] ["stretches"] (defScope sShMarks) := ⟨rfl, rfl, rfl, by decide +kernel, rfl, by decide +kernel, by decide +kernel⟩
theorem ok_shmarks {f : Addr} {fd : FuncData} (F : Fun K "_marks" "_marks" sShMarks f fd) : FnOk P w K mg base CX0 1 f fd ["stretches"] spShMarks := by
  refine F.ok scSm2 (fun vs H Q E h => ?_) (fun cdv A outer s H vs Q E hr h => ?_)
  · obtain ⟨D, row, rfl, _⟩ := h
    rfl
  · obtain ⟨D, row, rfl, hD, hs, k⟩ := h
    refine ⟨_, pss_cons (ps_set (i := 1) scSm2.nd rfl (Or.inl rfl) (pe_lst pa_nil))
      (pss_cons (ps_for PassesOwn.never rfl (pi_list (pv 0)) (pg_name (i := 2) scSm2.nd rfl (Or.inl rfl))
        (pss_cons (ps_expr (pe_bm PySem.F.plainAttrs_list PySem.F.slot_list_append PySem.F.type_list_append mt_append (pv 1) (pa_cons pe_bl pa_nil)))
        (pss_one (ps_expr (pe_bm PySem.F.plainAttrs_list PySem.F.slot_list_extend PySem.F.type_list_extend mt_extend (pv 1) (pa_cons (pe_op op_rep (pe_lst (pa_cons pe_bl pa_nil)) (pe_op op_sub (pv 2) pe_int)) pa_nil))))))
      (pss_one (ps_ret (pv 1)))), ?_⟩
    refine set_then (i := 1) ⟨line2.2.2.2, fun R hR => ?_⟩
    have s0 : Same H (upd H R (.lst [])) := of_upd hR
    refine ⟨_, rfl, D, rfl, ⟨_, SqL.of (s0 _ _ hD)⟩, for_list (K := K) (a := D) (xs := ni row) (fun i σ G => Same H G ∧ G R = some (.lst (bm (N.st row) (row.take i).sum)) ∧ ∃ q2, σ = [some (.ref D), some (.ref R), q2])
      ⟨s0, upd_same, _, rfl⟩ (fun i σ G _ z => SqL.of (z.1 _ _ hD)) ?_ ?_⟩
    · rintro i x σ G hx ⟨s1, hG, q2, rfl⟩
      obtain ⟨s, hss, rfl⟩ := ni_get hx
      have hm := List.mem_of_getElem? hss
      have s0' := hs.pos s hm
      have s3 := hs.le hm
      have tl := take_le row i
      have tl2 := take_le row (i + 1)
      have rs := hs.sum
      have sz : (bm (N.st row) (row.take i).sum).length < sizeLine := by
        rw [bm_len]
        exact small1000 (by omega)
      refine ⟨_, rfl, .inl ⟨rfl, _, SqL.of hG⟩, R, _, _, rfl, rfl, hG, sz, ?_⟩
      have hG1 : (upd G R (.lst (bm (N.st row) (row.take i).sum ++ [V.bl true]))) R = some (.lst (bm (N.st row) (row.take i).sum ++ [V.bl true])) := upd_same
      have s2 : Same H (upd G R (.lst (bm (N.st row) (row.take i).sum ++ [V.bl true]))) := add_upd hR s1
      generalize upd G R (.lst (bm (N.st row) (row.take i).sum ++ [V.bl true])) = G1 at hG1 s2 ⊢
      refine ⟨_, rfl, .inl ⟨rfl, _, SqL.of hG1⟩, line2.2.2.1, fun b1 hb1 => ⟨_, rfl, _, _, rfl, rfl, b1, _, _, rfl, rfl, upd_same, by omega, by omega, ?_, fun b2 hb2 => ?_⟩⟩
      · show 1 * _ ≤ sizeLine
        exact Nat.le_trans (show 1 * ((s : Int) - 1).toNat ≤ 1000 by omega) (by decide)
      rw [show ((s : Int) - 1).toNat = s - 1 by omega]
      have g1 := of_upd (o := .lst [V.bl false]) hb1
      have g2 := of_upd (o := .lst (List.replicate (s - 1) [V.bl false]).flatten) hb2
      have hG2 := g2 _ _ (g1 _ _ hG1)
      have nx := congrArg List.length (bm_next hss s0')
      refine ⟨R, b2, _, _, rfl, rfl, hG2, upd_same, ?_, add_upd hR ((s2.trans g1).trans g2), ?_, _, rfl⟩
      · rw [List.length_append, bm_len] at nx
        rw [nx]
        exact Nat.le_of_lt (small1000 (by omega))
      · rw [upd_same, bm_next hss s0']
    · rintro σ G ⟨s1, hG, q2, rfl⟩
      rw [ni_len, List.take_length] at hG
      exact ⟨_, rfl, k R G s1 hG⟩
def spAreStr : Sp := fun vs H Q _ => ∃ (D : Addr) (row : List Nat), vs = [.ref D] ∧ H D = some (.lst (ni row)) ∧ Stz row ∧ ∀ H', Same H H' → Q (.bl true) H'
theorem scAs : FnScope ["value", "total", "stretch"] ["value"] (defScope sAreStr) := ⟨rfl, rfl, rfl, by decide +kernel, rfl, by decide +kernel, by decide +kernel⟩
theorem ok_arestr {f : Addr} {fd : FuncData} (F : Fun K "_are_stretches" "_are_stretches" sAreStr f fd) (B : Bn mg) (g1 : ∃ t, mg "MOST_STRETCHES" = some (.int 100 t)) (g2 : ∃ t, mg "GREATEST_SUM" = some (.int 300 t)) (DW : Df P w K mg base 2 "is_within" ["value", "least", "greatest"] spWithin) : FnOk P w K mg base CX0 3 f fd ["value"] spAreStr := by
  obtain ⟨fW, fdW, GW, gW, kW, bW⟩ := DW.ex
  obtain ⟨t1, g1⟩ := g1
  obtain ⟨t2, g2⟩ := g2
  refine F.ok scAs (fun vs H Q E h => ?_) (fun cdv A outer s H vs Q E hr h => ?_)
  · obtain ⟨D, row, rfl, _⟩ := h
    rfl
  · obtain ⟨D, row, rfl, hD, hs, k⟩ := h
    refine ⟨_, pss_cons (ps_if (PW.pt (pw_or (pt_not (pt_val (pe_callB call_isi (by rfl) B.isi (by decide +kernel) (pa_cons (pv 0) (pa_cons (pe_bltn (v := .ty "list") (by rfl) B.list (by decide +kernel) rfl) pa_nil))))) (pw_or1 (pt_not (pt_val (pe_call GW (hr.mono (by decide)) rfl gW kW bW .nil pass0 (pa_cons (pe_callB call_len_seq (by rfl) B.len PySem.boot_len (pa_cons (pv 0) pa_nil)) (pa_cons (pe_int) (pa_cons (pe_glob (v := .int 100) rfl g1 ⟨_, rfl⟩) pa_nil))))))))) (ps_dead) (pss_nil))
      (pss_cons (ps_set (i := 1) scAs.nd rfl (Or.inl rfl) (pe_int))
      (pss_cons (ps_for PassesOwn.never rfl (pi_list (pv 0)) (pg_name (i := 2) scAs.nd rfl (Or.inl rfl)) (pss_cons (ps_if (pt_not (pt_val (pe_call GW (hr.mono (by decide)) rfl gW kW bW .nil pass0 (pa_cons (pv 2) (pa_cons (pe_int) (pa_cons (pe_glob (v := .int 300) rfl g2 ⟨_, rfl⟩) pa_nil)))))) (ps_dead) (pss_nil))
      (pss_one (ps_set (i := 1) scAs.nd rfl (Or.inl rfl) (pe_op op_add (pv 1) (pv 2))))))
      (pss_one (ps_ret (pe_cmpR (op_le) (pv 1) (pe_glob (v := .int 300) rfl g2 ⟨_, rfl⟩) (nomark _)))))), ?_⟩
    have l0 : 0 < row.length := List.length_pos_iff.mpr hs.ne
    have l1 := hs.len
    refine ⟨_, rfl, _, _, _, _, true, rfl, .ty _, .base (.lst hD), kit_ty (r := true) (by decide +kernel), _, rfl, iteF ?_⟩
    refine ⟨_, rfl, D, _, rfl, .inl (SqL.of hD), _, 1, 100, rfl, ?_⟩
    rw [ni_len, decide_eq_true (show (1 : Int) ≤ ((row.length : Nat) : Int) ∧ ((row.length : Nat) : Int) ≤ 100 by omega)]
    refine ⟨_, rfl, iteF ?_⟩
    unfold tNext
    dsimp only
    refine set_then (i := 1) ?_
    refine ⟨_, rfl, D, rfl, ⟨_, SqL.of hD⟩, for_list (K := K) (a := D) (xs := ni row) (fun i σ G => G = H ∧ ∃ q2, σ = [some (.ref D), some (.int (((row.take i).sum : Nat) : Int)), q2])
      ⟨rfl, _, rfl⟩ (fun i σ G _ z => by rw [z.1]; exact SqL.of hD) ?_ ?_⟩
    · rintro i x σ G hx ⟨rfl, q2, rfl⟩
      obtain ⟨s, hss, rfl⟩ := ni_get hx
      have hm := List.mem_of_getElem? hss
      have s0' := hs.pos s hm
      have s3 := hs.le hm
      refine ⟨_, rfl, (s : Int), 1, 300, rfl, ?_⟩
      rw [decide_eq_true (show (1 : Int) ≤ (s : Int) ∧ (s : Int) ≤ 300 by omega)]
      refine ⟨_, rfl, iteF ⟨_, rfl, _, rfl, _, _, rfl, rfl, rfl, some (.int (s : Int)), ?_⟩⟩
      rw [take_sum hss]
      rfl
    · rintro σ G ⟨rfl, q2, rfl⟩
      rw [ni_len, List.take_length]
      have := hs.sum
      refine ⟨_, rfl, _, _, rfl, rfl, ?_⟩
      show Q (V.bl (decide (((row.sum : Nat) : Int) ≤ 300))) G
      rw [decide_eq_true (show ((row.sum : Nat) : Int) ≤ 300 by omega)]
      exact k G (Same.refl G)
end
end CP

end
section
set_option autoImplicit false
set_option Elab.async false
set_option linter.all false
set_option maxRecDepth 100000
set_option maxHeartbeats 4000000
/-! ## shown -/
namespace CP
open PySem L2 G Y
/-- beside another list of ints -/
theorem eqv_lists : ∀ l m : List Nat, PyData.eqvAll (l.map dI) (m.map dI) = decide (l = m)
  | [], [] => rfl
  | [], y :: m => by simp [PyData.eqvAll]
  | x :: l, [] => by simp [PyData.eqvAll]
  | x :: l, y :: m => by
    simp only [List.map_cons, PyData.eqvAll, eqv_lists l m]
    have e : PyData.eqv (dI x) (dI y) = decide (x = y) := by
      unfold dI
      by_cases h : x = y
      · rw [h, decide_eq_true rfl]
        exact SeqAt.eqv_refl _ rfl
      · rw [decide_eq_false h]
        simp only [PyData.eqv]
        simp
        omega
    rw [e]
    by_cases h : x = y <;> by_cases h2 : l = m <;> simp [h, h2]
theorem eq_any {K : PySem.W.Frag} {H : Hp} {Q : VK} {t u : Addr} {l m : List Nat} (ht : SqL K H t (ni l)) (hu : SqL K H u (ni m)) (q : Q (.bl (decide (l = m))) H) : rEqD K (.ref t) (.ref u) H Q :=
  ⟨_, _, .lst ht (dp_ints l), .lst hu (dp_ints m), shp_list l, shp_list m, by rw [show PyData.eqv (.list (l.map dI)) (.list (m.map dI)) = decide (l = m) by rw [← eqv_lists]; simp only [PyData.eqv]]; exact q⟩
theorem sum_cast : ∀ l : List Nat, (l.map fun n => ((n : Nat) : Int)).sum = ((l.sum : Nat) : Int)
  | [] => rfl
  | x :: l => by rw [List.map_cons, List.sum_cons, List.sum_cons, sum_cast l]; omega
section
variable {P : Program} {w : World} {K : PySem.W.Frag} {mg : Str → Option Value} {base : Heap} {C : Addr}
theorem cuts_row {row : List Nat} (h : Stz row) : Cuts (N.nrm (N.st row) row.sum) := by
  obtain ⟨a, b, c⟩ := N.nrm_fall (f := N.st row) row.sum
  have := h.sum
  have d : ∀ x ∈ N.nrm (N.st row) row.sum, x ≤ 1000 := fun x hx => by
    have := b x hx
    omega
  exact ⟨a, d, N.fall_len a d⟩
/-- what is shown -/
def spShown (C : Addr) : Sp := fun vs H Q _ => ∃ (D : Addr) (row : List Nat), vs = [.ref D] ∧ H D = some (.lst (ni row)) ∧ Stz row ∧ (N.sk (N.st row) row.sum = true → ∀ H', Same H H' → Q .non H') ∧
  (N.sk (N.st row) row.sum = false → ∀ r H', Same H H' → ChAt C H' (N.nrm (N.st row) row.sum) r → Q (.ref r) H')
theorem scSw : FnScope ["stretches", "chain"] ["stretches"] (defScope sShown) := ⟨rfl, rfl, rfl, by decide +kernel, rfl, by decide +kernel, by decide +kernel⟩
theorem nkp : ¬ (("parted" : Str) = "cuts") ∧ ¬ (("parted" : Str) = "_counts") := by decide +kernel
theorem ok_shown {f : Addr} {fd : FuncData} (F : Fun K "shown" "shown" sShown f fd) (B : Bn mg) (hsum : mg "sum" = none) (T : Ct K mg C) (MW : Mw P w K mg base C) (MT : Mg P w K mg base C 3 "parted" ["self", "body"] (spCPart C))
    (DA : Df P w K mg base 3 "_are_stretches" ["value"] spAreStr) (DM : Df P w K mg base 1 "_marks" ["stretches"] spShMarks) (DP : Df P w K mg base 2 "least_periods" ["marks"] spLeastP) : FnOk P w K mg base CX0 7 f fd ["stretches"] (spShown C) := by
  obtain ⟨fI, fdI, GI, MK, bI⟩ := MW.ex
  obtain ⟨fT, fdT, GT, mT, bT⟩ := MT.ex
  obtain ⟨fA, fdA, GA, gA, kA, bA⟩ := DA.ex
  obtain ⟨fM, fdM, GM, gM, kM, bM⟩ := DM.ex
  obtain ⟨fP, fdP, GP, gP, kP, bP⟩ := DP.ex
  refine F.ok scSw (fun vs H Q E h => ?_) (fun cdv A outer s H vs Q E hr h => ?_)
  · obtain ⟨D, row, rfl, _⟩ := h
    rfl
  · obtain ⟨D, row, rfl, hD, hs, k0, k1⟩ := h
    refine ⟨_, pss_cons (ps_if (pt_not (pt_val (pe_call GA (hr.mono (by decide)) rfl gA kA bA .nil pass0 (pa_cons (pv 0) pa_nil)))) (ps_dead) (pss_nil))
      (pss_cons (ps_set (i := 1) scSw.nd rfl (Or.inl rfl) (pe_make MK GI (hr.mono (by decide)) rfl T.g bI .nil pass0 (pa_cons (pe_call GP (hr.mono (by decide)) rfl gP kP bP .nil pass0 (pa_cons (pe_call GM (hr.mono (by decide)) rfl gM kM bM .nil pass0 (pa_cons (pv 0) pa_nil)) pa_nil)) pa_nil)))
      (pss_one (ps_ret (pe_ifExp (pt_cmpR (op_eqD hr.units) (pe_listG (pgen_meth (pv 1) T.cl mT GT (hr.mono (by decide)) bT .nil (pa_cons (pe_callB (cr_sum rfl) (by rfl) hsum (by decide +kernel) (pa_cons (pv 0) pa_nil)) pa_nil)) GF.passG GF.noStop0 (hr.mono (by decide)) (by rfl) B.list (by decide +kernel)) (pv 0) (nomark _)) (pv 1) pe_non)))), ?_⟩
    have rs := hs.sum
    have hpos : 0 < row.sum := by
      cases row with
      | nil => exact (hs.ne rfl).elim
      | cons s r =>
        have := hs.pos s List.mem_cons_self
        rw [List.sum_cons]
        omega
    refine ⟨_, rfl, D, row, rfl, hD, hs, fun G s1 => ⟨_, rfl, iteF ?_⟩⟩
    have hD1 := s1 _ _ hD
    unfold tNext
    dsimp only
    refine set_then (i := 1) ⟨_, rfl, D, row, rfl, hD1, hs, fun R G2 s2 hR => ⟨R, row.sum, N.st row, rfl, hR, by omega, fun L G3 s3 hL => fun x dx hx hdx ne => made_ch hx hdx ne (.inl hL) (cuts_row hs) fun G4 s4 hch => ⟨rfl, ?_⟩⟩⟩
    have s14 := (s1.trans s2).trans (s3.trans s4)
    have hD4 := s14 _ _ hD
    obtain ⟨dx2, fs, i1, i2⟩ := hch.ins nkp
    refine ⟨_, rfl, x, dx2, fs, rfl, i1, i2, _, rfl, D, row.map fun n => ((n : Nat) : Int), rfl, SqL.of hD4, ?_⟩
    rw [sum_cast]
    refine ⟨x, row.sum, _, rfl, hch, cuts_row hs, hpos, by omega, fun G5 s5 p1 hp1 => ?_⟩
    have s6 := s5.trans (of_upd (o := .lst (ni (N.pt (N.nrm (N.st row) row.sum) [row.sum]))) hp1)
    refine ⟨_, rfl, eq_any (SqL.of upd_same) (SqL.of (s6 _ _ hD4)) ⟨_, rfl, ?_⟩⟩
    by_cases c : N.sk (N.st row) row.sum = false
    · rw [decide_eq_true ((N.parts_so hs.pos hs.ne).mpr c)]
      exact iteT ⟨_, rfl, k1 c x _ (s14.trans s6) (hch.mono s6)⟩
    · rw [decide_eq_false (fun h => c ((N.parts_so hs.pos hs.ne).mp h))]
      exact iteF (k0 (by simpa using c) _ (s14.trans s6))
end
end CP

end
section
set_option autoImplicit false
set_option Elab.async false
set_option linter.all false
set_option maxRecDepth 100000
set_option maxHeartbeats 4000000
namespace CP
open PySem L2 G Y
/-- the periods among the first numbers -/
def pds (f : Nat → Bool) (m i : Nat) : List Nat := ((List.range i).map Nat.succ).filter fun q => N.Pd f m q
theorem pds_snoc (f : Nat → Bool) (m i : Nat) : pds f m (i + 1) = if N.Pd f m (i + 1) = true then pds f m i ++ [i + 1] else pds f m i := by
  unfold pds
  rw [List.range_succ, List.map_append, List.filter_append]
  by_cases c : N.Pd f m (i + 1) = true
  · rw [if_pos c]
    congr 1
    simp [c]
  · rw [if_neg c]
    simp [c]
theorem pds_len (f : Nat → Bool) (m i : Nat) : (pds f m i).length ≤ i := by
  unfold pds
  exact Nat.le_trans (List.length_filter_le _ _) (by simp)
theorem pds_head {f : Nat → Bool} {m : Nat} (h : N.lp f m < m) : ∃ r, pds f m (m - 1) = N.lp f m :: r := by
  obtain ⟨h1, h2, h3, h4⟩ := N.lp_spec (f := f) (k := m) (by omega)
  have hm : N.lp f m ∈ pds f m (m - 1) := by
    unfold pds
    refine List.mem_filter.mpr ⟨List.mem_map.mpr ⟨N.lp f m - 1, List.mem_range.mpr (by omega), by omega⟩, h3⟩
  have hp : (pds f m (m - 1)).Pairwise (· < ·) := by
    unfold pds
    refine List.Pairwise.filter _ (List.pairwise_map.mpr ?_)
    exact List.Pairwise.imp (fun h => Nat.succ_lt_succ h) List.pairwise_lt_range
  cases e : pds f m (m - 1) with
  | nil => rw [e] at hm; cases hm
  | cons x r =>
    rw [e] at hm hp
    have hx : x ∈ pds f m (m - 1) := by rw [e]; exact List.mem_cons_self
    have hx2 := List.mem_filter.mp hx
    have x1 : 1 ≤ x := by
      obtain ⟨y, _, hy⟩ := List.mem_map.mp hx2.1
      omega
    have le := h4 x x1 hx2.2
    rcases List.mem_cons.mp hm with q | q
    · exact ⟨r, by rw [q]⟩
    · have := (List.pairwise_cons.mp hp).1 _ q
      omega
theorem pds_none {f : Nat → Bool} {m : Nat} (h : ¬ N.lp f m < m) : pds f m (m - 1) = [] := by
  cases e : pds f m (m - 1) with
  | nil => rfl
  | cons x r =>
    exfalso
    have hx : x ∈ pds f m (m - 1) := by rw [e]; exact List.mem_cons_self
    have hx2 := List.mem_filter.mp hx
    obtain ⟨y, hy, rfl⟩ := List.mem_map.mp hx2.1
    have := List.mem_range.mp hy
    have := (N.lp_spec (f := f) (k := m) (by omega)).2.2.2 (y + 1) (by omega) hx2.2
    omega
end CP

end
section
set_option autoImplicit false
set_option Elab.async false
set_option linter.all false
set_option maxRecDepth 100000
set_option maxHeartbeats 4000000
/-! ## first_cuts -/
namespace CP
open PySem L2 G Y
abbrev sFirstCuts : Stmt := S.top 22
theorem pds_skip {φ : Nat → Bool} {m a b : Nat} (h : a ≤ b) (no : ∀ q, a < q → q ≤ b → N.Pd φ m q = false) : pds φ m b = pds φ m a := by
  induction b with
  | zero => rw [show a = 0 by omega]
  | succ b ih =>
    by_cases e : a = b + 1
    · rw [e]
    · rw [pds_snoc, no (b + 1) (by omega) (Nat.le_refl _), if_neg Bool.false_ne_true, ih (by omega) fun q h1 h2 => no q h1 (by omega)]
/-- from a border to the next shorter one -/
theorem next_border {φ : Nat → Bool} {n b : Nat} (hb : 0 < b) (hbn : b < n) (hp : N.Pd φ n (n - b) = true) : ∃ b' : Nat, N.bd φ b = (b' : Int) ∧ b' < b ∧ (0 < b' → N.Pd φ n (n - b') = true) ∧ pds φ n (n - b' - 1) = pds φ n (n - b - 1) ++ [n - b] := by
  obtain ⟨h1, h2, h3, h4⟩ := N.lp_spec (f := φ) (k := b) hb
  have hp' := N.pd_iff.mp hp
  refine ⟨b - N.lp φ b, by unfold N.bd; omega, by omega, fun z => N.pd_iff.mpr fun i hi => ?_, ?_⟩
  · have a := N.pd_iff.mp h3 i (by omega)
    have c := hp' (i + N.lp φ b) (by omega)
    rw [a, c]
    congr 1
    omega
  · rw [pds_skip (a := n - b) (by omega) fun q q1 q2 => ?_, show n - b = (n - b - 1) + 1 by omega, pds_snoc, show n - b - 1 + 1 = n - b by omega, if_pos hp]
    cases e : N.Pd φ n q with
    | false => rfl
    | true =>
      exfalso
      have hq := N.pd_iff.mp e
      have := h4 (b - (n - q)) (by omega) (N.pd_iff.mpr fun i hi => by
        have a := hq i (by omega)
        have c := hp' (i + (b - (n - q))) (by omega)
        rw [a, c]
        congr 1
        omega)
      omega
section
variable {P : Program} {w : World} {K : PySem.W.Frag} {mg : Str → Option Value} {base : Heap} {C : Addr}
/-- the possible first cuts -/
def fcs (row : List Nat) : List Nat := if N.sk (N.st row) row.sum = true then [] else pds (N.st row) row.sum (row.sum - 1)
def spFirstCuts : Sp := fun vs H Q _ => ∃ (D : Addr) (row : List Nat), vs = [.ref D] ∧ H D = some (.lst (ni row)) ∧ Stz row ∧ ∀ R H', Same H H' → H R = none → H' R = some (.lst (ni (fcs row))) → Q (.ref R) H'
theorem scFi : FnScope ["stretches", "found_borders", "total", "found", "border"] ["stretches"] (defScope sFirstCuts) := ⟨rfl, rfl, rfl, by decide +kernel, rfl, by decide +kernel, by decide +kernel⟩
theorem ok_firstcuts {f : Addr} {fd : FuncData} (F : Fun K "first_cuts" "first_cuts" sFirstCuts f fd) (hsum : mg "sum" = none) (DW : Df P w K mg base 7 "shown" ["stretches"] (spShown C)) (DM : Df P w K mg base 1 "_marks" ["stretches"] spShMarks) (DB : Df P w K mg base 1 "borders" ["marks"] spBorders) :
    FnOk P w K mg base CX0 8 f fd ["stretches"] spFirstCuts := by
  obtain ⟨fW, fdW, GW, gW, kW, bW⟩ := DW.ex
  obtain ⟨fM, fdM, GM, gM, kM, bM⟩ := DM.ex
  obtain ⟨fB, fdB, GB, gB, kB, bB⟩ := DB.ex
  refine F.ok scFi (fun vs H Q E h => ?_) (fun cdv A outer s H vs Q E hr h => ?_)
  · obtain ⟨D, row, rfl, _⟩ := h
    rfl
  · obtain ⟨D, row, rfl, hD, hs, k⟩ := h
    refine ⟨_, pss_cons (ps_if (pt_cmp (pc_isN (pe_call GW (hr.mono (by decide)) rfl gW kW bW .nil pass0 (pa_cons (pv 0) pa_nil)))) (pss_one (ps_ret (pe_lst pa_nil))) (pss_nil))
      (pss_cons (ps_set (i := 1) scFi.nd rfl (Or.inl rfl) (pe_call GB (hr.mono (by decide)) rfl gB kB bB .nil pass0 (pa_cons (pe_call GM (hr.mono (by decide)) rfl gM kM bM .nil pass0 (pa_cons (pv 0) pa_nil)) pa_nil)))
      (pss_cons (ps_set (i := 2) scFi.nd rfl (Or.inl rfl) (pe_callB (cr_sum rfl) (by rfl) hsum (by decide +kernel) (pa_cons (pv 0) pa_nil)))
      (pss_cons (ps_set (i := 3) scFi.nd rfl (Or.inl rfl) (pe_lst pa_nil))
      (pss_cons (ps_set (i := 4) scFi.nd rfl (Or.inl rfl) (pe_ix ix_list (pv 1) (pv 2) (fun _ _ => rfl)))
      (pss_cons (ps_while PassesOwn.never (pt_cmpR (op_gt) (pv 4) (pe_int) (nomark _)) (pss_cons (ps_expr (pe_bm PySem.F.plainAttrs_list PySem.F.slot_list_append PySem.F.type_list_append mt_append (pv 3) (pa_cons (pe_op op_sub (pv 2) (pv 4)) pa_nil)))
      (pss_one (ps_set (i := 4) scFi.nd rfl (Or.inl rfl) (pe_ix ix_list (pv 1) (pv 4) (fun _ _ => rfl))))))
      (pss_one (ps_ret (pv 3)))))))), ?_⟩
    have rs := hs.sum
    have hpos : 0 < row.sum := by
      cases row with
      | nil => exact (hs.ne rfl).elim
      | cons x r =>
        have := hs.pos x List.mem_cons_self
        rw [List.sum_cons]
        omega
    refine ⟨_, rfl, D, row, rfl, hD, hs, fun c G s1 => ⟨_, rfl, iteT ⟨line2.2.2.2, fun R hR => k R _ (s1.trans (of_upd hR)) (s1.free hR) ?_⟩⟩, fun c r G s1 hr1 => ⟨_, rfl, iteF ?_⟩⟩
    · rw [upd_same]
      unfold fcs
      rw [if_pos c]
      rfl
    have ef : fcs row = pds (N.st row) row.sum (row.sum - 1) := by
      unfold fcs
      rw [c, if_neg Bool.false_ne_true]
    rw [ef] at k
    unfold tNext
    dsimp only
    refine set_then (i := 1) ⟨_, rfl, D, row, rfl, s1 _ _ hD, hs, fun R1 G2 s2 hR1 => ⟨R1, row.sum, N.st row, rfl, hR1, by omega, fun R2 G3 s3 hR2 => ?_⟩⟩
    have s13 := (s1.trans s2).trans s3
    have hD3 := s13 _ _ hD
    refine set_then (i := 2) ⟨_, rfl, D, row.map fun n => ((n : Nat) : Int), rfl, SqL.of hD3, ?_⟩
    rw [sum_cast]
    refine set_then (i := 3) ⟨line2.2.2.2, fun R hR => ?_⟩
    have hR0 := s13.free hR
    have s4 : Same H (upd G3 R (.lst [])) := s13.trans (of_upd hR)
    have hR4 := (of_upd (o := .lst []) hR) _ _ hR2
    have hRR : (upd G3 R (.lst [])) R = some (.lst []) := upd_same
    generalize upd G3 R (.lst []) = G4 at s4 hR4 hRR ⊢
    have at0' : ∀ m, m ≤ row.sum → atI (bl (N.st row) (row.sum + 1)) (m : Int) = some (.int (N.bd (N.st row) m)) := fun m hm => atI_nat (bl_at (by omega))
    refine set_then (i := 4) ⟨_, rfl, _, rfl, R2, _, _, .int (N.bd (N.st row) row.sum), rfl, rfl, SqL.of hR4, at0' _ (Nat.le_refl _), ?_⟩
    obtain ⟨h1, h2, h3, h4⟩ := N.lp_spec (f := N.st row) (k := row.sum) hpos
    refine ⟨fun m σ G => Same H G ∧ G R2 = some (.lst (bl (N.st row) (row.sum + 1))) ∧ G R = some (.lst (ni (pds (N.st row) row.sum (row.sum - m - 1)))) ∧ m < row.sum ∧ (0 < m → N.Pd (N.st row) row.sum (row.sum - m) = true) ∧ σ = [some (.ref D), some (.ref R2), some (.int ((row.sum : Nat) : Int)), some (.ref R), some (.int (m : Int))], ⟨row.sum - N.lp (N.st row) row.sum, s4, hR4, ?_, by omega, fun _ => by rw [show row.sum - (row.sum - N.lp (N.st row) row.sum) = N.lp (N.st row) row.sum by omega]; exact h3, ?_⟩, ?_⟩
    · rw [pds_skip (a := 0) (Nat.zero_le _) fun q q1 q2 => by
        cases e : N.Pd (N.st row) row.sum q with
        | false => rfl
        | true =>
          have := h4 q (by omega) e
          omega]
      exact hRR
    · show [some (V.ref D), some (.ref R2), some (.int ((row.sum : Nat) : Int)), some (.ref R), some (.int (N.bd (N.st row) row.sum))] = _
      rw [show N.bd (N.st row) row.sum = ((row.sum - N.lp (N.st row) row.sum : Nat) : Int) by unfold N.bd; omega]
    · rintro m σ G ⟨s5, hG2, hG, hm, hp, rfl⟩
      refine ⟨_, rfl, _, _, rfl, rfl, _, rfl, ?_⟩
      by_cases m0 : 0 < m
      · rw [decide_eq_true (show (0 : Int) < (m : Int) by omega)]
        obtain ⟨b', e1, e2, e3, e4⟩ := next_border m0 hm (hp m0)
        refine iteT ⟨fun σ' G' => Same H G' ∧ G' R2 = some (.lst (bl (N.st row) (row.sum + 1))) ∧ G' R = some (.lst (ni (pds (N.st row) row.sum (row.sum - b' - 1)))) ∧ b' < row.sum ∧ (0 < b' → N.Pd (N.st row) row.sum (row.sum - b') = true) ∧ σ' = [some (.ref D), some (.ref R2), some (.int ((row.sum : Nat) : Int)), some (.ref R), some (.int (b' : Int))], fun σ' G' z => ⟨b', e2, z⟩, ?_⟩
        have ne : R2 ≠ R := fun z => by
          rw [z, hRR] at hR4
          have := congrArg (fun o => match o with | some (HO.lst xs) => xs.length | _ => 0) hR4
          simp [bl_len] at this
        refine ⟨_, rfl, .inl ⟨rfl, _, SqL.of hG⟩, _, rfl, _, rfl, _, _, rfl, rfl, R, _, _, rfl, rfl, hG, ?_, ?_⟩
        · rw [ni_len]
          exact small1000 (Nat.le_trans (pds_len _ _ _) (by omega))
        have hG2' : (upd G R (.lst (ni (pds (N.st row) row.sum (row.sum - m - 1)) ++ [.int (((row.sum : Nat) : Int) - (m : Int))]))) R2 = some (.lst (bl (N.st row) (row.sum + 1))) := by
          rw [upd_ne ne]
          exact hG2
        refine ⟨_, rfl, _, rfl, R2, _, _, .int (N.bd (N.st row) m), rfl, rfl, SqL.of hG2', at0' _ (by omega), add_upd hR0 s5, hG2', ?_, by omega, e3, ?_⟩
        · rw [upd_same, e4, ni_app]
          dsimp only
          rw [show ((row.sum : Nat) : Int) - (m : Int) = ((row.sum - m : Nat) : Int) by omega]
          rfl
        · show [some (V.ref D), some (.ref R2), some (.int ((row.sum : Nat) : Int)), some (.ref R), some (.int (N.bd (N.st row) m))] = _
          rw [e1]
      · rw [decide_eq_false (show ¬ (0 : Int) < (m : Int) by omega)]
        have e0 : m = 0 := by omega
        subst e0
        exact iteF ⟨_, rfl, k R G s5 hR0 hG⟩
end
end CP

end
section
set_option Elab.async false
set_option linter.all false
set_option maxRecDepth 100000
set_option maxHeartbeats 4000000
/-! ## an own error as a plain value: made by place or by name, its field read, isinstance of it -/
namespace PySem.W
open PySem PySem.Spec PySem.Calls PyProof.Rows
section
variable {prog : Program} {w : World} {A : Around} {E : Value → Shared → Prop} {s : Shared} {K : Frag} {x D : Addr} {ox : Obj} {od : Option Obj}
theorem g_findData {name : Str} {a g : Value} (hc : (clsIn K D).isSome = true) (ha : findIn K (.ref D) name = some (some a)) (hg : specialIn K a "__get__" = some (some g)) (ht : takesIn K a = some true) : findObj K D od name = some (.bind g a) := by
  cases e : clsIn K D with
  | none => rw [e] at hc; cases hc
  | some cd => unfold findObj; rw [e, Option.bind_some, ha, Option.bind_some]; simp [hg, ht]
/-- x.__class__, x an error that may have a dict of its own -/
theorem g_class {Q : Option Value → Shared → Prop} (F : L2.ExcC K D) (X : K.In s.heap) (I : InstAt s.heap x ox D od) (h : Q (some (.ref D)) { s with toks := s.toks + 1 }) : wpAny (model prog w) A (getAttr? (.ref x) "__class__") Q E s := by
  have cls : (clsIn K D).isSome = true := by obtain ⟨cd, hc, _⟩ := any_some F.hd; rw [hc]; rfl
  have found := g_findData (od := od) cls F.ha F.hn F.ht
  obtain ⟨hp, g, d, t, os⟩ := s
  have ty := I.type (M := model prog w)
  have look := looks_find (M := model prog w) X I found
  have base : Looks (model prog w) hp (isInstance (.ref x) (.type "BaseException")) true := ty.andThen (looks_subIn X F.hs)
  have other : (Value.builtin "BaseException.__getattribute__" == Value.builtin "object.__getattribute__") = false := by decide +kernel
  unfold getAttr? getAttrBy? getAttrBy
  refine wpAny_bind (wpAny_mkText (wpAny_bind (wpAny_attempt (wpAny_holding (wpAny_bind (ty.at (wpAny_bind ((looks_findIn (M := model prog w) X F.hg).at ?_))))))))
  show wpAny _ _ (if (true && Value.builtin "BaseException.__getattribute__" == Value.builtin "object.__getattribute__") = true then _ else _) _ _ _
  rw [other, Bool.and_false, if_neg Bool.false_ne_true]
  unfold getAttrByItsOwn hookBefore
  refine wpAny_bind (?_ : wpAny _ _ _ _ _ _); rw [if_pos (show onTheHeap (Value.ref D) = true from rfl)]
  refine (looks_findIn (M := model prog w) X F.hk).at (wpAny_bind (wpAny_attempt (wpAny_holding ?_)))
  unfold callGetattribute; rw [if_neg (show ¬ (false && onTheHeap (Value.builtin "BaseException.__getattribute__")) = true from Bool.false_ne_true)]
  unfold boundAndCalled; rw [PySem.F.excAttr_ValueError.ga.bind (.ref x)]
  refine wpAny_bind (wpAny_pure (?_ : wpAny _ _ (call (.builtin "BaseException.__getattribute__") [.ref x, .str "__class__" t]) _ _ _))
  refine wpAny_call (codeAny_call_builtin PySem.F.excAttr_ValueError.ga.plain PySem.F.entry_bexc_ga (@check_slot (model prog w) _ _ ⟨hp, g, d, t + 1, os⟩ "BaseException.__getattribute__" "BaseException" "__getattribute__" (.ref x) [.str "__class__" t] [] _ (by decide +kernel) (by decide +kernel) base (PySem.F.args_bexc_ga (.ref x) (.str "__class__" t)) ?_))
  unfold Builtin.«object.__getattribute__»
  refine wpAny_bind (wpAny_of_eq (a := ((Value.ref x : Value), [Value.str "__class__" t])) (by first | rfl | (simp only [slotArgs]; rfl)) (wpAny_bind (wpAny_pure (wpAny_bind (ty.at (wpAny_bind (look.at ?_)))))))
  refine (?_ : wpAny _ _ (holding [Value.builtin "object.__class__"] (call (.builtin "getset_descriptor.__get__") [.builtin "object.__class__", .ref x, .ref D]) >>= ret) _ _ _)
  refine wpAny_bind (wpAny_holding (wpAny_call (class_get (s := ⟨hp, g, d, t + 1, os⟩) (ox := ox) (od := od) X I F.hm (wpAny_pure (?_ : wpAny _ _ (handedOut (.ref D)) _ _ _)))))
  rw [handedOut_of (v := .ref D) rfl]
  first | exact wpAny_pure (wpAny_pure h) | exact wpAny_pure h | exact wpAny_pure (wpAny_bind (wpAny_pure (wpAny_pure h)))
theorem g_kit (F : L2.ExcC K D) : KitX K (.ref x) (.ref D) (fun h => InstAt h x ox D od) := by
  have there : ∃ o, K.lookup D = some o ∧ ∃ cd, o.data = .cls cd := by
    obtain ⟨cd, hc, _⟩ := any_some F.hd
    unfold clsIn at hc
    split at hc
    · rename_i o; exact ⟨_, o, _, rfl⟩
    · cases hc
  obtain ⟨⟨oc, odd, odata, osl⟩, hk, cd, hcd⟩ := there
  cases (hcd : odata = _)
  refine { ty := fun _ _ _ I => I.type, it := ?_, ne := ?_, ca := fun X I k => g_class F X I k }
  · intro M h X _ A' Q' E' s' k q
    unfold isType loadHead
    exact wpAny_bind (wpAny_loadPart (k _ _ (X _ _ hk)) (wpAny_pure q))
  · intro h tp dd its n sl X htp
    refine Bool.eq_false_iff.mpr fun q => ?_
    have e : D = tp := Value.ref.inj (beq_iff_eq.mp q)
    rw [← e, X _ _ hk] at htp
    cases htp
end
end PySem.W
namespace G
open PySem PySem.Spec PyProof.Rows L2
/-- at e: an error of the class at C whose field f is v -/
def Er (H : Hp) (e C : Addr) (f : Str) (v : V) : Prop := ∃ dx, H e = some (exo e C (some dx)) ∧ H dx = some (exd dx [(f, v)])
/-- what the written part tells of such a class -/
structure Cl (K : PySem.W.Frag) (C : Addr) (f : Str) : Prop where
  T : OexC K C
  F : ExcC K C
  no : PySem.W.findIn K (.ref C) f = some none
section
variable {X : Cx} {C D e : Addr} {f : Str} {v : V} {te : TE} {ex : Expr} {pos : Pos}
theorem er_inst {pins : List (Addr × Obj)} {σ : L2.St} {H : Hp} {s : Shared} (I : Inv X pins σ H s) (h : Er H e C f v) : ∃ (oe : Obj) (od : Obj) (u : Value), PySem.W.InstAt s.heap e oe C (some od) ∧ RelV v u ∧ PySem.W.lookIn f od = some (some u) := by
  obtain ⟨dx, h1, h2⟩ := h
  obtain ⟨t1, ho⟩ := exo_at I.hok h1
  obtain ⟨mA, hns, rel⟩ := exd_at I.hok h2
  obtain ⟨od, hod, hl⟩ := lookIn_ns hns
  have l : List.lookup f [(f, v)] = some v := by simp [List.lookup]
  obtain ⟨u, hu, ru⟩ := RelO.some_of (v := v) (o := mA f) (by rw [← l]; exact rel f)
  exact ⟨_, od, u, ⟨ho, rfl, by unfold PySem.W.notCls; rfl, hod⟩, ru, by rw [hl, hu]⟩
/-- isinstance(e, c) -/
def rIsEr (K : PySem.W.Frag) : List V → Hp → VK → Prop := fun xs H Q => ∃ (e C : Addr) (f : Str) (v c : V) (u : Value) (b : Bool), xs = [.ref e, c] ∧ Er H e C f v ∧ ExcC K C ∧ ClsV c u ∧ PySem.W.kitOne K (.ref C) u = some b ∧ Q (.bl b) H
theorem call_isEr : CallR X (.builtin "isinstance") (rIsEr X.K) := by
  intro pins s σ H xs us Q I r h
  obtain ⟨e, C, f, v, c, u, b, rfl, he, F, k, hb, q⟩ := h
  cases r with
  | cons rx rr =>
    cases rr with
    | cons rt rr =>
      cases rr
      cases rx
      cases k.eq rt
      obtain ⟨oe, od, _, J, _, _⟩ := er_inst I he
      exact PySem.W.kia_one (PySem.W.g_kit F) I.kIn J hb (fun z => nomatch z) fun tk => ⟨.bl b, H, I.tok tk, rfl, q⟩
/-- e.f -/
def tErF (K : PySem.W.Frag) (f : Str) (te : TE) : TE := fun σ H Q => te σ H fun x H1 => ∃ (e C : Addr) (v : V), x = .ref e ∧ Er H1 e C f v ∧ Cl K C f ∧ Q v H1
theorem pe_erF (he : PE X ex te) (hb : attributeBase ex f X.env (eval ex X.env) = eval ex X.env := by rfl) : PE X (.Attribute ex f pos) (tErF X.K f te) := by
  refine ⟨fun pins s σ H Q I h => attr_of hb (thn (he.run pins s σ H _ I h) fun u s1 hh => ?_)⟩
  obtain ⟨x, H1, I1, rx, e, C, v, rfl, hE, L, q⟩ := hh
  cases rx
  obtain ⟨oe, od, u, J, ru, lk⟩ := er_inst I1 hE
  exact HandSPX.exc_get I1.kIn J L.F.hg L.F.hk L.F.hs (PySem.W.findObj_own L.F.hd L.no rfl lk) (handed_of ru) ⟨v, H1, I1.tok _, ru, q⟩
end
end G

end
section
set_option Elab.async false
set_option linter.all false
set_option maxRecDepth 100000
set_option maxHeartbeats 4000000
/-! ## an own error made by a call with any arguments: its own __init__ is called with the same ones -/
namespace PySem.HandSPX
open PySem PySem.Spec PySem.Calls PyProof.Rows PySem.W
section
variable {prog : Program} {w : World} {A : Around} {E : Value → Shared → Prop} {R : Result → Shared → Prop} {h : Heap} {g : Array GenState} {d : Drawn} {t : Nat} {os : OsState}
variable {nm q : Str} {C N fI : Addr} {bs bm : List Value} {hdct : Bool} {sn : List Str} {sub : List Value} {ab : Bool} {col : Option Bool} {dd : Option Addr} {k0 k1 k2 k3 k5 : Option Value} {rest : List Value} {kw : List (Str × Value)}
/-- the class, made by ValueError's __new__ -/
abbrev veC (nm q : Str) (C N : Addr) (bs bm : List Value) (hdct : Bool) (sn : List Str) (sub : List Value) (ab : Bool) (col : Option Bool) (dd : Option Addr) (k0 k1 k2 k3 k5 : Option Value) : Obj := excClassObj nm q C N bs bm hdct sn sub ab col dd k0 k1 k2 k3 k5 "ValueError.__new__"
theorem g_has (hm : refsVE bm = true) (B : String) : (Value.ref C :: bm).contains (.type B) = veTail.contains (.type B) := by
  rw [List.contains_cons, refsVE_contains B bm hm]
  rfl
theorem g_check_new {M : Model} {Q : Unit → Shared → Prop} (hm : refsVE bm = true) (hC : h.get? C = some (veC nm q C N bs bm hdct sn sub ab col dd k0 k1 k2 k3 k5)) (hq : Q () ⟨h, g, d, t, os⟩) :
    wpAny M A (checkBuiltinCall "ValueError.__new__" ⟨.ref C :: rest, kw⟩) Q E ⟨h, g, d, t, os⟩ := by
  have F := PySem.F.excBase_ValueError
  have mine : (Value.ref C :: bm).contains (.type "ValueError") = true := (g_has hm _).trans (by decide +kernel)
  have star := F.noStar
  simp only [checkBuiltinCall, F.newKind, F.newSplit, F.newRow]
  repeat (first
    | (refine wpAny_loadPart_at hC ?_)
    | (refine wpAny_isSubtype_exc hC ?_; rw [mine])
    | (refine wpAny_staticBase_exc hC ?_)
    | (refine wpAny_madeBy_exc hC ?_)
    | (simp only [bne_self_eq_false, Bool.false_eq_true, if_false])
    | wp_step)
  all_goals first | exact hq | trace_state
theorem g_new (hm : refsVE bm = true) (hC : h.get? C = some (veC nm q C N bs bm hdct sn sub ab col dd k0 k1 k2 k3 k5)) (hz : rest.length ≤ sizeLine)
    (hq : R (.ok (.ret (.ref (h.objs.size + 1)))) ⟨(h.push (W.kdv_tup rest)).push (excO C h.objs.size), g, d, t, os⟩) : codeAny (model prog w) A (.builtin "ValueError.__new__" ⟨.ref C :: rest, kw⟩) R ⟨h, g, d, t, os⟩ := by
  have F := PySem.F.excBase_ValueError
  have ends := F.ends
  have mine : (Value.ref C :: bm).contains (.type "ValueError") = true := (g_has hm _).trans (by decide +kernel)
  have noA : (Value.ref C :: bm).contains (.type "AttributeError") = false := (g_has hm _).trans (by decide +kernel)
  have noN : (Value.ref C :: bm).contains (.type "NameError") = false := (g_has hm _).trans (by decide +kernel)
  refine codeAny_builtinAt F.entry ?_
  unfold Builtin.«BaseException.__new__»
  refine wpAt_bind (?_ : wpAt _ _ _ (stack >>= _) _ _ _)
  refine wpAt_bind (wpAt_stack fun p below => wpAt_of_wpAny ?_)
  wp_walk
  refine wpAt_of_wpAny ?_
  rw [F.owner]
  repeat (first
    | (with_reducible refine wpAny_madeHere_exc F.canon hC ?_)
    | (with_reducible refine wpAny_loadPart_at hC ?_)
    | (with_reducible refine wpAny_isSubtype_exc hC ?_; first | rw [mine] | rw [noA] | rw [noN])
    | wp_step)
  refine (?_ : R _ _)
  rw [Heap.size_push]
  exact hq
theorem g_type_call {Q : Fin → Shared → Prop} (hm : refsVE bm = true) (hC : h.get? C = some (veC nm q C N bs bm hdct sn sub ab col dd k0 k1 k2 k3 k5)) (hi : W.Looks (model prog w) h (typeLookup (.ref C) "__init__") (some (.ref fI)))
    (hb : ∀ self, W.Looks (model prog w) h (bindSpecial (.ref fI) self) (.ref fI, [self])) (hz : rest.length ≤ sizeLine)
    (hq : codeAny (model prog w) A (.call (.ref fI) ⟨.ref (h.objs.size + 1) :: rest, kw⟩) (fun r s' => match r with | .ok (.ret v) => v = .none ∧ Q (.done (.ret (.ref (h.objs.size + 1)))) s' | .ok _ => False | .error e => E e s')
      ⟨(h.push (W.kdv_tup rest)).push (excO C h.objs.size), g, d, t, os⟩) : wpAny (model prog w) A (Builtin.«type.__call__» ⟨.ref C :: rest, kw⟩) Q E ⟨h, g, d, t, os⟩ := by
  have F := PySem.F.excBase_ValueError
  repeat (first
    | (with_reducible refine wpAny_loadPart_at hC ?_)
    | (with_reducible refine wpAny_madeBy_exc hC ?_)
    | wp_step)
  refine codeAny_call_builtin_code (Code.quiet_builtin _ F.quiet) (g_check_new hm hC (g_new hm hC hz ?_))
  refine (?_ : wpAny _ _ _ _ _ _)
  have keep : ∀ b o, h.get? b = some o → ((h.push (W.kdv_tup rest)).push (excO C h.objs.size)).get? b = some o := fun b o e => Heap.get?_push_of_some _ (Heap.get?_push_of_some _ e)
  have hC₁ := keep _ _ hC
  have new : ((h.push (W.kdv_tup rest)).push (excO C h.objs.size)).get? (h.objs.size + 1) = some (excO C h.objs.size) := by heap_get
  have self : (Value.ref C :: bm).contains (.ref C) = true := by simp
  unfold isInstance
  repeat (first
    | (with_reducible refine wpAny_loadPart_at new ?_)
    | (with_reducible refine wpAny_isSubtype_exc hC₁ ?_; rw [self])
    | wp_step)
  refine (?_ : wpAny _ _ (typeLookup (.ref C) _) _ _ _)
  refine (hi.keeps keep).at (wpAny_holding (wpAny_bind (((hb (.ref (h.objs.size + 1))).keeps keep).at ?_)))
  refine wpAny_bind (wpAny_call (codeAny_mono hq ?_))
  intro r s' z
  rcases r with e | fl
  · exact z
  · cases fl with
    | ret v =>
      obtain ⟨ev, z'⟩ := z
      subst ev
      first | exact wpAny_pure (wpAny_pure z') | (wp_walk; exact z')
    | next => exact z.elim
    | brk => exact z.elim
    | cont => exact z.elim
theorem g_check_type {M : Model} {Q : Unit → Shared → Prop} (hC : h.get? C = some (veC nm q C N bs bm hdct sn sub ab col dd k0 k1 k2 k3 k5)) (hq : Q () ⟨h, g, d, t, os⟩) : wpAny M A (checkBuiltinCall "type.__call__" ⟨.ref C :: rest, kw⟩) Q E ⟨h, g, d, t, os⟩ := by
  have f3 := tc_sub
  have isT : (⟨h, g, d, t, os⟩ : Shared).TypeIs (.ref C) "type" := ⟨_, hC, rfl⟩
  simp only [checkBuiltinCall, tc_kind, tc_split]
  repeat (any_goals (first
    | assumption
    | (with_reducible refine wpAny_loadPart_at hC ?_)
    | (with_reducible refine wpAny_onRaise ?_)
    | (with_reducible refine wpAny_map ?_)
    | wp_step))
theorem g_call (hm : refsVE bm = true) (hC : h.get? C = some (veC nm q C N bs bm hdct sn sub ab col dd k0 k1 k2 k3 k5)) (hi : W.Looks (model prog w) h (typeLookup (.ref C) "__init__") (some (.ref fI)))
    (hb : ∀ self, W.Looks (model prog w) h (bindSpecial (.ref fI) self) (.ref fI, [self])) (hz : rest.length ≤ sizeLine)
    (hq : codeAny (model prog w) (A.under (.builtin "type.__call__" ⟨.ref C :: rest, kw⟩)) (.call (.ref fI) ⟨.ref (h.objs.size + 1) :: rest, kw⟩) (W.InitBack (h.objs.size + 1) R) ⟨(h.push (W.kdv_tup rest)).push (excO C h.objs.size), g, d, t, os⟩) :
    codeAny (model prog w) A (.call (.ref C) ⟨rest, kw⟩) R ⟨h, g, d, t, os⟩ := by
  have f1 := tc_lookup
  have f2 := tc_bind (.ref C)
  have isT : (⟨h, g, d, t, os⟩ : Shared).TypeIs (.ref C) "type" := ⟨_, hC, rfl⟩
  refine codeAny_of_tree (?_ : wpAny _ _ (callAny (.ref C) _) _ _ _)
  repeat (any_goals (first
    | assumption
    | (with_reducible refine wpAny_loadPart_at hC ?_)
    | wp_step))
  refine ⟨rfl, codeAny_call_builtin_at (Code.quiet_builtin _ (by decide +kernel)) entry_typeCall (g_check_type hC (g_type_call hm hC hi hb hz (codeAny_mono hq ?_)))⟩
  rintro (e | (v | _ | _ | _)) s' z <;> exact z
end
end PySem.HandSPX

end
section
set_option Elab.async false
set_option linter.all false
set_option maxRecDepth 100000
set_option maxHeartbeats 4000000
/-! ## C(v) and C(f=v) as values -/
namespace G
open PySem PySem.Spec PyProof.Rows L2
theorem Er.mono {H H' : Hp} {e C : Addr} {f : Str} {v : V} (s : Same H H') (h : Er H e C f v) : Er H' e C f v := by
  obtain ⟨dx, a, b⟩ := h
  exact ⟨dx, s _ _ a, s _ _ b⟩
/-- self.f = v -/
def spIni (C : Addr) (f : Str) : Sp := fun vs H Q _ => ∃ (a : Addr) (v : V), vs = [.ref a, v] ∧ H a = some (exo a C none) ∧ ∀ dx, H dx = none → dx ≠ a → Q .non (upd (upd H dx (exd dx [(f, v)])) a (exo a C (some dx)))
/-- a class with such an __init__: its def at fI -/
structure Mk (P : Program) (w : World) (K : PySem.W.Frag) (mg : Str → Option Value) (base : Heap) (C : Addr) (f : Str) : Prop where
  L : Cl K C f
  ex : ∃ (fI : Addr) (fd : FuncData) (ps : List Str), PySem.W.findIn K (.ref C) "__init__" = some (some (.ref fI)) ∧ PySem.W.typeIn K (.ref fI) = some (.type "function") ∧ FnOk P w K mg base CX0 1 fI fd ps (spIni C f) ∧
    ps.length = 2 ∧ (∀ (s : Shared) (u v : Value), BindsTo s fd ⟨[u, v], []⟩ (ps.zip [u, v])) ∧ ∀ (s : Shared) (u v : Value), BindsTo s fd ⟨[u], [(f, v)]⟩ (ps.zip [u, v])
section
variable {X : Cx} {C : Addr} {f x : Str} {e : Expr} {ta tk : TA} {p pos : Pos} {kws : List Keyword}
theorem made {pins : List (Addr × Obj)} {σ : L2.St} {H : Hp} {s : Shared} {Q : VK} {v : V} {u : Value} (M : Mk X.prog X.w X.K X.mg X.base C f) (hr : Room 2 X.A) (I : Inv X pins σ H s) (r : RelV v u) (us : List Value) (kw : List (Str × Value)) (hz : us.length ≤ 1)
    (how : (us = [u] ∧ kw = []) ∨ (us = [] ∧ kw = [(f, u)])) (hq : ∀ (e : Addr) (H' : Hp), H e = none → Same H H' → Er H' e C f v → Q (.ref e) H') : wpAny (model X.prog X.w) X.A (call (.ref C) us kw) (EP X pins σ Q) X.xe s := by
  obtain ⟨⟨T, F, no⟩, fI, fd, ps, iC, tI, G1, hl, b1, b2⟩ := M
  obtain ⟨nm, q, N, bs, bm, sn, sub, ab, col, dd, k0, k1, k2, k3, k5, hC, hbm⟩ := T.cls
  obtain ⟨hp, g, dr, tok, os⟩ := s
  have big : hp.objs.size ≤ hp.objs.size + 1 := Nat.le_succ _
  have free : H (hp.objs.size + 1) = none := I.hok.fresh big
  have keep : ∀ b o, hp.get? b = some o → ((hp.push (PySem.W.kdv_tup us)).push (PySem.HandSPX.excO C hp.objs.size)).get? b = some o := fun b o e => Heap.get?_push_of_some _ (Heap.get?_push_of_some _ e)
  have new : ((hp.push (PySem.W.kdv_tup us)).push (PySem.HandSPX.excO C hp.objs.size)).get? (hp.objs.size + 1) = some (PySem.HandSPX.excO C hp.objs.size) := by heap_get
  have J : Inv X pins σ (upd H (hp.objs.size + 1) (exo (hp.objs.size + 1) C none)) ⟨(hp.push (PySem.W.kdv_tup us)).push (PySem.HandSPX.excO C hp.objs.size), g, dr, tok, os⟩ := I.laid (t' := tok) keep big (exo_ok new)
  have bind : BindsTo ⟨(hp.push (PySem.W.kdv_tup us)).push (PySem.HandSPX.excO C hp.objs.size), g, dr, tok, os⟩ fd ⟨Value.ref (hp.objs.size + 1) :: us, kw⟩ (ps.zip [Value.ref (hp.objs.size + 1), u]) := by
    rcases how with ⟨rfl, rfl⟩ | ⟨rfl, rfl⟩
    · exact b1 _ _ _
    · exact b2 _ _ _
  have wish : spIni C f [.ref (hp.objs.size + 1), v] (upd H (hp.objs.size + 1) (exo (hp.objs.size + 1) C none)) (fun z H' => z = .non ∧ Q (.ref (hp.objs.size + 1)) H') E0 := by
    refine ⟨_, _, rfl, upd_same, fun dx h1 h2 => ⟨rfl, hq _ _ free (fun b o q => ?_) ⟨dx, upd_same, ?_⟩⟩⟩
    · have n1 : b ≠ hp.objs.size + 1 := ne_of_none q free
      rw [upd_ne n1, upd_ne (fun z => ?_), upd_ne n1]
      · exact q
      · rw [← z, upd_ne n1, q] at h1
        cases h1
    · rw [upd_ne h2, upd_same]
  refine wpAny_call (PySem.HandSPX.g_call hbm (I.kIn _ _ hC) (PySem.W.looks_findIn I.kIn iC) (fun self => PySem.W.bind_fn I.kIn self tI) (Nat.le_trans hz (by decide))
    (codeAny_mono (G1.run _ X.stack _ _ _ [Value.ref (hp.objs.size + 1), u] [.ref (hp.objs.size + 1), v] _ E0 (hr.make C us kw) (J.env0.make C us kw) bind (.cons (show RelV (.ref _) (.ref _) from rfl) (.cons r .nil)) wish) fun rr s' hh => ?_))
  rcases rr with er | fl
  · exact (hh : False).elim
  · cases fl with
    | ret u' =>
      obtain ⟨z, H', J', rz, ez, q'⟩ := J.after hh
      subst ez
      exact ⟨rz, ⟨.ref (hp.objs.size + 1), H', J', rfl, q'⟩⟩
    | next => exact hh.elim
    | brk => exact hh.elim
    | cont => exact hh.elim
/-- C(v), C(f=v) -/
def tMkE (C : Addr) (f : Str) (t : TA) : TE := fun σ H Q => t σ H fun vs H1 => ∃ v, vs = [v] ∧ ∀ (e : Addr) (H' : Hp), H1 e = none → Same H1 H' → Er H' e C f v → Q (.ref e) H'
theorem pe_mkE (M : Mk X.prog X.w X.K X.mg X.base C f) (hr : Room 2 X.A) (hg : Gl X x) (hm : X.mg x = some (.ref C)) (ha : PA X [e] ta) (hdb : (x == ("__debug__" : Str)) = false := by decide)
    (he : starEach [e] X.env = (false, eval e X.env) :: starEach [] X.env := by rfl) (hpl : (backTo pos (starEach [] X.env)).any (·.1) = false := by rfl) : PE X (.Call (.Name x p) [e] [] pos) (tMkE C f ta) := by
  refine ⟨fun pins s σ H Q I h => wpAny_Call_Name_kw (ld_glob I hg hm ?_ hdb)⟩
  refine PySem.W.callWith_K (h₀ := X.base) I.ok.mod.kin M.L.T.kC (thn (ha.run pos pins s σ H _ I h) fun us s1 hh => ?_) he hpl
  obtain ⟨vs, H1, I1, r1, v, rfl, q⟩ := hh
  cases r1 with
  | cons rv rn =>
    cases rn
    exact ⟨I1.kIn, made M hr I1 rv _ [] (Nat.le_refl _) (.inl ⟨rfl, rfl⟩) q⟩
theorem pe_mkEk (M : Mk X.prog X.w X.K X.mg X.base C f) (hr : Room 2 X.A) (hg : Gl X x) (hm : X.mg x = some (.ref C)) (hkw : PK X kws tk) (hks : (backToKw pos (keywordEach kws X.env)).filterMap (·.1) = [f] := by rfl) (hall : (backToKw pos (keywordEach kws X.env)).all (·.1.isSome) = true := by rfl)
    (hdb : (x == ("__debug__" : Str)) = false := by decide) (hpl : ((backTo pos (starEach [] X.env)).any (·.1) || (backToKw pos (keywordEach kws X.env)).any (·.1.isNone)) = false := by rfl) : PE X (.Call (.Name x p) [] kws pos) (tMkE C f tk) := by
  refine ⟨fun pins s σ H Q I h => wpAny_Call_Name_kw (ld_glob I hg hm ?_ hdb)⟩
  refine PySem.W.callWith_KW0 (h₀ := X.base) I.ok.mod.kin M.L.T.kC hall (thn (hkw.run pos pins s σ H _ I h) fun ws s2 hh => ?_) hpl
  obtain ⟨vs, H1, I1, r1, v, rfl, q⟩ := hh
  cases r1 with
  | cons rv rn =>
    cases rn
    refine ⟨I1.kIn, ?_⟩
    rw [hks]
    exact made M hr I1 rv [] _ (Nat.zero_le _) (.inr ⟨rfl, rfl⟩) q
end
end G

end
section
set_option autoImplicit false
set_option Elab.async false
set_option linter.all false
set_option maxRecDepth 100000
set_option maxHeartbeats 4000000
/-! ## an own error raised and caught: raise C(e); e.f of the error that a suite holds; a call by keyword that may raise -/
namespace G
open PySem PySem.Spec PyProof.Rows L2
section
variable {X : Cx} {C : Addr} {f x : Str} {e : Expr} {ta : TA} {p pos pos2 : Pos}
theorem mk_binds {P : Program} {w : World} {K : PySem.W.Frag} {fd : FuncData} {ps : List Str} (hl : ps.length = 2) (b : ∀ (s : Shared) (u v : Value), BindsTo s fd ⟨[u, v], []⟩ (ps.zip [u, v])) : Binds K fd ps [] := fun s us hk hn => by
  rw [List.append_nil] at hn ⊢
  rw [hl] at hn
  match us, hn with
  | [u, v], _ => exact b s u v
theorem pmk_er (M : Mk X.prog X.w X.K X.mg X.base C f) (hr : Room 2 X.A) (hg : Gl X x) (hm : X.mg x = some (.ref C)) (ha : PA X [e] ta) (hdb : (x == ("__debug__" : Str)) = false := by decide)
    (he : starEach [e] X.env = (false, eval e X.env) :: starEach [] X.env := by rfl) (hpl : (backTo pos (starEach [] X.env)).any (·.1) = false := by rfl) : PMk X (.Call (.Name x p) [e] [] pos) (tMkO C (spIni C f) [] ta) := by
  obtain ⟨L, fI, fd, ps, iC, tI, G1, hl, b1, b2⟩ := M
  exact pmk_oex L.T iC tI G1 hr (mk_binds (P := X.prog) (w := X.w) hl b1) .nil pass0 hg hm ha hdb he hpl
/-- raise C(e) -/
def tRaiseE (C : Addr) (f : Str) (W : WX) (ta : TA) : TS := fun _ σ H => tMkO C (spIni C f) [] ta σ H fun cls d H' => W cls d σ H'
theorem ps_raiseE {W : WX} (hc : X.calm = true) (M : Mk X.prog X.w X.K X.mg X.base C f) (hr : Room 2 X.A) (tk : Takes X W) (hg : Gl X x) (hm : X.mg x = some (.ref C)) (ha : PA X [e] ta) (hdb : (x == ("__debug__" : Str)) = false := by decide)
    (he : starEach [e] X.env = (false, eval e X.env) :: starEach [] X.env := by rfl) (hpl : (backTo pos (starEach [] X.env)).any (·.1) = false := by rfl) : PS X (.Raise (some (.Call (.Name x p) [e] [] pos)) none pos2) (tRaiseE C f W ta) :=
  ps_raise hc tk (pmk_er M hr hg hm ha hdb he hpl)
theorem mkO_of {v : V} {H : Hp} {Q : XK} (k : ∀ d, H d = none → Q (.ref C) (some d) (upd H d (.xd [(f, v)]))) : [v].length ≤ 1000 ∧ ∀ a, H a = none → spIni C f (.ref a :: ([v] ++ [])) (upd H a (exo a C none))
    (fun u H2 => u = .non ∧ ∃ (d : Addr) (fs : List (Str × V)), H2 a = some (exo a C (some d)) ∧ H2 d = some (exd d fs) ∧ H d = none ∧ Q (.ref C) (some d) (upd (del H2 a) d (.xd fs))) (fun _ _ _ => False) := by
  refine ⟨by show 1 ≤ 1000; decide, fun a ha => ⟨a, v, rfl, upd_same, fun dx h1 h2 => ⟨rfl, dx, [(f, v)], upd_same, ?_, ?_, ?_⟩⟩⟩
  · rw [upd_ne h2, upd_same]
  · rw [upd_ne h2] at h1
    exact h1
  · have hd : H dx = none := by
      rw [upd_ne h2] at h1
      exact h1
    have e : upd (del (upd (upd (upd H a (exo a C none)) dx (exd dx [(f, v)])) a (exo a C (some dx))) a) dx (.xd [(f, v)]) = upd H dx (.xd [(f, v)]) := by
      funext b
      by_cases hb : b = dx
      · subst hb
        rw [upd_same, upd_same]
      · rw [upd_ne hb, upd_ne hb]
        by_cases ha2 : b = a
        · subst ha2
          rw [del_same, ha]
        · rw [del_ne ha2, upd_ne ha2, upd_ne hb, upd_ne ha2]
    rw [e]
    exact k dx hd
end
theorem xf_of {K : PySem.W.Frag} {C : Addr} {f : Str} (L : Cl K C f) : XfC K C := ⟨L.F.hg, L.F.hk, L.F.hs, L.F.hd⟩
theorem look_one {f : Str} {v : V} : ([(f, v)] : List (Str × V)).lookup f = some v := by simp [List.lookup]
section
variable {X : Cx} {CX : CXT} {k : Nat} {f : Addr} {fd : FuncData} {ps ks : List Str} {sp : Sp} {E : L2.St → XK} {x : Str} {p pos : Pos} {e : Expr} {es : List Expr} {kws : List Keyword} {t tk : TA} {g : List Value → List Value → List Value} {gV : List V → List V → List V}
def tCallKS (sp : Sp) (gV : List V → List V → List V) (E : L2.St → XK) (t tk : TA) : TE := fun σ H Q => t σ H fun vs H1 => tk σ H1 fun zs H2 => sp (gV vs zs) H2 Q (E σ)
theorem run_fnKS {pins : List (Addr × Obj)} {σ : L2.St} {H : Hp} {s : Shared} {Q : VK} {us ws : List Value} {vs zs : List V} (F : FnOk X.prog X.w X.K X.mg X.base CX k f fd ps sp) (hr : Room k X.A) (hb : KBinds X.K fd ps ks g gV) (hx : PassesAt CX X σ (E σ))
    (I : Inv X pins σ H s) (r : Vals vs us) (rz : Vals zs ws) (h : sp (gV vs zs) H Q (E σ)) : wpAny (model X.prog X.w) X.A (call (.ref f) us (ks.zip ws)) (EP X pins σ Q) X.xe s := by
  have r2 := hb.rel r rz
  have hl : (g us ws).length = ps.length := by rw [← r2.length]; exact F.len _ _ _ _ h
  refine wpAny_call (codeAny_mono (F.run X.A X.stack s H ⟨us, ks.zip ws⟩ (g us ws) (gV vs zs) Q (E σ) hr I.env0 (hb.to s us ws I.kIn hl) r2 h) fun r s' hq => ?_)
  match r, hq with
  | .error er, z => exact hx pins H s er s' I z
  | .ok (.ret u), z => exact I.after z
  | .ok .next, z => exact z.elim
  | .ok .brk, z => exact z.elim
  | .ok .cont, z => exact z.elim
theorem pe_callKS (F : FnOk X.prog X.w X.K X.mg X.base CX k f fd ps sp) (hr : Room k X.A) (hg : Gl X x) (hm : X.mg x = some (.ref f)) (hk : PySem.W.keepIn X.K (.ref f) = true) (hb : KBinds X.K fd ps ks g gV) (hx : ∀ σ, PassesAt CX X σ (E σ))
    (ha : PA X (e :: es) t) (hkw : PK X kws tk) (hall : (backToKw pos (keywordEach kws X.env)).all (·.1.isSome) = true := by rfl) (hks : (backToKw pos (keywordEach kws X.env)).filterMap (·.1) = ks := by rfl)
    (hdb : (x == ("__debug__" : Str)) = false := by decide) (he : starEach (e :: es) X.env = (false, eval e X.env) :: starEach es X.env := by rfl)
    (hpl : ((backTo pos (starEach (e :: es) X.env)).any (·.1) || (backToKw pos (keywordEach kws X.env)).any (·.1.isNone)) = false := by rfl) :
    PE X (.Call (.Name x p) (e :: es) kws pos) (tCallKS sp gV E t tk) := by
  refine ⟨fun pins s σ H Q I h => ?_⟩
  refine wpAny_Call_Name_kw (ld_glob I hg hm ?_ hdb)
  refine PySem.W.callWith_KW (h₀ := X.base) I.ok.mod.kin hk hall (thn (ha.run pos pins s σ H _ I h) fun us s1 hh => ?_) hpl he
  obtain ⟨vs, H1, I1, r, q⟩ := hh
  refine thn (hkw.run pos pins s1 σ H1 _ I1 q) fun ws s2 hh => ?_
  obtain ⟨zs, H2, I2, rz, q2⟩ := hh
  refine ⟨I2.kIn, ?_⟩
  rw [hks]
  exact run_fnKS F hr hb (hx σ) I2 r rz q2
end
/-- «except C» takes an error of the class at C -/
theorem exm_own {K : PySem.W.Frag} {C : Addr} (isC : PySem.W.isClsIn K C = true) (ty : PySem.W.typeIn K (.ref C) = some (.type "type")) (up : PySem.W.subIn K (.ref C) (.type "BaseException") = some true) (self : PySem.W.subIn K (.ref C) (.ref C) = some true) : PySem.W.exmOne K (.ref C) (.ref C) = some true := by
  have c : (PySem.W.clsIn K C).isSome = true := isC
  have k : PySem.W.kitCls K (.ref C) (.ref C) = some true := by
    unfold PySem.W.kitCls
    dsimp only
    rw [c, ty, self]
    rfl
  unfold PySem.W.exmOne
  rw [up, k]
  rfl
end G

end
section
set_option autoImplicit false
set_option Elab.async false
set_option linter.all false
set_option maxRecDepth 100000
set_option maxHeartbeats 4000000
/-! ## is_integer, is_within of any value; _are_stretches of any value -/
namespace CP
open PySem L2 G Y
/-- a value that is no integer: a bool, or of another kind -/
def NI (K : PySem.W.Frag) (H : Hp) (v : V) : Prop := (∃ b, v = .bl b) ∨ ∃ t, TyX K H v t ∧ PySem.W.kitOne K t (.type "int") = some false
section
variable {P : Program} {w : World} {K : PySem.W.Frag} {mg : Str → Option Value} {base : Heap} {C CB : Addr}
def spInt2 (K : PySem.W.Frag) : Sp := fun vs H Q _ => ∃ v, vs = [v] ∧ ((∃ i, v = .int i ∧ Q (.bl true) H) ∨ (NI K H v ∧ Q (.bl false) H))
theorem ok_int2 {f : Addr} {fd : FuncData} (F : Fun K "is_integer" "is_integer" sInteger f fd) (B : Bn mg) : FnOk P w K mg base CX0 1 f fd ["value"] (spInt2 K) := by
  refine F.ok scIn (fun vs H Q E h => ?_) (fun cdv A outer s H vs Q E hr h => ?_)
  · obtain ⟨v, rfl, _⟩ := h
    rfl
  · obtain ⟨v, rfl, h⟩ := h
    refine ⟨_, pss_one (ps_ret (pe_and (pe_callB call_isi (by rfl) B.isi (by decide +kernel) (pa_cons (pv 0) (pa_cons (pe_bltn (v := .ty "int") (by rfl) B.int (by decide +kernel) rfl) pa_nil)))
      (pe_one (pe_not (pe_callB call_isi (by rfl) B.isi (by decide +kernel) (pa_cons (pv 0) (pa_cons (pe_bltn (v := .ty "bool") (by rfl) B.bool (by decide +kernel) rfl) pa_nil))))))), ?_⟩
    rcases h with ⟨i, rfl, k⟩ | ⟨⟨b, rfl⟩ | ⟨t, ty, e⟩, k⟩
    · exact ⟨_, rfl, _, _, _, _, _, rfl, .ty _, .base (.int _), kit_ty (r := true) (by decide +kernel), _, rfl, iteT ⟨_, rfl, _, _, _, _, _, rfl, .ty _, .base (.int _), kit_ty (r := false) (by decide +kernel), _, rfl, k⟩⟩
    · exact ⟨_, rfl, _, _, _, _, _, rfl, .ty _, .base (.bl _), kit_ty (r := true) (by decide +kernel), _, rfl, iteT ⟨_, rfl, _, _, _, _, _, rfl, .ty _, .base (.bl _), kit_ty (r := true) (by decide +kernel), _, rfl, k⟩⟩
    · exact ⟨_, rfl, _, _, _, _, _, rfl, .ty _, ty, e, _, rfl, iteF k⟩
def spWithin2 (K : PySem.W.Frag) : Sp := fun vs H Q _ => ∃ (v : V) (a b : Int), vs = [v, .int a, .int b] ∧ ((∃ i, v = .int i ∧ Q (.bl (decide (a ≤ i ∧ i ≤ b))) H) ∨ (NI K H v ∧ Q (.bl false) H))
theorem ok_within2 {f : Addr} {fd : FuncData} (F : Fun K "is_within" "is_within" sWithin f fd) (DI : Df P w K mg base 1 "is_integer" ["value"] (spInt2 K)) : FnOk P w K mg base CX0 2 f fd ["value", "least", "greatest"] (spWithin2 K) := by
  obtain ⟨fI, fdI, GI, gI, kI, bI⟩ := DI.ex
  refine F.ok sc3 (fun vs H Q E h => ?_) (fun cdv A outer s H vs Q E hr h => ?_)
  · obtain ⟨v, a, b, rfl, _⟩ := h
    rfl
  · obtain ⟨v, a, b, rfl, h⟩ := h
    refine ⟨_, pss_one (ps_ret (pe_and (pe_call GI hr rfl gI kI bI .nil pass0 (pa_cons (pv 0) pa_nil)) (pe_one (pe_chain op_le op_le (pv 1) (pv 0) (pv 2))))), ?_⟩
    rcases h with ⟨v, rfl, k⟩ | ⟨ni, k⟩
    · refine ⟨_, rfl, _, rfl, .inl ⟨v, rfl, _, rfl, iteT ⟨_, rfl, _, rfl, _, _, rfl, rfl, _, rfl, ?_⟩⟩⟩
      refine ite2 (fun h1 => ⟨_, rfl, _, _, rfl, rfl, ?_⟩) (fun h1 => ?_)
      · have e1 : a ≤ v := of_decide_eq_true h1
        rw [show decide (a ≤ v ∧ v ≤ b) = decide (v ≤ b) from decide_eq_decide.mpr ⟨fun z => z.2, fun z => ⟨e1, z⟩⟩] at k
        exact k
      · rw [show decide (a ≤ v ∧ v ≤ b) = false from decide_eq_false fun q => h1 (decide_eq_true q.1)] at k
        exact k
    · exact ⟨_, rfl, v, rfl, .inr ⟨ni, _, rfl, iteF k⟩⟩
end
theorem tyX_mono {K : PySem.W.Frag} {H H' : Hp} (s : Same H H') {v : V} {t : Value} (h : TyX K H v t) : TyX K H' v t := by
  cases h with
  | base b =>
    refine .base ?_
    cases b with
    | non => exact .non
    | bl x => exact .bl x
    | int i => exact .int i
    | str x => exact .str x
    | flt x => exact .flt x
    | lst e => exact .lst (s _ _ e)
    | frz e => exact .frz (s _ _ e)
    | tup e => exact .tup (s _ _ e)
    | dK e => exact .dK (s _ _ e)
    | dT e => exact .dT (s _ _ e)
    | ins e cl ha hn htk hm => exact .ins (s _ _ e) cl ha hn htk hm
  | byt b => exact .byt b
  | set e => exact .set (s _ _ e)
  | kList e c => exact .kList e c
  | kTuple e c => exact .kTuple e c
  | kDict e c => exact .kDict e c
  | fTuple e => exact .fTuple (s _ _ e)
  | fDict e => exact .fDict (s _ _ e)
/-- an item of a row: an integer, a bool, or of a kind that isinstance knows -/
def It (K : PySem.W.Frag) (H : Hp) (v : V) : Prop := (∃ i, v = .int i) ∨ (∃ b, v = .bl b) ∨ ∃ (t : Value) (b : Bool), TyX K H v t ∧ PySem.W.kitOne K t (.type "int") = some false ∧ PySem.W.kitOne K t (.type "bool") = some b
theorem It.mono {K : PySem.W.Frag} {H H' : Hp} (s : Same H H') {v : V} (h : It K H v) : It K H' v := by
  rcases h with h | h | ⟨t, b, ty, e1, e2⟩
  · exact .inl h
  · exact .inr (.inl h)
  · exact .inr (.inr ⟨t, b, tyX_mono s ty, e1, e2⟩)
theorem It.cases' {K : PySem.W.Frag} {H : Hp} {v : V} (h : It K H v) : (∃ i, v = .int i) ∨ NI K H v := by
  rcases h with h | h | ⟨t, b, ty, e1, e2⟩
  · exact .inl h
  · exact .inr (.inl h)
  · exact .inr (.inr ⟨t, ty, e1⟩)
theorem ni_not {K : PySem.W.Frag} {H : Hp} {i : Int} : ¬ NI K H (.int i) := fun h => by
  rcases h with ⟨b, e⟩ | ⟨t, ty, e⟩
  · cases e
  · cases ty with
    | base b =>
      cases b
      rw [kit_ty (r := true) (by decide +kernel)] at e
      cases e
def good : V → Bool
  | .int i => decide (1 ≤ i ∧ i ≤ 300)
  | _ => false
def vint : V → Int
  | .int i => i
  | _ => 0
def vsum (xs : List V) : Int := (xs.map vint).sum
/-- whether a list is a row of stretches -/
def right (xs : List V) : Bool := decide (1 ≤ xs.length ∧ xs.length ≤ 100) && (xs.all good && decide (vsum xs ≤ 300))
theorem right_ni {row : List Nat} (h : Stz row) : right (ni row) = true := by
  unfold right
  have l0 : 0 < row.length := List.length_pos_iff.mpr h.ne
  have l1 := h.len
  rw [ni_len, decide_eq_true (by omega), Bool.true_and, Bool.and_eq_true]
  refine ⟨List.all_eq_true.mpr fun x hx => ?_, decide_eq_true ?_⟩
  · obtain ⟨i, hi⟩ := List.getElem?_of_mem hx
    obtain ⟨s, hs, rfl⟩ := ni_get hi
    have hs := List.mem_of_getElem? hs
    have := h.pos s hs
    have := h.le hs
    exact decide_eq_true (by omega)
  · have e : ∀ l : List Nat, vsum (ni l) = ((l.sum : Nat) : Int) := fun l => by
      induction l with
      | nil => rfl
      | cons x r ih =>
        show ((x : Nat) : Int) + vsum (ni r) = _
        rw [ih, List.sum_cons]
        omega
    rw [e]
    have := h.sum
    omega
theorem ni_right {xs : List V} (h : right xs = true) : ∃ row : List Nat, xs = ni row ∧ Stz row := by
  unfold right at h
  rw [Bool.and_eq_true, Bool.and_eq_true] at h
  obtain ⟨h1, h2, h3⟩ := h
  have h1 := of_decide_eq_true h1
  have h3 := of_decide_eq_true h3
  have key : ∀ ys : List V, ys.all good = true → ∃ row : List Nat, ys = ni row ∧ (∀ s ∈ row, 0 < s) ∧ vsum ys = ((row.sum : Nat) : Int) := fun ys => by
    induction ys with
    | nil => exact fun _ => ⟨[], rfl, (fun s hs => by cases hs), rfl⟩
    | cons y r ih =>
      intro hy
      rw [List.all_cons, Bool.and_eq_true] at hy
      obtain ⟨row, e, p, s⟩ := ih hy.2
      cases y with
      | int i =>
        have hi : 1 ≤ i ∧ i ≤ 300 := of_decide_eq_true hy.1
        refine ⟨i.toNat :: row, ?_, fun z hz => ?_, ?_⟩
        · rw [e]
          show V.int i :: ni row = V.int ((i.toNat : Nat) : Int) :: ni row
          rw [Int.toNat_of_nonneg (by omega)]
        · rcases List.mem_cons.mp hz with q | q
          · rw [q]
            omega
          · exact p z q
        · show i + vsum r = _
          rw [s, List.sum_cons]
          omega
      | _ => exact absurd hy.1 (by simp [good])
  obtain ⟨row, e, p, s⟩ := key xs h2
  subst e
  rw [ni_len] at h1
  exact ⟨row, rfl, p, fun z => by rw [z] at h1; simp at h1, by omega, by omega⟩
theorem vsum_take {xs : List V} {i : Nat} {x : V} (h : xs[i]? = some x) : vsum (xs.take (i + 1)) = vsum (xs.take i) + vint x := by
  unfold vsum
  rw [take_snoc h, List.map_append, List.sum_append]
  simp
section
variable {P : Program} {w : World} {K : PySem.W.Frag} {mg : Str → Option Value} {base : Heap} {C CB : Addr}
/-- no list -/
def NL (K : PySem.W.Frag) (H : Hp) (v : V) : Prop := ∃ t, TyX K H v t ∧ PySem.W.kitOne K t (.type "list") = some false
def spAre2 (K : PySem.W.Frag) : Sp := fun vs H Q _ => ∃ v : V, vs = [v] ∧ ((∃ (a : Addr) (xs : List V), v = .ref a ∧ H a = some (.lst xs) ∧ (∀ x ∈ xs, It K H x) ∧ Q (.bl (right xs)) H) ∨ (NL K H v ∧ Q (.bl false) H))
theorem ok_are2 {f : Addr} {fd : FuncData} (F : Fun K "_are_stretches" "_are_stretches" sAreStr f fd) (B : Bn mg) (g1 : ∃ t, mg "MOST_STRETCHES" = some (.int 100 t)) (g2 : ∃ t, mg "GREATEST_SUM" = some (.int 300 t)) (DW : Df P w K mg base 2 "is_within" ["value", "least", "greatest"] (spWithin2 K)) : FnOk P w K mg base CX0 3 f fd ["value"] (spAre2 K) := by
  obtain ⟨fW, fdW, GW, gW, kW, bW⟩ := DW.ex
  obtain ⟨t1, g1⟩ := g1
  obtain ⟨t2, g2⟩ := g2
  refine F.ok scAs (fun vs H Q E h => ?_) (fun cdv A outer s H vs Q E hr h => ?_)
  · obtain ⟨v, rfl, _⟩ := h
    rfl
  · obtain ⟨v, rfl, hh⟩ := h
    refine ⟨_, pss_cons (ps_if (PW.pt (pw_or (pt_not (pt_val (pe_callB call_isi (by rfl) B.isi (by decide +kernel) (pa_cons (pv 0) (pa_cons (pe_bltn (v := .ty "list") (by rfl) B.list (by decide +kernel) rfl) pa_nil))))) (pw_or1 (pt_not (pt_val (pe_call GW (hr.mono (by decide)) rfl gW kW bW .nil pass0 (pa_cons (pe_callB call_len_seq (by rfl) B.len PySem.boot_len (pa_cons (pv 0) pa_nil)) (pa_cons (pe_int) (pa_cons (pe_glob (v := .int 100) rfl g1 ⟨_, rfl⟩) pa_nil))))))))) (pss_one (ps_ret pe_bl)) (pss_nil))
      (pss_cons (ps_set (i := 1) scAs.nd rfl (Or.inl rfl) (pe_int))
      (pss_cons (ps_for PassesOwn.never rfl (pi_list (pv 0)) (pg_name (i := 2) scAs.nd rfl (Or.inl rfl)) (pss_cons (ps_if (pt_not (pt_val (pe_call GW (hr.mono (by decide)) rfl gW kW bW .nil pass0 (pa_cons (pv 2) (pa_cons (pe_int) (pa_cons (pe_glob (v := .int 300) rfl g2 ⟨_, rfl⟩) pa_nil)))))) (pss_one (ps_ret pe_bl)) (pss_nil))
      (pss_one (ps_set (i := 1) scAs.nd rfl (Or.inl rfl) (pe_op op_add (pv 1) (pv 2))))))
      (pss_one (ps_ret (pe_cmpR (op_le) (pv 1) (pe_glob (v := .int 300) rfl g2 ⟨_, rfl⟩) (nomark _)))))), ?_⟩
    rcases hh with ⟨D, xs, rfl, hD, hI, k⟩ | ⟨⟨t, ty, e⟩, k⟩
    · refine ⟨_, rfl, _, _, _, _, true, rfl, .ty _, .base (.lst hD), kit_ty (r := true) (by decide +kernel), _, rfl, iteF ?_⟩
      refine ⟨_, rfl, D, _, rfl, .inl (SqL.of hD), _, 1, 100, rfl, .inl ⟨_, rfl, ?_⟩⟩
      by_cases hl : 1 ≤ xs.length ∧ xs.length ≤ 100
      · rw [decide_eq_true (show (1 : Int) ≤ ((xs.length : Nat) : Int) ∧ ((xs.length : Nat) : Int) ≤ 100 by omega)]
        refine ⟨_, rfl, iteF ?_⟩
        unfold tNext
        dsimp only
        refine set_then (i := 1) ?_
        refine ⟨_, rfl, D, rfl, ⟨_, SqL.of hD⟩, for_list (K := K) (a := D) (xs := xs) (fun i σ G => G = H ∧ (∃ q2, σ = [some (.ref D), some (.int (vsum (xs.take i))), q2]) ∧ ∀ x ∈ xs.take i, good x = true)
          ⟨rfl, ⟨_, rfl⟩, fun x hx => by cases hx⟩ (fun i σ G _ z => by rw [z.1]; exact SqL.of hD) ?_ ?_⟩
        · rintro i x σ G hx ⟨rfl, ⟨q2, rfl⟩, hg⟩
          have hm := List.mem_of_getElem? hx
          have bad : good x = false → Q (.bl false) G := fun e => by
            have : right xs = false := by
              unfold right
              have q : xs.all good = false := by
                rw [Bool.eq_false_iff]
                intro z
                rw [List.all_eq_true.mp z x hm] at e
                cases e
              rw [q, Bool.false_and, Bool.and_false]
            rw [this] at k
            exact k
          rcases (hI x hm).cases' with ⟨z, rfl⟩ | ni
          · refine ⟨_, rfl, _, 1, 300, rfl, .inl ⟨z, rfl, ?_⟩⟩
            by_cases hz : 1 ≤ z ∧ z ≤ 300
            · rw [decide_eq_true hz]
              refine ⟨_, rfl, iteF ⟨_, rfl, _, rfl, _, _, rfl, rfl, rfl, ⟨some (.int z), ?_⟩, fun y hy => ?_⟩⟩
              · rw [vsum_take hx]
                rfl
              · rw [take_snoc hx] at hy
                rcases List.mem_append.mp hy with q | q
                · exact hg y q
                · rw [List.mem_singleton.mp q]
                  exact decide_eq_true hz
            · rw [decide_eq_false hz]
              exact ⟨_, rfl, iteT (bad (decide_eq_false hz))⟩
          · refine ⟨_, rfl, x, 1, 300, rfl, .inr ⟨ni, _, rfl, iteT (bad ?_)⟩⟩
            cases x with
            | int i => exact absurd ni ni_not
            | _ => rfl
        · rintro σ G ⟨rfl, ⟨q2, rfl⟩, hg⟩
          rw [List.take_length] at hg ⊢
          refine ⟨_, rfl, _, _, rfl, rfl, ?_⟩
          show Q (V.bl (decide (vsum xs ≤ 300))) G
          have : right xs = decide (vsum xs ≤ 300) := by
            unfold right
            rw [decide_eq_true hl, Bool.true_and, List.all_eq_true.mpr hg, Bool.true_and]
          rw [← this]
          exact k
      · rw [decide_eq_false (show ¬ ((1 : Int) ≤ ((xs.length : Nat) : Int) ∧ ((xs.length : Nat) : Int) ≤ 100) by omega)]
        have : right xs = false := by
          unfold right
          rw [decide_eq_false hl, Bool.false_and]
        rw [this] at k
        exact ⟨_, rfl, iteT k⟩
    · exact ⟨_, rfl, _, _, _, _, false, rfl, .ty _, ty, e, _, rfl, iteT k⟩
end
end CP

end
section
set_option autoImplicit false
set_option Elab.async false
set_option linter.all false
set_option maxRecDepth 100000
set_option maxHeartbeats 4000000
/-! ## shown, first_cuts: they refuse -/
namespace CP
open PySem L2 G Y
theorem it_ni {K : PySem.W.Frag} {H : Hp} {row : List Nat} : ∀ x ∈ ni row, It K H x := fun x hx => by
  obtain ⟨i, hi⟩ := List.getElem?_of_mem hx
  obtain ⟨s, hs, rfl⟩ := ni_get hi
  exact .inl ⟨_, rfl⟩
/-- no row of stretches -/
def Bad (K : PySem.W.Frag) (H : Hp) (v : V) : Prop := (∃ (a : Addr) (xs : List V), v = .ref a ∧ H a = some (.lst xs) ∧ (∀ x ∈ xs, It K H x) ∧ right xs = false) ∨ NL K H v
theorem Bad.mono {K : PySem.W.Frag} {H H' : Hp} (s : Same H H') {v : V} (h : Bad K H v) : Bad K H' v := by
  rcases h with ⟨a, xs, e, h1, h2, h3⟩ | ⟨t, ty, e⟩
  · exact .inl ⟨a, xs, e, s _ _ h1, fun x hx => (h2 x hx).mono s, h3⟩
  · exact .inr ⟨t, tyX_mono s ty, e⟩
section
variable {P : Program} {w : World} {K : PySem.W.Frag} {mg : Str → Option Value} {base : Heap} {C CB : Addr}
structure Dx (P : Program) (w : World) (K : PySem.W.Frag) (mg : Str → Option Value) (base : Heap) (k : Nat) (x : Str) (ps : List Str) (sp : Sp) : Prop where
  ex : ∃ (f : Addr) (fd : FuncData), FnOk P w K mg base (L2.CX P w) k f fd ps sp ∧ mg x = some (.ref f) ∧ PySem.W.keepIn K (.ref f) = true ∧ Binds K fd ps []
/-- it raises BadStretches with the very value -/
def Rai (CB : Addr) (v : V) (H : Hp) (E : XK) : Prop := ∀ d, H d = none → E (.ref CB) (some d) (upd H d (.xd [("value", v)]))
def spShown2 (K : PySem.W.Frag) (C CB : Addr) : Sp := fun vs H Q E => ∃ v, vs = [v] ∧ ((∃ (D : Addr) (row : List Nat), v = .ref D ∧ H D = some (.lst (ni row)) ∧ Stz row ∧ (N.sk (N.st row) row.sum = true → ∀ H', Same H H' → Q .non H') ∧
  (N.sk (N.st row) row.sum = false → ∀ r H', Same H H' → ChAt C H' (N.nrm (N.st row) row.sum) r → Q (.ref r) H')) ∨ (Bad K H v ∧ Rai CB v H E))
theorem ok_shown2 {f : Addr} {fd : FuncData} (F : Fun K "shown" "shown" sShown f fd) (B : Bn mg) (hsum : mg "sum" = none) (T : Ct K mg C) (ME : G.Mk P w K mg base CB "value") (gE : mg "BadStretches" = some (.ref CB)) (MW : Mw P w K mg base C) (MT : Mg P w K mg base C 3 "parted" ["self", "body"] (spCPart C))
    (DA : Df P w K mg base 3 "_are_stretches" ["value"] (spAre2 K)) (DM : Df P w K mg base 1 "_marks" ["stretches"] spShMarks) (DP : Df P w K mg base 2 "least_periods" ["marks"] spLeastP) : FnOk P w K mg base (L2.CX P w) 7 f fd ["stretches"] (spShown2 K C CB) := by
  obtain ⟨fI, fdI, GI, MK, bI⟩ := MW.ex
  obtain ⟨fT, fdT, GT, mT, bT⟩ := MT.ex
  obtain ⟨fA, fdA, GA, gA, kA, bA⟩ := DA.ex
  obtain ⟨fM, fdM, GM, gM, kM, bM⟩ := DM.ex
  obtain ⟨fP, fdP, GP, gP, kP, bP⟩ := DP.ex
  refine F.okX scSw (fun vs H Q E h => ?_) (fun cdv A outer s H vs Q E hr h => ?_)
  · obtain ⟨v, rfl, _⟩ := h
    rfl
  · obtain ⟨v, rfl, hh⟩ := h
    refine ⟨_, pss_cons (ps_if (pt_not (pt_val (pe_call GA (hr.mono (by decide)) rfl gA kA bA .nil pass0 (pa_cons (pv 0) pa_nil)))) (pss_one (ps_raiseE rfl ME (hr.mono (by decide)) (takes_of rfl rfl rfl rfl) rfl gE (pa_cons (pv 0) pa_nil))) (pss_nil))
      (pss_cons (ps_set (i := 1) scSw.nd rfl (Or.inl rfl) (pe_make MK GI (hr.mono (by decide)) rfl T.g bI .nil pass0 (pa_cons (pe_call GP (hr.mono (by decide)) rfl gP kP bP .nil pass0 (pa_cons (pe_call GM (hr.mono (by decide)) rfl gM kM bM .nil pass0 (pa_cons (pv 0) pa_nil)) pa_nil)) pa_nil)))
      (pss_one (ps_ret (pe_ifExp (pt_cmpR (op_eqD hr.units) (pe_listG (pgen_meth (pv 1) T.cl mT GT (hr.mono (by decide)) bT .nil (pa_cons (pe_callB (cr_sum rfl) (by rfl) hsum (by decide +kernel) (pa_cons (pv 0) pa_nil)) pa_nil)) GF.passG GF.noStop0 (hr.mono (by decide)) (by rfl) B.list (by decide +kernel)) (pv 0) (nomark _)) (pv 1) pe_non)))), ?_⟩
    rcases hh with ⟨D, row, rfl, hD, hs, k0, k1⟩ | ⟨bd, ke⟩
    · skip
      have rs := hs.sum
      have hpos : 0 < row.sum := by
        cases row with
        | nil => exact (hs.ne rfl).elim
        | cons s r =>
          have := hs.pos s List.mem_cons_self
          rw [List.sum_cons]
          omega
      refine ⟨_, rfl, _, rfl, .inl ⟨D, _, rfl, hD, it_ni, ?_⟩⟩
      rw [right_ni hs]
      refine ⟨_, rfl, iteF ?_⟩
      have s1 : Same H H := Same.refl H
      have hD1 := hD
      unfold tNext
      dsimp only
      refine set_then (i := 1) ⟨_, rfl, D, row, rfl, hD1, hs, fun R G2 s2 hR => ⟨R, row.sum, N.st row, rfl, hR, by omega, fun L G3 s3 hL => fun x dx hx hdx ne => made_ch hx hdx ne (.inl hL) (cuts_row hs) fun G4 s4 hch => ⟨rfl, ?_⟩⟩⟩
      have s14 := (s1.trans s2).trans (s3.trans s4)
      have hD4 := s14 _ _ hD
      obtain ⟨dx2, fs, i1, i2⟩ := hch.ins nkp
      refine ⟨_, rfl, x, dx2, fs, rfl, i1, i2, _, rfl, D, row.map fun n => ((n : Nat) : Int), rfl, SqL.of hD4, ?_⟩
      rw [sum_cast]
      refine ⟨x, row.sum, _, rfl, hch, cuts_row hs, hpos, by omega, fun G5 s5 p1 hp1 => ?_⟩
      have s6 := s5.trans (of_upd (o := .lst (ni (N.pt (N.nrm (N.st row) row.sum) [row.sum]))) hp1)
      refine ⟨_, rfl, eq_any (SqL.of upd_same) (SqL.of (s6 _ _ hD4)) ⟨_, rfl, ?_⟩⟩
      by_cases c : N.sk (N.st row) row.sum = false
      · rw [decide_eq_true ((N.parts_so hs.pos hs.ne).mpr c)]
        exact iteT ⟨_, rfl, k1 c x _ (s14.trans s6) (hch.mono s6)⟩
      · rw [decide_eq_false (fun h => c ((N.parts_so hs.pos hs.ne).mp h))]
        exact iteF (k0 (by simpa using c) _ (s14.trans s6))
    · have fin : tRaiseE CB "value" (fun cls d _ H => E cls d H) (tCons (tVar 0) tNil) { nx := fun _ H' => Q .non H', rt := Q } (start ["stretches", "chain"] [v]) H := ⟨_, rfl, mkO_of fun d hd => ke d hd⟩
      rcases bd with ⟨a, xs, rfl, h1, h2, h3⟩ | nl
      · refine ⟨_, rfl, _, rfl, .inl ⟨a, xs, rfl, h1, h2, ?_⟩⟩
        rw [h3]
        exact ⟨_, rfl, iteT fin⟩
      · exact ⟨_, rfl, v, rfl, .inr ⟨nl, _, rfl, iteT fin⟩⟩
def spFirstCuts2 (K : PySem.W.Frag) (CB : Addr) : Sp := fun vs H Q E => ∃ v, vs = [v] ∧ ((∃ (D : Addr) (row : List Nat), v = .ref D ∧ H D = some (.lst (ni row)) ∧ Stz row ∧ ∀ R H', Same H H' → H R = none → H' R = some (.lst (ni (fcs row))) → Q (.ref R) H') ∨ (Bad K H v ∧ Rai CB v H E))
theorem ok_firstcuts2 {f : Addr} {fd : FuncData} (F : Fun K "first_cuts" "first_cuts" sFirstCuts f fd) (hsum : mg "sum" = none) (DW : Dx P w K mg base 7 "shown" ["stretches"] (spShown2 K C CB)) (DM : Df P w K mg base 1 "_marks" ["stretches"] spShMarks) (DB : Df P w K mg base 1 "borders" ["marks"] spBorders) :
    FnOk P w K mg base (L2.CX P w) 8 f fd ["stretches"] (spFirstCuts2 K CB) := by
  obtain ⟨fW, fdW, GW, gW, kW, bW⟩ := DW.ex
  obtain ⟨fM, fdM, GM, gM, kM, bM⟩ := DM.ex
  obtain ⟨fB, fdB, GB, gB, kB, bB⟩ := DB.ex
  refine F.okX scFi (fun vs H Q E h => ?_) (fun cdv A outer s H vs Q E hr h => ?_)
  · obtain ⟨v, rfl, _⟩ := h
    rfl
  · obtain ⟨v, rfl, hh⟩ := h
    refine ⟨_, pss_cons (ps_if (pt_cmp (pc_isN (pe_callS GW (hr.mono (by decide)) rfl gW kW bW (fun σ => passAt (takes_of rfl rfl rfl rfl) σ) (pa_cons (pv 0) pa_nil)))) (pss_one (ps_ret (pe_lst pa_nil))) (pss_nil))
      (pss_cons (ps_set (i := 1) scFi.nd rfl (Or.inl rfl) (pe_call GB (hr.mono (by decide)) rfl gB kB bB .nil pass0 (pa_cons (pe_call GM (hr.mono (by decide)) rfl gM kM bM .nil pass0 (pa_cons (pv 0) pa_nil)) pa_nil)))
      (pss_cons (ps_set (i := 2) scFi.nd rfl (Or.inl rfl) (pe_callB (cr_sum rfl) (by rfl) hsum (by decide +kernel) (pa_cons (pv 0) pa_nil)))
      (pss_cons (ps_set (i := 3) scFi.nd rfl (Or.inl rfl) (pe_lst pa_nil))
      (pss_cons (ps_set (i := 4) scFi.nd rfl (Or.inl rfl) (pe_ix ix_list (pv 1) (pv 2) (fun _ _ => rfl)))
      (pss_cons (ps_while (passes_of rfl) (pt_cmpR (op_gt) (pv 4) (pe_int) (nomark _)) (pss_cons (ps_expr (pe_bm PySem.F.plainAttrs_list PySem.F.slot_list_append PySem.F.type_list_append mt_append (pv 3) (pa_cons (pe_op op_sub (pv 2) (pv 4)) pa_nil)))
      (pss_one (ps_set (i := 4) scFi.nd rfl (Or.inl rfl) (pe_ix ix_list (pv 1) (pv 4) (fun _ _ => rfl))))))
      (pss_one (ps_ret (pv 3)))))))), ?_⟩
    rcases hh with ⟨D, row, rfl, hD, hs, k⟩ | ⟨bd, ke⟩
    · skip
      have rs := hs.sum
      have hpos : 0 < row.sum := by
        cases row with
        | nil => exact (hs.ne rfl).elim
        | cons x r =>
          have := hs.pos x List.mem_cons_self
          rw [List.sum_cons]
          omega
      refine ⟨_, rfl, _, rfl, .inl ⟨D, row, rfl, hD, hs, fun c G s1 => ⟨_, rfl, iteT ⟨line2.2.2.2, fun R hR => k R _ (s1.trans (of_upd hR)) (s1.free hR) ?_⟩⟩, fun c r G s1 hr1 => ⟨_, rfl, iteF ?_⟩⟩⟩
      · rw [upd_same]
        unfold fcs
        rw [if_pos c]
        rfl
      have ef : fcs row = pds (N.st row) row.sum (row.sum - 1) := by
        unfold fcs
        rw [c, if_neg Bool.false_ne_true]
      rw [ef] at k
      unfold tNext
      dsimp only
      refine set_then (i := 1) ⟨_, rfl, D, row, rfl, s1 _ _ hD, hs, fun R1 G2 s2 hR1 => ⟨R1, row.sum, N.st row, rfl, hR1, by omega, fun R2 G3 s3 hR2 => ?_⟩⟩
      have s13 := (s1.trans s2).trans s3
      have hD3 := s13 _ _ hD
      refine set_then (i := 2) ⟨_, rfl, D, row.map fun n => ((n : Nat) : Int), rfl, SqL.of hD3, ?_⟩
      rw [sum_cast]
      refine set_then (i := 3) ⟨line2.2.2.2, fun R hR => ?_⟩
      have hR0 := s13.free hR
      have s4 : Same H (upd G3 R (.lst [])) := s13.trans (of_upd hR)
      have hR4 := (of_upd (o := .lst []) hR) _ _ hR2
      have hRR : (upd G3 R (.lst [])) R = some (.lst []) := upd_same
      generalize upd G3 R (.lst []) = G4 at s4 hR4 hRR ⊢
      have at0' : ∀ m, m ≤ row.sum → atI (bl (N.st row) (row.sum + 1)) (m : Int) = some (.int (N.bd (N.st row) m)) := fun m hm => atI_nat (bl_at (by omega))
      refine set_then (i := 4) ⟨_, rfl, _, rfl, R2, _, _, .int (N.bd (N.st row) row.sum), rfl, rfl, SqL.of hR4, at0' _ (Nat.le_refl _), ?_⟩
      obtain ⟨h1, h2, h3, h4⟩ := N.lp_spec (f := N.st row) (k := row.sum) hpos
      refine ⟨fun m σ G => Same H G ∧ G R2 = some (.lst (bl (N.st row) (row.sum + 1))) ∧ G R = some (.lst (ni (pds (N.st row) row.sum (row.sum - m - 1)))) ∧ m < row.sum ∧ (0 < m → N.Pd (N.st row) row.sum (row.sum - m) = true) ∧ σ = [some (.ref D), some (.ref R2), some (.int ((row.sum : Nat) : Int)), some (.ref R), some (.int (m : Int))], ⟨row.sum - N.lp (N.st row) row.sum, s4, hR4, ?_, by omega, fun _ => by rw [show row.sum - (row.sum - N.lp (N.st row) row.sum) = N.lp (N.st row) row.sum by omega]; exact h3, ?_⟩, ?_⟩
      · rw [pds_skip (a := 0) (Nat.zero_le _) fun q q1 q2 => by
          cases e : N.Pd (N.st row) row.sum q with
          | false => rfl
          | true =>
            have := h4 q (by omega) e
            omega]
        exact hRR
      · show [some (V.ref D), some (.ref R2), some (.int ((row.sum : Nat) : Int)), some (.ref R), some (.int (N.bd (N.st row) row.sum))] = _
        rw [show N.bd (N.st row) row.sum = ((row.sum - N.lp (N.st row) row.sum : Nat) : Int) by unfold N.bd; omega]
      · rintro m σ G ⟨s5, hG2, hG, hm, hp, rfl⟩
        refine ⟨_, rfl, _, _, rfl, rfl, _, rfl, ?_⟩
        by_cases m0 : 0 < m
        · rw [decide_eq_true (show (0 : Int) < (m : Int) by omega)]
          obtain ⟨b', e1, e2, e3, e4⟩ := next_border m0 hm (hp m0)
          refine iteT ⟨fun σ' G' => Same H G' ∧ G' R2 = some (.lst (bl (N.st row) (row.sum + 1))) ∧ G' R = some (.lst (ni (pds (N.st row) row.sum (row.sum - b' - 1)))) ∧ b' < row.sum ∧ (0 < b' → N.Pd (N.st row) row.sum (row.sum - b') = true) ∧ σ' = [some (.ref D), some (.ref R2), some (.int ((row.sum : Nat) : Int)), some (.ref R), some (.int (b' : Int))], fun σ' G' z => ⟨b', e2, z⟩, ?_⟩
          have ne : R2 ≠ R := fun z => by
            rw [z, hRR] at hR4
            have := congrArg (fun o => match o with | some (HO.lst xs) => xs.length | _ => 0) hR4
            simp [bl_len] at this
          refine ⟨_, rfl, .inl ⟨rfl, _, SqL.of hG⟩, _, rfl, _, rfl, _, _, rfl, rfl, R, _, _, rfl, rfl, hG, ?_, ?_⟩
          · rw [ni_len]
            exact small1000 (Nat.le_trans (pds_len _ _ _) (by omega))
          have hG2' : (upd G R (.lst (ni (pds (N.st row) row.sum (row.sum - m - 1)) ++ [.int (((row.sum : Nat) : Int) - (m : Int))]))) R2 = some (.lst (bl (N.st row) (row.sum + 1))) := by
            rw [upd_ne ne]
            exact hG2
          refine ⟨_, rfl, _, rfl, R2, _, _, .int (N.bd (N.st row) m), rfl, rfl, SqL.of hG2', at0' _ (by omega), add_upd hR0 s5, hG2', ?_, by omega, e3, ?_⟩
          · rw [upd_same, e4, ni_app]
            dsimp only
            rw [show ((row.sum : Nat) : Int) - (m : Int) = ((row.sum - m : Nat) : Int) by omega]
            rfl
          · show [some (V.ref D), some (.ref R2), some (.int ((row.sum : Nat) : Int)), some (.ref R), some (.int (N.bd (N.st row) m))] = _
            rw [e1]
        · rw [decide_eq_false (show ¬ (0 : Int) < (m : Int) by omega)]
          have e0 : m = 0 := by omega
          subst e0
          exact iteF ⟨_, rfl, k R G s5 hR0 hG⟩
    · exact ⟨_, rfl, v, rfl, .inr ⟨bd, ke⟩⟩
end
end CP

end
section
set_option autoImplicit false
set_option Elab.async false
set_option linter.all false
set_option maxRecDepth 100000
set_option maxHeartbeats 4000000
/-! ## _law_caught, _law_is_right -/
namespace LN
open PySem PySem.Spec PyProof.Rows L2
def rNeNil (K : PySem.W.Frag) : R2 := fun x y H Q => ∃ (a b : Addr) (xs : List V), x = .ref a ∧ y = .ref b ∧ SqL K H a xs ∧ SqL K H b [] ∧ Q (.bl (!xs.isEmpty)) H
theorem op_neNil {X : Cx} (hu : X.A.units + 64 < cLine) : OpR X (compareOp .NotEq) (rNeNil X.K) := by
  intro pins s σ H x y v u Q I rx ry h
  obtain ⟨a, b, xs, rfl, rfl, ha, hb, q⟩ := h
  cases (show v = Value.ref a from rx)
  cases (show u = Value.ref b from ry)
  obtain ⟨ia, ra, la, _⟩ := I.list ha
  obtain ⟨ib, rb, lb, _⟩ := I.list hb
  cases rb
  have pa := la.isList
  have pb := lb.isList
  cases ra with
  | nil => exact SeqAt.RcNeAt.lists (e := fun _ => true) pa pb rfl (by omega) (fun j h1 => absurd h1 (by simp)) _ _ _ _ ⟨.bl false, H, I, rfl, q⟩
  | cons r rr => exact SeqAt.RcNeAt.lists_lengths pa pb (by simp) (by omega) _ _ _ _ ⟨.bl true, H, I, rfl, q⟩
end LN
namespace CP
open PySem L2 G Y
abbrev sCaught : Stmt := S.top 29
abbrev sIsRight : Stmt := S.top 30
section
variable {P : Program} {w : World} {K : PySem.W.Frag} {mg : Str → Option Value} {base : Heap} {C CB : Addr}
def spCaught (K : PySem.W.Frag) : Sp := fun vs H Q _ => ∃ (v : V) (i : Int), vs = [v, .int i] ∧ ((∃ (D : Addr) (row : List Nat), v = .ref D ∧ H D = some (.lst (ni row)) ∧ Stz row ∧ ∀ p H', Same H H' → H p = none → H' p = some (.lst []) → Q (.ref p) H') ∨
  (Bad K H v ∧ ∀ p H', Same H H' → H p = none → H' p = some (.lst [v]) → Q (.ref p) H'))
theorem scCt : FnScope ["value", "way", "found", "error"] ["value", "way"] (defScope sCaught) := ⟨rfl, rfl, rfl, by decide +kernel, rfl, by decide +kernel, by decide +kernel⟩
theorem ok_caught {f : Addr} {fd : FuncData} (F : Fun K "_law_caught" "_law_caught" sCaught f fd) (L : G.Cl K CB "value") (hB : mg "BadStretches" = some (.ref CB)) (hex : PySem.W.exmOne K (.ref CB) (.ref CB) = some true) (DS : Dx P w K mg base 7 "shown" ["stretches"] (spShown2 K C CB)) (DC : Dx P w K mg base 8 "first_cuts" ["stretches"] (spFirstCuts2 K CB)) :
    FnOk P w K mg base CX0 9 f fd ["value", "way"] (spCaught K) := by
  obtain ⟨fS, fdS, GS, gS, kS, bS⟩ := DS.ex
  obtain ⟨fC, fdC, GC, gC, kC, bC⟩ := DC.ex
  refine F.ok scCt (fun vs H Q E h => ?_) (fun cdv A outer s H vs Q E hr h => ?_)
  · obtain ⟨v, i, rfl, _⟩ := h
    rfl
  · obtain ⟨v, i, rfl, hh⟩ := h
    refine ⟨_, pss_cons (ps_set (i := 2) scCt.nd rfl (Or.inl rfl) (pe_lst pa_nil))
      (pss_cons (ps_try_as (i := 3) (tb := fun W => tIfS (tTest (tOp rEq (tVar 1) (tC (.int 0)))) (tDrop (tCallS (spShown2 K C CB) (WE W) (tCons (tVar 0) tNil))) (tDrop (tCallS (spFirstCuts2 K CB) (WE W) (tCons (tVar 0) tNil)))) (ts := fun a cls d => tAsg (tLst (tCons (tXf a cls d CB "value" (tVar 3)) tNil)) (gName 2)) (Wout := fun _ _ _ _ => False) rfl rfl scCt.nd rfl rfl ⟨rfl, by decide, Or.inl hB⟩ takes0
          (fun W pn xe tk _ => pss_one (ps_if (by exact (pt_cmpR op_eq (pv 1) pe_int (nomark _))) (pss_one (ps_expr (pe_callS GS (hr.mono (by decide)) rfl gS kS bS (fun σ => passAt tk σ) (by exact (pa_cons (pv 0) pa_nil))))) (pss_one (ps_expr (pe_callS GC (hr.mono (by decide)) rfl gC kC bC (fun σ => passAt tk σ) (by exact (pa_cons (pv 0) pa_nil)))))))
          (fun a oe cls d pn hz hf => pss_one (ps_set (i := 2) scCt.nd rfl (Or.inl rfl) (by exact (pe_lst (pa_cons (pe_xf (xf_of L) L.no hz hf (pv 3)) pa_nil))))))
      (pss_one (ps_ret (pv 2)))), ?_⟩
    refine set_then (i := 2) ⟨line2.2.2.2, fun p hp => ?_⟩
    have s1 := of_upd (o := .lst []) hp
    have e1 : upd H p (.lst []) p = some (.lst []) := upd_same
    generalize upd H p (.lst []) = H1 at s1 e1 ⊢
    refine ⟨_, rfl, rfl, _, rfl, ?_⟩
    rcases hh with ⟨D, row, rfl, hD, hs, kk⟩ | ⟨bd, kk⟩
    · have fin : ∀ H2, Same H1 H2 → tRet (tVar 2) { nx := fun _ H' => Q .non H', rt := Q } [some (.ref D), some (.int i), some (.ref p), none] H2 := fun H2 s2 => ⟨_, rfl, kk p H2 (s1.trans s2) hp (s2 _ _ e1)⟩
      refine ite2 (fun c => ⟨_, rfl, _, rfl, .inl ⟨D, row, rfl, s1 _ _ hD, hs, fun _ H2 s2 => fin H2 s2, fun _ r H2 s2 _ => fin H2 s2⟩⟩) (fun c => ⟨_, rfl, _, rfl, .inl ⟨D, row, rfl, s1 _ _ hD, hs, fun R H2 s2 _ _ => fin H2 s2⟩⟩)
    · have rai : Rai CB v H1 (WE (wAs K (.ref CB) 3 (fun a cls d => tAsg (tLst (tCons (tXf a cls d CB "value" (tVar 3)) tNil)) (gName 2)) (fun _ _ _ _ => False) { nx := tRet (tVar 2) { nx := fun _ H' => Q .non H', rt := Q }, rt := Q }) [some v, some (.int i), some (.ref p), none]) := fun d hd0 => by
        refine ⟨true, hex, fun _ a0 _ => ?_, fun q => Bool.noConfusion q⟩
        refine ⟨_, rfl, rfl, rfl, d, _, v, rfl, upd_same, look_one, line2.2.2.1, fun p2 hp2 => ⟨_, rfl, ?_⟩⟩
        have s2 := of_upd (o := .xd [("value", v)]) hd0
        have s3 := of_upd (o := .lst [v]) hp2
        exact kk p2 _ (s1.trans (s2.trans s3)) ((s1.trans s2).free hp2) upd_same
      exact ite2 (fun c => ⟨_, rfl, _, rfl, .inr ⟨bd.mono s1, rai⟩⟩) (fun c => ⟨_, rfl, _, rfl, .inr ⟨bd.mono s1, rai⟩⟩)
end
end CP

end
section
set_option autoImplicit false
set_option Elab.async false
set_option linter.all false
set_option maxRecDepth 100000
set_option maxHeartbeats 4000000
/-! ## _law_is_right -/
namespace CP
open PySem L2 G Y
theorem int_of {K : PySem.W.Frag} {H : Hp} {x : V} (h : It K H x) : (∃ i, x = .int i) ∨ ∀ i, x ≠ .int i := by
  cases x with
  | int i => exact .inl ⟨i, rfl⟩
  | _ => exact .inr fun i z => by cases z
theorem ints_of : ∀ {xs : List V}, (∀ x ∈ xs, ∃ i, x = V.int i) → ∃ ns : List Int, xs = ns.map V.int
  | [], _ => ⟨[], rfl⟩
  | x :: r, h => by
    obtain ⟨i, rfl⟩ := h x List.mem_cons_self
    obtain ⟨ns, e⟩ := ints_of fun y hy => h y (List.mem_cons_of_mem _ hy)
    exact ⟨i :: ns, by rw [e]; rfl⟩
theorem le_sum : ∀ {ns : List Int}, (∀ n ∈ ns, 0 < n) → ∀ n ∈ ns, n ≤ ns.sum
  | [], _, n, hn => by cases hn
  | x :: r, h, n, hn => by
    have h0 := h x List.mem_cons_self
    have ih := le_sum (ns := r) fun y hy => h y (List.mem_cons_of_mem _ hy)
    have hs : 0 ≤ r.sum := by
      cases r with
      | nil => exact Int.le_refl 0
      | cons y s =>
        have := ih y List.mem_cons_self
        have := h y (List.mem_cons_of_mem _ List.mem_cons_self)
        omega
    rw [List.sum_cons]
    rcases List.mem_cons.mp hn with q | q
    · rw [q]
      omega
    · have := ih n q
      omega
/-- integers: a row if they are greater than 0 with a sum of at most 300 -/
theorem right_ints {ns : List Int} (l : 1 ≤ ns.length ∧ ns.length ≤ 100) : right (ns.map V.int) = (decide (∀ n ∈ ns, 0 < n) && decide (ns.sum ≤ 300)) := by
  have e : vsum (ns.map V.int) = ns.sum := by
    unfold vsum
    rw [List.map_map]
    congr 1
    conv => rhs; rw [← List.map_id ns]
    rfl
  unfold right
  rw [List.length_map, decide_eq_true l, Bool.true_and, e]
  by_cases hp : ∀ n ∈ ns, 0 < n
  · rw [decide_eq_true hp, Bool.true_and]
    by_cases hs : ns.sum ≤ 300
    · rw [decide_eq_true hs, Bool.and_true]
      refine List.all_eq_true.mpr fun x hx => ?_
      obtain ⟨n, hn, rfl⟩ := List.mem_map.mp hx
      have := hp n hn
      have := le_sum hp n hn
      exact decide_eq_true (by omega)
    · rw [decide_eq_false hs, Bool.and_false]
  · rw [decide_eq_false hp, Bool.false_and]
    have : (ns.map V.int).all good = false := by
      rw [Bool.eq_false_iff]
      intro z
      refine hp fun n hn => ?_
      have := of_decide_eq_true (List.all_eq_true.mp z (.int n) (List.mem_map.mpr ⟨n, hn, rfl⟩))
      omega
    rw [this, Bool.false_and]
theorem right_len {xs : List V} (h : ¬ (1 ≤ xs.length ∧ xs.length ≤ 100)) : right xs = false := by
  unfold right
  rw [decide_eq_false h, Bool.false_and]
theorem right_odd {xs : List V} {x : V} (hx : x ∈ xs) (h : ∀ i, x ≠ .int i) : right xs = false := by
  unfold right
  have : xs.all good = false := by
    rw [Bool.eq_false_iff]
    intro z
    have q := List.all_eq_true.mp z x hx
    cases x with
    | int i => exact h i rfl
    | _ => cases q
  rw [this, Bool.false_and, Bool.and_false]
section
variable {P : Program} {w : World} {K : PySem.W.Frag} {mg : Str → Option Value} {base : Heap} {C CB : Addr}
def spIsRight (K : PySem.W.Frag) : Sp := fun vs H Q _ => ∃ v : V, vs = [v] ∧ ((∃ (a : Addr) (xs : List V), v = .ref a ∧ H a = some (.lst xs) ∧ xs.length ≤ 1000 ∧ (∀ x ∈ xs, It K H x) ∧ ∀ H', Same H H' → Q (.bl (right xs)) H') ∨ (NL K H v ∧ Q (.bl false) H))
abbrev NIr : List Str := ["value", "part"]
theorem scIr : FnScope NIr ["value"] (defScope sIsRight) := ⟨rfl, rfl, rfl, by decide +kernel, rfl, by decide +kernel, by decide +kernel⟩
theorem ok_isright {f : Addr} {fd : FuncData} (F : Fun K "_law_is_right" "_law_is_right" sIsRight f fd) (B : Bn mg) (hsum : mg "sum" = none) : FnOk P w K mg base CX0 1 f fd ["value"] (spIsRight K) := by
  refine F.ok scIr (fun vs H Q E h => ?_) (fun cdv A outer s H vs Q E hr h => ?_)
  · obtain ⟨v, rfl, _⟩ := h
    rfl
  · obtain ⟨v, rfl, hh⟩ := h
    refine ⟨_, pss_cons (ps_if (PW.pt (pw_or (pt_not (pt_val (pe_callB call_isi (by rfl) B.isi (by decide +kernel) (pa_cons (pv 0) (pa_cons (pe_bltn (v := .ty "list") (by rfl) B.list (by decide +kernel) rfl) pa_nil))))) (pw_or (pt_cmpR op_lt (pe_callB call_len_seq (by rfl) B.len PySem.boot_len (pa_cons (pv 0) pa_nil)) pe_int (nomark _)) (pw_or1 (pt_cmpR op_gt (pe_callB call_len_seq (by rfl) B.len PySem.boot_len (pa_cons (pv 0) pa_nil)) pe_int (nomark _)))))) (pss_one (ps_ret pe_bl)) (pss_nil))
      (pss_cons (ps_if (pt_cmpR (LN.op_neNil hr.units) (pe_lc (own := [("part", 1)]) (g := gName 1) (tt := tOr (tB (tCB (rIsi K) (tCons (tVar 1) (tCons (tC (V.ty "bool")) tNil)))) (tNot (tB (tCB (rIsi K) (tCons (tVar 1) (tCons (tC (V.ty "int")) tNil)))))) (te := tVar 1) rfl scIr.nd (pi_list (pv 0)) (blkOk_by (N := NIr) (sc := defScope sIsRight) (by decide +kernel))
          (fun _ _ _ _ _ => by exact (pg_name (i := 1) scIr.nd rfl (Or.inl rfl))) (fun _ _ _ _ _ => pts_one (by exact (PW.pt (pw_or (pt_val (pe_callB call_isi (by rfl) B.isi (by decide +kernel) (pa_cons (pv 1) (pa_cons (pe_bltn (v := .ty "bool") (by rfl) B.bool (by decide +kernel) rfl) pa_nil)))) (pw_or1 (pt_not (pt_val (pe_callB call_isi (by rfl) B.isi (by decide +kernel) (pa_cons (pv 1) (pa_cons (pe_bltn (v := .ty "int") (by rfl) B.int (by decide +kernel) rfl) pa_nil)))))))))) (fun _ _ _ _ _ => by exact (pv 1))) (pe_lst pa_nil) (nomark _)) (pss_one (ps_ret pe_bl)) (pss_nil))
      (pss_one (ps_ret (pe_and (pe_cmpR op_gt (pe_callB (cr_min rfl) (by rfl) B.min (by decide +kernel) (pa_cons (pv 0) pa_nil)) pe_int (nomark _)) (pe_one (pe_cmpR op_le (pe_callB (cr_sum rfl) (by rfl) hsum (by decide +kernel) (pa_cons (pv 0) pa_nil)) pe_int (nomark _))))))), ?_⟩
    rcases hh with ⟨D, xs, rfl, hD, hz, hI, k⟩ | ⟨⟨t, ty, e⟩, k⟩
    · refine ⟨_, rfl, _, _, _, _, true, rfl, .ty _, .base (.lst hD), kit_ty (r := true) (by decide +kernel), _, rfl, iteF ?_⟩
      refine ⟨_, rfl, D, _, rfl, .inl (SqL.of hD), _, _, rfl, rfl, _, rfl, ite2 (fun c => ?_) (fun c => ?_)⟩
      · have c2 : ((xs.length : Nat) : Int) < 1 := of_decide_eq_true c
        rw [right_len (by omega)] at k
        exact iteT (k H (Same.refl H))
      have c2 : ¬ ((xs.length : Nat) : Int) < 1 := fun z => c (decide_eq_true z)
      refine ⟨_, rfl, D, _, rfl, .inl (SqL.of hD), _, _, rfl, rfl, _, rfl, ite2 (fun d => ?_) (fun d => ?_)⟩
      · have d2 : (100 : Int) < ((xs.length : Nat) : Int) := of_decide_eq_true d
        rw [right_len (by omega)] at k
        exact k H (Same.refl H)
      have d2 : ¬ (100 : Int) < ((xs.length : Nat) : Int) := fun z => d (decide_eq_true z)
      unfold tNext
      dsimp only
      refine ⟨_, rfl, D, rfl, ⟨_, SqL.of hD⟩, fun D5 n5 => ?_⟩
      refine lc_it walk_list (fun j G => Same H G ∧ ∃ ys : List V, G D5 = some (.lst ys) ∧ ys.length ≤ j ∧ (ys = [] ↔ ∀ x ∈ xs.take j, ∃ i, x = V.int i)) ⟨of_upd n5, [], upd_same, Nat.le_refl _, ⟨fun _ x hx => (by cases hx), fun _ => rfl⟩⟩ (fun j G _ z => SqL.of (z.1 _ _ hD)) ?_ ?_
      · rintro j y G0 G hj ⟨sA, ys, hy, ly, ky⟩ ⟨rfl, hyx⟩
        have hI1 := (hI y (List.mem_of_getElem? hyx)).mono sA
        have put : (∀ i, y ≠ .int i) → Same H (upd G D5 (.lst (ys ++ [y]))) ∧ ∃ zs : List V, (upd G D5 (.lst (ys ++ [y]))) D5 = some (.lst zs) ∧ zs.length ≤ j + 1 ∧ (zs = [] ↔ ∀ x ∈ xs.take (j + 1), ∃ i, x = V.int i) := fun h =>
          ⟨add_upd n5 sA, ys ++ [y], upd_same, by simp; exact ly, ⟨fun z => absurd z (by simp), fun z => by
            obtain ⟨i, e⟩ := z y (by rw [take_snoc hyx]; simp)
            exact absurd e (h i)⟩⟩
        rcases hI1 with ⟨i, rfl⟩ | ⟨b, rfl⟩ | ⟨t, b, ty, e1, e2⟩
        · refine ⟨rfl, _, rfl, _, _, _, _, false, rfl, .ty _, .base (.int _), kit_ty (by decide +kernel), _, rfl, iteF ⟨_, rfl, _, _, _, _, true, rfl, .ty _, .base (.int _), kit_ty (by decide +kernel), _, rfl, iteF ⟨sA, ys, hy, by omega, ?_⟩⟩⟩
          rw [take_snoc hyx]
          refine ⟨fun z x hx => ?_, fun z => ky.mpr fun x hx => z x (List.mem_append_left _ hx)⟩
          rcases List.mem_append.mp hx with q | q
          · exact ky.mp z x q
          · exact ⟨i, List.mem_singleton.mp q⟩
        · exact ⟨rfl, _, rfl, _, _, _, _, true, rfl, .ty _, .base (.bl _), kit_ty (by decide +kernel), _, rfl, iteT (iteT ⟨_, rfl, ys, hy, small1000 (by omega), put fun i z => by cases z⟩)⟩
        · have ne : ∀ i, y ≠ .int i := fun i z => by
            subst z
            exact ni_not (.inr ⟨t, ty, e1⟩)
          refine ⟨rfl, _, rfl, _, _, _, _, b, rfl, .ty _, ty, e2, _, rfl, ?_⟩
          cases b with
          | true => exact iteT (iteT ⟨_, rfl, ys, hy, small1000 (by omega), put ne⟩)
          | false => exact iteF ⟨_, rfl, _, _, _, _, false, rfl, .ty _, ty, e1, _, rfl, iteT ⟨_, rfl, ys, hy, small1000 (by omega), put ne⟩⟩
      rintro G ⟨sA, ys, hy, ly, ky⟩
      rw [List.take_length] at ky
      refine ⟨line2.2.2.2, fun E5 hE5 => ?_⟩
      have g4 := of_upd (o := .lst []) hE5
      refine ⟨D5, E5, ys, rfl, rfl, SqL.of (g4 _ _ hy), SqL.of upd_same, _, rfl, ?_⟩
      have s5 := sA.trans g4
      generalize upd G E5 (.lst []) = Gz at s5 ⊢
      cases ys with
      | cons y ys =>
        refine iteT ?_
        have : right xs = false := by
          by_cases h : ∃ x ∈ xs, ∀ i, x ≠ V.int i
          · obtain ⟨x, hx, hi⟩ := h
            exact right_odd hx hi
          · exfalso
            have := ky.mpr fun x hx => by
              rcases int_of (hI x hx) with q | q
              · exact q
              · exact absurd ⟨x, hx, q⟩ h
            cases this
        rw [this] at k
        exact k _ s5
      | nil =>
        obtain ⟨ns, rfl⟩ := ints_of (ky.mp rfl)
        refine iteF ?_
        rw [List.length_map] at c2 d2
        rw [right_ints ⟨by omega, by omega⟩] at k
        dsimp only
        refine ⟨_, rfl, D, ns, rfl, SqL.of (s5 _ _ hD), by omega, fun m hm hle => ⟨_, _, rfl, rfl, _, rfl, ite2 (fun p => ?_) (fun p => ?_)⟩⟩
        · have p2 : 0 < m := of_decide_eq_true p
          refine ⟨_, rfl, D, ns, rfl, SqL.of (s5 _ _ hD), _, _, rfl, rfl, ?_⟩
          rw [decide_eq_true (show ∀ n ∈ ns, 0 < n from fun n hn => by have := hle n hn; omega), Bool.true_and] at k
          exact k _ s5
        · have p2 : ¬ 0 < m := fun z => p (decide_eq_true z)
          rw [decide_eq_false (show ¬ ∀ n ∈ ns, 0 < n from fun z => p2 (z m hm)), Bool.false_and] at k
          exact k _ s5
    · exact ⟨_, rfl, _, _, _, _, false, rfl, .ty _, ty, e, _, rfl, iteT k⟩
end
end CP

end
section
set_option autoImplicit false
set_option Elab.async false
set_option linter.all false
set_option maxRecDepth 100000
set_option maxHeartbeats 4000000
/-! ## a tuple, the other way round -/
namespace QR
open PySem PySem.Spec PyProof.Rows L2
section
variable {prog : Program} {w : World} {A : Around} {E : Value → Shared → Prop} {s : Shared}
theorem applied_back {sl : Addr} {vs : Value} {n : Nat} {Q : Int × Int × Nat → Shared → Prop} (hs : s.heap.IsSliceOf sl .none .none vs) (ps : IsPart vs (some (-1)))
    (h : Q ((n : Int) - 1, -1, n) s) : wpAny (model prog w) A (Builtin.Slice.sliceApplied (.ref sl) (pure (n : Int))) Q E s := by
  obtain ⟨os, hos, hcs, hds⟩ := id hs
  unfold Builtin.Slice.sliceApplied Builtin.Slice.sliceFields
  refine wpAny_bind (wpAny_bind (wpAny_field hos hds (x := .none) rfl (wpAny_bind (wpAny_field hos hds (x := .none) rfl (wpAny_bind (wpAny_field hos hds (x := vs) rfl (wpAny_pure ?_)))))))
  refine wpAny_bind (HT.slicePart_ ps ?_)
  show wpAny _ _ (if ((-1 : Int) == 0) = true then _ else _) _ _ s
  rw [if_neg (by decide)]
  refine wpAny_bind (HT.slicePart_ .none (wpAny_bind (HT.slicePart_ .none (wpAny_bind (wpAny_pure ?_)))))
  have e1 : Builtin.Slice.sliceAdjust none none (-1) (n : Int) = ((n : Int) - 1, -1) := by
    unfold Builtin.Slice.sliceAdjust
    simp
  have e2 : Builtin.Slice.slicePlaces ((n : Int) - 1) (-1) (-1) = n := by
    unfold Builtin.Slice.slicePlaces
    simp
    omega
  show wpAny _ _ (match Builtin.Slice.sliceAdjust none none (-1) (n : Int) with | (lo, hi) => pure (lo, (-1 : Int), Builtin.Slice.slicePlaces lo hi (-1))) _ _ s
  rw [e1]
  show wpAny _ _ (pure ((n : Int) - 1, (-1 : Int), Builtin.Slice.slicePlaces ((n : Int) - 1) (-1) (-1))) _ _ s
  rw [e2]
  exact wpAny_pure h
theorem fm_congr {f g : Nat → Option Value} : ∀ {l : List Nat}, (∀ m ∈ l, f m = g m) → l.filterMap f = l.filterMap g
  | [], _ => rfl
  | x :: l, h => by
    have e := fm_congr (f := f) (g := g) (l := l) fun m hm => h m (List.mem_cons_of_mem _ hm)
    rw [List.filterMap_cons, List.filterMap_cons, h x List.mem_cons_self, e]
theorem pick_back (xs : Array Value) : ((List.range xs.size).filterMap fun (m : Nat) => xs[(((xs.size : Int) - 1) + (m : Int) * (-1)).toNat]?).toArray = xs.toList.reverse.toArray := by
  have e : (List.range xs.size).filterMap (fun (m : Nat) => xs[(((xs.size : Int) - 1) + (m : Int) * (-1)).toNat]?) = ((List.range xs.size).map fun k => xs.size - 1 - k).filterMap (xs[·]?) := by
    rw [List.filterMap_map]
    refine fm_congr fun m hm => ?_
    have := List.mem_range.mp hm
    show xs[_]? = xs[xs.size - 1 - m]?
    rw [show (((xs.size : Int) - 1) + (m : Int) * (-1)).toNat = xs.size - 1 - m by omega]
  rw [e, PySem.W.krv_range, List.filterMap_reverse, PySem.W.krv_all]
theorem get_back {t sl : Addr} {items : Array Value} {vs : Value} {Q : Value → Shared → Prop} (ht : IsTup s.heap t items) (hs : s.heap.IsSliceOf sl .none .none vs) (ps : IsPart vs (some (-1)))
    (h : Q (.ref s.heap.objs.size) { s with heap := s.heap.push { cls := .type "tuple", data := .seq items.toList.reverse.toArray } }) (hsz : items.size ≤ sizeLine) : wpAny (model prog w) A (getItem (.ref t) (.ref sl)) Q E s := by
  have fits : sizeOk (.seq items.toList.reverse.toArray) := by
    show items.toList.reverse.toArray.size ≤ sizeLine
    simpa using hsz
  obtain ⟨os, hos, hcs, hds⟩ := id hs
  have hT : s.TypeIs (.ref sl) "slice" := ⟨os, hos, hcs⟩
  unfold getItem
  try with_reducible refine wpAny_holding ?_
  first | refine wpAny_bind (wpAny_pure ?_) | skip
  refine wpAny_bind (wpAny_sequenceKey ht.typeIs (by decide) (wpAny_bind (wpAny_callSpecial?_slot (name := Str.ofString "__getitem__") ht.typeIs PyProof.Rows.slot_tuple_getitem
    (wpAny_call_entry PyProof.Rows.slot_tuple_getitem ht.typeIs PyProof.Rows.entry_tuple_getitem ?_ (PyProof.Rows.args_tuple_getitem _ _)))))
  show wpAny _ _ (Builtin.Tuple.tupleItemsOf (.ref t) >>= _) _ _ s
  refine wpAny_bind (tupleItemsOf_ ht (wpAny_bind (wpAny_typeOf hT ?_)))
  rw [if_pos (by decide)]
  refine wpAny_bind (applied_back hs ps ?_)
  have no : ¬ ((((items.size : Int) - 1) == 0 && (-1 : Int) == 1 && items.size == items.size) = true) := by simp
  show wpAny _ _ (if ((((items.size : Int) - 1) == 0 && (-1 : Int) == 1 && items.size == items.size) = true) then _ else _) _ _ s
  rw [if_neg no, pick_back]
  first
    | exact wpAny_bind (m := Builtin.Tuple.tupleExact _) (wpAny_newObj_type (wpAny_pure ⟨_, rfl, wpAny_pure h⟩) fits)
    | exact wpAny_bind (wpAny_bind (m := Builtin.Tuple.tupleExact _) (wpAny_newObj_type (wpAny_pure ⟨_, rfl, wpAny_pure h⟩) fits))
end
section
variable {X : Cx}
/-- t[::-1] of a tuple -/
def tRevT (K : PySem.W.Frag) (te : TE) : TE := fun σ H Q => te σ H fun x H1 => ∃ a xs, x = .ref a ∧ SqT K H1 a xs ∧ ∀ p, H1 p = none → Q (.ref p) (upd H1 p (.tup xs.reverse))
theorem pe_revT {e : Expr} {te : TE} {k : Nat} {p1 p2 p3 pos : Pos} (he : PE X e te) : PE X (.Subscript e (.Slice none none (some (.UnaryOp .USub (.Constant (.int 1) k p1) p2)) p3) pos) (tRevT X.K te) := by
  refine ⟨fun pins s σ H Q I h => Subscript_ (thn (he.run pins s σ H _ I h) fun v s1 ⟨x, H1, I1, r1, q1⟩ => ?_)⟩
  obtain ⟨a, xs, ex, hx, q⟩ := q1
  subst ex
  cases r1
  have st : PO X (some (.UnaryOp .USub (.Constant (.int 1) k p1) p2)) (tPart (tUn (rU fun i => .int (-i)) (tC (.int 1)))) := po_some (pe_un un_neg pe_int)
  refine wpAny_Slice (thn (po_none.run pins s1 σ H1 (fun o H2 => o = none ∧ H2 = H1) I1 ⟨rfl, rfl⟩) fun vl s2 hl => ?_)
  obtain ⟨l, H2, I2, pl, el, e2⟩ := hl
  subst el e2
  refine thn (po_none.run pins s2 σ H2 (fun o H3 => o = none ∧ H3 = H2) I2 ⟨rfl, rfl⟩) fun vu s3 hu => ?_
  obtain ⟨u, H3, I3, pu, eu, e3⟩ := hu
  subst eu e3
  refine thn (st.run pins s3 σ H3 (fun o H4 => o = some (-1) ∧ H4 = H3) I3 ⟨1, rfl, -1, rfl, rfl, rfl⟩) fun vs s4 hs4 => ?_
  obtain ⟨o, H4, I4, ps, eo, e4⟩ := hs4
  subst eo e4
  cases pl
  cases pu
  have I5 : Inv X pins σ H4 { s4 with heap := s4.heap.push { cls := .type "slice", data := .fields #[.none, .none, vs] } } := I4.kept (t' := s4.toks) fun b ob q => Heap.get?_push_of_some _ q
  obtain ⟨its, r, ht, hz⟩ := I5.tuple hx
  have hlen := r.length
  show wpAny (model X.prog X.w) X.A (subscriptTail e (.Slice none none (some (.UnaryOp .USub (.Constant (.int 1) k p1) p2)) p3) (.ref a) (.ref s4.heap.objs.size)) (EP X pins σ Q) X.xe { s4 with heap := s4.heap.push { cls := .type "slice", data := .fields #[.none, .none, vs] } }
  refine tail_any (ops := [.ref a, .ref s4.heap.objs.size]) ht.typeIs PyProof.Rows.slot_tuple_getitem.lookup ?_ (by with_unfolding_all rfl)
  refine get_back ht (Heap.IsSliceOf.new _ .none .none vs) ps ?_ (by rw [List.size_toArray]; omega)
  refine ⟨.ref _, _, I5.laid (t' := s4.toks) (o := .tup xs.reverse) (fun b ob q => Heap.get?_push_of_some _ q) (Nat.le_refl _) ?_, rfl, q _ (I5.hok.fresh (Nat.le_refl _))⟩
  exact ⟨by rw [List.length_reverse]; exact hz, _, r.reverse, IsTup.new _ _⟩
end
end QR

end
section
set_option autoImplicit false
set_option Elab.async false
set_option linter.all false
set_option maxRecDepth 100000
set_option maxHeartbeats 4000000
/-! ## repr of small values; _law_same, _law_choose -/
namespace QR
open PySem PySem.Spec PyProof.Rows L2 G
inductive Sh (K : PySem.W.Frag) (H : Hp) : V → Str → Prop
  | non : Sh K H .non "None"
  | bl (b : Bool) : Sh K H (.bl b) (if b then "True" else "False")
  | int (i : Int) : i.natAbs.log2 < 1920 → Sh K H (.int i) (toString i)
  | ref {a : Addr} {d : PyData} : Dr K H true (.ref a) d → d.showable = true → d.depth ≤ 20 → d.leavesShort 13 = true → d.bulk ≤ 2 ^ 20 → Sh K H (.ref a) d.shown
def rReprS (K : PySem.W.Frag) : List V → Hp → VK → Prop := fun xs H Q => ∃ x t, xs = [x] ∧ Sh K H x t ∧ Q (.str t) H
section
variable {X : Cx}
theorem call_reprS (hg : X.A.guards = some []) (hu : X.A.units + 64 < cLine) : CallR X (.builtin "repr") (rReprS X.K) := by
  intro pins s σ H xs us Q I r h
  obtain ⟨x, t, rfl, hs, q⟩ := h
  cases hs with
  | non => exact call_reprF pins s σ H _ us Q I r (.inl ⟨rfl, q⟩)
  | bl b => exact call_reprF pins s σ H _ us Q I r (.inr (.inl ⟨b, rfl, q⟩))
  | int i hi => exact call_reprF pins s σ H _ us Q I r (.inr (.inr ⟨i, rfl, hi, q⟩))
  | @ref a d hd h1 h2 h3 h4 =>
    cases r with
    | cons rx rr =>
      cases rr
      cases rx
      obtain ⟨as, hr, _⟩ := Dr.reads I d _ _ hd rfl
      refine repr_of_reads' hr h1 (fun z => ?_) hg (by omega) (fun _ _ e => e) (fun h' u tk k => ⟨.str d.shown, H, I.kept (t' := tk) k, ⟨u, rfl⟩, q⟩) (PyData.shown_fits_bulk (by decide) (by decide) h3 h4)
      rw [Dr.noDict d _ hd] at z
      cases z
theorem ix_or {r1 r2 : R2} (h1 : IxR X r1) (h2 : IxR X r2) : IxR X (fun x y H Q => r1 x y H Q ∨ r2 x y H Q) := fun value slice pins s σ H x y v u Q I rx ry h hs => h.elim (fun h => h1 value slice pins s σ H x y v u Q I rx ry h hs) fun h => h2 value slice pins s σ H x y v u Q I rx ry h hs
end
end QR

end
section
set_option autoImplicit false
set_option Elab.async false
set_option linter.all false
set_option maxRecDepth 100000
set_option maxHeartbeats 4000000
/-! ## repr of any value of the law; lists put together whose place is told; _law_same -/
namespace QR
open PySem PySem.Spec PyProof.Rows L2 G
structure Fz (d : PyData) : Prop where
  sh : d.showable = true
  dp : d.depth ≤ 20
  ln : d.shown.length ≤ sizeLine
inductive Tx (K : PySem.W.Frag) (H : Hp) : V → Str → Prop
  | non : Tx K H .non "None"
  | bl (b : Bool) : Tx K H (.bl b) (if b then "True" else "False")
  | int (i : Int) : i.natAbs.log2 < 1920 → Tx K H (.int i) (toString i)
  | str (x : Str) : (reprText x).length ≤ sizeLine → Tx K H (.str x) (reprText x)
  | dat {m : Bool} {a : Addr} {d : PyData} : Dr K H m (.ref a) d → Fz d → Tx K H (.ref a) d.shown
  | row {a : Addr} {xs : List V} {ds : List PyData} : SqL K H a xs → (a == sysModules) = false → DrA K H false xs ds → Fz (.list ds) → Tx K H (.ref a) (PyData.list ds).shown
  | top {a : Addr} {m : Bool} {y : V} {ys : List V} {ds : List PyData} : SqL K H a (y :: ys) → DrA K H m (y :: ys) ds → Fz (.list ds) → Tx K H (.ref a) (PyData.list ds).shown
  | one {p a : Addr} {xs : List V} {ds : List PyData} : SqL K H p [.ref a] → SqL K H a xs → (a == sysModules) = false → DrA K H false xs ds → Fz (.list [.list ds]) → Tx K H (.ref p) (PyData.list [.list ds]).shown
def rReprT (K : PySem.W.Frag) : List V → Hp → VK → Prop := fun xs H Q => ∃ x t, xs = [x] ∧ Tx K H x t ∧ Q (.str t) H
section
variable {X : Cx}
theorem row_reads {pins : List (Addr × Obj)} {σ : L2.St} {H : Hp} {s : Shared} (I : Inv X pins σ H s) {a : Addr} {xs : List V} {ds : List PyData} (h : SqL X.K H a xs) (n : (a == sysModules) = false) (hd : DrA X.K H false xs ds) : ∃ as, Reads s.heap (.ref a) (.list ds) as ∧ sysModules ∉ as := by
  obtain ⟨its, rv, ⟨o, k, ho, hc, _, hd'⟩, _⟩ := I.list h
  obtain ⟨as, hr, hn⟩ := DrA.reads I ds _ its hd rv
  refine ⟨_, Reads.list ho hc hd' hr, fun z => ?_⟩
  rcases List.mem_cons.mp z with e | e
  · rw [← e] at n
    simp at n
  · exact hn rfl e
theorem call_reprT (hg : X.A.guards = some []) (hu : X.A.units + 64 < cLine) : CallR X (.builtin "repr") (rReprT X.K) := by
  intro pins s σ H xs us Q I r h
  obtain ⟨x, t, rfl, hs, q⟩ := h
  cases hs with
  | non => exact call_reprF pins s σ H _ us Q I r (.inl ⟨rfl, q⟩)
  | bl b => exact call_reprF pins s σ H _ us Q I r (.inr (.inl ⟨b, rfl, q⟩))
  | int i hi => exact call_reprF pins s σ H _ us Q I r (.inr (.inr ⟨i, rfl, hi, q⟩))
  | str x hz =>
    cases r with
    | cons rx rr =>
      cases rr
      obtain ⟨t, rfl⟩ := rx
      exact PySem.P.repr_of_str (hsz := hz) ⟨.str _, H, I.tok _, ⟨_, rfl⟩, q⟩
  | @dat m a d hd f =>
    cases r with
    | cons rx rr =>
      cases rr
      cases rx
      have dp := f.dp
      obtain ⟨as, hr, hn⟩ := Dr.reads I d _ _ hd rfl
      refine repr_of_reads' hr f.sh (fun z => ?_) hg (by omega) (fun _ _ e => e) (fun h' u tk k => ⟨.str d.shown, H, I.kept (t' := tk) k, ⟨u, rfl⟩, q⟩) f.ln
      cases m with
      | false => exact hn rfl
      | true =>
        rw [Dr.noDict d _ hd] at z
        cases z
  | @row a xs ds h1 n hd f =>
    cases r with
    | cons rx rr =>
      cases rr
      cases rx
      have dp := f.dp
      obtain ⟨as, hr, hn⟩ := row_reads I h1 n hd
      exact repr_of_reads' hr f.sh (fun _ => hn) hg (by omega) (fun _ _ e => e) (fun h' u tk k => ⟨.str _, H, I.kept (t' := tk) k, ⟨u, rfl⟩, q⟩) f.ln
  | @top a m y ys ds h1 hd f => exact call_repr hg hu pins s σ H _ us Q I r ⟨a, m, y, ys, ds, rfl, h1, hd, f.sh, f.dp, f.ln, q⟩
  | @one p a xs ds h1 h2 n hd f =>
    cases r with
    | cons rx rr =>
      cases rr
      cases rx
      have dp := f.dp
      obtain ⟨its, rv, ⟨o, k, ho, hc, _, hd'⟩, _⟩ := I.list h1
      cases rv with
      | cons r1 r2 =>
        cases r2
        cases r1
        obtain ⟨as, hr, hn⟩ := row_reads I h2 n hd
        have ra : ReadsAll s.heap [.ref a] [.list ds] (as ++ []) := .cons hr .nil
        refine repr_top ho hc hd' ra (by rw [List.append_nil]; exact hn) ?_ hg (by omega) f.ln (fun h' u tk k => ⟨.str _, H, I.kept (t' := tk) k, ⟨u, rfl⟩, q⟩)
        have := f.sh
        simpa only [PyData.showable] using this
end
end QR
namespace LN
open PySem PySem.Spec PyProof.Rows L2
def rCatS : R2 := fun x y H Q => ∃ l b xs zs, x = .ref l ∧ y = .ref b ∧ H l = some (.lst xs) ∧ H b = some (.lst zs) ∧ xs.length + zs.length ≤ sizeLine ∧ ∀ p, H p = none → (p == sysModules) = false → Q (.ref p) (upd H p (.lst (xs ++ zs)))
theorem op_catS {X : Cx} : OpR X (binaryOp .Add) rCatS := by
  intro pins s σ H x y v u Q I rx ry h
  obtain ⟨l, b, xs, zs, rfl, rfl, hH, hB, hz, q⟩ := h
  cases rx
  cases ry
  obtain ⟨z, its, n, r, hl, e⟩ := I.lstM hH
  obtain ⟨z2, its2, n2, r2, hl2, e2⟩ := I.lstM hB
  refine PySem.P.add_list e e2 ?_ (by rw [List.size_toArray, List.size_toArray]; omega)
  have ea : its.toArray ++ its2.toArray = (its ++ its2).toArray := by simp
  rw [ea]
  exact ⟨.ref _, _, I.lnew (t' := s.toks) (r.append r2) (by rw [List.length_append]; omega), rfl, q _ I.fresh (beq_eq_false_iff_ne.mpr (Ne.symm (Nat.ne_of_lt I.big)))⟩
def rEqNil (K : PySem.W.Frag) : R2 := fun x y H Q => ∃ (a b : Addr) (v : V) (xs : List V), x = .ref a ∧ y = .ref b ∧ SqL K H a (v :: xs) ∧ SqL K H b [] ∧ Q (.bl false) H
theorem op_eqNil {X : Cx} (hu : X.A.units + 64 < cLine) : OpR X (compareOp .Eq) (rEqNil X.K) := by
  intro pins s σ H x y v u Q I rx ry h
  obtain ⟨a, b, w, xs, rfl, rfl, ha, hb, q⟩ := h
  cases (show v = Value.ref a from rx)
  cases (show u = Value.ref b from ry)
  obtain ⟨ia, ra, la, _⟩ := I.list ha
  obtain ⟨ib, rb, lb, _⟩ := I.list hb
  cases rb
  cases ra with
  | cons r rr => exact SeqAt.RcAt.lists_lengths la.isList lb.isList (by simp) (by omega) _ _ _ _ ⟨.bl false, H, I, rfl, q⟩
theorem op_or {X : Cx} {f : Value → Value → Sem Value} {r1 r2 : R2} (h1 : OpR X f r1) (h2 : OpR X f r2) : OpR X f (fun x y H Q => r1 x y H Q ∨ r2 x y H Q) := fun pins s σ H x y v u Q I rx ry h =>
  h.elim (h1 pins s σ H x y v u Q I rx ry) (h2 pins s σ H x y v u Q I rx ry)
end LN
namespace S
open PySem L2 QR
abbrev sSame : Stmt := top 28
section
variable {P : Program} {w : World} {K : PySem.W.Frag} {mg : Str → Option Value} {base : Heap}
def spSameT (K : PySem.W.Frag) : Sp := fun vs H Q _ => ∃ (x y : V) (t : Str), vs = [x, y] ∧ Tx K H x t ∧ Tx K H y t ∧ Q (.bl true) H
theorem scSm2 : FnScope ["one", "two"] ["one", "two"] (defScope sSame) := ⟨rfl, rfl, rfl, by decide +kernel, rfl, by decide +kernel, by decide +kernel⟩
theorem ok_sameT {f : Addr} {fd : FuncData} (F : Fun K "_law_same" "_law_same" sSame f fd) (hrep : mg "repr" = none) : G.Ok P w K mg base CX0 1 f fd ["one", "two"] (spSameT K) := by
  refine G.mk F scSm2 (fun vs H Q E h => ?_) (fun cdv A outer s H vs Q E hg hr h => ?_)
  · obtain ⟨x, y, t, rfl, _⟩ := h
    rfl
  · obtain ⟨x, y, t, rfl, h1, h2, k⟩ := h
    refine ⟨_, pss_one (ps_ret (pe_cmpR op_eq (pe_callB (call_reprT hg hr.units) (by rfl) hrep (by decide +kernel) (pa_cons (pv 0) pa_nil)) (pe_callB (call_reprT hg hr.units) (by rfl) hrep (by decide +kernel) (pa_cons (pv 1) pa_nil)) (nomark _))), ?_⟩
    refine ⟨_, rfl, x, t, rfl, h1, _, rfl, y, t, rfl, h2, rfl, ?_⟩
    rw [decide_eq_true rfl]
    exact k
end
end S

end
section
set_option autoImplicit false
set_option Elab.async false
set_option linter.all false
set_option maxRecDepth 100000
set_option maxHeartbeats 4000000
/-! ## the values of the law -/
namespace CP
open PySem L2 G Y QR
/-- data that is small enough to be shown -/
structure Ng (d : PyData) : Prop where
  sh : d.showable = true
  ls : d.leavesShort 40 = true
  dp : d.depth ≤ 2
  bk : d.bulk ≤ 3
theorem ng_all : ∀ {ds : List PyData}, (∀ d ∈ ds, Ng d) → PyData.showableAll ds = true ∧ PyData.leavesShortAll 40 ds = true ∧ PyData.depthAll ds ≤ 2 ∧ PyData.bulkAll ds ≤ ds.length * 4
  | [], _ => ⟨rfl, rfl, by simp only [PyData.depthAll]; omega, by simp only [PyData.bulkAll]; omega⟩
  | d :: ds, h => by
    have a := h d List.mem_cons_self
    obtain ⟨b1, b2, b3, b4⟩ := ng_all (ds := ds) fun x hx => h x (List.mem_cons_of_mem _ hx)
    refine ⟨by simp only [PyData.showableAll, a.sh, b1, Bool.and_true], by simp only [PyData.leavesShortAll, a.ls, b2, Bool.and_true], ?_, ?_⟩
    · have := a.dp
      simp only [PyData.depthAll]
      omega
    · have := a.bk
      simp only [PyData.bulkAll]
      rw [List.length_cons, Nat.add_mul]
      omega
theorem fz_of {d : PyData} (h1 : d.showable = true) (h2 : d.leavesShort 40 = true) (h3 : d.depth ≤ 20) (h4 : d.bulk ≤ 1000) : Fz d := by
  refine ⟨h1, h3, ?_⟩
  have a := PyData.shown_le_bulk 40 (by decide) _ h2
  have b : (40 + 2) * d.bulk + 40 ≤ 100000 := by omega
  exact Nat.le_trans (Nat.le_trans a b) (by decide)
theorem fz_list {ds : List PyData} (h : ∀ d ∈ ds, Ng d) (hl : ds.length ≤ 110) : Fz (.list ds) ∧ Fz (.list [.list ds]) ∧ Fz (.tuple ds) ∧ Fz (.list [.tuple ds]) := by
  obtain ⟨b1, b2, b3, b4⟩ := ng_all h
  refine ⟨fz_of ?_ ?_ ?_ ?_, fz_of ?_ ?_ ?_ ?_, fz_of ?_ ?_ ?_ ?_, fz_of ?_ ?_ ?_ ?_⟩ <;> (try simp only [PyData.showable, PyData.showableAll, b1, Bool.and_true]) <;> (try simp only [PyData.leavesShort, PyData.leavesShortAll, b2, Bool.and_true]) <;> (try simp only [PyData.depth, PyData.depthAll]) <;> (try simp only [PyData.bulk, PyData.bulkAll]) <;> (try omega)
theorem ng_int {z : Int} (h : z.natAbs < 10 ^ 35) : Ng (.int z) := by
  refine ⟨?_, ?_, by simp only [PyData.depth]; omega, by simp only [PyData.bulk]; omega⟩
  · simp only [PyData.showable]
    exact decide_eq_true (Nat.lt_of_lt_of_le (PySem.Flt.log2_lt_of (k := 120) (by decide) (Nat.lt_of_lt_of_le h (by decide))) (by decide))
  · simp only [PyData.leavesShort]
    refine decide_eq_true ?_
    have e := int_text_length_le10 (k := 35) (by decide) h
    show (Str.ofString (toString z)).length ≤ 40
    rw [ofString_length]
    omega
/-- an item; true: no dict, false: no list -/
inductive Ie (H : Hp) : Bool → V → Prop
  | int {m : Bool} {i : Int} : i.natAbs < 10 ^ 35 → Ie H m (.int i)
  | non {m : Bool} : Ie H m .non
  | bl {m : Bool} (b : Bool) : Ie H m (.bl b)
  | str {m : Bool} : Ie H m (.str "1")
  | lst {a : Addr} : H a = some (.lst [.int 1]) → Ie H true (.ref a)
  | tup {m : Bool} {a : Addr} : H a = some (.tup [.int 1]) → Ie H m (.ref a)
  | dic {a : Addr} : H a = some (.dK []) → Ie H false (.ref a)
theorem Ie.mono {H H' : Hp} (s : Same H H') {m : Bool} {v : V} (h : Ie H m v) : Ie H' m v := by
  cases h with
  | int h => exact .int h
  | non => exact .non
  | bl b => exact .bl b
  | str => exact .str
  | lst e => exact .lst (s _ _ e)
  | tup e => exact .tup (s _ _ e)
  | dic e => exact .dic (s _ _ e)
theorem Ie.it {K : PySem.W.Frag} {H : Hp} {m : Bool} {v : V} (h : Ie H m v) : It K H v := by
  cases h with
  | int h => exact .inl ⟨_, rfl⟩
  | non => exact .inr (.inr ⟨_, false, .base .non, kit_ty (by decide +kernel), kit_ty (by decide +kernel)⟩)
  | bl b => exact .inr (.inl ⟨b, rfl⟩)
  | str => exact .inr (.inr ⟨_, false, .base (.str _), kit_ty (by decide +kernel), kit_ty (by decide +kernel)⟩)
  | lst e => exact .inr (.inr ⟨_, false, .base (.lst e), kit_ty (by decide +kernel), kit_ty (by decide +kernel)⟩)
  | tup e => exact .inr (.inr ⟨_, false, .base (.tup e), kit_ty (by decide +kernel), kit_ty (by decide +kernel)⟩)
  | dic e => exact .inr (.inr ⟨_, false, .base (.dK e), kit_ty (by decide +kernel), kit_ty (by decide +kernel)⟩)
theorem Ie.dr {K : PySem.W.Frag} {H : Hp} {m : Bool} {v : V} (h : Ie H m v) : ∃ d, Dr K H m v d ∧ Ng d := by
  cases h with
  | int h => exact ⟨_, .int _, ng_int h⟩
  | non => exact ⟨_, .non, by decide +kernel, by decide +kernel, by decide +kernel, by decide +kernel⟩
  | bl b => exact ⟨_, .bl b, rfl, rfl, by simp only [PyData.depth]; omega, by simp only [PyData.bulk]; omega⟩
  | str => exact ⟨_, .str _, by decide +kernel, by decide +kernel, by decide +kernel, by decide +kernel⟩
  | lst e => exact ⟨_, .lst (SqL.of e) (.cons (.int _) .nil), by decide +kernel, by decide +kernel, by decide +kernel, by decide +kernel⟩
  | tup e => exact ⟨_, .tup (SqT.of e) (.cons (.int _) .nil), by decide +kernel, by decide +kernel, by decide +kernel, by decide +kernel⟩
  | dic e => exact ⟨_, .dic e .nil, by decide +kernel, by decide +kernel, by decide +kernel, by decide +kernel⟩
theorem ie_all {K : PySem.W.Frag} {H : Hp} {m : Bool} : ∀ {xs : List V}, (∀ x ∈ xs, Ie H m x) → ∃ ds, DrA K H m xs ds ∧ (∀ d ∈ ds, Ng d) ∧ ds.length = xs.length
  | [], _ => ⟨[], .nil, (fun d hd => by cases hd), rfl⟩
  | x :: r, h => by
    obtain ⟨d, h1, h2⟩ := (h x List.mem_cons_self).dr (K := K)
    obtain ⟨ds, h3, h4, h5⟩ := ie_all (K := K) fun y hy => h y (List.mem_cons_of_mem _ hy)
    refine ⟨d :: ds, .cons h1 h3, fun e he => ?_, by rw [List.length_cons, List.length_cons, h5]⟩
    rcases List.mem_cons.mp he with q | q
    · rw [q]
      exact h2
    · exact h4 e q
/-- a value of the law -/
inductive Vl (H : Hp) : V → Prop
  | row {m : Bool} {a : Addr} {xs : List V} : H a = some (.lst xs) → xs.length ≤ 110 → (∀ x ∈ xs, Ie H m x) → (m = false → (a == sysModules) = false) → Vl H (.ref a)
  | tup {a : Addr} {xs : List V} : H a = some (.tup xs) → xs.length ≤ 110 → (∀ x ∈ xs, Ie H true x) → Vl H (.ref a)
  | dic {a : Addr} {kvs : List (Key × V)} : H a = some (.dK kvs) → kvs = [] ∨ kvs = [(.inl 1, .int 1)] → Vl H (.ref a)
  | non : Vl H .non
  | int : Vl H (.int 5)
  | str {x : Str} : x ∈ (["", "1"] : List Str) → Vl H (.str x)
theorem Vl.mono {H H' : Hp} (s : Same H H') {v : V} (h : Vl H v) : Vl H' v := by
  cases h with
  | row e l i n => exact .row (s _ _ e) l (fun x hx => (i x hx).mono s) n
  | tup e l i => exact .tup (s _ _ e) l fun x hx => (i x hx).mono s
  | dic e h => exact .dic (s _ _ e) h
  | non => exact .non
  | int => exact .int
  | str h => exact .str h
theorem Vl.cls {K : PySem.W.Frag} {H : Hp} {v : V} (h : Vl H v) : (∃ (a : Addr) (xs : List V), v = .ref a ∧ H a = some (.lst xs) ∧ xs.length ≤ 1000 ∧ ∀ x ∈ xs, It K H x) ∨ NL K H v := by
  cases h with
  | row e l i n => exact .inl ⟨_, _, rfl, e, by omega, fun x hx => (i x hx).it⟩
  | tup e l i => exact .inr ⟨_, .base (.tup e), kit_ty (by decide +kernel)⟩
  | dic e h => exact .inr ⟨_, .base (.dK e), kit_ty (by decide +kernel)⟩
  | non => exact .inr ⟨_, .base .non, kit_ty (by decide +kernel)⟩
  | int => exact .inr ⟨_, .base (.int _), kit_ty (by decide +kernel)⟩
  | str h => exact .inr ⟨_, .base (.str _), kit_ty (by decide +kernel)⟩
theorem Vl.text {K : PySem.W.Frag} {H : Hp} {v : V} (h : Vl H v) : ∃ t, Tx K H v t := by
  cases h with
  | @row m a xs e l i n =>
    obtain ⟨ds, h1, h2, h3⟩ := ie_all (K := K) i
    obtain ⟨f1, f2, f3, f4⟩ := fz_list h2 (by omega)
    cases m with
    | true => exact ⟨_, .dat (m := true) (.lst (SqL.of e) h1) f1⟩
    | false => exact ⟨_, .row (SqL.of e) (n rfl) h1 f1⟩
  | tup e l i =>
    obtain ⟨ds, h1, h2, h3⟩ := ie_all (K := K) i
    obtain ⟨f1, f2, f3, f4⟩ := fz_list h2 (by omega)
    exact ⟨_, .dat (m := true) (.tup (SqT.of e) h1) f3⟩
  | dic e h =>
    rcases h with rfl | rfl
    · exact ⟨_, .dat (m := false) (.dic e .nil) ⟨by decide +kernel, by decide +kernel, by decide +kernel⟩⟩
    · exact ⟨_, .dat (m := false) (.dic e (.cons (.int _) .nil)) ⟨by decide +kernel, by decide +kernel, by decide +kernel⟩⟩
  | non => exact ⟨_, .non⟩
  | int => exact ⟨_, .int 5 (by decide +kernel)⟩
  | str h =>
    simp only [List.mem_cons, List.mem_nil_iff, or_false] at h
    rcases h with rfl | rfl
    · exact ⟨_, .str _ (by decide +kernel)⟩
    · exact ⟨_, .str _ (by decide +kernel)⟩
theorem Vl.one {K : PySem.W.Frag} {H : Hp} {v : V} (h : Vl H v) : ∃ t, ∀ p, H p = some (.lst [v]) → Tx K H (.ref p) t := by
  cases h with
  | @row m a xs e l i n =>
    obtain ⟨ds, h1, h2, h3⟩ := ie_all (K := K) i
    obtain ⟨f1, f2, f3, f4⟩ := fz_list h2 (by omega)
    cases m with
    | true => exact ⟨_, fun p hp => .dat (m := true) (.lst (SqL.of hp) (.cons (.lst (SqL.of e) h1) .nil)) f2⟩
    | false => exact ⟨_, fun p hp => .one (SqL.of hp) (SqL.of e) (n rfl) h1 f2⟩
  | tup e l i =>
    obtain ⟨ds, h1, h2, h3⟩ := ie_all (K := K) i
    obtain ⟨f1, f2, f3, f4⟩ := fz_list h2 (by omega)
    exact ⟨_, fun p hp => .dat (m := true) (.lst (SqL.of hp) (.cons (.tup (SqT.of e) h1) .nil)) f4⟩
  | dic e h =>
    rcases h with rfl | rfl
    · exact ⟨_, fun p hp => .top (m := false) (SqL.of hp) (.cons (.dic e .nil) .nil) ⟨by decide +kernel, by decide +kernel, by decide +kernel⟩⟩
    · exact ⟨_, fun p hp => .top (m := false) (SqL.of hp) (.cons (.dic e (.cons (.int _) .nil)) .nil) ⟨by decide +kernel, by decide +kernel, by decide +kernel⟩⟩
  | non => exact ⟨_, fun p hp => .dat (m := true) (.lst (SqL.of hp) (.cons .non .nil)) ⟨by decide +kernel, by decide +kernel, by decide +kernel⟩⟩
  | int => exact ⟨_, fun p hp => .dat (m := true) (.lst (SqL.of hp) (.cons (.int _) .nil)) ⟨by decide +kernel, by decide +kernel, by decide +kernel⟩⟩
  | str h =>
    simp only [List.mem_cons, List.mem_nil_iff, or_false] at h
    rcases h with rfl | rfl
    · exact ⟨_, fun p hp => .dat (m := true) (.lst (SqL.of hp) (.cons (.str _) .nil)) ⟨by decide +kernel, by decide +kernel, by decide +kernel⟩⟩
    · exact ⟨_, fun p hp => .dat (m := true) (.lst (SqL.of hp) (.cons (.str _) .nil)) ⟨by decide +kernel, by decide +kernel, by decide +kernel⟩⟩
theorem tx_nil {K : PySem.W.Frag} {H : Hp} {p : Addr} (h : H p = some (.lst [])) : Tx K H (.ref p) (PyData.list []).shown := .dat (m := true) (.lst (SqL.of h) .nil) ⟨by decide +kernel, by decide +kernel, by decide +kernel⟩
end CP

end
section
set_option autoImplicit false
set_option Elab.async false
set_option linter.all false
set_option maxRecDepth 100000
set_option maxHeartbeats 4000000
/-! ## chains, and lists that hold one, against themselves -/
namespace CP
open PySem L2 G Y
abbrev sCEq : Stmt := inClass (S.top 11) 4
structure Cn2 (K : PySem.W.Frag) (C : Addr) : Prop where
  iA : PySem.W.findIn K (.ref C) "__class__" = some (some (.builtin "object.__class__"))
  iN : PySem.W.specialIn K (.builtin "object.__class__") "__get__" = some (some (.builtin "getset_descriptor.__get__"))
  iT : PySem.W.takesIn K (.builtin "object.__class__") = some true
  iM : PySem.W.mroIn K C (.type "object") = some true
/-- a chain is no integer, no bool, no list -/
structure Ck3 (K : PySem.W.Frag) (C : Addr) : Prop where
  i : PySem.W.kitOne K (.ref C) (.type "int") = some false
  b : PySem.W.kitOne K (.ref C) (.type "bool") = some false
  l : PySem.W.kitOne K (.ref C) (.type "list") = some false
structure Oe (P : Program) (w : World) (K : PySem.W.Frag) (mg : Str → Option Value) (base : Heap) (C : Addr) (k : Nat) (m : Str) (ps : List Str) (sp : Sp) : Prop where
  ex : ∃ (f : Addr) (fd : FuncData), FnOk P w K mg base CX0 k f fd ps sp ∧ WO.Own K C f m ∧ Binds K fd ps []
section
variable {P : Program} {w : World} {K : PySem.W.Frag} {mg : Str → Option Value} {base : Heap} {C : Addr}
def spCEq (C : Addr) : Sp := fun vs H Q _ => ∃ (a b : Addr) (l : List Nat), vs = [.ref a, .ref b] ∧ ChAt C H l a ∧ ChAt C H l b ∧ ∀ H', Same H H' → Q (.bl true) H'
theorem scEq : FnScope ["self", "other"] ["self", "other"] (defScope sCEq) := ⟨rfl, rfl, rfl, by decide +kernel, rfl, by decide +kernel, by decide +kernel⟩
theorem ok_ceq {f : Addr} {fd : FuncData} (F : Fun K "__eq__" "Chain.__eq__" sCEq f fd) (B : Bn mg) (T : Ct K mg C) (T2 : Cn2 K C) : FnOk P w K mg base CX0 1 f fd ["self", "other"] (spCEq C) := by
  refine F.ok scEq (fun vs H Q E h => ?_) (fun cdv A outer s H vs Q E hr h => ?_)
  · obtain ⟨a, b, l, rfl, _⟩ := h
    rfl
  · obtain ⟨a, b, l, rfl, ha, hb, k⟩ := h
    refine ⟨_, pss_one (ps_ret (pe_and (pe_callB call_isi (by rfl) B.isi (by decide +kernel) (pa_cons (pv 1) (pa_cons (pe_glob (v := .ref C) rfl T.g rfl) pa_nil)))
      (pe_one (pe_cmpR (op_eqD hr.units) (pe_fld (pv 0) rfl) (pe_fld (pv 1) rfl) (nomark _))))), ?_⟩
    obtain ⟨dx, t, u, h1, h2, h3⟩ := ha
    obtain ⟨dy, t', u', g1, g2, g3⟩ := hb
    refine ⟨_, rfl, _, _, _, _, true, rfl, .own C, .base (.ins g1 T.cl T2.iA T2.iN T2.iT T2.iM), ?_, _, rfl, iteT ⟨_, rfl, a, C, dx, _, _, rfl, h1, T.cl, T.nC, cfl_cuts t u, _, rfl, b, C, dy, _, _, rfl, g1, T.cl, T.nC, cfl_cuts t' u', ?_⟩⟩
    · unfold PySem.W.kitOne
      rw [if_pos (by simp)]
    · exact ⟨_, _, .tup (SqT.of h2) (dp_ints l), .tup (SqT.of g2) (dp_ints l), shp_tup l, shp_tup l, by rw [eqv_tup]; exact k _ (Same.refl _)⟩
theorem ch_isC {H : Hp} {l : List Nat} {x : Addr} (h : ChAt C H l x) : WO.InsC C H x := by
  obtain ⟨dx, t, u, h1, _⟩ := h
  exact ⟨dx, _, h1⟩
theorem eq_chain {H : Hp} {Q : VK} {x y : Addr} {l : List Nat} (hx : ChAt C H l x) (hy : ChAt C H l y) (k : ∀ G, Same H G → Q (.bl true) G) : WO.rEqO C (spCEq C) E0 (.ref x) (.ref y) H Q :=
  ⟨x, y, rfl, rfl, ch_isC hx, ch_isC hy, x, y, l, rfl, hx, hy, fun G s => ⟨_, rfl, k G s⟩⟩
/-- two chains with the same cuts -/
def RCh (C : Addr) : Addr → Addr → Hp → Prop := fun a b H => ∃ l, ChAt C H l a ∧ ChAt C H l b
def DIc (C : Addr) : Eqv := fun x y H => DFlat x y H ∨ DIns C (RCh C) x y H
theorem mon_ic (C : Addr) : Mon (DIc C) := mon_flat.or (mon_ins fun a b H H' e h => by
  obtain ⟨l, h1, h2⟩ := h
  exact ⟨l, h1.mono e, h2.mono e⟩)
theorem eqG_ic {X : Cx} {f : Addr} {fd : FuncData} (F : FnOk X.prog X.w X.K X.mg X.base CX0 1 f fd ["self", "other"] (spCEq C)) (O : WO.Own X.K C f "__eq__") (b : Binds X.K fd ["self", "other"] []) : EqG X 1 (DIc C) :=
  (eqG_flat.mono (Nat.zero_le 1)).or (eqG_ins (R := RCh C) (E := E0) (F.imp fun vs H Q E h => by
    obtain ⟨a, b, e, ⟨l, h1, h2⟩, k⟩ := h
    exact ⟨a, b, l, e, h1, h2, k⟩) O.at' O.fn b pass0)
theorem it_chain {H : Hp} {l : List Nat} {a : Addr} (T : Ct K mg C) (T2 : Cn2 K C) (T3 : Ck3 K C) (h : ChAt C H l a) : It K H (.ref a) := by
  obtain ⟨dx, t, u, h1, _⟩ := h
  exact .inr (.inr ⟨_, false, .base (.ins h1 T.cl T2.iA T2.iN T2.iT T2.iM), T3.i, T3.b⟩)
theorem nl_chain {H : Hp} {l : List Nat} {a : Addr} (T : Ct K mg C) (T2 : Cn2 K C) (T3 : Ck3 K C) (h : ChAt C H l a) : NL K H (.ref a) := by
  obtain ⟨dx, t, u, h1, _⟩ := h
  exact ⟨_, .base (.ins h1 T.cl T2.iA T2.iN T2.iT T2.iM), T3.l⟩
theorem ins_chain {H : Hp} {l : List Nat} {a : Addr} (h : ChAt C H l a) : DIns C (RCh C) (.ref a) (.ref a) H := by
  obtain ⟨dx, fs, e⟩ := ch_isC h
  exact ⟨a, a, dx, dx, fs, fs, rfl, rfl, e, e, l, h, h⟩
theorem cuts_one : Cuts [1] := ⟨⟨by decide, (fun d hd => by cases hd), trivial⟩, fun c hc => by rw [List.mem_singleton.mp hc]; decide, by decide⟩
theorem cuts_none : Cuts [] := ⟨trivial, (fun c hc => by cases hc), by decide⟩
end
end CP

end
section
set_option autoImplicit false
set_option Elab.async false
set_option linter.all false
set_option maxRecDepth 100000
set_option maxHeartbeats 4000000
/-! ## forms alike; a def called under guards -/
namespace G
open PySem PySem.Spec PyProof.Rows L2
section
variable {X : Cx} {CX : CXT} {k : Nat} {f : Addr} {fd : FuncData} {ps : List Str} {sp : Sp} {E : XK} {x : Str} {p pos : Pos} {e : Expr} {es : List Expr} {t : TA}
theorem go_fn {pins : List (Addr × Obj)} {σ : L2.St} {H : Hp} {s : Shared} {Q : VK} {us : List Value} {vs : List V} (hg : X.A.guards = some []) (F : Ok X.prog X.w X.K X.mg X.base CX k f fd ps sp) (hr : Room k X.A) (hb : Binds X.K fd ps [])
    (hx : Passes CX X E) (I : Inv X pins σ H s) (rv : Vals vs us) (h : sp vs H Q E) : wpAny (model X.prog X.w) X.A (call (.ref f) us) (EP X pins σ Q) X.xe s := by
  have b := hb s us I.kIn (by rw [List.append_nil, ← rv.length]; exact F.len _ _ _ _ h)
  rw [List.append_nil] at b
  refine wpAny_call (codeAny_mono (F.go X.A hg X.stack s H ⟨us, []⟩ us vs Q E hr I.env0 b rv h) ?_)
  intro r s' z
  match r, z with
  | .error e, z => exact hx pins σ H s e s' I z
  | .ok (.ret u), z => exact I.after z
  | .ok .next, z => exact z.elim
  | .ok .brk, z => exact z.elim
  | .ok .cont, z => exact z.elim
theorem pe_callG (hgu : X.A.guards = some []) (F : Ok X.prog X.w X.K X.mg X.base CX k f fd ps sp) (hr : Room k X.A) (hl : Gl X x) (hm : X.mg x = some (.ref f)) (hk : PySem.W.keepIn X.K (.ref f) = true) (hb : Binds X.K fd ps []) (hx : Passes CX X E)
    (ha : PA X (e :: es) t) (hdb : (x == ("__debug__" : Str)) = false := by decide) (he : starEach (e :: es) X.env = (false, eval e X.env) :: starEach es X.env := by rfl) (hpl : (backTo pos (starEach es X.env)).any (·.1) = false := by rfl) :
    PE X (.Call (.Name x p) (e :: es) [] pos) (tCall sp [] E t) := ⟨fun pins s σ H Q I h =>
  wpAny_Call_Name_kw (ld_glob I hl hm (PySem.W.callWith_K (h₀ := X.base) I.ok.mod.kin hk (thn (ha.run pos pins s σ H _ I h) fun us s1 ⟨vs, H1, I1, r, q⟩ => ⟨I1.kIn,
    go_fn hgu F hr hb hx I1 r ((congrArg (fun z => sp z H1 Q E) (List.append_nil vs)).mp q)⟩) he hpl) hdb)⟩
end
structure Du (P : Program) (w : World) (K : PySem.W.Frag) (mg : Str → Option Value) (base : Heap) (k : Nat) (x : Str) (ps : List Str) (sp : Sp) : Prop where
  ex : ∃ (f : Addr) (fd : FuncData), Ok P w K mg base CX0 k f fd ps sp ∧ mg x = some (.ref f) ∧ PySem.W.keepIn K (.ref f) = true ∧ Binds K fd ps []
end G

end
section
set_option autoImplicit false
set_option Elab.async false
set_option linter.all false
set_option maxRecDepth 100000
set_option maxHeartbeats 4000000
/-! ## draws: what they leave -/
namespace Y
open PySem L2 G
/-- all but the source at p stays -/
def Bt (p : Addr) (H H' : Hp) : Prop := (∀ a o, a ≠ p → H a = some o → H' a = some o) ∧ S.At H' p
theorem Bt.trans {p : Addr} {H H1 H2 : Hp} (a : Bt p H H1) (b : Bt p H1 H2) : Bt p H H2 := ⟨fun x o n e => b.1 x o n (a.1 x o n e), b.2⟩
theorem Bt.same {p : Addr} {H H' : Hp} (s : Same H H') (h : S.At H p) : Bt p H H' := by
  obtain ⟨r, m, e, f⟩ := h
  exact ⟨fun a o _ e2 => s _ _ e2, r, m, s _ _ e, f⟩
theorem Bt.put {p : Addr} {H : Hp} {r m : Int} (f : S.Fine r m) : Bt p H (upd H p (.lst (S.Two r m))) := ⟨fun a o n e => by rw [upd_ne n]; exact e, r, m, upd_same, f⟩
theorem Bt.new {p u : Addr} {H : Hp} (o : HO) (h : S.At H p) (hu : H u = none) : Bt p H (upd H u o) := Bt.same (of_upd hu) h
theorem at_ne {H : Hp} {p L : Addr} (h : S.At H p) (hL : H L = none) : L ≠ p := fun e => by
  obtain ⟨r, m, e2, _⟩ := h
  rw [e, e2] at hL
  cases hL
theorem bt_lst {p L : Addr} {H H' : Hp} {o : HO} (b : Bt p H H') (ne : L ≠ p) (h : H L = some o) : H' L = some o := b.1 L _ ne h
theorem sameAt {p : Addr} {H H' : Hp} (s : Same H H') (h : S.At H p) : S.At H' p := by
  obtain ⟨r, m, e, f⟩ := h
  exact ⟨r, m, s _ _ e, f⟩
theorem sameBt {p : Addr} {H G G' : Hp} (s : Same H G) (n : H p = none) (b : Bt p G G') : Same H G' := fun a o e => b.1 a o (fun z => by rw [z, n] at e; cases e) (s a o e)
theorem draw_at {H : Hp} {Q : VK} {E : XK} {p : Addr} {n : Int} (h : S.At H p) (n1 : 1 ≤ n) (n2 : n.natAbs.log2 < 9000) (k : ∀ j H', 0 ≤ j → j < n → Bt p H H' → Q (.int j) H') : S.spDraw [.ref p, .int n] H Q E := by
  obtain ⟨r, m, hp, hf⟩ := h
  exact ⟨p, r, m, n, rfl, hp, hf, n1, n2, fun j r1 m1 f1 j0 j1 => k j _ j0 j1 (Bt.put f1)⟩
/-- a draw as it stands in an expression: below a written number, or below what a name holds -/
theorem draw_vv {σ : L2.St} {H : Hp} {Q : VK} {E : XK} {p : Addr} {i : Nat} {n : Int} (hσ : σ[i]? = some (some (.ref p))) (h : S.At H p) (n1 : 1 ≤ n) (n2 : n.natAbs.log2 < 9000) (k : ∀ j H', 0 ≤ j → j < n → Bt p H H' → Q (.int j) H') : tCall S.spDraw [] E (tCons (tVar i) (tCons (tC (.int n)) tNil)) σ H Q := ⟨_, hσ, draw_at (E := E) h n1 n2 k⟩
theorem draw_var {σ : L2.St} {H : Hp} {Q : VK} {E : XK} {p : Addr} {i j : Nat} {n : Int} (hσ : σ[i]? = some (some (.ref p))) (hj : σ[j]? = some (some (.int n))) (h : S.At H p) (n1 : 1 ≤ n) (n2 : n.natAbs.log2 < 9000) (k : ∀ j H', 0 ≤ j → j < n → Bt p H H' → Q (.int j) H') : tCall S.spDraw [] E (tCons (tVar i) (tCons (tVar j) tNil)) σ H Q := ⟨_, hσ, _, hj, draw_at (E := E) h n1 n2 k⟩
theorem draw_of {σ : L2.St} {H : Hp} {Q : VK} {p : Addr} {E : XK} {i : Nat} {c n : Int} (hσ : σ[i]? = some (some (.ref p))) (h : S.At H p) (n1 : 1 ≤ n) (n2 : n.natAbs.log2 < 9000) (k : ∀ j H', 0 ≤ j → j < n → Bt p H H' → Q (.int (c + j)) H') :
    tOp (rI0 fun i j => .int (i + j)) (tC (.int c)) (tCall S.spDraw [] E (tCons (tVar i) (tCons (tC (.int n)) tNil))) σ H Q := by
  obtain ⟨r, m, hp, hf⟩ := h
  exact ⟨_, hσ, p, r, m, n, rfl, hp, hf, n1, n2, fun j r1 m1 f1 j0 j1 => ⟨_, _, rfl, rfl, k j _ j0 j1 (Bt.put f1)⟩⟩
theorem draw_w {σ : L2.St} {H : Hp} {Q : VK} {E : XK} {p : Addr} {i j : Nat} {c n : Int} (hσ : σ[i]? = some (some (.ref p))) (hj : σ[j]? = some (some (.int n))) (h : S.At H p) (n1 : 1 ≤ n) (n2 : n.natAbs.log2 < 9000) (k : ∀ x H', 0 ≤ x → x < n → Bt p H H' → Q (.int (c + x)) H') :
    tOp (rI0 fun i j => .int (i + j)) (tC (.int c)) (tCall S.spDraw [] E (tCons (tVar i) (tCons (tVar j) tNil))) σ H Q := by
  obtain ⟨r, m, hp, hf⟩ := h
  exact ⟨_, hσ, _, hj, p, r, m, n, rfl, hp, hf, n1, n2, fun x r1 m1 f1 j0 j1 => ⟨_, _, rfl, rfl, k x _ j0 j1 (Bt.put f1)⟩⟩
/-- a pick from a list just made -/
theorem pick_at {K : PySem.W.Frag} {H : Hp} {Q : VK} {p l : Addr} {E : XK} {xs : List V} (h : S.At H p) (hl : H l = none) (h1 : 1 ≤ xs.length) (h2 : xs.length ≤ 1000) (k : ∀ x H', x ∈ xs → Bt p H H' → Q x H') : S.spPick K [.ref p, .ref l] (upd H l (.lst xs)) Q E := by
  obtain ⟨r, m, hp, hf⟩ := h
  have lp : l ≠ p := fun z => by
    rw [z, hp] at hl
    cases hl
  exact ⟨p, l, r, m, xs, rfl, by rw [upd_ne lp.symm]; exact hp, hf, lp, SqL.of upd_same, h1, h2, fun j x r2 m2 f2 hx => k x _ (List.mem_of_getElem? hx) ((Bt.same (of_upd hl) ⟨r, m, hp, hf⟩).trans (Bt.put f2))⟩
theorem pick_of {K : PySem.W.Frag} {σ : L2.St} {H : Hp} {Q : VK} {p : Addr} {E : XK} {i : Nat} {xs : List V} {ta : TA} (hσ : σ[i]? = some (some (.ref p))) (h : S.At H p) (h1 : 1 ≤ xs.length) (h2 : xs.length ≤ 1000) (ha : ∀ Q2 : List V → Hp → Prop, Q2 xs H → ta σ H Q2) (k : ∀ x H', x ∈ xs → Bt p H H' → Q x H') :
    tCall (S.spPick K) [] E (tCons (tVar i) (tCons (tLst ta) tNil)) σ H Q := ⟨_, hσ, ha _ ⟨Nat.le_trans h2 (by decide), fun l hl => pick_at (E := E) h hl h1 h2 k⟩⟩
end Y

end
section
set_option autoImplicit false
set_option Elab.async false
set_option linter.all false
set_option maxRecDepth 100000
set_option maxHeartbeats 4000000
/-! ## the law -/
namespace CP
open PySem L2 G Y QR
abbrev sLaw : Stmt := S.top 31
theorem dr_mono {K : PySem.W.Frag} {H H' : Hp} (s : Same H H') {m : Bool} {v : V} {d : PyData} (h : Dr K H m v d) : Dr K H' m v d :=
  Dr.rec (K := K) (H := H) (motive_1 := fun m v d _ => Dr K H' m v d) (motive_2 := fun m vs ds _ => DrA K H' m vs ds) .non .bl .int .str (fun h _ a => .lst (s.seq h) a) (fun h _ a => .tup (sqT_same s h) a) (fun h _ a => .dic (s _ _ h) a) .nil (fun _ _ a b => .cons a b) h
theorem drA_mono {K : PySem.W.Frag} {H H' : Hp} (s : Same H H') {m : Bool} : ∀ {vs : List V} {ds : List PyData}, DrA K H m vs ds → DrA K H' m vs ds
  | _, _, .nil => .nil
  | _, _, .cons a b => .cons (dr_mono s a) (drA_mono s b)
theorem Tx.mono {K : PySem.W.Frag} {H H' : Hp} (s : Same H H') {v : V} {t : Str} (h : Tx K H v t) : Tx K H' v t := by
  cases h with
  | non => exact .non
  | bl b => exact .bl b
  | int i h => exact .int i h
  | str x h => exact .str x h
  | dat h f => exact .dat (dr_mono s h) f
  | row h n d f => exact .row (s.seq h) n (drA_mono s d) f
  | top h d f => exact .top (s.seq h) (drA_mono s d) f
  | one h1 h2 n d f => exact .one (s.seq h1) (s.seq h2) n (drA_mono s d) f
/-- what the law says of a value behind its class -/
theorem vl_caught {K : PySem.W.Frag} {H : Hp} {v : V} (h : Vl H v) : (∃ (D : Addr) (row : List Nat), v = .ref D ∧ H D = some (.lst (ni row)) ∧ Stz row) ∨ Bad K H v := by
  rcases h.cls (K := K) with ⟨a, xs, rfl, h1, h2, h3⟩ | h
  · cases hr : right xs with
    | true =>
      obtain ⟨row, rfl, hs⟩ := ni_right hr
      exact .inl ⟨a, row, rfl, h1, hs⟩
    | false => exact .inr (.inl ⟨a, xs, rfl, h1, h3, hr⟩)
  · exact .inr (.inr h)
theorem bad_not {K : PySem.W.Frag} {H : Hp} {a : Addr} {xs : List V} (h : H a = some (.lst xs)) (b : Bad K H (.ref a)) : right xs = false ∨ NL K H (.ref a) := by
  rcases b with ⟨a2, ys, e, h1, _, h3⟩ | h
  · cases e
    rw [h] at h1
    cases h1
    exact .inl h3
  · exact .inr h
section
variable {P : Program} {w : World} {K : PySem.W.Frag} {mg : Str → Option Value} {base : Heap} {C CB : Addr}
def spLaw (K : PySem.W.Frag) : Sp := fun vs H Q _ => ∃ (a : Addr) (ns : List Int), vs = [.ref a] ∧ SqL K H a (ns.map V.int) ∧ ns.length ≤ 63 ∧ (∀ z ∈ ns, Builtin.Int.intBits z ≤ 1048576) ∧ ∀ H', Q (.bl true) H'
abbrev NLa : List Str := ["script", "start", "stream", "some", "at", "values", "odd", "value", "seen", "way", "caught", "due", "thing", "kept", "turn"]
theorem scLa : FnScope NLa ["script"] (defScope sLaw) := ⟨rfl, rfl, rfl, by decide +kernel, rfl, by decide +kernel, by decide +kernel⟩
theorem cut_hi (xs : List V) (k : Nat) : cutV xs none (some (k : Int)) = xs.take k := by
  unfold cutV
  rw [HT.sIx_nat, HT.sIx_none, List.drop_zero, Nat.sub_zero]
  by_cases h : k ≤ xs.length
  · rw [Nat.min_eq_left h]
  · rw [Nat.min_eq_right (by omega), List.take_of_length_le (Nat.le_refl _), List.take_of_length_le (by omega)]
theorem del_same {H H' : Hp} {V : Addr} (h : ∀ a o, a ≠ V → H a = some o → H' a = some o) : Same (del H V) (del H' V) := fun a o e => by
  by_cases z : a = V
  · rw [z, L2.del_same] at e
    cases e
  · rw [del_ne z] at e ⊢
    exact h a o z e
theorem del_le {H : Hp} {V : Addr} : Same (del H V) H := fun a o e => by
  by_cases z : a = V
  · rw [z, L2.del_same] at e
    cases e
  · rw [del_ne z] at e
    exact e
theorem del_new {H H' : Hp} {V : Addr} (n : H V = none) (s : Same H H') : Same H (del H' V) := fun a o e => by
  have z : a ≠ V := fun z => by
    rw [z, n] at e
    cases e
  rw [del_ne z]
  exact s a o e
theorem rep_row {H : Hp} {a : Addr} {n : Nat} {z : Int} (h : H a = some (.lst (List.replicate n [V.int z]).flatten)) (hn : n ≤ 110) (hz : z.natAbs < 10 ^ 35) : Vl H (.ref a) := by
  refine .row (m := true) h ?_ (fun x hx => ?_) (fun z => by cases z)
  · rw [List.flatten_replicate_singleton, List.length_replicate]
    exact hn
  · obtain ⟨l, hl, hx⟩ := List.mem_flatten.mp hx
    rw [List.eq_of_mem_replicate hl] at hx
    rw [List.mem_singleton.mp hx]
    exact .int hz
theorem ie_ni {H : Hp} {m : Bool} {row : List Nat} (h : ∀ s ∈ row, 0 < s ∧ s ≤ 9) : ∀ x ∈ ni row, Ie H m x := fun x hx => by
  obtain ⟨i, hi⟩ := List.getElem?_of_mem hx
  obtain ⟨s, hs, rfl⟩ := ni_get hi
  have := h s (List.mem_of_getElem? hs)
  exact .int (Nat.lt_of_lt_of_le (show ((s : Nat) : Int).natAbs < 100 by omega) (by decide))
theorem ints_row {H : Hp} {a : Addr} {xs : List V} (h : H a = some (.lst xs)) (l : xs.length ≤ 110) (i : ∀ x ∈ xs, Ie H true x) : Vl H (.ref a) := .row (m := true) h l i (fun z => by cases z)
theorem one_int {H : Hp} {m : Bool} {z : Int} (hz : z.natAbs < 10 ^ 35) : ∀ x ∈ ([.int z] : List V), Ie H m x := fun x hx => by
  rw [List.mem_singleton.mp hx]
  exact .int hz
theorem sum_le : ∀ {row : List Nat}, (∀ s ∈ row, 0 < s ∧ s ≤ 9) → row.sum ≤ 9 * row.length
  | [], _ => Nat.le_refl _
  | x :: r, h => by
    have a := h x List.mem_cons_self
    have b := sum_le (row := r) fun y hy => h y (List.mem_cons_of_mem _ hy)
    rw [List.sum_cons, List.length_cons]
    omega
theorem draw_nn {σ : L2.St} {H : Hp} {Q : VK} {E : XK} {p : Addr} {i : Nat} {n : Int} (hσ : σ[i]? = some (some (.ref p))) (h : S.At H p) (n1 : 1 ≤ n) (n2 : n.natAbs.log2 < 9000) (k : ∀ j H', 0 ≤ j → j < n → Bt p H H' → Q (.int (1 + j)) H') :
    tOp (rI0 fun i j => .int (i + j)) (tC (.int 1)) (tCall S.spDraw [] E (tCons (tVar i) (tCons (tC (.int n)) tNil))) σ H Q := draw_of hσ h n1 n2 k
theorem ok_law {f : Addr} {fd : FuncData} (F : Fun K "law" "law" sLaw f fd) (B : Bn mg) (hsum : mg "sum" = none) (hrep : mg "repr" = none) (TC : Ct K mg C) (T2 : Cn2 K C) (T3 : Ck3 K C)
    (DU : Df P w K mg base 1 "_law_stream" ["script", "start"] (S.spSource K)) (DD : Df P w K mg base 1 "_law_draw" ["stream", "size"] S.spDraw) (DS : G.Du P w K mg base 1 "_law_same" ["one", "two"] (S.spSameT K))
    (DA : Df P w K mg base 9 "_law_caught" ["value", "way"] (spCaught K)) (DR : Df P w K mg base 1 "_law_is_right" ["value"] (spIsRight K)) (MW : Mw P w K mg base C) (DE : Oe P w K mg base C 1 "__eq__" ["self", "other"] (spCEq C)) :
    G.Ok P w K mg base CX0 10 f fd ["script"] (spLaw K) := by
  obtain ⟨fU, fdU, GU, gU, kU, bU⟩ := DU.ex
  obtain ⟨fD, fdD, GD, gD, kD, bD⟩ := DD.ex
  obtain ⟨fS, fdS, GS, gS, kS, bS⟩ := DS.ex
  obtain ⟨fA, fdA, GA, gA, kA, bA⟩ := DA.ex
  obtain ⟨fR, fdR, GR, gR, kR, bR⟩ := DR.ex
  obtain ⟨fI, fdI, GI, MK, bI⟩ := MW.ex
  obtain ⟨fE, fdE, GE, OE, bE⟩ := DE.ex
  refine G.mk F scLa (fun vs H Q E h => ?_) (fun cdv A outer s H vs Q E hg hr h => ?_)
  · obtain ⟨a, ns, rfl, _⟩ := h
    rfl
  · obtain ⟨a, ns, rfl, hS, hl, hb, k⟩ := h
    refine ⟨_, pss_cons (ps_for PassesOwn.never rfl (pi_range1 (by rfl) B.range (pa_cons (pe_callB (call_max2 rfl) (by rfl) B.max (by decide +kernel) (pa_cons pe_int (pa_cons (pe_callB (call_min2 rfl) (by rfl) B.min (by decide +kernel) (pa_cons pe_int (pa_cons (pe_callB call_len_seq (by rfl) B.len PySem.boot_len (pa_cons (pv 0) pa_nil)) pa_nil))) pa_nil))) pa_nil)) (pg_name (i := 1) scLa.nd rfl (Or.inl rfl)) (pss_cons (ps_set (i := 2) scLa.nd rfl (Or.inr rfl) (pe_call GU (hr.mono (by decide)) rfl gU kU bU .nil pass0 (pa_cons (pv 0) (pa_cons (pv 1) pa_nil))))
      (pss_cons (ps_setLc (i := 3) (own := [("turn", 14)]) (g := gName 14) (tt := tYes) (te := tOp (rI0 fun i j => V.int (i + j)) (tC (V.int 1)) (tCall S.spDraw [] E0 (tCons (tVar 2) (tCons (tC (V.int 9)) tNil)))) rfl scLa.nd rfl rfl (sw_true rfl rfl rfl (by decide +kernel)) (pi_range1 (by rfl) B.range (pa_cons (pe_op op_add (pe_int) (pe_call GD (hr.mono (by decide)) rfl gD kD bD .nil pass0 (pa_cons (pv 2) (pa_cons (pe_int) pa_nil)))) pa_nil)) (blkOk_by (N := NLa) (sc := defScope sLaw) (by decide +kernel))
          (fun _ _ _ _ _ => by exact pg_name (i := 14) scLa.nd rfl (Or.inl rfl)) (fun _ _ _ _ _ => pts_nil) (fun _ _ _ _ _ => by exact pe_op op_add (pe_int) (pe_call GD (hr.mono (by decide)) rfl gD kD bD .nil pass0 (pa_cons (pv 2) (pa_cons (pe_int) pa_nil)))))
      (pss_cons (ps_set (i := 4) scLa.nd rfl (Or.inl rfl) (pe_call GD (hr.mono (by decide)) rfl gD kD bD .nil pass0 (pa_cons (pv 2) (pa_cons (pe_callB call_len_seq (by rfl) B.len PySem.boot_len (pa_cons (pv 3) pa_nil)) pa_nil))))
      (pss_cons (ps_set (i := 5) scLa.nd rfl (Or.inl rfl) (pe_lst (pa_cons (pv 3) (pa_cons (pe_callTy call_tuple_of (by rfl) B.tuple (by decide +kernel) (pa_cons (pv 3) pa_nil)) (pa_cons (pe_lst pa_nil) (pa_cons (pe_op op_rep (pe_lst (pa_cons (pe_int) pa_nil)) (pe_int)) (pa_cons (pe_op op_rep (pe_lst (pa_cons (pe_int) pa_nil)) (pe_int)) (pa_cons (pe_lst (pa_cons (pe_int) pa_nil)) (pa_cons (pe_lst (pa_cons (pe_int) pa_nil)) (pa_cons (pe_op op_cat (pv 3) (pe_lst (pa_cons (pe_op op_sub (pe_int) (pe_callB (cr_sum rfl) (by rfl) hsum (by decide +kernel) (pa_cons (pv 3) pa_nil))) pa_nil))) (pa_cons (pe_op op_rep (pe_lst (pa_cons (pe_int) pa_nil)) (pe_int)) pa_nil)))))))))))
      (pss_cons (ps_set (i := 5) scLa.nd rfl (Or.inl rfl) (pe_op op_cat (pv 5) (pe_lst (pa_cons (pe_op op_cat (pv 3) (pe_lst (pa_cons (pe_op op_sub (pe_int) (pe_callB (cr_sum rfl) (by rfl) hsum (by decide +kernel) (pa_cons (pv 3) pa_nil))) pa_nil))) (pa_cons (pe_non) (pa_cons (pe_int) (pa_cons (pe_str) (pa_cons (pe_str) (pa_cons (pe_dnewK) (pa_cons (pe_disp (pps_cons pe_int pe_int pps_nil) rfl rfl (fun z => by cases z) (by decide)) (pa_cons (pe_lst (pa_cons (pe_lst (pa_cons (pe_int) pa_nil)) pa_nil)) (pa_cons (pe_lst (pa_cons (pe_op op_powN pe_int pe_int) pa_nil)) (pa_cons (pe_lst (pa_cons (pe_int) (pa_cons (pe_op op_powN pe_int pe_int) pa_nil))) pa_nil)))))))))))))
      (pss_cons (ps_for PassesOwn.never rfl (pi_list (pe_lst (pa_cons (pe_int) (pa_cons (pe_op op_sub (pe_int) (pe_int)) (pa_cons (pe_non) (pa_cons (pe_bl) (pa_cons (pe_bl) (pa_cons (pe_str) (pa_cons (pe_lst (pa_cons (pe_int) pa_nil)) (pa_cons (pe_tup (pa_cons (pe_int) pa_nil)) (pa_cons (pe_dnewK) (pa_cons (pe_op op_powN pe_int pe_int) pa_nil)))))))))))) (pg_name (i := 6) scLa.nd rfl (Or.inl rfl)) (pss_one (ps_expr (pe_bm PySem.F.plainAttrs_list PySem.F.slot_list_append PySem.F.type_list_append mt_append (pv 5) (pa_cons (pe_op LN.op_catS (pe_op op_cat (pe_slice sl_list (pv 3) (po_none) (po_some (pv 4))) (pe_lst (pa_cons (pv 6) pa_nil))) (pe_slice sl_list (pv 3) (po_some (pe_op op_add (pv 4) (pe_int))) (po_none))) pa_nil)))))
      (pss_cons (ps_for PassesOwn.never rfl (pi_list (pv 5)) (pg_name (i := 7) scLa.nd rfl (Or.inl rfl)) (pss_cons (ps_set (i := 8) scLa.nd rfl (Or.inl rfl) (pe_callB (call_reprT hg hr.units) (by rfl) hrep (by decide +kernel) (pa_cons (pv 7) pa_nil)))
      (pss_one (ps_for PassesOwn.never rfl (pi_tup (pe_tup (pa_cons (pe_int) (pa_cons (pe_int) pa_nil)))) (pg_name (i := 9) scLa.nd rfl (Or.inl rfl)) (pss_cons (ps_par (i := 10) (j := 11) (by rfl) scLa.nd rfl rfl (by decide) rfl rfl (pa_cons (pe_call GA (hr.mono (by decide)) rfl gA kA bA .nil pass0 (pa_cons (pv 7) (pa_cons (pv 9) pa_nil))) (pa_cons (pe_ifExp (pt_val (pe_call GR (hr.mono (by decide)) rfl gR kR bR .nil pass0 (pa_cons (pv 7) pa_nil))) (pe_lst pa_nil) (pe_lst (pa_cons (pv 7) pa_nil))) pa_nil)) (by rfl))
      (pss_one (ps_if (PW.pt (pw_or (pt_not (pt_val (pe_callG hg GS (hr.mono (by decide)) rfl gS kS bS pass0 (pa_cons (pv 10) (pa_cons (pv 11) pa_nil))))) (pw_or1 (pt_cmpR (op_ne) (pe_callB (call_reprT hg hr.units) (by rfl) hrep (by decide +kernel) (pa_cons (pv 7) pa_nil)) (pv 8) (nomark _))))) (pss_one (ps_ret pe_bl)) (pss_nil))))))))
      (pss_cons (ps_for PassesOwn.never rfl (pi_list (pe_lst (pa_cons (pe_make MK GI (hr.mono (by decide)) rfl TC.g bI .nil pass0 (pa_cons (pe_lst (pa_cons (pe_int) pa_nil)) pa_nil)) (pa_cons (pe_lst (pa_cons (pe_make MK GI (hr.mono (by decide)) rfl TC.g bI .nil pass0 (pa_cons (pe_lst (pa_cons (pe_int) pa_nil)) pa_nil)) pa_nil)) (pa_cons (pe_lst (pa_cons (pe_int) (pa_cons (pe_make MK GI (hr.mono (by decide)) rfl TC.g bI .nil pass0 (pa_cons (pe_lst pa_nil) pa_nil)) pa_nil))) pa_nil))))) (pg_name (i := 12) scLa.nd rfl (Or.inl rfl)) (pss_one (ps_for PassesOwn.never rfl (pi_tup (pe_tup (pa_cons (pe_int) (pa_cons (pe_int) pa_nil)))) (pg_name (i := 9) scLa.nd rfl (Or.inl rfl)) (pss_cons (ps_set (i := 10) scLa.nd rfl (Or.inl rfl) (pe_call GA (hr.mono (by decide)) rfl gA kA bA .nil pass0 (pa_cons (pv 12) (pa_cons (pv 9) pa_nil))))
      (pss_one (ps_if (PW.pt (pw_or (pt_cmpR (LN.op_eqNil hr.units) (pv 10) (pe_lst pa_nil) (nomark _)) (pw_or1 (pt_not (pt_cmpR (LN.op_or (WO.op_eqO GE (hr.mono (by decide)) OE bE pass0) (op_eqG (rcG_list (mon_ic C) (eqG_ic GE OE bE)) (hr.mono (by decide)))) (pe_ix ix_list (pv 10) pe_int (fun _ _ => rfl)) (pv 12) (nomark _)))))) (pss_one (ps_ret pe_bl)) (pss_nil)))))))
      (pss_cons (ps_set (i := 12) scLa.nd rfl (Or.inl rfl) (pe_lst (pa_cons (pe_int) (pa_cons (pe_call GD (hr.mono (by decide)) rfl gD kD bD .nil pass0 (pa_cons (pv 2) (pa_cons (pe_int) pa_nil))) pa_nil))))
      (pss_cons (ps_set (i := 13) scLa.nd rfl (Or.inl rfl) (pe_call GA (hr.mono (by decide)) rfl gA kA bA .nil pass0 (pa_cons (pv 12) (pa_cons (pe_int) pa_nil))))
      (pss_cons (ps_expr (pe_bm PySem.F.plainAttrs_list PySem.F.slot_list_append PySem.F.type_list_append mt_append (pv 12) (pa_cons (pe_int) pa_nil)))
      (pss_one (ps_if (pt_not (pt_val (pe_callG hg GS (hr.mono (by decide)) rfl gS kS bS pass0 (pa_cons (pv 13) (pa_cons (pe_lst (pa_cons (pv 12) pa_nil)) pa_nil))))) (pss_one (ps_ret pe_bl)) (pss_nil)))))))))))))))
      (pss_one (ps_ret (pe_bl))), ?_⟩
    refine ⟨_, rfl, a, _, rfl, .inl hS, _, _, rfl, _, _, rfl, _, rfl, by split <;> omega, by split <;> (try split) <;> omega, for_range (n := Int.toNat _) (fun i σ G => Same H G ∧ ∃ q1 q2 q3 q4 q5 q6 q7 q8 q9 q10 q11 q12 q13, σ = [some (.ref a), q1, q2, q3, q4, q5, q6, q7, q8, q9, q10, q11, q12, q13, none])
      ⟨Same.refl H, _, _, _, _, _, _, _, _, _, _, _, _, _, rfl⟩ ?_ ?_⟩
    · rintro i σ G hi ⟨s0, q1, q2, q3, q4, q5, q6, q7, q8, q9, q10, q11, q12, q13, rfl⟩
      dsimp only
      refine set_then (i := 2) ⟨_, rfl, _, rfl, a, ns, i, by show [V.ref a, V.int (0 + (i : Int))] = _; rw [Int.zero_add], ?_, s0.seq hS, hl, hb, fun p r m hp hf => ?_⟩
      · split at hi <;> (try split at hi) <;> omega
      have hp0 : H p = none := s0.free hp
      have s1 : Same H (upd G p (.lst (S.Two r m))) := s0.trans (of_upd hp)
      have at1 : S.At (upd G p (.lst (S.Two r m))) p := ⟨r, m, upd_same, hf⟩
      generalize upd G p (.lst (S.Two r m)) = G1 at s1 at1 ⊢
      clear hp hf
      dsimp only
      -- some
      refine set_then (i := 3) (draw_nn rfl at1 (by decide) (by decide +kernel) fun j G2 j0 j1 b2 => ?_)
      refine ⟨1 + j, rfl, by omega, by omega, fun D1 n1 => ?_⟩
      have s2 := sameBt s1 hp0 b2
      have ne1 := at_ne b2.2 n1
      refine lc_range (lo := 0) (n := (1 + j).toNat) (fun i G => Bt p G2 G ∧ ∃ row : List Nat, G D1 = some (.lst (ni row)) ∧ row.length = i ∧ ∀ s ∈ row, 0 < s ∧ s ≤ 9) ⟨Bt.new (.lst []) b2.2 n1, [], upd_same, rfl, (fun s hs => by cases hs)⟩ ?_ ?_
      · rintro i4 G hi4 ⟨bG, row, e, l4, h4⟩
        refine ⟨rfl, draw_nn rfl bG.2 (by decide) (by decide +kernel) fun j5 G' j50 j51 b => ⟨_, bt_lst b ne1 e, small1000 (by rw [ni_len]; omega), ⟨fun a o na ea => ?_, ?_⟩, row ++ [(1 + j5).toNat], ?_, by simp; exact l4, fun n hn => ?_⟩⟩
        · rw [upd_ne (fun z => by rw [z, n1] at ea; cases ea)]
          exact (bG.trans b).1 a o na ea
        · obtain ⟨r, m, e1, f1⟩ := b.2
          exact ⟨r, m, by rw [upd_ne ne1.symm]; exact e1, f1⟩
        · rw [upd_same, ni_app]
          show some (HO.lst (ni row ++ [V.int (1 + j5)])) = some (.lst (ni row ++ [V.int (((1 + j5).toNat : Nat) : Int)]))
          rw [Int.toNat_of_nonneg (by omega)]
        · rcases List.mem_append.mp hn with q | q
          · exact h4 n q
          · rw [List.mem_singleton.mp q]
            omega
      rintro G3 ⟨b3, row, eR, lR, hR⟩
      have s3 := sameBt s2 hp0 b3
      have at3 := b3.2
      have lR1 : 1 ≤ row.length ∧ row.length ≤ 9 := by omega
      clear s1 at1 b2 s2 b3
      -- at
      refine set_then (i := 4) ⟨_, rfl, _, rfl, D1, _, rfl, .inl (SqL.of eR), ?_⟩
      dsimp only [tNil, List.cons_append, List.nil_append]
      rw [ni_len]
      refine draw_at at3 (by omega) (PySem.Flt.log2_lt_of (k := 9000) (by decide) (Nat.lt_of_lt_of_le (by omega : _ < 1001) (Nat.le_trans (by decide : 1001 ≤ 2 ^ 10) (Nat.pow_le_pow_right (by decide) (by decide))))) fun j4 G4 j40 j41 b4 => ?_
      obtain ⟨at0, rfl⟩ := Int.eq_ofNat_of_zero_le j40
      have s4 := sameBt s3 hp0 b4
      have eS := bt_lst b4 (fun z => by
        obtain ⟨r, m, e, _⟩ := at3
        rw [z] at eR
        rw [e] at eR
        exact ne1 z) eR
      have at4 := b4.2
      clear at3 b4 s3 eR n1
      have sR := sum_le hR
      -- values
      have v0 : Vl G4 (.ref D1) := ints_row eS (by rw [ni_len]; omega) (ie_ni hR)
      refine set_then (i := 5) ⟨_, rfl, _, rfl, D1, _, rfl, .inl ⟨SqL.of eS, fun a1 n1 => ?_⟩⟩
      have g1 := of_upd (o := .tup (ni row)) n1
      have w1 : Vl (upd G4 a1 (.tup (ni row))) (.ref a1) := .tup upd_same (by rw [ni_len]; omega) (ie_ni hR)
      generalize upd G4 a1 (.tup (ni row)) = H1 at g1 w1 ⊢
      refine ⟨line2.2.2.2, fun a2 n2 => ?_⟩
      have g2 := of_upd (o := .lst []) n2
      have w2 : Vl (upd H1 a2 (.lst [])) (.ref a2) := ints_row upd_same (by decide) (fun x hx => by cases hx)
      generalize upd H1 a2 (.lst []) = H2 at g2 w2 ⊢
      refine ⟨line2.2.2.1, fun c3 m3 => ⟨c3, 100, [V.int 1], rfl, rfl, upd_same, by decide, by decide, (by show 1 * 100 ≤ sizeLine; decide), fun a3 n3 => ?_⟩⟩
      have g3 := (of_upd (o := .lst [V.int 1]) m3).trans (of_upd (o := .lst (List.replicate (100 : Int).toNat [V.int 1]).flatten) n3)
      have w3 : Vl (upd (upd H2 c3 (.lst [V.int 1])) a3 (.lst (List.replicate (100 : Int).toNat [V.int 1]).flatten)) (.ref a3) := rep_row (n := 100) upd_same (by decide) (by decide)
      generalize upd (upd H2 c3 (.lst [V.int 1])) a3 (.lst (List.replicate (100 : Int).toNat [V.int 1]).flatten) = H3 at g3 w3 ⊢
      refine ⟨line2.2.2.1, fun c4 m4 => ⟨c4, 101, [V.int 1], rfl, rfl, upd_same, by decide, by decide, (by show 1 * 101 ≤ sizeLine; decide), fun a4 n4 => ?_⟩⟩
      have g4 := (of_upd (o := .lst [V.int 1]) m4).trans (of_upd (o := .lst (List.replicate (101 : Int).toNat [V.int 1]).flatten) n4)
      have w4 : Vl (upd (upd H3 c4 (.lst [V.int 1])) a4 (.lst (List.replicate (101 : Int).toNat [V.int 1]).flatten)) (.ref a4) := rep_row (n := 101) upd_same (by decide) (by decide)
      generalize upd (upd H3 c4 (.lst [V.int 1])) a4 (.lst (List.replicate (101 : Int).toNat [V.int 1]).flatten) = H4 at g4 w4 ⊢
      refine ⟨line2.2.2.1, fun a5 n5 => ?_⟩
      have g5 := of_upd (o := .lst [V.int 300]) n5
      have w5 : Vl (upd H4 a5 (.lst [V.int 300])) (.ref a5) := ints_row upd_same (by decide) (one_int (by decide))
      generalize upd H4 a5 (.lst [V.int 300]) = H5 at g5 w5 ⊢
      refine ⟨line2.2.2.1, fun a6 n6 => ?_⟩
      have g6 := of_upd (o := .lst [V.int 301]) n6
      have w6 : Vl (upd H5 a6 (.lst [V.int 301])) (.ref a6) := ints_row upd_same (by decide) (one_int (by decide))
      generalize upd H5 a6 (.lst [V.int 301]) = H6 at g6 w6 ⊢
      have g16 := g1.trans (g2.trans (g3.trans (g4.trans (g5.trans g6))))
      refine ⟨_, rfl, _, rfl, D1, row.map fun n => ((n : Nat) : Int), rfl, SqL.of (g16 _ _ eS), _, _, rfl, rfl, line2.2.2.1, fun c7 m7 => ?_⟩
      have hz7 : (300 - (row.map fun n => ((n : Nat) : Int)).sum).natAbs < 10 ^ 35 := by
        rw [sum_cast]
        exact Nat.lt_of_lt_of_le (show (300 - ((row.sum : Nat) : Int)).natAbs < 1000 by omega) (by decide)
      have hz8 : (301 - (row.map fun n => ((n : Nat) : Int)).sum).natAbs < 10 ^ 35 := by
        rw [sum_cast]
        exact Nat.lt_of_lt_of_le (show (301 - ((row.sum : Nat) : Int)).natAbs < 1000 by omega) (by decide)
      have gc7 := of_upd (o := .lst [V.int (300 - (row.map fun n => ((n : Nat) : Int)).sum)]) m7
      refine ⟨D1, c7, _, _, rfl, rfl, gc7 _ _ (g16 _ _ eS), upd_same, (by rw [ni_len]; exact Nat.le_trans (show row.length + 1 ≤ 1000 by omega) (by decide)), fun a7 n7 => ?_⟩
      have g7 := gc7.trans (of_upd (o := .lst (ni row ++ [V.int (300 - (row.map fun n => ((n : Nat) : Int)).sum)])) n7)
      have app : ∀ {G : Hp} {m : Bool} {z : Int}, z.natAbs < 10 ^ 35 → ∀ x ∈ ni row ++ [V.int z], Ie G m x := fun {G m z} h x hx => (List.mem_append.mp hx).elim (ie_ni hR x) (one_int h x)
      have lapp : ∀ z : Int, (ni row ++ [V.int z]).length ≤ 110 := fun z => by
        rw [List.length_append, ni_len]
        show row.length + 1 ≤ 110
        omega
      have w7 : Vl (upd (upd H6 c7 (.lst [V.int (300 - (row.map fun n => ((n : Nat) : Int)).sum)])) a7 (.lst (ni row ++ [V.int (300 - (row.map fun n => ((n : Nat) : Int)).sum)]))) (.ref a7) := ints_row upd_same (lapp _) (app hz7)
      generalize upd (upd H6 c7 (.lst [V.int (300 - (row.map fun n => ((n : Nat) : Int)).sum)])) a7 (.lst (ni row ++ [V.int (300 - (row.map fun n => ((n : Nat) : Int)).sum)])) = H7 at g7 w7 ⊢
      refine ⟨line2.2.2.1, fun c8 m8 => ⟨c8, 100, [V.int 3], rfl, rfl, upd_same, by decide, by decide, (by show 1 * 100 ≤ sizeLine; decide), fun a8 n8 => ?_⟩⟩
      have g8 := (of_upd (o := .lst [V.int 3]) m8).trans (of_upd (o := .lst (List.replicate (100 : Int).toNat [V.int 3]).flatten) n8)
      have w8 : Vl (upd (upd H7 c8 (.lst [V.int 3])) a8 (.lst (List.replicate (100 : Int).toNat [V.int 3]).flatten)) (.ref a8) := rep_row (n := 100) upd_same (by decide) (by decide)
      generalize upd (upd H7 c8 (.lst [V.int 3])) a8 (.lst (List.replicate (100 : Int).toNat [V.int 3]).flatten) = H8 at g8 w8 ⊢
      refine ⟨Nat.le_trans (show 9 ≤ 1000 by decide) (by decide), fun V1 nV1 => ?_⟩
      have all1 : ∀ v ∈ ([.ref D1, .ref a1, .ref a2, .ref a3, .ref a4, .ref a5, .ref a6, .ref a7, .ref a8] : List V), Vl H8 v := fun v hv => by
        simp only [List.mem_cons, List.mem_nil_iff, or_false] at hv
        rcases hv with rfl | rfl | rfl | rfl | rfl | rfl | rfl | rfl | rfl
        · exact v0.mono (g16.trans (g7.trans g8))
        · exact w1.mono (g2.trans (g3.trans (g4.trans (g5.trans (g6.trans (g7.trans g8))))))
        · exact w2.mono (g3.trans (g4.trans (g5.trans (g6.trans (g7.trans g8)))))
        · exact w3.mono (g4.trans (g5.trans (g6.trans (g7.trans g8))))
        · exact w4.mono (g5.trans (g6.trans (g7.trans g8)))
        · exact w5.mono (g6.trans (g7.trans g8))
        · exact w6.mono (g7.trans g8)
        · exact w7.mono g8
        · exact w8
      have len1 : ([.ref D1, .ref a1, .ref a2, .ref a3, .ref a4, .ref a5, .ref a6, .ref a7, .ref a8] : List V).length = 9 := rfl
      dsimp only [tNil, List.cons_append, List.nil_append]
      generalize ([.ref D1, .ref a1, .ref a2, .ref a3, .ref a4, .ref a5, .ref a6, .ref a7, .ref a8] : List V) = l1 at all1 len1 ⊢
      have g18 := g16.trans (g7.trans g8)
      have eS8 := g18 _ _ eS
      have s8 := s4.trans g18
      have at8 := sameAt g18 at4
      clear g1 g2 g3 g4 g5 g6 g7 g8 g16 w1 w2 w3 w4 w5 w6 w7 w8 v0 n1 n2 n3 n4 n5 n6 n7 n8 m3 m4 m7 m8 gc7 g18 eS s4 at4
      -- the second list of values
      have gV1 := of_upd (o := .lst l1) nV1
      have eV1 : upd H8 V1 (.lst l1) V1 = some (.lst l1) := upd_same
      have all1' : ∀ v ∈ l1, Vl (upd H8 V1 (.lst l1)) v := fun v hv => (all1 v hv).mono gV1
      generalize upd H8 V1 (.lst l1) = K0 at gV1 eV1 all1' ⊢
      have eSK := gV1 _ _ eS8
      refine set_then (i := 5) ⟨_, rfl, _, rfl, _, rfl, D1, row.map fun n => ((n : Nat) : Int), rfl, SqL.of eSK, _, _, rfl, rfl, line2.2.2.1, fun c1 m1 => ?_⟩
      have gc1 := of_upd (o := .lst [V.int (301 - (row.map fun n => ((n : Nat) : Int)).sum)]) m1
      refine ⟨D1, c1, _, _, rfl, rfl, gc1 _ _ eSK, upd_same, (by rw [ni_len]; exact Nat.le_trans (show row.length + 1 ≤ 1000 by omega) (by decide)), fun b1 n1 => ?_⟩
      have g1 := gc1.trans (of_upd (o := .lst (ni row ++ [V.int (301 - (row.map fun n => ((n : Nat) : Int)).sum)])) n1)
      have w1 : Vl (upd (upd K0 c1 (.lst [V.int (301 - (row.map fun n => ((n : Nat) : Int)).sum)])) b1 (.lst (ni row ++ [V.int (301 - (row.map fun n => ((n : Nat) : Int)).sum)]))) (.ref b1) := ints_row upd_same (lapp _) (app hz8)
      generalize upd (upd K0 c1 (.lst [V.int (301 - (row.map fun n => ((n : Nat) : Int)).sum)])) b1 (.lst (ni row ++ [V.int (301 - (row.map fun n => ((n : Nat) : Int)).sum)])) = K1 at g1 w1 ⊢
      refine fun b2 n2 => ?_
      have g2 := of_upd (o := .dK []) n2
      have w2 : Vl (upd K1 b2 (.dK [])) (.ref b2) := .dic upd_same (.inl rfl)
      generalize upd K1 b2 (.dK []) = K2 at g2 w2 ⊢
      refine fun b3 n3 => ⟨upd_same, [(.inl 1, .int 1)], rfl, by decide, ?_⟩
      have g3 := add_upd (o := .dK (mergeK [] [((.inl 1 : Key), V.int 1)])) n3 (of_upd (o := .dK []) n3)
      have w3 : Vl (upd (upd K2 b3 (.dK [])) b3 (.dK (mergeK [] [((.inl 1 : Key), V.int 1)]))) (.ref b3) := .dic upd_same (.inr rfl)
      generalize upd (upd K2 b3 (.dK [])) b3 (.dK (mergeK [] [((.inl 1 : Key), V.int 1)])) = K3 at g3 w3 ⊢
      refine ⟨line2.2.2.1, fun c4 m4 => ⟨line2.2.2.1, fun b4 n4 => ?_⟩⟩
      have g4 := (of_upd (o := .lst [V.int 1]) m4).trans (of_upd (o := .lst [V.ref c4]) n4)
      have w4 : Vl (upd (upd K3 c4 (.lst [V.int 1])) b4 (.lst [V.ref c4])) (.ref b4) := ints_row upd_same (by show 1 ≤ 110; decide) (fun x hx => by
        rw [List.mem_singleton.mp hx]
        exact .lst (of_upd n4 _ _ upd_same))
      generalize upd (upd K3 c4 (.lst [V.int 1])) b4 (.lst [V.ref c4]) = K4 at g4 w4 ⊢
      refine ⟨_, _, rfl, rfl, ⟨by decide, by decide⟩, line2.2.2.1, fun b5 n5 => ?_⟩
      have g5 := of_upd (o := .lst [V.int (10 ^ Int.toNat 30)]) n5
      have w5 : Vl (upd K4 b5 (.lst [V.int (10 ^ Int.toNat 30)])) (.ref b5) := ints_row upd_same (by decide) (one_int (by decide +kernel))
      dsimp only
      generalize upd K4 b5 (.lst [V.int (10 ^ Int.toNat 30)]) = K5 at g5 w5 ⊢
      refine ⟨_, _, rfl, rfl, ⟨by decide, by decide⟩, line2.1, fun b6 n6 => ?_⟩
      have g6 := of_upd (o := .lst [V.int 1, .int (10 ^ Int.toNat 30)]) n6
      have w6 : Vl (upd K5 b6 (.lst [V.int 1, .int (10 ^ Int.toNat 30)])) (.ref b6) := ints_row upd_same (by show 2 ≤ 110; decide) (fun x hx => by
        simp only [List.mem_cons, List.mem_nil_iff, or_false] at hx
        rcases hx with rfl | rfl
        · exact .int (by decide)
        · exact .int (by decide +kernel))
      dsimp only
      generalize upd K5 b6 (.lst [V.int 1, .int (10 ^ Int.toNat 30)]) = K6 at g6 w6 ⊢
      refine ⟨Nat.le_trans (show 10 ≤ 1000 by decide) (by decide), fun V2 nV2 => ?_⟩
      have all2 : ∀ v ∈ ([.ref b1, .non, .int 5, .str "", .str "1", .ref b2, .ref b3, .ref b4, .ref b5, .ref b6] : List V), Vl K6 v := fun v hv => by
        simp only [List.mem_cons, List.mem_nil_iff, or_false] at hv
        rcases hv with rfl | rfl | rfl | rfl | rfl | rfl | rfl | rfl | rfl | rfl
        · exact w1.mono (g2.trans (g3.trans (g4.trans (g5.trans g6))))
        · exact .non
        · exact .int
        · exact .str (by simp)
        · exact .str (by simp)
        · exact w2.mono (g3.trans (g4.trans (g5.trans g6)))
        · exact w3.mono (g4.trans (g5.trans g6))
        · exact w4.mono (g5.trans g6)
        · exact w5.mono g6
        · exact w6
      have g16 := gV1.trans (g1.trans (g2.trans (g3.trans (g4.trans (g5.trans g6)))))
      have all1'' : ∀ v ∈ l1, Vl K6 v := fun v hv => (all1' v hv).mono (g1.trans (g2.trans (g3.trans (g4.trans (g5.trans g6)))))
      have eV6 := (g1.trans (g2.trans (g3.trans (g4.trans (g5.trans g6))))) _ _ eV1
      have len2 : ([.ref b1, .non, .int 5, .str "", .str "1", .ref b2, .ref b3, .ref b4, .ref b5, .ref b6] : List V).length = 10 := rfl
      generalize ([.ref b1, .non, .int 5, .str "", .str "1", .ref b2, .ref b3, .ref b4, .ref b5, .ref b6] : List V) = l2 at all2 len2 ⊢
      have gV2 := of_upd (o := .lst l2) nV2
      have eV2 : upd K6 V2 (.lst l2) V2 = some (.lst l2) := upd_same
      refine ⟨V1, V2, l1, l2, rfl, rfl, gV2 _ _ eV6, upd_same, small1000 (by omega) |> Nat.le_of_lt, fun V3 nV3 => ?_⟩
      have gV3 := of_upd (o := .lst (l1 ++ l2)) nV3
      have all3 : ∀ v ∈ l1 ++ l2, Vl (del (upd (upd K6 V2 (.lst l2)) V3 (.lst (l1 ++ l2))) V3) v := fun v hv => by
        have gd := del_new nV3 gV3
        rcases List.mem_append.mp hv with q | q
        · exact (all1'' v q).mono (gV2.trans gd)
        · exact (all2 v q).mono (gV2.trans gd)
      have eV3 : upd (upd K6 V2 (.lst l2)) V3 (.lst (l1 ++ l2)) V3 = some (.lst (l1 ++ l2)) := upd_same
      have len3 : (l1 ++ l2).length = 19 := by rw [List.length_append, len1, len2]
      have g17 := g16.trans (gV2.trans gV3)
      have nV3H : H V3 = none := (s8.trans (g16.trans gV2)).free nV3
      generalize upd (upd K6 V2 (.lst l2)) V3 (.lst (l1 ++ l2)) = G9 at all3 eV3 g17 ⊢
      generalize l1 ++ l2 = l3 at all3 eV3 len3
      have eS9 := g17 _ _ eS8
      have s9 := s8.trans g17
      have at9 := sameAt g17 at8
      clear g1 g2 g3 g4 g5 g6 w1 w2 w3 w4 w5 w6 n1 n2 n3 n4 n5 n6 m1 m4 gc1 all1 all1' all1'' all2 gV1 gV2 gV3 eV1 eV2 eV6 g16 g17 nV2 nV3 nV1 eS8 s8 at8 eSK hz7 hz8 lapp app len1 len2
      have neD : D1 ≠ V3 := fun z => by
        rw [z, eV3] at eS9
        have := congrArg (fun o => match o with | some (HO.lst xs) => xs.length | _ => 0) eS9
        dsimp only at this
        rw [len3, ni_len] at this
        omega
      -- odd items
      dsimp only
      refine ⟨_, _, rfl, rfl, line2.2.2.1, fun e1 f1 => ⟨line2.2.2.1, fun e2 f2 => fun e3 f3 => ⟨_, _, rfl, rfl, ⟨by decide, by decide⟩, Nat.le_trans (show 10 ≤ 1000 by decide) (by decide), fun O nO => ?_⟩⟩⟩
      have h1 := of_upd (o := .lst [V.int 1]) f1
      have h2 := of_upd (o := .tup [V.int 1]) f2
      have h3 := of_upd (o := .dK []) f3
      have h4 := of_upd (o := .lst [V.int 0, .int (0 - 1), .non, .bl true, .bl false, .str "1", .ref e1, .ref e2, .ref e3, .int (10 ^ Int.toNat 20)]) nO
      have ne1 : e1 ≠ V3 := fun z => by
        rw [z, eV3] at f1
        cases f1
      have ne2 : e2 ≠ V3 := fun z => by
        rw [z, h1 _ _ eV3] at f2
        cases f2
      have ne3 : e3 ≠ V3 := fun z => by
        rw [z, h2 _ _ (h1 _ _ eV3)] at f3
        cases f3
      have h14 := h1.trans (h2.trans (h3.trans h4))
      have osI : ∀ x ∈ ([V.int 0, .int (0 - 1), .non, .bl true, .bl false, .str "1", .ref e1, .ref e2, .ref e3, .int (10 ^ Int.toNat 20)] : List V), ∃ m, Ie (del (upd (upd (upd (upd G9 e1 (.lst [V.int 1])) e2 (.tup [V.int 1])) e3 (.dK [])) O (.lst [V.int 0, .int (0 - 1), .non, .bl true, .bl false, .str "1", .ref e1, .ref e2, .ref e3, .int (10 ^ Int.toNat 20)])) V3) m x := fun x hx => by
        simp only [List.mem_cons, List.mem_nil_iff, or_false] at hx
        rcases hx with rfl | rfl | rfl | rfl | rfl | rfl | rfl | rfl | rfl | rfl
        · exact ⟨true, .int (by decide)⟩
        · exact ⟨true, .int (by decide)⟩
        · exact ⟨true, .non⟩
        · exact ⟨true, .bl _⟩
        · exact ⟨true, .bl _⟩
        · exact ⟨true, .str⟩
        · exact ⟨true, .lst (by rw [del_ne ne1]; exact h4 _ _ (h3 _ _ (h2 _ _ upd_same)))⟩
        · exact ⟨true, .tup (by rw [del_ne ne2]; exact h4 _ _ (h3 _ _ upd_same))⟩
        · exact ⟨false, .dic (by rw [del_ne ne3]; exact h4 _ _ upd_same)⟩
        · exact ⟨true, .int (by decide +kernel)⟩
      have eO : (upd (upd (upd (upd G9 e1 (.lst [V.int 1])) e2 (.tup [V.int 1])) e3 (.dK [])) O (.lst [V.int 0, .int (0 - 1), .non, .bl true, .bl false, .str "1", .ref e1, .ref e2, .ref e3, .int (10 ^ Int.toNat 20)])) O = some (.lst [V.int 0, .int (0 - 1), .non, .bl true, .bl false, .str "1", .ref e1, .ref e2, .ref e3, .int (10 ^ Int.toNat 20)]) := upd_same
      have neO : O ≠ V3 := fun z => by
        rw [z, h3 _ _ (h2 _ _ (h1 _ _ eV3))] at nO
        cases nO
      have all4 : ∀ v ∈ l3, Vl (del (upd (upd (upd (upd G9 e1 (.lst [V.int 1])) e2 (.tup [V.int 1])) e3 (.dK [])) O (.lst [V.int 0, .int (0 - 1), .non, .bl true, .bl false, .str "1", .ref e1, .ref e2, .ref e3, .int (10 ^ Int.toNat 20)])) V3) v := fun v hv => (all3 v hv).mono (del_same fun a o _ e => h14 a o e)
      have eV4 := h14 _ _ eV3
      have eS10 := h14 _ _ eS9
      have s10 := s9.trans h14
      have at10 := sameAt h14 at9
      refine ⟨O, rfl, ⟨_, SqL.of eO⟩, ?_⟩
      refine for_it walk_list (fun j σ G => Same H G ∧ S.At G p ∧ G D1 = some (.lst (ni row)) ∧ G O = some (.lst [V.int 0, .int (0 - 1), .non, .bl true, .bl false, .str "1", .ref e1, .ref e2, .ref e3, .int (10 ^ Int.toNat 20)]) ∧ (∀ x ∈ ([V.int 0, .int (0 - 1), .non, .bl true, .bl false, .str "1", .ref e1, .ref e2, .ref e3, .int (10 ^ Int.toNat 20)] : List V), ∃ m, Ie (del G V3) m x) ∧ (∃ q6, σ = [some (.ref a), some (.int (0 + (i : Int))), some (.ref p), some (.ref D1), some (.int (at0 : Int)), some (.ref V3), q6, q7, q8, q9, q10, q11, q12, q13, none]) ∧ ∃ ls, G V3 = some (.lst ls) ∧ ls.length = 19 + j ∧ ∀ v ∈ ls, Vl (del G V3) v)
        ⟨s10, at10, eS10, eO, osI, ⟨_, rfl⟩, l3, eV4, len3, all4⟩ (fun j σ G _ z => SqL.of z.2.2.2.1) ?_ ?_
      · clear s10 at10 eS10 eO osI eV4 all4 h14 h1 h2 h3 h4 s9 at9 eS9 eV3 all3 nO f1 f2 f3 ne1 ne2 ne3
        rintro j x σ G0 G hj ⟨sA, atA, eD, eO, osI, ⟨q6, rfl⟩, ls, eV, lL, aL⟩ ⟨rfl, hx⟩
        obtain ⟨m, ix⟩ := osI x (List.mem_of_getElem? hx)
        dsimp only
        refine ⟨_, rfl, .inl ⟨rfl, _, SqL.of eV⟩, _, rfl, ?_⟩
        dsimp only [tNoPart]
        refine ⟨_, rfl, _, rfl, D1, ni row, rfl, SqL.of eD, fun u1 n1 => ?_⟩
        have g1 := of_upd (o := .lst (cutV (ni row) none (some (at0 : Int)))) n1
        refine ⟨_, rfl, line2.2.2.1, fun u2 n2 => ?_⟩
        have g2 := of_upd (o := .lst [x]) n2
        rw [cut_hi] at g1 g2 n2 ⊢
        refine ⟨u1, u2, _, _, rfl, rfl, g2 _ _ upd_same, upd_same, ?_, fun u3 n3 => ?_⟩
        · rw [List.length_take, ni_len]
          exact Nat.le_trans (show _ ≤ 100 by show _ + 1 ≤ 100; omega) (by decide)
        have g3 := of_upd (o := .lst ((ni row).take at0 ++ [x])) n3
        have g13 := g1.trans (g2.trans g3)
        refine ⟨_, rfl, _, rfl, _, _, rfl, rfl, _, rfl, ?_⟩
        dsimp only [tNoPart]
        rw [show (at0 : Int) + 1 = ((at0 + 1 : Nat) : Int) from rfl]
        refine ⟨D1, ni row, rfl, SqL.of (g13 _ _ eD), fun u4 n4 => ?_⟩
        have g4 := of_upd (o := .lst (cutV (ni row) (some ((at0 + 1 : Nat) : Int)) none)) n4
        rw [cut_from] at g4 ⊢
        refine ⟨u3, u4, _, _, rfl, rfl, g4 _ _ upd_same, upd_same, ?_, fun u5 n5 ns5 => ?_⟩
        · rw [List.length_append, List.length_take, List.length_drop, ni_len]
          exact Nat.le_trans (show _ ≤ 100 by show _ + 1 + _ ≤ 100; omega) (by decide)
        have g5 := of_upd (o := .lst ((ni row).take at0 ++ [x] ++ (ni row).drop (at0 + 1))) n5
        have g15 := g13.trans (g4.trans g5)
        have e5 : (upd (upd (upd (upd (upd G u1 (.lst ((ni row).take at0))) u2 (.lst [x])) u3 (.lst ((ni row).take at0 ++ [x]))) u4 (.lst ((ni row).drop (at0 + 1)))) u5 (.lst ((ni row).take at0 ++ [x] ++ (ni row).drop (at0 + 1)))) u5 = some (.lst ((ni row).take at0 ++ [x] ++ (ni row).drop (at0 + 1))) := upd_same
        have ne5 : u5 ≠ V3 := fun z => by
          rw [z, (g13.trans g4) _ _ eV] at n5
          cases n5
        have hj2 : j < 10 := (List.getElem?_eq_some_iff.mp hx).1
        refine ⟨V3, ls, _, rfl, rfl, g15 _ _ eV, small1000 (by omega), ?_⟩
        have nOV := neO
        generalize upd (upd (upd (upd (upd G u1 (.lst ((ni row).take at0))) u2 (.lst [x])) u3 (.lst ((ni row).take at0 ++ [x]))) u4 (.lst ((ni row).drop (at0 + 1)))) u5 (.lst ((ni row).take at0 ++ [x] ++ (ni row).drop (at0 + 1))) = Gn at g15 e5 ⊢
        have sV : ∀ a o, a ≠ V3 → G a = some o → (upd Gn V3 (.lst (ls ++ [.ref u5]))) a = some o := fun a o n e => by
          rw [upd_ne n]
          exact g15 _ _ e
        have dV := del_same sV
        have neP : V3 ≠ p := fun z => by
          rw [z] at nV3H
          obtain ⟨r, m2, e, _⟩ := atA
          rw [z, e] at eV
          cases eV
          have := lL
          change 2 = 19 + j at this
          omega
        refine ⟨add_upd nV3H (sA.trans g15), ?_, sV _ _ neD eD, sV _ _ neO eO, fun y hy => ?_, ⟨_, rfl⟩, ls ++ [.ref u5], upd_same, by rw [List.length_append, lL]; rfl, fun v hv => ?_⟩
        · obtain ⟨r, m2, e, f⟩ := atA
          exact ⟨r, m2, sV _ _ neP.symm e, f⟩
        · obtain ⟨m2, iy⟩ := osI y hy
          exact ⟨m2, iy.mono dV⟩
        · rcases List.mem_append.mp hv with q | q
          · exact (aL v q).mono dV
          · rw [List.mem_singleton.mp q]
            refine .row (m := m) (xs := (ni row).take at0 ++ [x] ++ (ni row).drop (at0 + 1)) ?_ ?_ (fun y hy => ?_) (fun _ => ns5)
            · rw [del_ne ne5, upd_ne ne5]
              exact e5
            · rw [List.length_append, List.length_append, List.length_take, List.length_drop, ni_len]
              show _ + 1 + _ ≤ 110
              omega
            · rcases List.mem_append.mp hy with q | q
              · rcases List.mem_append.mp q with q | q
                · exact ie_ni hR y (List.mem_of_mem_take q)
                · rw [List.mem_singleton.mp q]
                  exact ix.mono dV
              · exact ie_ni hR y (List.mem_of_mem_drop q)
      rintro σ G ⟨sA, atA, _, _, _, ⟨q6, rfl⟩, ls, eV, lL, aL0⟩
      have aL : ∀ v ∈ ls, Vl G v := fun v hv => (aL0 v hv).mono del_le
      have lL2 : ls.length ≤ 100 := by
        rw [lL]
        show 19 + 10 ≤ 100
        decide
      clear aL0 s10 at10 eS10 eO osI eV4 all4 h14 h1 h2 h3 h4 s9 at9 eS9 eV3 all3 nO f1 f2 f3 ne1 ne2 ne3
      dsimp only
      refine ⟨_, rfl, V3, rfl, ⟨_, SqL.of eV⟩, ?_⟩
      refine for_it walk_list (fun j σ G' => Same G G' ∧ ∃ q7 q8 q9 q10 q11, σ = [some (.ref a), some (.int (0 + (i : Int))), some (.ref p), some (.ref D1), some (.int (at0 : Int)), some (.ref V3), q6, q7, q8, q9, q10, q11, q12, q13, none])
        ⟨Same.refl _, _, _, _, _, _, rfl⟩ (fun j σ G' _ z => SqL.of (z.1 _ _ eV)) ?_ ?_
      · rintro j v σ G0 Gc hj ⟨sB, q7, q8, q9, q10, q11, rfl⟩ ⟨rfl, hv⟩
        have vl := (aL v (List.mem_of_getElem? hv)).mono sB
        obtain ⟨t0, ht0⟩ := vl.text (K := K)
        dsimp only
        refine set_then (i := 8) ⟨_, rfl, v, t0, rfl, ht0, ?_⟩
        refine ⟨line2.1, fun tk htk => ?_⟩
        have gt := of_upd (o := .tup [V.int 0, .int 1]) htk
        have etk : upd Gc tk (.tup [V.int 0, V.int 1]) tk = some (.tup [V.int 0, V.int 1]) := upd_same
        have sC := sB.trans gt
        have vlC := vl.mono gt
        have htC := Tx.mono gt ht0
        refine ⟨tk, rfl, ⟨_, SqT.of etk⟩, ?_⟩
        refine for_it walk_tup (fun i2 σ G' => Same (upd Gc tk (.tup [V.int 0, V.int 1])) G' ∧ ∃ q9 q10 q11, σ = [some (.ref a), some (.int (0 + (i : Int))), some (.ref p), some (.ref D1), some (.int (at0 : Int)), some (.ref V3), q6, some v, some (.str t0), q9, q10, q11, q12, q13, none])
          ⟨Same.refl _, _, _, _, rfl⟩ (fun i2 σ G' _ z => SqT.of (z.1 _ _ etk)) ?_ ?_
        · rintro i2 u σ G6 Gd hi2 ⟨sD, q9, q10, q11, rfl⟩ ⟨rfl, hu⟩
          obtain ⟨iw, rfl⟩ : ∃ iw, u = .int iw := by
            have := List.mem_of_getElem? hu
            simp only [List.mem_cons, List.mem_nil_iff, or_false] at this
            rcases this with e | e
            · exact ⟨_, e⟩
            · exact ⟨_, e⟩
          have vlD := vlC.mono sD
          have htD := Tx.mono sD htC
          dsimp only
          rcases vl_caught (K := K) vlD with ⟨D, rw2, rfl, hD, hs⟩ | bd
          · refine ⟨_, rfl, _, rfl, _, iw, rfl, .inl ⟨D, rw2, rfl, hD, hs, fun p1 Ga sa n1 e1 => ⟨_, rfl, _, rfl, .inl ⟨D, _, rfl, sa _ _ hD, (by rw [ni_len]; have := hs.len; omega), it_ni, fun Gb sb => ?_⟩⟩⟩⟩
            rw [right_ni hs]
            refine ⟨_, rfl, iteT ⟨line2.2.2.2, fun p2 n2 => ⟨_, _, rfl, ?_⟩⟩⟩
            have g2 := of_upd (o := .lst []) n2
            refine ⟨_, rfl, _, rfl, _, _, _, rfl, tx_nil ((sb.trans g2) _ _ e1), tx_nil upd_same, _, rfl, iteF ?_⟩
            have sE := sa.trans (sb.trans g2)
            exact ⟨_, rfl, _, t0, rfl, Tx.mono sE htD, _, rfl, rfl, _, rfl, iteNS rfl ⟨sD.trans sE, _, _, _, rfl⟩⟩
          · have isr : ∀ (Q2 : VK) (E2 : XK) (Ga : Hp), Same Gd Ga → (∀ Gb, Same Ga Gb → Q2 (.bl false) Gb) → spIsRight K [v] Ga Q2 E2 := fun Q2 E2 Ga sa kk => by
              rcases vlD.cls (K := K) with ⟨a2, xs, rfl, h1, h2, h3⟩ | ⟨t, ty, e⟩
              · rcases bad_not h1 bd with r | ⟨t, ty, e⟩
                · refine ⟨_, rfl, .inl ⟨a2, xs, rfl, sa _ _ h1, h2, fun x hx => (h3 x hx).mono sa, fun Gb sb => ?_⟩⟩
                  rw [r]
                  exact kk Gb sb
                · exact ⟨_, rfl, .inr ⟨⟨t, tyX_mono sa ty, e⟩, kk Ga (Same.refl _)⟩⟩
              · exact ⟨_, rfl, .inr ⟨⟨t, tyX_mono sa ty, e⟩, kk Ga (Same.refl _)⟩⟩
            refine ⟨_, rfl, _, rfl, v, iw, rfl, .inr ⟨bd, fun p1 Ga sa n1 e1 => ⟨_, rfl, ?_⟩⟩⟩
            dsimp only [tNil, List.cons_append, List.nil_append]
            refine isr _ _ Ga sa fun Gb sb => ⟨_, rfl, iteF ⟨_, rfl, line2.2.2.1, fun p2 n2 => ⟨_, _, rfl, ?_⟩⟩⟩
            have g2 := of_upd (o := .lst [v]) n2
            have sE := sa.trans (sb.trans g2)
            obtain ⟨t, ht⟩ := (vlD.mono sE).one (K := K)
            refine ⟨_, rfl, _, rfl, _, _, t, rfl, ht p1 ((sb.trans g2) _ _ e1), ht p2 upd_same, _, rfl, iteF ?_⟩
            exact ⟨_, rfl, v, t0, rfl, Tx.mono sE htD, _, rfl, rfl, _, rfl, iteNS rfl ⟨sD.trans sE, _, _, _, rfl⟩⟩
        · rintro σ G' ⟨sD, q9, q10, q11, rfl⟩
          exact ⟨sC.trans sD, _, _, _, _, _, rfl⟩
      rintro σ G5 ⟨sB, q7, q8, q9, q10, q11, rfl⟩
      have sF := sA.trans sB
      have atF := sameAt sB atA
      clear aL eV lL lL2 sA atA sB
      have z0 : ∀ {y0 : V} {ys : List V}, atI (y0 :: ys) (0 : Int) = some y0 := fun {y0 ys} => by exact atI_nat (xs := y0 :: ys) (j := 0) rfl
      -- things
      dsimp only
      refine ⟨line2.2.2.1, fun e1 f1 => fun c1 d1 hc1 hd1 ne1 => made_ch (cs := [1]) hc1 hd1 ne1 (.inl upd_same) cuts_one fun Ga sa ch1 => ⟨rfl, ?_⟩⟩
      have s1 := (of_upd (o := .lst [V.int 1]) f1).trans sa
      refine ⟨line2.2.2.1, fun e2 f2 => fun c2 d2 hc2 hd2 ne2 => made_ch (cs := [1]) hc2 hd2 ne2 (.inl upd_same) cuts_one fun Gb sb ch2 => ⟨rfl, line2.2.2.1, fun L2 nL2 => ?_⟩⟩
      have s2 := (of_upd (o := .lst [V.int 1]) f2).trans sb
      have h2 := of_upd (o := .lst [V.ref c2]) nL2
      have eL2 : upd Gb L2 (.lst [V.ref c2]) L2 = some (.lst [V.ref c2]) := upd_same
      have ch1b := ch1.mono (s2.trans h2)
      have ch2b := ch2.mono h2
      have s12 := s1.trans (s2.trans h2)
      generalize upd Gb L2 (.lst [V.ref c2]) = Gc at eL2 ch1b ch2b s12 ⊢
      refine ⟨line2.2.2.2, fun e3 f3 => fun c3 d3 hc3 hd3 ne3 => made_ch (cs := []) hc3 hd3 ne3 (.inl upd_same) cuts_none fun Gd sd ch3 => ⟨rfl, line2.1, fun L3 nL3 => ⟨line2.2.1, fun L4 nL4 => ?_⟩⟩⟩
      have s3 := (of_upd (o := .lst []) f3).trans sd
      have h3 := of_upd (o := .lst [V.int 1, .ref c3]) nL3
      have h4 := of_upd (o := .lst [V.ref c1, .ref L2, .ref L3]) nL4
      have s34 := s3.trans (h3.trans h4)
      have eL3 : (upd (upd Gd L3 (.lst [V.int 1, .ref c3])) L4 (.lst [V.ref c1, .ref L2, .ref L3])) L3 = some (.lst [V.int 1, .ref c3]) := h4 _ _ upd_same
      have eL4 : (upd (upd Gd L3 (.lst [V.int 1, .ref c3])) L4 (.lst [V.ref c1, .ref L2, .ref L3])) L4 = some (.lst [V.ref c1, .ref L2, .ref L3]) := upd_same
      have ch1d := ch1b.mono s34
      have ch2d := ch2b.mono s34
      have ch3d := ch3.mono (h3.trans h4)
      have eL2d := s34 _ _ eL2
      have s14 := s12.trans s34
      generalize upd (upd Gd L3 (.lst [V.int 1, .ref c3])) L4 (.lst [V.ref c1, .ref L2, .ref L3]) = Ge at eL3 eL4 ch1d ch2d ch3d eL2d s14 ⊢
      have sG := sF.trans s14
      have atG := sameAt s14 atF
      clear s1 s2 h2 s12 s3 h3 h4 s34 ch1 ch2 ch3 ch1b ch2b eL2 sa sb sd sF atF s14
      refine ⟨L4, rfl, ⟨_, SqL.of eL4⟩, ?_⟩
      refine for_it walk_list (fun j σ G' => Same Ge G' ∧ ∃ q9 q10 q12, σ = [some (.ref a), some (.int (0 + (i : Int))), some (.ref p), some (.ref D1), some (.int (at0 : Int)), some (.ref V3), q6, q7, q8, q9, q10, q11, q12, q13, none])
        ⟨Same.refl _, _, _, _, rfl⟩ (fun j σ G' _ z => SqL.of (z.1 _ _ eL4)) ?_ ?_
      · rintro j v σ G0 Gf hj ⟨sH, q9, q10, q12, rfl⟩ ⟨rfl, hv⟩
        obtain ⟨y, rfl, bd, eqy⟩ : ∃ y, v = .ref y ∧ Bad K Gf (.ref y) ∧ ∀ (Gz : Hp) (Qz : VK), Same Gf Gz → (∀ G', Same Gz G' → Qz (.bl true) G') → (WO.rEqO C (spCEq C) E0 (.ref y) (.ref y) Gz Qz ∨ rEqG (DList (DIc C)) (.ref y) (.ref y) Gz Qz) := by
          have := List.mem_of_getElem? hv
          simp only [List.mem_cons, List.mem_nil_iff, or_false] at this
          rcases this with rfl | rfl | rfl
          · exact ⟨c1, rfl, .inr (nl_chain TC T2 T3 (ch1d.mono sH)), fun Gz Qz sz kz => .inl (eq_chain ((ch1d.mono sH).mono sz) ((ch1d.mono sH).mono sz) kz)⟩
          · refine ⟨L2, rfl, .inl ⟨L2, _, rfl, sH _ _ eL2d, fun x hx => ?_, rfl⟩, fun Gz Qz sz kz => .inr ⟨⟨L2, L2, _, _, rfl, rfl, sz _ _ (sH _ _ eL2d), sz _ _ (sH _ _ eL2d), .cons (.inr (ins_chain ((ch2d.mono sH).mono sz))) .nil⟩, kz⟩⟩
            rw [List.mem_singleton.mp hx]
            exact it_chain TC T2 T3 (ch2d.mono sH)
          · refine ⟨L3, rfl, .inl ⟨L3, _, rfl, sH _ _ eL3, fun x hx => ?_, rfl⟩, fun Gz Qz sz kz => .inr ⟨⟨L3, L3, _, _, rfl, rfl, sz _ _ (sH _ _ eL3), sz _ _ (sH _ _ eL3), .cons (.inl ⟨rfl, rfl, by simp [eqV]⟩) (.cons (.inr (ins_chain ((ch3d.mono sH).mono sz))) .nil)⟩, kz⟩⟩
            simp only [List.mem_cons, List.mem_nil_iff, or_false] at hx
            rcases hx with rfl | rfl
            · exact .inl ⟨1, rfl⟩
            · exact it_chain TC T2 T3 (ch3d.mono sH)
        dsimp only
        refine ⟨line2.1, fun tk htk => ?_⟩
        have gt := of_upd (o := .tup [V.int 0, .int 1]) htk
        have etk : upd Gf tk (.tup [V.int 0, V.int 1]) tk = some (.tup [V.int 0, V.int 1]) := upd_same
        refine ⟨tk, rfl, ⟨_, SqT.of etk⟩, ?_⟩
        refine for_it walk_tup (fun i2 σ G' => Same (upd Gf tk (.tup [V.int 0, V.int 1])) G' ∧ ∃ q9 q10, σ = [some (.ref a), some (.int (0 + (i : Int))), some (.ref p), some (.ref D1), some (.int (at0 : Int)), some (.ref V3), q6, q7, q8, q9, q10, q11, some (.ref y), q13, none])
          ⟨Same.refl _, _, _, rfl⟩ (fun i2 σ G' _ z => SqT.of (z.1 _ _ etk)) ?_ ?_
        · rintro i2 u σ G6 Gg hi2 ⟨sI, q9, q10, rfl⟩ ⟨rfl, hu⟩
          obtain ⟨iw, rfl⟩ : ∃ iw, u = .int iw := by
            have := List.mem_of_getElem? hu
            simp only [List.mem_cons, List.mem_nil_iff, or_false] at this
            rcases this with e | e
            · exact ⟨_, e⟩
            · exact ⟨_, e⟩
          have sJ := gt.trans sI
          dsimp only
          refine set_then (i := 10) ⟨_, rfl, _, rfl, .ref y, iw, rfl, .inr ⟨bd.mono sJ, fun P1 Ga sa nP1 eP1 => ?_⟩⟩
          refine ⟨_, rfl, line2.2.2.2, fun E1 nE => ?_⟩
          have ge := of_upd (o := .lst []) nE
          refine ⟨P1, E1, .ref y, [], rfl, rfl, SqL.of (ge _ _ eP1), SqL.of upd_same, _, rfl, iteF ?_⟩
          exact ⟨_, rfl, P1, _, _, _, rfl, rfl, SqL.of (ge _ _ eP1), z0, _, rfl, eqy _ _ (sJ.trans (sa.trans ge)) fun G' s' => ⟨_, rfl, iteF ⟨sI.trans ((sa.trans ge).trans s'), _, _, rfl⟩⟩⟩
        · rintro σ G' ⟨sI, q9, q10, rfl⟩
          exact ⟨sH.trans (gt.trans sI), _, _, _, rfl⟩
      rintro σ Gf ⟨sH, q9, q10, q12, rfl⟩
      have sK := sG.trans sH
      have atK := sameAt sH atG
      clear sG atG sH eL3 eL4 ch1d ch2d ch3d eL2d
      -- a list that changes
      dsimp only
      refine set_then (i := 12) ?_
      show tCall S.spDraw [] E0 (tCons (tVar 2) (tCons (tC (.int 9)) tNil)) _ _ _
      refine draw_vv rfl atK (by decide) (by decide +kernel) fun j G8 j0 j1 b8 => ⟨line2.1, fun T nT => ?_⟩
      have s12 := sameBt sK hp0 b8
      have gT := of_upd (o := .lst [V.int 0, .int j]) nT
      have eT : upd G8 T (.lst [V.int 0, .int j]) T = some (.lst [V.int 0, .int j]) := upd_same
      have s13 := s12.trans gT
      have nTH := s12.free nT
      generalize upd G8 T (.lst [V.int 0, .int j]) = Gg at eT s13 ⊢
      clear sK atK b8 s12 gT nT
      refine set_then (i := 13) ⟨_, rfl, .ref T, 0, rfl, .inr ⟨.inl ⟨T, _, rfl, eT, fun x hx => ?_, rfl⟩, fun P1 Ga sa nP1 eP1 => ?_⟩⟩
      · simp only [List.mem_cons, List.mem_nil_iff, or_false] at hx
        rcases hx with rfl | rfl
        · exact .inl ⟨_, rfl⟩
        · exact .inl ⟨_, rfl⟩
      have eTa := sa _ _ eT
      have nePT : P1 ≠ T := fun z => by
        rw [z, eT] at nP1
        cases nP1
      refine ⟨_, rfl, .inl ⟨rfl, _, SqL.of eTa⟩, T, [V.int 0, .int j], _, rfl, rfl, eTa, (by show 2 < sizeLine; decide), ?_⟩
      have s14 := add_upd (o := .lst [V.int 0, .int j, .int 1]) nTH (s13.trans sa)
      have eP2 : upd Ga T (.lst [V.int 0, .int j, .int 1]) P1 = some (.lst [V.ref T]) := by
        rw [upd_ne nePT]
        exact eP1
      have eT2 : upd Ga T (.lst [V.int 0, .int j, .int 1]) T = some (.lst [V.int 0, .int j, .int 1]) := upd_same
      dsimp only [List.cons_append, List.nil_append]
      generalize upd Ga T (.lst [V.int 0, .int j, .int 1]) = Gb at s14 eP2 eT2 ⊢
      refine ⟨_, rfl, _, rfl, line2.2.2.1, fun P2 nP2 => ?_⟩
      have gp := of_upd (o := .lst [V.ref T]) nP2
      have vT : Vl (upd Gb P2 (.lst [V.ref T])) (.ref T) := ints_row (gp _ _ eT2) (by show 3 ≤ 110; decide) (fun x hx => by
        simp only [List.mem_cons, List.mem_nil_iff, or_false] at hx
        rcases hx with rfl | rfl | rfl
        · exact .int (by decide)
        · exact .int (Nat.lt_of_lt_of_le (by omega : j.natAbs < 9) (by decide))
        · exact .int (by decide))
      obtain ⟨t, ht⟩ := vT.one (K := K)
      exact ⟨_, _, t, rfl, ht P1 (gp _ _ eP2), ht P2 upd_same, _, rfl, iteF ⟨s14.trans gp, _, _, _, _, _, _, _, _, _, _, _, _, _, rfl⟩⟩
    · rintro σ G ⟨s0, q1, q2, q3, q4, q5, q6, q7, q8, q9, q10, q11, q12, q13, rfl⟩
      exact k G
end
end CP

end
section
set_option autoImplicit false
set_option Elab.async false
set_option linter.all false
set_option maxRecDepth 100000
set_option maxHeartbeats 4000000
/-! ## what the top leaves -/
namespace CP
open PySem L2 G Y
abbrev sBadI : Stmt := inClass (S.top 8) 0
theorem scBadI : FnScope ["self", "value"] ["self", "value"] (defScope sBadI) := ⟨rfl, rfl, rfl, by decide +kernel, rfl, by decide +kernel, by decide +kernel⟩
/-- the class BadStretches -/
structure Eb (K : PySem.W.Frag) (mg : Str → Option Value) (C f : Addr) (fd : FuncData) : Prop where
  g : mg "BadStretches" = some (.ref C)
  L : G.Cl K C "value"
  ex : PySem.W.exmOne K (.ref C) (.ref C) = some true
  iC : PySem.W.findIn K (.ref C) "__init__" = some (some (.ref f))
  tI : PySem.W.typeIn K (.ref f) = some (.type "function")
  F : Fun K "__init__" "BadStretches.__init__" sBadI f fd
theorem Eb.mk' {P : Program} {w : World} {K : PySem.W.Frag} {mg : Str → Option Value} {base : Heap} {C f : Addr} {fd : FuncData} (E : Eb K mg C f fd) : G.Mk P w K mg base C "value" := by
  refine ⟨E.L, f, fd, ["self", "value"], E.iC, E.tI, ?_, rfl, ?_, ?_⟩
  · refine E.F.ok scBadI (fun vs H Q E2 h => ?_) (fun cdv A outer s H vs Q E2 hr h => ?_)
    · obtain ⟨a, v, rfl, _⟩ := h
      rfl
    · obtain ⟨a, v, rfl, ha, k⟩ := h
      exact ⟨_, pss_one (ps_ost (pv 0) (pv 1)), _, rfl, _, rfl, a, C, rfl, E.L.T, E.L.no, .inl ⟨ha, fun dx h1 h2 => k dx h1 h2⟩⟩
  · obtain ⟨_, _, _, _, _, _, _, _, _, rfl, _, _⟩ := E.F.ex
    exact fun s u v => .of_eq rfl
  · obtain ⟨_, _, _, _, _, _, _, _, _, rfl, _, _⟩ := E.F.ex
    exact fun s u v => .of_eq rfl
section
variable {K : PySem.W.Frag} {mg : Str → Option Value} {h : Heap} {f : Addr} {fd : FuncData}
theorem fd_I (X : K.In h) (Gn : h.Ns mainGlobals mg) (a : PySem.W.nsIn K mainGlobals "is_integer" = some (some (.ref f))) (F : Fun K "is_integer" "is_integer" sInteger f fd) : Fd K mg "is_integer" sInteger ["value"] :=
  ⟨f, fd, F, PySem.W.mg_of X Gn a, F.kp, F.binds fun _ _ _ _ _ _ us hl => match us, hl with | [_], _ => rfl⟩
theorem fd_W (X : K.In h) (Gn : h.Ns mainGlobals mg) (a : PySem.W.nsIn K mainGlobals "is_within" = some (some (.ref f))) (F : Fun K "is_within" "is_within" sWithin f fd) : Fd K mg "is_within" sWithin ["value", "least", "greatest"] :=
  ⟨f, fd, F, PySem.W.mg_of X Gn a, F.kp, F.binds fun _ _ _ _ _ _ us hl => match us, hl with | [_, _, _], _ => rfl⟩
theorem fd_ar (X : K.In h) (Gn : h.Ns mainGlobals mg) (a : PySem.W.nsIn K mainGlobals "_are_cuts" = some (some (.ref f))) (F : Fun K "_are_cuts" "_are_cuts" sAreCuts f fd) : Fd K mg "_are_cuts" sAreCuts ["value"] :=
  ⟨f, fd, F, PySem.W.mg_of X Gn a, F.kp, F.binds fun _ _ _ _ _ _ us hl => match us, hl with | [_], _ => rfl⟩
theorem fd_co (X : K.In h) (Gn : h.Ns mainGlobals mg) (a : PySem.W.nsIn K mainGlobals "_piece_counts" = some (some (.ref f))) (F : Fun K "_piece_counts" "_piece_counts" sCounts f fd) : Fd K mg "_piece_counts" sCounts ["cuts"] :=
  ⟨f, fd, F, PySem.W.mg_of X Gn a, F.kp, F.binds fun _ _ _ _ _ _ us hl => match us, hl with | [_], _ => rfl⟩
theorem fd_pi (X : K.In h) (Gn : h.Ns mainGlobals mg) (a : PySem.W.nsIn K mainGlobals "_pieces" = some (some (.ref f))) (F : Fun K "_pieces" "_pieces" sPieces f fd) : Fd K mg "_pieces" sPieces ["body", "cuts", "counts"] :=
  ⟨f, fd, F, PySem.W.mg_of X Gn a, F.kp, F.binds fun _ _ _ _ _ _ us hl => match us, hl with | [_, _, _], _ => rfl⟩
theorem fd_mk (X : K.In h) (Gn : h.Ns mainGlobals mg) (a : PySem.W.nsIn K mainGlobals "_marks" = some (some (.ref f))) (F : Fun K "_marks" "_marks" sShMarks f fd) : Fd K mg "_marks" sShMarks ["stretches"] :=
  ⟨f, fd, F, PySem.W.mg_of X Gn a, F.kp, F.binds fun _ _ _ _ _ _ us hl => match us, hl with | [_], _ => rfl⟩
theorem fd_as (X : K.In h) (Gn : h.Ns mainGlobals mg) (a : PySem.W.nsIn K mainGlobals "_are_stretches" = some (some (.ref f))) (F : Fun K "_are_stretches" "_are_stretches" sAreStr f fd) : Fd K mg "_are_stretches" sAreStr ["value"] :=
  ⟨f, fd, F, PySem.W.mg_of X Gn a, F.kp, F.binds fun _ _ _ _ _ _ us hl => match us, hl with | [_], _ => rfl⟩
theorem fd_lp (X : K.In h) (Gn : h.Ns mainGlobals mg) (a : PySem.W.nsIn K mainGlobals "least_periods" = some (some (.ref f))) (F : Fun K "least_periods" "least_periods" sLeastP f fd) : Fd K mg "least_periods" sLeastP ["marks"] :=
  ⟨f, fd, F, PySem.W.mg_of X Gn a, F.kp, F.binds fun _ _ _ _ _ _ us hl => match us, hl with | [_], _ => rfl⟩
theorem fd_bo (X : K.In h) (Gn : h.Ns mainGlobals mg) (a : PySem.W.nsIn K mainGlobals "borders" = some (some (.ref f))) (F : Fun K "borders" "borders" sBorders f fd) : Fd K mg "borders" sBorders ["marks"] :=
  ⟨f, fd, F, PySem.W.mg_of X Gn a, F.kp, F.binds fun _ _ _ _ _ _ us hl => match us, hl with | [_], _ => rfl⟩
theorem fd_ls (X : K.In h) (Gn : h.Ns mainGlobals mg) (a : PySem.W.nsIn K mainGlobals "_law_stream" = some (some (.ref f))) (F : Fun K "_law_stream" "_law_stream" S.sSource f fd) : Fd K mg "_law_stream" S.sSource ["script", "start"] :=
  ⟨f, fd, F, PySem.W.mg_of X Gn a, F.kp, F.binds fun _ _ _ _ _ _ us hl => match us, hl with | [_, _], _ => rfl⟩
theorem fd_ld (X : K.In h) (Gn : h.Ns mainGlobals mg) (a : PySem.W.nsIn K mainGlobals "_law_draw" = some (some (.ref f))) (F : Fun K "_law_draw" "_law_draw" S.sDraw f fd) : Fd K mg "_law_draw" S.sDraw ["stream", "size"] :=
  ⟨f, fd, F, PySem.W.mg_of X Gn a, F.kp, F.binds fun _ _ _ _ _ _ us hl => match us, hl with | [_, _], _ => rfl⟩
theorem fd_sm (X : K.In h) (Gn : h.Ns mainGlobals mg) (a : PySem.W.nsIn K mainGlobals "_law_same" = some (some (.ref f))) (F : Fun K "_law_same" "_law_same" S.sSame f fd) : Fd K mg "_law_same" S.sSame ["one", "two"] :=
  ⟨f, fd, F, PySem.W.mg_of X Gn a, F.kp, F.binds fun _ _ _ _ _ _ us hl => match us, hl with | [_, _], _ => rfl⟩
theorem fd_ct (X : K.In h) (Gn : h.Ns mainGlobals mg) (a : PySem.W.nsIn K mainGlobals "_law_caught" = some (some (.ref f))) (F : Fun K "_law_caught" "_law_caught" sCaught f fd) : Fd K mg "_law_caught" sCaught ["value", "way"] :=
  ⟨f, fd, F, PySem.W.mg_of X Gn a, F.kp, F.binds fun _ _ _ _ _ _ us hl => match us, hl with | [_, _], _ => rfl⟩
theorem fd_ri (X : K.In h) (Gn : h.Ns mainGlobals mg) (a : PySem.W.nsIn K mainGlobals "_law_is_right" = some (some (.ref f))) (F : Fun K "_law_is_right" "_law_is_right" sIsRight f fd) : Fd K mg "_law_is_right" sIsRight ["value"] :=
  ⟨f, fd, F, PySem.W.mg_of X Gn a, F.kp, F.binds fun _ _ _ _ _ _ us hl => match us, hl with | [_], _ => rfl⟩
theorem fd_fc (X : K.In h) (Gn : h.Ns mainGlobals mg) (a : PySem.W.nsIn K mainGlobals "first_cuts" = some (some (.ref f))) (F : Fun K "first_cuts" "first_cuts" sFirstCuts f fd) : Fd K mg "first_cuts" sFirstCuts ["stretches"] :=
  ⟨f, fd, F, PySem.W.mg_of X Gn a, F.kp, F.binds fun _ _ _ _ _ _ us hl => match us, hl with | [_], _ => rfl⟩
theorem fd_sh (X : K.In h) (Gn : h.Ns mainGlobals mg) (a : PySem.W.nsIn K mainGlobals "shown" = some (some (.ref f))) (F : Fun K "shown" "shown" sShown f fd) : Fd K mg "shown" sShown ["stretches"] :=
  ⟨f, fd, F, PySem.W.mg_of X Gn a, F.kp, F.binds fun _ _ _ _ _ _ us hl => match us, hl with | [_], _ => rfl⟩
theorem kit_no {C : Addr} {x : String} (m : PySem.W.kitMeta x = true) (e : PySem.W.subIn K (.ref C) (.type x) = some false) : PySem.W.kitOne K (.ref C) (.type x) = some false := by
  unfold PySem.W.kitOne
  rw [if_neg (by simp)]
  show (if PySem.W.kitMeta x = true then PySem.W.subIn K (.ref C) (.type x) else none) = some false
  rw [if_pos m]
  exact e
/-- the class BadStretches behind the top -/
theorem err_mk {q : Str} {R C N : Addr} {bs : List Value} {sn : List Str} {sub : List Value} {ab : Bool} {col : Option Bool} {dd : Option Addr} {k0 k1 k2 k3 k5 : Option Value} (X : K.In h) (Gn : h.Ns mainGlobals mg)
    (aC : PySem.W.nsIn K mainGlobals "BadStretches" = some (some (.ref C))) (lk : K.lookup C = some (excClassObj "BadStretches" q C N bs [.ref R, .type "ValueError", .type "Exception", .type "BaseException", .type "object"] true sn sub ab col dd k0 k1 k2 k3 k5 "ValueError.__new__"))
    (sa : PySem.W.findIn K (.ref C) "__setattr__" = some (some (.builtin "object.__setattr__"))) (eC : PySem.W.subIn K (.ref C) (.type "BaseException") = some true) (tC : PySem.W.typeIn K (.ref C) = some (.type "type")) (kC : PySem.W.keepIn K (.ref C) = true)
    (hg : PySem.W.findIn K (.ref C) "__getattribute__" = some (some (.builtin "BaseException.__getattribute__"))) (hk : PySem.W.findIn K (.ref C) "__getattr__" = some none) (hd : PySem.W.hasDictIn K C = true) (ha : PySem.W.findIn K (.ref C) "__class__" = some (some (.builtin "object.__class__")))
    (hn : PySem.W.specialIn K (.builtin "object.__class__") "__get__" = some (some (.builtin "getset_descriptor.__get__"))) (ht : PySem.W.takesIn K (.builtin "object.__class__") = some true) (hm : PySem.W.mroIn K C (.type "object") = some true) (no : PySem.W.findIn K (.ref C) "value" = some none)
    (iC : PySem.W.isClsIn K C = true) (sC : PySem.W.subIn K (.ref C) (.ref C) = some true) (ini : PySem.W.findIn K (.ref C) "__init__" = some (some (.ref f))) (tI : PySem.W.typeIn K (.ref f) = some (.type "function")) (F : Fun K "__init__" "BadStretches.__init__" sBadI f fd) : Eb K mg C f fd :=
  ⟨PySem.W.mg_of X Gn aC, ⟨⟨⟨_, _, _, _, _, _, _, _, _, _, _, _, _, _, _, lk, (show PySem.HandSPX.refsVE [.type "ValueError", .type "Exception", .type "BaseException", .type "object"] = true by decide +kernel)⟩, sa, eC, tC, kC⟩, ⟨hg, hk, eC, hd, ha, hn, ht, hm⟩, no⟩, G.exm_own iC tC eC sC, ini, tI, F⟩
theorem bn_mk (X : K.In h) (Gn : h.Ns mainGlobals mg) (a0 : PySem.W.nsIn K mainGlobals "isinstance" = some none) (a1 : PySem.W.nsIn K mainGlobals "bool" = some none) (a2 : PySem.W.nsIn K mainGlobals "int" = some none) (a3 : PySem.W.nsIn K mainGlobals "tuple" = some none) (a4 : PySem.W.nsIn K mainGlobals "list" = some none) (a5 : PySem.W.nsIn K mainGlobals "len" = some none) (a6 : PySem.W.nsIn K mainGlobals "range" = some none) (a7 : PySem.W.nsIn K mainGlobals "zip" = some none) (a8 : PySem.W.nsIn K mainGlobals "min" = some none) (a9 : PySem.W.nsIn K mainGlobals "max" = some none) (a10 : PySem.W.nsIn K mainGlobals "sorted" = some none) (a11 : PySem.W.nsIn K mainGlobals "set" = some none) (a12 : PySem.W.nsIn K mainGlobals "enumerate" = some none) : Bn mg := ⟨PySem.W.mg_none_of X Gn a0, PySem.W.mg_none_of X Gn a1, PySem.W.mg_none_of X Gn a2, PySem.W.mg_none_of X Gn a3, PySem.W.mg_none_of X Gn a4, PySem.W.mg_none_of X Gn a5, PySem.W.mg_none_of X Gn a6, PySem.W.mg_none_of X Gn a7, PySem.W.mg_none_of X Gn a8, PySem.W.mg_none_of X Gn a9, PySem.W.mg_none_of X Gn a10, PySem.W.mg_none_of X Gn a11, PySem.W.mg_none_of X Gn a12⟩
theorem two_mk {t1 t2 : Tok} (X : K.In h) (Gn : h.Ns mainGlobals mg) (d1 : PySem.W.nsIn K mainGlobals "MOST_STRETCHES" = some (some (.int 100 t1))) (d2 : PySem.W.nsIn K mainGlobals "GREATEST_SUM" = some (some (.int 300 t2))) (d3 : PySem.W.nsIn K mainGlobals "sum" = some none) : (∃ t, mg "MOST_STRETCHES" = some (.int 100 t)) ∧ (∃ t, mg "GREATEST_SUM" = some (.int 300 t)) ∧ mg "sum" = none := ⟨⟨t1, PySem.W.mg_of X Gn d1⟩, ⟨t2, PySem.W.mg_of X Gn d2⟩, PySem.W.mg_none_of X Gn d3⟩
theorem ct_mk {C : Addr} (X : K.In h) (Gn : h.Ns mainGlobals mg) (cg : PySem.W.nsIn K mainGlobals "Chain" = some (some (.ref C))) (c1 : PySem.W.plainGet K C Str.empty = true) (c2 : PySem.W.hasDictIn K C = true) (c3 : PySem.W.plainOver K C = true) (c4 : PySem.W.findIn K (.ref C) "__setattr__" = some (some (.builtin "object.__setattr__")))
    (c5 : PySem.W.findIn K (.ref C) "cuts" = some none) (c6 : PySem.W.findIn K (.ref C) "_counts" = some none) : Ct K mg C := ⟨PySem.W.mg_of X Gn cg, ⟨c1, c2, c3, c4⟩, c5, c6⟩
theorem cut_mk {t : Tok} (X : K.In h) (Gn : h.Ns mainGlobals mg) (d : PySem.W.nsIn K mainGlobals "GREATEST_CUT" = some (some (.int 1000 t))) : ∃ t, mg "GREATEST_CUT" = some (.int 1000 t) := ⟨t, PySem.W.mg_of X Gn d⟩
theorem rep_mk (X : K.In h) (Gn : h.Ns mainGlobals mg) (d : PySem.W.nsIn K mainGlobals "repr" = some none) : mg "repr" = none := PySem.W.mg_none_of X Gn d
end
theorem all_mk {l : PySem.W.OpenLaw} {w : World} {K : PySem.W.Frag} {h : Heap} {mg : Str → Option Value} {fa C CB fIn fBi fP fT fB fE fLaw : Addr} {dIn dBi dP dT dB dE dLaw : FuncData} (X : K.In h) (Gn : h.Ns mainGlobals mg) (hfa : mg "law" = some (.ref fa)) (B : Bn mg) (T : Ct K mg C) (gC : ∃ t, mg "GREATEST_CUT" = some (.int 1000 t)) (T2 : Cn2 K C) (xI : PySem.W.subIn K (.ref C) (.type "int") = some false) (xB : PySem.W.subIn K (.ref C) (.type "bool") = some false) (xL : PySem.W.subIn K (.ref C) (.type "list") = some false) (EB : Eb K mg CB fBi dBi) (hrep : mg "repr" = none) (two : (∃ t, mg "MOST_STRETCHES" = some (.int 100 t)) ∧ (∃ t, mg "GREATEST_SUM" = some (.int 300 t)) ∧ mg "sum" = none)
    (z_I : Fd K mg "is_integer" sInteger ["value"])
    (z_W : Fd K mg "is_within" sWithin ["value", "least", "greatest"])
    (z_ar : Fd K mg "_are_cuts" sAreCuts ["value"])
    (z_co : Fd K mg "_piece_counts" sCounts ["cuts"])
    (z_pi : Fd K mg "_pieces" sPieces ["body", "cuts", "counts"])
    (z_mk : Fd K mg "_marks" sShMarks ["stretches"])
    (z_as : Fd K mg "_are_stretches" sAreStr ["value"])
    (z_lp : Fd K mg "least_periods" sLeastP ["marks"])
    (z_bo : Fd K mg "borders" sBorders ["marks"])
    (z_ls : Fd K mg "_law_stream" S.sSource ["script", "start"])
    (z_ld : Fd K mg "_law_draw" S.sDraw ["stream", "size"])
    (z_sm : Fd K mg "_law_same" S.sSame ["one", "two"])
    (z_ct : Fd K mg "_law_caught" sCaught ["value", "way"])
    (z_ri : Fd K mg "_law_is_right" sIsRight ["value"])
    (z_fc : Fd K mg "first_cuts" sFirstCuts ["stretches"])
    (z_sh : Fd K mg "shown" sShown ["stretches"])
    (MI : Mk K C fIn) (FIn : Fun K "__init__" "Chain.__init__" sCInit fIn dIn)
    (mP : Meth K C "pieces" fP) (FP : Fun K "pieces" "Chain.pieces" sCPieces fP dP)
    (mT : Meth K C "parted" fT) (FT : Fun K "parted" "Chain.parted" sCPart fT dT)
    (mB : Meth K C "_boundary" fB) (FB : Fun K "_boundary" "Chain._boundary" sCBoundary fB dB)
    (oE : WO.Own K C fE "__eq__") (FE : Fun K "__eq__" "Chain.__eq__" sCEq fE dE)
    (aL : PySem.W.nsIn K mainGlobals "law" = some (some (.ref fLaw))) (FLaw : Fun K "law" "law" sLaw fLaw dLaw) :
    ∃ fd : FuncData, (∀ (s : Shared) (u : Value), BindsTo s fd ⟨[u], []⟩ [("script", u)]) ∧ ∀ base : Heap, K.In base → base.Ns mainGlobals mg → G.Ok l.prog w K mg base CX0 10 fa fd ["script"] (spLaw K) := by
  have e := hfa.symm.trans (PySem.W.mg_of X Gn aL)
  cases e
  refine ⟨dLaw, ?_, fun base _ _ => ?_⟩
  · obtain ⟨_, _, _, _, _, _, _, _, _, rfl, _, _⟩ := FLaw.ex
    exact fun s u => .of_eq rfl
  have DI : Df l.prog w K mg base 1 "is_integer" ["value"] spInteger := z_I.df fun f fd F => ok_integer F B
  have DW : Df l.prog w K mg base 2 "is_within" ["value", "least", "greatest"] spWithin := z_W.df fun f fd F => ok_within F DI
  have DP : Df l.prog w K mg base 1 "_pieces" ["body", "cuts", "counts"] (spPieces K) := z_pi.df fun f fd F => ok_pieces F B
  have DC : Df l.prog w K mg base 2 "_piece_counts" ["cuts"] (spCounts K) := z_co.df fun f fd F => ok_counts F B DP
  have DA : Df l.prog w K mg base 3 "_are_cuts" ["value"] spAre := z_ar.df fun f fd F => ok_are F B gC DW
  have MW : Mw l.prog w K mg base C := ⟨fIn, dIn, ok_cinit FIn B T DA DC, MI, FIn.binds fun _ _ _ _ _ _ us hl => match us, hl with | [_, _], _ => rfl⟩
  have MP : Me l.prog w K mg base C 2 "pieces" ["self", "body"] (spCPieces C) := ⟨fP, dP, ok_cpieces FP T DP, mP, FP.binds fun _ _ _ _ _ _ us hl => match us, hl with | [_, _], _ => rfl⟩
  have MB : Me l.prog w K mg base C 1 "_boundary" ["self", "number"] (spCBound C) := ⟨fB, dB, ok_cbound FB B T, mB, FB.binds fun _ _ _ _ _ _ us hl => match us, hl with | [_, _], _ => rfl⟩
  have MT : Mg l.prog w K mg base C 3 "parted" ["self", "body"] (spCPart C) := ⟨fT, dT, ok_cpart FT B T MP MB, mT, FT.binds fun _ _ _ _ _ _ us hl => match us, hl with | [_, _], _ => rfl⟩
  obtain ⟨g1, g2, hsum⟩ := two
  have Bi : S.Bi mg := ⟨B.int, B.len⟩
  have DU : Df l.prog w K mg base 1 "_law_stream" ["script", "start"] (S.spSource K) := z_ls.df fun f fd F => S.ok_source F Bi
  have DR : Df l.prog w K mg base 1 "_law_draw" ["stream", "size"] S.spDraw := z_ld.df fun f fd F => S.ok_draw F Bi
  have DS : G.Du l.prog w K mg base 1 "_law_same" ["one", "two"] (S.spSameT K) := by
    obtain ⟨f, fd, F, g1, g2, g3⟩ := z_sm.ex
    exact ⟨f, fd, S.ok_sameT F hrep, g1, g2, g3⟩
  have DM : Df l.prog w K mg base 1 "_marks" ["stretches"] spShMarks := z_mk.df fun f fd F => ok_shmarks F
  have DI2 : Df l.prog w K mg base 1 "is_integer" ["value"] (spInt2 K) := z_I.df fun f fd F => ok_int2 F B
  have DW2 : Df l.prog w K mg base 2 "is_within" ["value", "least", "greatest"] (spWithin2 K) := z_W.df fun f fd F => ok_within2 F DI2
  have DAs : Df l.prog w K mg base 3 "_are_stretches" ["value"] (spAre2 K) := z_as.df fun f fd F => ok_are2 F B g1 g2 DW2
  have DBo : Df l.prog w K mg base 1 "borders" ["marks"] spBorders := z_bo.df fun f fd F => ok_borders F
  have DLp : Df l.prog w K mg base 2 "least_periods" ["marks"] spLeastP := z_lp.df fun f fd F => ok_leastp F B DBo
  have DSh : Dx l.prog w K mg base 7 "shown" ["stretches"] (spShown2 K C CB) := by
    obtain ⟨f, fd, F, h1, h2, h3⟩ := z_sh.ex
    exact ⟨f, fd, ok_shown2 F B hsum T EB.mk' EB.g MW MT DAs DM DLp, h1, h2, h3⟩
  have DFi : Dx l.prog w K mg base 8 "first_cuts" ["stretches"] (spFirstCuts2 K CB) := by
    obtain ⟨f, fd, F, h1, h2, h3⟩ := z_fc.ex
    exact ⟨f, fd, ok_firstcuts2 F hsum DSh DM DBo, h1, h2, h3⟩
  have DCt : Df l.prog w K mg base 9 "_law_caught" ["value", "way"] (spCaught K) := z_ct.df fun f fd F => ok_caught F EB.L EB.g EB.ex DSh DFi
  have DRi : Df l.prog w K mg base 1 "_law_is_right" ["value"] (spIsRight K) := z_ri.df fun f fd F => ok_isright F B hsum
  have DE : Oe l.prog w K mg base C 1 "__eq__" ["self", "other"] (spCEq C) := ⟨fE, dE, ok_ceq FE B T T2, oE, FE.binds fun _ _ _ _ _ _ us hl => match us, hl with | [_, _], _ => rfl⟩
  exact ok_law FLaw B hsum hrep T T2 ⟨kit_no (by decide +kernel) xI, kit_no (by decide +kernel) xB, kit_no (by decide +kernel) xL⟩ DU DR DS DCt DRi MW DE
end CP

end
section
open PySem PySem.W PyProof.Rows
set_option Elab.async false
set_option pp.deepTerms false
set_option pp.maxSteps 60
set_option maxRecDepth 100000 in
set_option maxHeartbeats 0 in
theorem PySem.Challenge.cw_roadsizes_k46_stretches_refused_holds : PySem.Challenge.rw_roadsizes_k46_stretches_refused.Holds := by
  w_on; o_law; k_head; (case hw => w_witness2)
  k_fill
  refine G.walk (l := PySem.Challenge.rw_roadsizes_k46_stretches_refused) (n := 63) (k := 10) (sp := CP.spLaw) (x := "script") rfl (by decide) rfl ⟨rfl, by decide, by decide⟩ (fun w h Y => PySem.W.kIn_of Y) ?F (fun K H a ns hl hb hS => ⟨a, ns, rfl, hS, hl, hb, fun _ => rfl⟩)
  case F =>
    intro w mg fa h KX hNs hmg
    refine' CP.all_mk KX hNs hmg (CP.bn_mk KX hNs ?y0 ?y1 ?y2 ?y3 ?y4 ?y5 ?y6 ?y7 ?y8 ?y9 ?y10 ?y11 ?y12) (CP.ct_mk KX hNs ?cg ?c1 ?c2 ?c3 ?c4 ?c5 ?c6) (CP.cut_mk KX hNs ?d0) ⟨?n0, ?n1, ?n2, ?n3⟩ ?xI ?xB ?xL (CP.err_mk KX hNs ?bg ?blk ?bsa ?bec ?btc ?bkc ?bhg ?bhk ?bhd ?bha ?bhn ?bht ?bhm ?bno ?bic ?bsc ?bin ?bti (L2.fun_mk (st := CP.sBadI) ?lBi ?oBi ?kBi)) (CP.rep_mk KX hNs ?d1) (CP.two_mk KX hNs ?e1 ?e2 ?e3)
      (CP.fd_I KX hNs ?aI (L2.fun_mk (st := CP.sInteger) ?lI ?oI ?kI))
      (CP.fd_W KX hNs ?aW (L2.fun_mk (st := CP.sWithin) ?lW ?oW ?kW))
      (CP.fd_ar KX hNs ?aar (L2.fun_mk (st := CP.sAreCuts) ?lar ?oar ?kar))
      (CP.fd_co KX hNs ?aco (L2.fun_mk (st := CP.sCounts) ?lco ?oco ?kco))
      (CP.fd_pi KX hNs ?api (L2.fun_mk (st := CP.sPieces) ?lpi ?opi ?kpi))
      (CP.fd_mk KX hNs ?amk (L2.fun_mk (st := CP.sShMarks) ?lmk ?omk ?kmk))
      (CP.fd_as KX hNs ?aas (L2.fun_mk (st := CP.sAreStr) ?las ?oas ?kas))
      (CP.fd_lp KX hNs ?alp (L2.fun_mk (st := CP.sLeastP) ?llp ?olp ?klp))
      (CP.fd_bo KX hNs ?abo (L2.fun_mk (st := CP.sBorders) ?lbo ?obo ?kbo))
      (CP.fd_ls KX hNs ?als (L2.fun_mk (st := S.sSource) ?lls ?ols ?kls))
      (CP.fd_ld KX hNs ?ald (L2.fun_mk (st := S.sDraw) ?lld ?old ?kld))
      (CP.fd_sm KX hNs ?asm (L2.fun_mk (st := S.sSame) ?lsm ?osm ?ksm))
      (CP.fd_ct KX hNs ?act (L2.fun_mk (st := CP.sCaught) ?lct ?oct ?kct))
      (CP.fd_ri KX hNs ?ari (L2.fun_mk (st := CP.sIsRight) ?lri ?ori ?kri))
      (CP.fd_fc KX hNs ?afc (L2.fun_mk (st := CP.sFirstCuts) ?lfc ?ofc ?kfc))
      (CP.fd_sh KX hNs ?ash (L2.fun_mk (st := CP.sShown) ?lsh ?osh ?ksh))
      ⟨?i1, ?i2, ?i3, ?i4⟩ (L2.fun_mk (st := CP.sCInit) ?lIn ?oIn ?kIn)
      ⟨?maP, ?mfP, ?mkP⟩ (L2.fun_mk (st := CP.sCPieces) ?lmP ?omP ?kmP)
      ⟨?maT, ?mfT, ?mkT⟩ (L2.fun_mk (st := CP.sCPart) ?lmT ?omT ?kmT)
      ⟨?maB, ?mfB, ?mkB⟩ (L2.fun_mk (st := CP.sCBoundary) ?lmB ?omB ?kmB)
      ⟨?oaE, ?ofE⟩ (L2.fun_mk (st := CP.sCEq) ?lqE ?oqE ?kqE)
      ?aLaw (L2.fun_mk (st := CP.sLaw) ?lLaw ?oLaw ?kLaw)
    (case y0 => k_is)
    (case y1 => k_is)
    (case y2 => k_is)
    (case y3 => k_is)
    (case y4 => k_is)
    (case y5 => k_is)
    (case y6 => k_is)
    (case y7 => k_is)
    (case y8 => k_is)
    (case y9 => k_is)
    (case y10 => k_is)
    (case y11 => k_is)
    (case y12 => k_is)
    (case cg => k_is)
    (case c1 => k_is)
    (case c2 => k_is)
    (case c3 => k_is)
    (case c4 => k_is)
    (case c5 => k_is)
    (case c6 => k_is)
    (case d0 => k_is)
    (case n0 => k_is)
    (case n1 => k_is)
    (case n2 => k_is)
    (case n3 => k_is)
    (case xI => k_is)
    (case xB => k_is)
    (case xL => k_is)
    (case bg => k_is)
    (case blk => k_is)
    (case bsa => k_is)
    (case bec => k_is)
    (case btc => k_is)
    (case bkc => k_is)
    (case bhg => k_is)
    (case bhk => k_is)
    (case bhd => k_is)
    (case bha => k_is)
    (case bhn => k_is)
    (case bht => k_is)
    (case bhm => k_is)
    (case bno => k_is)
    (case bic => k_is)
    (case bsc => k_is)
    (case bin => k_is)
    (case bti => k_is)
    (case lBi => k_is)
    (case oBi => k_is)
    (case kBi => k_is)
    (case d1 => k_is)
    (case e1 => k_is)
    (case e2 => k_is)
    (case e3 => k_is)
    (case aI => k_is)
    (case lI => k_is)
    (case oI => k_is)
    (case kI => k_is)
    (case aW => k_is)
    (case lW => k_is)
    (case oW => k_is)
    (case kW => k_is)
    (case aar => k_is)
    (case lar => k_is)
    (case oar => k_is)
    (case kar => k_is)
    (case aco => k_is)
    (case lco => k_is)
    (case oco => k_is)
    (case kco => k_is)
    (case api => k_is)
    (case lpi => k_is)
    (case opi => k_is)
    (case kpi => k_is)
    (case amk => k_is)
    (case lmk => k_is)
    (case omk => k_is)
    (case kmk => k_is)
    (case aas => k_is)
    (case las => k_is)
    (case oas => k_is)
    (case kas => k_is)
    (case alp => k_is)
    (case llp => k_is)
    (case olp => k_is)
    (case klp => k_is)
    (case abo => k_is)
    (case lbo => k_is)
    (case obo => k_is)
    (case kbo => k_is)
    (case als => k_is)
    (case lls => k_is)
    (case ols => k_is)
    (case kls => k_is)
    (case ald => k_is)
    (case lld => k_is)
    (case old => k_is)
    (case kld => k_is)
    (case asm => k_is)
    (case lsm => k_is)
    (case osm => k_is)
    (case ksm => k_is)
    (case act => k_is)
    (case lct => k_is)
    (case oct => k_is)
    (case kct => k_is)
    (case ari => k_is)
    (case lri => k_is)
    (case ori => k_is)
    (case kri => k_is)
    (case afc => k_is)
    (case lfc => k_is)
    (case ofc => k_is)
    (case kfc => k_is)
    (case ash => k_is)
    (case lsh => k_is)
    (case osh => k_is)
    (case ksh => k_is)
    (case i1 => k_is)
    (case i2 => k_is)
    (case i3 => k_is)
    (case i4 => k_is)
    (case lIn => k_is)
    (case oIn => k_is)
    (case kIn => k_is)
    (case maP => k_is)
    (case mfP => k_is)
    (case mkP => k_is)
    (case lmP => k_is)
    (case omP => k_is)
    (case kmP => k_is)
    (case maT => k_is)
    (case mfT => k_is)
    (case mkT => k_is)
    (case lmT => k_is)
    (case omT => k_is)
    (case kmT => k_is)
    (case maB => k_is)
    (case mfB => k_is)
    (case mkB => k_is)
    (case lmB => k_is)
    (case omB => k_is)
    (case kmB => k_is)
    (case oaE => k_is)
    (case ofE => k_is)
    (case lqE => k_is)
    (case oqE => k_is)
    (case kqE => k_is)
    (case aLaw => k_is)
    (case lLaw => k_is)
    (case oLaw => k_is)
    (case kLaw => k_is)

end
