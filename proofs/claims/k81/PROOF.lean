import PyProof.Rows.All
import Wide.All
import OpenK.AllK
import Wide.FinOn
import HandS.ForMost
import HandS.EndBits
import HandS.Wide
import PyProof.ReprRoads
import HandS.SortKw
import KE.DataMinMax
import HandS.IsInst
import HandS.More
import KE.GoesEnum
import HandS.Walk
import HandS.Flow
import HandS.OwnEq
import HandS.SetFor
import HandS.Strs
import HandS.Zip
import HandS.Star
import HandS.TupAny
import HandS.Style
import KE.KRevSl
import PyProof.ReprBulk
import HandS.Text
import HandS.FStr
import HandS.RaiseMore
import HandS.StrMore
import HandS.ExcInit
import HandS.ExcIs
import HandS.Defaults
import HandS.MakeKwOnly
import HandS.ExcOwn
import HandS.WordsExc
import HandS.ExcField
import PyProof.NeKinds
import PyProof.StrOps2
import PySem.Challenge.RW_roadsizes_k81_texts_refused
section
set_option Elab.async false
set_option linter.all false
set_option maxRecDepth 100000
set_option maxHeartbeats 4000000
/-! ## G: defs that are entered with no repr under way (guards known), so that repr of containers can be told -/
namespace G
open PySem PySem.Spec PyProof.Rows L2

/-- a def's promise, kept where no repr is under way -/
structure Ok (P : Program) (w : World) (K : PySem.W.Frag) (mg : Str → Option Value) (base : Heap) (CX : CXT) (k : Nat) (f : Addr) (fd : FuncData) (ps : List Str) (sp : Sp) : Prop where
  len : ∀ vs H Q E, sp vs H Q E → vs.length = ps.length
  go : ∀ (A : Around), A.guards = some [] → ∀ (outer : List Env) (s : Shared) (H : Hp) (args : Args) (us : List Value) (vs : List V) (Q : VK) (E : XK),
    Room k A → Env0 P w K mg base A outer s H → BindsTo s fd args (ps.zip us) → Vals vs us → sp vs H Q E → codeAny (model P w) A (.call (.ref f) args) (CR CX outer P w H s Q E) s
section
variable {P : Program} {w : World} {K : PySem.W.Frag} {mg : Str → Option Value} {base : Heap} {CX : CXT}
theorem Ok.mono {j k : Nat} {f : Addr} {fd : FuncData} {ps : List Str} {sp : Sp} (F : Ok P w K mg base CX j f fd ps sp) (h : j ≤ k) : Ok P w K mg base CX k f fd ps sp :=
  ⟨F.len, fun A hg outer s H args us vs Q E hr => F.go A hg outer s H args us vs Q E (hr.mono h)⟩
theorem Ok.of {k : Nat} {f : Addr} {fd : FuncData} {ps : List Str} {sp : Sp} (F : FnOk P w K mg base CX k f fd ps sp) : Ok P w K mg base CX k f fd ps sp :=
  ⟨F.len, fun A _ => F.run A⟩

theorem mk {k : Nat} {x qual : Str} {st : Stmt} {f : Addr} {fd : FuncData} {N ps : List Str} {sp : Sp} (F : Fun K x qual st f fd) (S : FnScope N ps (defScope st)) (len : ∀ vs H Q E, sp vs H Q E → vs.length = ps.length)
    (walk : ∀ (cdv : Value) (A : Around) (outer : List Env) (s : Shared) (H : Hp) (vs : List V) (Q : VK) (E : XK), A.guards = some [] → Room k (A.deeper (envOfC qual (defScope st) s.heap.objs.size f cdv)) → sp vs H Q E →
      ∃ t, PSs (cxOf CX P w K mg base N qual (defScope st) f cdv A outer s H E).nox (defBody st) t ∧ t { nx := fun _ H' => Q .non H', rt := Q } (start N vs) H) :
    Ok P w K mg base CX (k + 1) f fd ps sp := by
  refine ⟨len, ?_⟩
  obtain ⟨oc, od, kV, doc, pm, an, cdv, ct, osl, hfd, lk, cd⟩ := F.ex
  intro A hg outer s H args us vs Q E hr e0 hb rv hsp
  subst hfd
  have stay : ∀ b o, base.get? b = some o → s.heap.get? b = some o := fun b o e => (e0.bs b o e).1
  have KX : K.In s.heap := e0.mod.kin.keeps stay
  have par : ∀ y ∈ ps.zip us, (defScope st).names.lookup y.1 = some .local ∨ ((defScope st).names.lookup y.1 = some .cell ∧ ((cellsFrom (s.heap.objs.size + 1) (defScope st).names []).lookup y.1).isSome = true) := by
    rintro ⟨n, v⟩ hy
    cases S.par n (List.of_mem_zip hy).1 with
    | inl q => exact .inl q
    | inr q => exact .inr ⟨q, PySem.W.cellsFrom_some _ _ _ (.inl q)⟩
  refine codeAny_call_function hr.depth (KX _ _ lk) rfl S.co S.gen rfl (PySem.W.codeRec_of KX cd) (hb _ _ _ _ (wpAny_newFunctionEnv_cells S.kind par ?_))
  intro env he s1 x
  subst he
  refine ⟨(e0.mod.nolimit.keeps stay).keeps x.toInCall.keep, codeAny_func ?_⟩
  obtain ⟨t, ht, hq⟩ := walk cdv A outer s H vs Q E hg (hr.deeper _) hsp
  refine wpAny_mono (ht.nox.run [] s1 (start N vs) H _ (inv_start S hr.hd e0 (len _ _ _ _ hsp) rv x) hq) ?_ fun e s' hs => hs
  intro fl s' hs
  cases fl with
  | ret u => obtain ⟨v, σ', H', J, ru, q⟩ := hs; exact ⟨v, H', J.os, J.bare, J.base, J.hok, ru, q⟩
  | next => obtain ⟨σ', H', J, q⟩ := hs; exact ⟨.non, H', J.os, J.bare, J.base, J.hok, rfl, q⟩
  | brk => obtain ⟨_, _, _, q⟩ := hs; exact q.elim
  | cont => obtain ⟨_, _, _, q⟩ := hs; exact q.elim

/-- the law's entry: callerA has no guard -/
theorem enter {mb : Str → Option Value} {k : Nat} {fa a : Addr} {fd : FuncData} {x : Str} {sp : Sp} {s₁ : Shared} {vs : List Value} {H : Hp}
    (KX : K.In s₁.heap) (hns : s₁.heap.Ns mainGlobals mg) (hb : s₁.heap.Ns builtinsNs mb) (hbb : ∀ x : Str, x ≠ "__name__" → mb x = bootBuiltins x) (hlim : s₁.heap.NoLimit) (hgen : s₁.gens = #[])
    (ha : s₁.heap.get? a = some { cls := .type "list", data := .seq vs.toArray }) (hr : Room k callerA)
    (F : ∀ base : Heap, K.In base → base.Ns mainGlobals mg → Ok P w K mg base CX k fa fd [x] sp) (hbind : ∀ (s : Shared) (u : Value), BindsTo s fd ⟨[u], []⟩ [(x, u)])
    (hO : Only H) (hok : HOk P w H s₁.heap) (only_a : ∀ b o, H b = some o → b = a) (notK : (∃ o, H a = some o) → K.lookup a = none)
    (hsp : sp [.ref a] H (fun v _ => v = .bl true) fun _ _ _ => False) (hCX : ∀ H e s', CX [] H s₁ (fun _ _ _ => False) e s' → False) :
    codeAny (model P w) callerA (.call (.ref fa) ⟨[.ref a], []⟩) (fun r s' => r = .ok (.ret (.bool true)) ∧ OldK s₁.heap s'.heap ∧ s'.os = s₁.os ∧ AllBare s'.gens) s₁ := by
  have free : ∀ {b : Addr}, b ≠ a → H b = none := fun {b} hne => by
    cases q : H b with
    | none => rfl
    | some u => exact absurd (only_a b u q) hne
  have dic : ∀ {b : Addr} {m : Str → Option Value}, s₁.heap.Ns b m → (hidT s₁.heap H).Ns b m := by
    rintro b m ⟨o, es, ep, e, d, r⟩
    refine ⟨o, es, ep, hidT_get e (free ?_), d, r⟩
    rintro rfl
    rw [ha] at e
    cases e
    cases d
  have kin : K.In (hidT s₁.heap H) := by
    intro b o e
    refine hidT_get (KX b o e) ?_
    cases q : H b with
    | none => rfl
    | some u =>
      have hba := only_a b u q
      subst hba
      rw [notK ⟨u, q⟩] at e
      cases e
  obtain ⟨mc, l1, l2⟩ := hlim
  have e0 : Env0 P w K mg (hidT s₁.heap H) callerA [] s₁ H :=
    { frames := rfl, mod := ⟨kin, dic hns, ⟨mb, dic hb, hbb⟩, ⟨mc, dic l1, l2⟩⟩, bs := fun b o e => of_hidT e, bsz := Nat.le_of_eq (hidT_size _ _), funs := trivial, frf := fun b z => (List.not_mem_nil z).elim, hok := hok, bare := .of_eq hgen }
  refine codeAny_mono ((F _ kin (dic hns)).go callerA rfl [] s₁ H _ [.ref a] _ _ _ hr e0 (hbind s₁ (.ref a)) (.cons (show RelV (.ref a) (.ref a) from rfl) .nil) hsp) ?_
  intro r s' h
  match r, h with
  | .error e, h => exact (hCX H e s' h).elim
  | .ok .next, h => exact h.elim
  | .ok .brk, h => exact h.elim
  | .ok .cont, h => exact h.elim
  | .ok (.ret u), ⟨v, H', os, bare, un, hok', rv, q⟩ =>
    cases (q : v = .bl true)
    cases (rv : u = .bool true)
    refine ⟨rfl, OldK.of_keep fun b o e => ?_, os, bare⟩
    by_cases q : H b = none
    · exact un.keep b o e q List.not_mem_nil List.not_mem_nil
    · rcases hO b with z | ⟨ob, xs, z⟩
      · exact absurd z q
      · have k1 := (hok b _ z).1
        rw [e] at k1
        cases k1
        exact (hok' b _ (un.frzs b _ _ z)).1

theorem walk {l : PySem.W.OpenLaw} {n k : Nat} {q : Program} {loose : List Str} {XP : (Str → Option Value) → Heap → Prop} {YP : World → Heap → Prop} {d : DefRec} {K : Params → PySem.W.Frag} {sp : PySem.W.Frag → Sp} {x : Str}
    (hn : l.most = some n) (hn2 : n ≤ sizeLine) (hdf : d.params.defaults = []) (hr : Room k callerA) (hY : ∀ (w : World) (h : Heap), YP w h → (K w.params).In h)
    (F : ∀ (w : World) (mg : Str → Option Value) (fa : Addr) (h : Heap), (K w.params).In h → h.Ns mainGlobals mg → mg d.name = some (.ref fa) →
      ∃ fd : FuncData, (∀ (s : Shared) (u : Value), BindsTo s fd ⟨[u], []⟩ [(x, u)]) ∧ ∀ base : Heap, (K w.params).In base → base.Ns mainGlobals mg → Ok l.prog w (K w.params) mg base CX0 k fa fd [x] (sp (K w.params)))
    (hsp : ∀ (K : PySem.W.Frag) (H : Hp) (a : Addr) (ns : List Int), ns.length ≤ n → (∀ z ∈ ns, Builtin.Int.intBits z ≤ 1048576) → SqL K H a (ns.map V.int) → sp K [.ref a] H (fun v _ => v = .bl true) fun _ _ _ => False) :
    PySem.W.WalkO q loose XP YP l.row.toRowW d [] (fun f vs => PySem.call f vs) := by
  refine Att.attach_callB hn hdf ?_
  intro w s₀ s₁ mg mb fa o pm cd doc a vs ns G Y ho hd hcd hmg hobj hints hlen hbits hg
  have KX := hY w _ Y
  obtain ⟨fd, hb, hF⟩ := F w mg fa _ KX G.T.g hmg
  have rv := vals_ints hints
  have zl : ns.length ≤ sizeLine := Nat.le_trans hlen hn2
  have wish := fun (H : Hp) (S : SqL (K w.params) H a (ns.map V.int)) => hsp (K w.params) H a ns hlen hbits S
  by_cases hk : (K w.params).lookup a = none
  · refine enter (H := fun b => if b = a then some (.frz { cls := .type "list", data := .seq vs.toArray } (.lst (ns.map V.int))) else none) KX G.T.g G.T.b G.T.builtins G.T.nolimit hg hobj hr hF hb ?_ ?_ ?_ (fun _ => hk) (wish _ ?_) fun _ _ _ z => z
    · intro b
      by_cases e : b = a
      · exact .inr ⟨_, _, if_pos e⟩
      · exact .inl (if_neg e)
    · intro b o e
      by_cases z : b = a
      · subst z
        cases (if_pos rfl).symm.trans e
        exact ⟨hobj, by rw [List.length_map]; exact zl, vs, _, rv, hobj⟩
      · cases (if_neg z).symm.trans e
    · intro b o e
      by_cases z : b = a
      · exact z
      · cases (if_neg z).symm.trans e
    · exact .inl (.inr ⟨_, if_pos rfl⟩)
  · obtain ⟨o, ek⟩ := Option.ne_none_iff_exists'.mp hk
    have eo := (KX a o ek).symm.trans hobj
    cases eo
    refine enter (H := fun _ => none) KX G.T.g G.T.b G.T.builtins G.T.nolimit hg hobj hr hF hb (fun _ => .inl rfl) (fun b o e => nomatch e) (fun b o e => nomatch e) (fun ⟨o, e⟩ => nomatch e) (wish _ ?_) fun _ _ _ z => z
    refine .inr ⟨_, vs.toArray, _, ek, rfl, rfl, rfl, ?_, by simpa using rv⟩
    rw [List.size_toArray, hints.length]
    exact zl
end
end G

end
section
set_option Elab.async false
set_option linter.all false
set_option maxRecDepth 100000
set_option maxHeartbeats 4000000
/-! ## repr of containers; int ** int of great ints -/
namespace G
open PySem PySem.Spec PyProof.Rows L2
def keyD : Key → PyData
  | .inl i => .int i
  | .inr x => .str x
mutual
/-- data at a value: as it is read off the abstract heap; lists and no dict (true), or dicts and no list (false) -/
inductive Dr (K : PySem.W.Frag) (H : Hp) : Bool → V → PyData → Prop
  | non {m : Bool} : Dr K H m .non .none
  | bl {m : Bool} (b : Bool) : Dr K H m (.bl b) (.bool b)
  | int {m : Bool} (i : Int) : Dr K H m (.int i) (.int i)
  | str {m : Bool} (x : Str) : Dr K H m (.str x) (.str x)
  | lst {a : Addr} {xs : List V} {ds : List PyData} : SqL K H a xs → DrA K H true xs ds → Dr K H true (.ref a) (.list ds)
  | tup {m : Bool} {a : Addr} {xs : List V} {ds : List PyData} : SqT K H a xs → DrA K H m xs ds → Dr K H m (.ref a) (.tuple ds)
  | dic {a : Addr} {kvs : List (Key × V)} {ds : List PyData} : H a = some (.dK kvs) → DrA K H false (kvs.map (·.2)) ds → Dr K H false (.ref a) (.dict ((kvs.map fun p => keyD p.1).zip ds))
inductive DrA (K : PySem.W.Frag) (H : Hp) : Bool → List V → List PyData → Prop
  | nil {m : Bool} : DrA K H m [] []
  | cons {m : Bool} {v : V} {vs : List V} {d : PyData} {ds : List PyData} : Dr K H m v d → DrA K H m vs ds → DrA K H m (v :: vs) (d :: ds)
end
theorem DrA.len {K : PySem.W.Frag} {H : Hp} {m : Bool} : ∀ {vs : List V} {ds : List PyData}, DrA K H m vs ds → vs.length = ds.length
  | _, _, .nil => rfl
  | _, _, .cons _ t => congrArg Nat.succ (DrA.len t)
mutual
theorem Dr.noDict {K : PySem.W.Frag} {H : Hp} : ∀ (d : PyData) (v : V), Dr K H true v d → d.hasDict = false
  | .none, _, _ => by simp only [PyData.hasDict]
  | .bool _, _, _ => by simp only [PyData.hasDict]
  | .int _, _, _ => by simp only [PyData.hasDict]
  | .str _, _, _ => by simp only [PyData.hasDict]
  | .list ds, _, h => by
    cases h with
    | lst _ ha => simp only [PyData.hasDict]; exact DrA.noDict ds _ ha
  | .tuple ds, _, h => by
    cases h with
    | tup _ ha => simp only [PyData.hasDict]; exact DrA.noDict ds _ ha
  | .dict _, _, h => by cases h
theorem DrA.noDict {K : PySem.W.Frag} {H : Hp} : ∀ (ds : List PyData) (vs : List V), DrA K H true vs ds → PyData.hasDictAll ds = false
  | [], _, _ => by simp only [PyData.hasDictAll]
  | d :: ds, _, h => by
    cases h with
    | cons a b => simp only [PyData.hasDictAll, Dr.noDict d _ a, DrA.noDict ds _ b, Bool.or_self]
end
theorem keys_read {P : Program} {w : World} {h : Heap} : ∀ {es : List DictEntry} {kvs : List (Key × V)} {vs : List (Key × Value)}, Pairs (mixKind P w) es vs → KV kvs vs →
    ∃ as, ReadsAll h (es.map (·.key)) (kvs.map fun p => keyD p.1) as ∧ as = []
  | _, _, _, .nil, .nil => ⟨_, .nil, rfl⟩
  | _, _, _, .cons hk hv hp, .cons r t => by
    obtain ⟨as, q, e⟩ := keys_read (P := P) (w := w) (h := h) hp t
    subst e
    have hk' : keyIs _ _ = true := hk
    rw [← r.1] at hk'
    rename_i e' _ _ _ p' _
    rcases keyIs_shape hk' with ⟨i, t, ek, ev⟩ | ⟨x, t, ek, ev⟩
    · refine ⟨[], ?_, rfl⟩
      have z := ReadsAll.cons (h := h) (Reads.int i t) q
      rw [← ev] at z
      have ke : keyD p'.1 = .int i := by rw [ek]; rfl
      rw [List.map_cons, List.map_cons, ke]
      exact z
    · refine ⟨[], ?_, rfl⟩
      have z := ReadsAll.cons (h := h) (Reads.str x t) q
      rw [← ev] at z
      have ke : keyD p'.1 = .str x := by rw [ek]; rfl
      rw [List.map_cons, List.map_cons, ke]
      exact z
theorem vals_of {P : Program} {w : World} : ∀ {es : List DictEntry} {kvs : List (Key × V)} {vs : List (Key × Value)}, Pairs (mixKind P w) es vs → KV kvs vs → Vals (kvs.map (·.2)) (es.map (·.val))
  | _, _, _, .nil, .nil => .nil
  | _, _, _, .cons hk hv hp, .cons r t => .cons (by show RelV _ (DictEntry.val _); rw [hv]; exact r.2) (vals_of hp t)
section
variable {X : Cx} {pins : List (Addr × Obj)} {σ : L2.St} {H : Hp} {s : Shared}
mutual
theorem Dr.reads (I : Inv X pins σ H s) {m : Bool} : ∀ (d : PyData) (v : V) (u : Value), Dr X.K H m v d → RelV v u → ∃ as, Reads s.heap u d as ∧ (m = false → sysModules ∉ as)
  | .none, _, _, h, r => by
    cases h
    cases r
    exact ⟨_, Reads.none, fun _ => List.not_mem_nil⟩
  | .bool b, _, _, h, r => by
    cases h
    cases r
    exact ⟨_, Reads.bool b, fun _ => List.not_mem_nil⟩
  | .int i, _, _, h, r => by
    cases h
    obtain ⟨t, rfl⟩ := r
    exact ⟨_, Reads.int i t, fun _ => List.not_mem_nil⟩
  | .str x, _, _, h, r => by
    cases h
    obtain ⟨t, rfl⟩ := r
    exact ⟨_, Reads.str x t, fun _ => List.not_mem_nil⟩
  | .list ds, _, _, h, r => by
    cases h with
    | @lst a xs _ hs ha =>
      cases r
      obtain ⟨its, rv, ⟨o, n, ho, hc, _, hd⟩, _⟩ := I.list hs
      obtain ⟨as, hr, hn⟩ := DrA.reads I ds _ its ha rv
      exact ⟨_, Reads.list ho hc hd hr, fun z => by cases z⟩
  | .tuple ds, _, _, h, r => by
    cases h with
    | tup hs ha =>
      cases r
      obtain ⟨its, rv, ⟨o, ho, hc, n, hd⟩, _⟩ := I.tuple hs
      obtain ⟨as, hr, hn⟩ := DrA.reads I ds _ its ha rv
      exact ⟨_, Reads.tuple ho hc hd hr, hn⟩
  | .dict kds, _, _, h, r => by
    cases h with
    | @dic a kvs ds hs ha =>
      cases r
      obtain ⟨_, hsys, vs, rk, o, es, ep, ho, hx, hd, _, hp, _⟩ := (show ObjOk X.prog X.w H s.heap a (.dK kvs) from I.hok a _ hs)
      obtain ⟨_, hk, e⟩ := keys_read (h := s.heap) hp rk
      subst e
      have hl : (kvs.map fun p => keyD p.1).length = ds.length := by rw [List.length_map, ← ha.len, List.length_map]
      have e1 : ((kvs.map fun p => keyD p.1).zip ds).map (·.1) = kvs.map fun p => keyD p.1 := List.map_fst_zip (Nat.le_of_eq hl)
      have e2 : ((kvs.map fun p => keyD p.1).zip ds).map (·.2) = ds := List.map_snd_zip (Nat.le_of_eq hl.symm)
      have ha' : DrA X.K H false (kvs.map (·.2)) (((kvs.map fun p => keyD p.1).zip ds).map (·.2)) := by rw [e2]; exact ha
      obtain ⟨bs, hr, hn⟩ := DrA.reads2 I ((kvs.map fun p => keyD p.1).zip ds) _ _ ha' (vals_of hp rk)
      refine ⟨_, Reads.dict ho hx.1 hd (by rw [e1]; exact hk) hr, fun _ z => ?_⟩
      rcases List.mem_append.mp z with z | z
      · rcases List.mem_cons.mp z with e | e
        · rw [← e] at hsys
          simp at hsys
        · exact absurd e List.not_mem_nil
      · exact hn rfl z
theorem DrA.reads (I : Inv X pins σ H s) {m : Bool} : ∀ (ds : List PyData) (vs : List V) (us : List Value), DrA X.K H m vs ds → Vals vs us → ∃ as, ReadsAll s.heap us ds as ∧ (m = false → sysModules ∉ as)
  | [], _, _, h, r => by
    cases h
    cases r
    exact ⟨_, ReadsAll.nil, fun _ => List.not_mem_nil⟩
  | d :: ds, _, _, h, r => by
    cases h with
    | cons h1 h2 =>
      cases r with
      | cons r1 r2 =>
        obtain ⟨as, q1, n1⟩ := Dr.reads I d _ _ h1 r1
        obtain ⟨bs, q2, n2⟩ := DrA.reads I ds _ _ h2 r2
        exact ⟨_, ReadsAll.cons q1 q2, fun e z => (List.mem_append.mp z).elim (n1 e) (n2 e)⟩
theorem DrA.reads2 (I : Inv X pins σ H s) {m : Bool} : ∀ (kds : List (PyData × PyData)) (vs : List V) (us : List Value), DrA X.K H m vs (kds.map (·.2)) → Vals vs us → ∃ as, ReadsAll s.heap us (kds.map (·.2)) as ∧ (m = false → sysModules ∉ as)
  | [], _, _, h, r => by
    cases h
    cases r
    exact ⟨_, ReadsAll.nil, fun _ => List.not_mem_nil⟩
  | (k, d) :: ds, _, _, h, r => by
    cases h with
    | cons h1 h2 =>
      cases r with
      | cons r1 r2 =>
        obtain ⟨as, q1, n1⟩ := Dr.reads I d _ _ h1 r1
        obtain ⟨bs, q2, n2⟩ := DrA.reads2 I ds _ _ h2 r2
        exact ⟨_, ReadsAll.cons q1 q2, fun e z => (List.mem_append.mp z).elim (n1 e) (n2 e)⟩
end
end
/-- repr of a list that is not empty: what is read below it is none of the interpreter's own dict -/
theorem repr_top {prog : Program} {w : World} {A : Around} {E : Value → Shared → Prop} {s : Shared} {a : Addr} {o : Obj} {v : Value} {vs : List Value} {n : Nat} {ds : List PyData} {as : List Addr} {Q : Value → Shared → Prop} (ho : s.heap.get? a = some o) (hc : o.cls = .type "list") (hd : o.data = .seq (v :: vs).toArray n)
    (hr : ReadsAll s.heap (v :: vs) ds as) (hn : sysModules ∉ as) (hs : PyData.showableAll ds = true) (hg : A.guards = some []) (hu : A.units + ((PyData.list ds).depth + 1) < cLine) (hz : (PyData.list ds).shown.length ≤ sizeLine)
    (hQ : ∀ h' u tk, (∀ b o, s.heap.get? b = some o → h'.get? b = some o) → Q (.str (PyData.list ds).shown u) { s with heap := h', toks := tk }) : wpAny (model prog w) A (call (.builtin "repr") [.ref a]) Q E s := by
  have depth : (PyData.list ds).depth = PyData.depthAll ds + 1 := by simp only [PyData.depth]
  have text : (PyData.list ds).shown = listText (PyData.shownAll ds) := by simp only [PyData.shown]
  rw [text] at hz
  rw [depth] at hu
  obtain ⟨bs, most, items⟩ := ReprAllK.of_readsAll (prog := prog) (w := w) hr hs (fun _ => hn) (fun t ht => Nat.le_trans (listText_mem_le ht) hz)
  have apart : a ∉ bs := not_mem_of_deeper (.list ho hc hd (by simpa using hr)) (by rw [depth]; omega) most
  refine call_repr_slot (by omega) ⟨o, ho, hc⟩ F.slot_list_repr.toG ?_
  refine call_list_reprK ho hc hd apart (by simpa using items.length_eq) (fun i y e => items.item i y (by simpa using e)) hg (fun b _ => Clear.nil b) (by show A.units + 1 + _ < cLine; omega) (fun _ _ e => e) (fun h' u tk k => ⟨_, _, rfl, ?_⟩) hz
  rw [← text]
  exact hQ h' u tk k
def rRepr (K : PySem.W.Frag) : List V → Hp → VK → Prop := fun xs H Q => ∃ (a : Addr) (m : Bool) (y : V) (ys : List V) (ds : List PyData), xs = [.ref a] ∧ SqL K H a (y :: ys) ∧ DrA K H m (y :: ys) ds ∧ (PyData.list ds).showable = true ∧ (PyData.list ds).depth ≤ 20 ∧ (PyData.list ds).shown.length ≤ sizeLine ∧ Q (.str (PyData.list ds).shown) H
theorem call_repr {X : Cx} (hg : X.A.guards = some []) (hu : X.A.units + 64 < cLine) : CallR X (.builtin "repr") (rRepr X.K) := by
  intro pins s σ H xs us Q I r h
  obtain ⟨a, m, y, ys, ds, rfl, hL, hd, hs, hl, hz, q⟩ := h
  cases r with
  | cons rx rr =>
    cases rr
    cases rx
    have fin : ∀ (h' : Heap) (u : Tok) (tk : Nat), (∀ b o, s.heap.get? b = some o → h'.get? b = some o) → EP X pins σ Q (.str (PyData.list ds).shown u) { s with heap := h', toks := tk } := fun h' u tk k => ⟨.str (PyData.list ds).shown, H, I.kept (t' := tk) k, ⟨u, rfl⟩, q⟩
    obtain ⟨its, rv, ⟨o, n, ho, hc, _, hd'⟩, _⟩ := I.list hL
    obtain ⟨as, hr, hn⟩ := DrA.reads I ds _ its hd rv
    cases m with
    | true =>
      refine repr_of_reads' (.list ho hc hd' hr) hs (fun z => ?_) hg (by omega) (fun _ _ e => e) fin hz
      rw [show (PyData.list ds).hasDict = PyData.hasDictAll ds by simp only [PyData.hasDict], DrA.noDict ds _ hd] at z
      cases z
    | false =>
      cases rv with
      | cons r1 r2 => exact repr_top ho hc hd' hr (hn rfl) (by simpa only [PyData.showable] using hs) hg (by omega) hz fin
def rReprF : List V → Hp → VK → Prop := fun xs H Q => (xs = [.non] ∧ Q (.str "None") H) ∨ (∃ b, xs = [.bl b] ∧ Q (.str (if b then "True" else "False")) H) ∨ ∃ i, xs = [.int i] ∧ i.natAbs.log2 < 1920 ∧ Q (.str (toString i)) H
theorem call_reprF {X : Cx} : CallR X (.builtin "repr") rReprF := by
  intro pins s σ H xs us Q I r h
  rcases h with ⟨rfl, q⟩ | ⟨b, rfl, q⟩ | ⟨i, rfl, hz, q⟩
  · cases r with
    | cons rx rr => cases rr; cases rx; exact PySem.P.repr_of_none ⟨.str _, H, I.tok _, ⟨_, rfl⟩, q⟩
  · cases r with
    | cons rx rr => cases rr; cases rx; exact PySem.P.repr_of_bool ⟨.str _, H, I.tok _, ⟨_, rfl⟩, q⟩
  · cases r with
    | cons rx rr => cases rr; obtain ⟨t, rfl⟩ := rx; exact PySem.P.repr_of_int hz ⟨.str _, H, I.tok _, ⟨_, rfl⟩, q⟩
/-- a ** n, n a small written number, a of any size -/
theorem op_powN {X : Cx} : OpR X (binaryOp .Pow) (rI (fun i j => 0 ≤ j ∧ (Builtin.Int.intBits i : Int) * j ≤ 2 ^ 27) fun i j => .int (i ^ j.toNat)) := opI fun _ _ _ _ _ _ _ hc q => pow_int hc.1 hc.2 q
end G

end
section
set_option Elab.async false
set_option linter.all false
set_option maxRecDepth 100000
set_option maxHeartbeats 4000000
/-! ## max of a list of ints, with and without default= -/
namespace G
open PySem PySem.Spec PyProof.Rows L2 PySem.W
theorem ints_reads {h : Heap} : ∀ {ns : List Int} {us : List Value}, Vals (ns.map V.int) us → ReadsAll h us (ns.map PyData.int) []
  | [], _, r => by cases r; exact .nil
  | n :: ns, _, r => by
    cases r with
    | cons a b =>
      obtain ⟨t, rfl⟩ := a
      exact .cons (as := []) (bs := []) (.int n t) (ints_reads b)
theorem ints_alike : ∀ ns : List Int, AlikeAll (ns.map PyData.int) := by
  intro ns
  refine ⟨fun x hx y hy => ?_, fun x hx => ?_⟩
  · obtain ⟨a, _, rfl⟩ := List.mem_map.mp hx
    obtain ⟨b, _, rfl⟩ := List.mem_map.mp hy
    rfl
  · obtain ⟨a, _, rfl⟩ := List.mem_map.mp hx
    intro z
    cases z
theorem ints_depth : ∀ ns : List Int, PyData.depthAll (ns.map PyData.int) = 0
  | [] => by simp only [List.map_nil, PyData.depthAll]
  | n :: ns => by simp only [List.map_cons, PyData.depthAll, PyData.depth, ints_depth ns, Nat.max_self]
theorem int_reads {h : Heap} {v : Value} {n : Int} {bs : List Addr} (r : Reads h v (.int n) bs) : RelV (.int n) v := by
  cases r
  exact ⟨_, rfl⟩
def rMaxID (K : PySem.W.Frag) : List V → List V → Hp → VK → Prop := fun xs zs H Q => ∃ (a : Addr) (ns : List Int) (d : Int), xs = [.ref a] ∧ zs = [.int d] ∧ SqL K H a (ns.map V.int) ∧ Q (.int (match ns with | [] => d | n :: r => r.foldl max n)) H
section
variable {X : Cx}
theorem call_maxID (hc : X.calm = true) (hu : X.A.units + 64 < cLine) : CallRK X (.builtin "max") ["default"] (rMaxID X.K) := by
  intro pins s σ H xs zs us ws Q I r rz h
  obtain ⟨a, ns, d, rfl, rfl, hL, q⟩ := h
  cases r with
  | cons rx rr =>
    cases rr
    cases rx
    cases rz with
    | cons ra rb =>
      cases rb
      obtain ⟨td, rfl⟩ := ra
      obtain ⟨its, rv, pl, _⟩ := I.list hL
      have hr := ints_reads (h := s.heap) rv
      refine max_list_default (xs := ns.map .int) (d := .int d td) (I.ok.hd hc) pl.isList (by simpa using hr) (ints_alike ns) (by rw [ints_depth]; omega) (fun e h' tk k => ?_) fun y ys i v h' tk bs e hv hR k => ?_
      · cases ns with
        | nil => exact ⟨.int d, H, I.kept (t' := tk) k, ⟨td, rfl⟩, q⟩
        | cons n r => cases e
      · cases ns with
        | nil => cases e
        | cons n r =>
          injection e with e1 e2
          subst e1 e2
          rw [maxD_ints] at hR
          exact ⟨.int _, H, I.kept (t' := tk) k, int_reads hR, q⟩
end
end G

end
section
set_option autoImplicit false
/-! ## ways and what becomes of letters: a mirror, and that a lesser body fares no worse -/
namespace M
inductive LW where
  | cut | tell | drop
  deriving DecidableEq
inductive TW where
  | turn | keep | lose
  deriving DecidableEq
mutual
inductive Way where
  | mk (head : Nat) (steps : List Step)
inductive Step where
  | road (size : Nat) (tellS : Bool) (loose : LW)
  | join (most : Nat)
  | tunnel (w : Way) (most : Nat) (t : TW)
end
def Way.head : Way → Nat
  | .mk h _ => h
def Way.steps : Way → List Step
  | .mk _ s => s
inductive Fate where
  | comes (l : List Nat)
  | told (size : Int) (place : List Nat)
  | silent (place : List Nat)
  deriving DecidableEq
/-- what a step makes of stretches; an end as it is seen from the step -/
def parts (c x : Nat) : List Nat := (List.range ((x + c - 1) / c)).map fun k => min c (x - k * c)
def cutAll (c : Nat) (l : List Nat) : List Nat := l.flatMap (parts c)
def road (h size : Nat) (tellS : Bool) (lw : LW) (sealed : Bool) (l : List Nat) : Fate :=
  if ∀ x ∈ l, x ≤ size - h then .comes l
  else if sealed then (if tellS then .told size [] else .silent [])
  else match lw with
    | .cut => .comes (cutAll (size - h) l)
    | .tell => .told size []
    | .drop => .silent []
def join (most : Nat) (l : List Nat) : Fate := if l.length > most then .silent [] else .comes [l.sum]
def turned (ih : Nat) (t : TW) : Fate → Fate
  | .told s p => if t = .turn then .told (s - ih) p else .silent p
  | .silent p => .silent p
  | .comes _ => .silent []
def seen (i : Nat) : Fate → Fate
  | .told s p => .told s (i :: p)
  | .silent p => .silent (i :: p)
  | .comes l => .comes l
/-- the tunnel, by what the inner way makes of each stretch -/
def tunnel (inner : Nat → Fate) (ih most : Nat) (t : TW) (l : List Nat) : List Nat → Fate
  | [] => .comes l
  | x :: r => match inner x with
    | .comes m => if m.length > most then .silent [] else tunnel inner ih most t l r
    | f => turned ih t f
mutual
def Way.walk (sealed : Bool) : Way → Nat → Fate
  | .mk h steps, b => Way.from sealed h steps 0 [b]
def Way.from (sealed : Bool) (h : Nat) : List Step → Nat → List Nat → Fate
  | [], _, l => .comes l
  | s :: r, i, l => match Step.does sealed h s l with
    | .comes m => Way.from sealed h r (i + 1) m
    | f => seen i f
def Step.does (sealed : Bool) (h : Nat) : Step → List Nat → Fate
  | .road size ts lw, l => road h size ts lw sealed l
  | .join most, l => join most l
  | .tunnel w most t, l => tunnel (fun x => Way.walk sealed w (h + x)) w.head most t l l
end
/-! ### truncation -/
def tr : List Nat → Nat → List Nat
  | _, 0 => []
  | [], _ + 1 => []
  | x :: l, b + 1 => if b + 1 ≤ x then [b + 1] else x :: tr l (b + 1 - x)
theorem tr_zero (l : List Nat) : tr l 0 = [] := by cases l <;> rfl
theorem tr_cons {x b : Nat} {l : List Nat} (hb : 0 < b) : tr (x :: l) b = if b ≤ x then [b] else x :: tr l (b - x) := by
  cases b with
  | zero => omega
  | succ b => rfl
theorem tr_nil (b : Nat) : tr [] b = [] := by cases b <;> rfl
theorem tr_mem : ∀ (l : List Nat) (b x : Nat), x ∈ tr l b → ∃ y ∈ l, x ≤ y
  | [], b, x, h => by rw [tr_nil] at h; cases h
  | y :: l, b, x, h => by
    by_cases hb : 0 < b
    · rw [tr_cons hb] at h
      split at h
      · rename_i hy
        have e : x = b := by simpa using h
        exact ⟨y, List.mem_cons_self, by omega⟩
      · rcases List.mem_cons.mp h with e | e
        · exact ⟨y, List.mem_cons_self, by omega⟩
        · obtain ⟨z, hz, hx⟩ := tr_mem l _ x e
          exact ⟨z, List.mem_cons_of_mem _ hz, hx⟩
    · have e : b = 0 := by omega
      subst e
      rw [tr_zero] at h
      cases h
theorem tr_len : ∀ (l : List Nat) (b : Nat), (tr l b).length ≤ l.length
  | [], b => by rw [tr_nil]; exact Nat.le_refl _
  | y :: l, b => by
    by_cases hb : 0 < b
    · rw [tr_cons hb]
      split
      · simp
      · have := tr_len l (b - y)
        simp; omega
    · have e : b = 0 := by omega
      subst e
      rw [tr_zero]; simp
theorem tr_sum : ∀ (l : List Nat) (b : Nat), b ≤ l.sum → (tr l b).sum = b
  | [], b, h => by rw [tr_nil]; simp at h ⊢; omega
  | y :: l, b, h => by
    by_cases hb : 0 < b
    · rw [tr_cons hb]
      split
      · simp
      · simp at h ⊢
        have := tr_sum l (b - y) (by omega)
        omega
    · have e : b = 0 := by omega
      subst e
      rw [tr_zero]; rfl
theorem tr_all {l : List Nat} (h : ∀ x ∈ l, 0 < x) : tr l l.sum = l := by
  induction l with
  | nil => rfl
  | cons x l ih =>
    have hx := h x List.mem_cons_self
    rw [tr_cons (by simp; omega)]
    cases l with
    | nil => simp
    | cons y r =>
      have hy := h y (by simp)
      rw [if_neg (by simp; omega)]
      have e : (x :: y :: r).sum - x = (y :: r).sum := by simp
      rw [e, ih fun z hz => h z (List.mem_cons_of_mem _ hz)]
theorem tr_append : ∀ (l m : List Nat) (b : Nat), tr (l ++ m) b = if b ≤ l.sum then tr l b else l ++ tr m (b - l.sum)
  | [], m, b => by
    cases b with
    | zero => simp [tr_zero]
    | succ b => simp
  | x :: l, m, b => by
    by_cases hb : 0 < b
    · rw [List.cons_append, tr_cons hb, tr_cons hb, tr_append l m (b - x), List.sum_cons]
      by_cases h1 : b ≤ x
      · rw [if_pos h1, if_pos (by omega), if_pos h1]
      · rw [if_neg h1, if_neg h1]
        by_cases h2 : b ≤ x + l.sum
        · rw [if_pos (by omega), if_pos h2]
        · rw [if_neg (by omega), if_neg h2]
          have e : b - x - l.sum = b - (x + l.sum) := by omega
          rw [e]; rfl
    · have e : b = 0 := by omega
      subst e
      simp [tr_zero]
/-! ### cutting -/
theorem parts_small {c x : Nat} (h0 : 0 < x) (h : x ≤ c) : parts c x = [x] := by
  unfold parts
  have e : (x + c - 1) / c = 1 := by
    have e1 : x + c - 1 = (x - 1) + c * 1 := by omega
    rw [e1, Nat.add_mul_div_left _ _ (by omega : 0 < c), Nat.div_eq_of_lt (by omega)]
  rw [e]
  show [min c (x - 0 * c)] = [x]
  rw [Nat.zero_mul, Nat.sub_zero, Nat.min_eq_right h]
theorem parts_more {c x : Nat} (hc : 0 < c) (h : c < x) : parts c x = c :: parts c (x - c) := by
  unfold parts
  have e : (x + c - 1) / c = (x - c + c - 1) / c + 1 := by
    have e1 : x + c - 1 = (x - c + c - 1) + c * 1 := by omega
    rw [e1, Nat.add_mul_div_left _ _ hc]
  rw [e, List.range_succ_eq_map, List.map_cons, List.map_map]
  congr 1
  · rw [Nat.zero_mul, Nat.sub_zero, Nat.min_eq_left (by omega)]
  · apply List.map_congr_left
    intro k _
    show min c (x - (k + 1) * c) = min c (x - c - k * c)
    rw [Nat.succ_mul]
    congr 1
    omega
theorem parts_ind {c : Nat} {P : Nat → Prop} (hc : 0 < c) (small : ∀ x, 0 < x → x ≤ c → P x) (more : ∀ x, c < x → P (x - c) → P x) (x : Nat) (hx : 0 < x) : P x := by
  induction x using Nat.strongRecOn with
  | _ x ih =>
    by_cases h : x ≤ c
    · exact small x hx h
    · exact more x (by omega) (ih (x - c) (by omega) (by omega))
theorem parts_sum {c x : Nat} (hc : 0 < c) (hx : 0 < x) : (parts c x).sum = x := by
  refine parts_ind (P := fun x => (parts c x).sum = x) hc (fun x h1 h2 => ?_) (fun x h1 ih => ?_) x hx
  · rw [parts_small h1 h2]; simp
  · rw [parts_more hc h1, List.sum_cons, ih]; omega
theorem parts_pos {c x : Nat} (hc : 0 < c) (hx : 0 < x) : ∀ y ∈ parts c x, 0 < y ∧ y ≤ c ∧ y ≤ x := by
  refine parts_ind (P := fun x => ∀ y ∈ parts c x, 0 < y ∧ y ≤ c ∧ y ≤ x) hc (fun x h1 h2 => ?_) (fun x h1 ih => ?_) x hx
  · rw [parts_small h1 h2]
    intro y hy
    have e : y = x := by simpa using hy
    omega
  · rw [parts_more hc h1]
    intro y hy
    rcases List.mem_cons.mp hy with e | e
    · omega
    · have := ih y e
      omega
/-- the first piece -/
theorem parts_head {c x : Nat} (hc : 0 < c) (hx : 0 < x) : ∃ r, parts c x = min c x :: r := by
  by_cases h : x ≤ c
  · exact ⟨[], by rw [parts_small hx h, Nat.min_eq_right h]⟩
  · exact ⟨_, by rw [parts_more hc (by omega), Nat.min_eq_left (by omega)]⟩
theorem parts_tr {c : Nat} (hc : 0 < c) (x : Nat) (hx : 0 < x) : ∀ b, 0 < b → b ≤ x → tr (parts c x) b = parts c b := by
  refine parts_ind (P := fun x => ∀ b, 0 < b → b ≤ x → tr (parts c x) b = parts c b) hc (fun x h1 h2 b hb hbx => ?_) (fun x h1 ih b hb hbx => ?_) x hx
  · rw [parts_small h1 h2, tr_cons hb, if_pos hbx, parts_small hb (by omega)]
  · rw [parts_more hc h1, tr_cons hb]
    by_cases h : b ≤ c
    · rw [if_pos h, parts_small hb h]
    · rw [if_neg h, parts_more (x := b) hc (by omega), ih (b - c) (by omega) (by omega)]
theorem cut_sum {c : Nat} (hc : 0 < c) : ∀ {l : List Nat}, (∀ x ∈ l, 0 < x) → (cutAll c l).sum = l.sum
  | [], _ => rfl
  | x :: l, h => by
    show (parts c x ++ cutAll c l).sum = _
    rw [List.sum_append, parts_sum hc (h x List.mem_cons_self), cut_sum hc fun y hy => h y (List.mem_cons_of_mem _ hy), List.sum_cons]
theorem cut_tr {c : Nat} (hc : 0 < c) : ∀ {l : List Nat} {b : Nat}, (∀ x ∈ l, 0 < x) → b ≤ l.sum → cutAll c (tr l b) = tr (cutAll c l) b
  | [], b, _, _ => by rw [tr_nil]; show [] = tr [] b; rw [tr_nil]
  | x :: l, b, h, hb => by
    have hx := h x List.mem_cons_self
    show _ = tr (parts c x ++ cutAll c l) b
    by_cases h0 : 0 < b
    · rw [tr_append, parts_sum hc hx, tr_cons h0]
      by_cases h1 : b ≤ x
      · rw [if_pos h1, if_pos h1, parts_tr hc x hx b h0 h1]
        show parts c b ++ [] = _
        rw [List.append_nil]
      · rw [if_neg h1, if_neg h1]
        show parts c x ++ cutAll c (tr l (b - x)) = _
        rw [cut_tr hc (fun y hy => h y (List.mem_cons_of_mem _ hy)) (by simp at hb; omega)]
    · have e : b = 0 := by omega
      subst e
      rw [tr_zero, tr_zero]; rfl
theorem cut_same {c : Nat} : ∀ {l : List Nat}, (∀ x ∈ l, 0 < x ∧ x ≤ c) → cutAll c l = l
  | [], _ => rfl
  | x :: l, h => by
    show parts c x ++ cutAll c l = _
    have hx := h x List.mem_cons_self
    rw [parts_small hx.1 hx.2, cut_same fun y hy => h y (List.mem_cons_of_mem _ hy)]
    rfl
/-! ### the stretches of a letter, and those of a lesser one -/
/-- stretches of a body b -/
structure Good (b : Nat) (l : List Nat) : Prop where
  sum : l.sum = b
  ne : l ≠ []
  pos : 0 < b → ∀ x ∈ l, 0 < x
  zero : b = 0 → l = [0]
  first : ∀ x ∈ l, x ≤ l.headD 0
/-- stretches of b beside those of a body that is not less -/
def Rel (b : Nat) (l l' : List Nat) : Prop := if b = 0 then l = [0] else l = tr l' b
theorem good_one (b : Nat) : Good b [b] where
  sum := by simp
  ne := by simp
  pos := fun h x hx => by
    have e : x = b := by simpa using hx
    omega
  zero := fun h => by rw [h]
  first := fun x hx => by
    have e : x = b := by simpa using hx
    rw [e]
    exact Nat.le_refl b
theorem rel_one {b b' : Nat} (h : b ≤ b') : Rel b [b] [b'] := by
  unfold Rel
  split
  · rename_i e; rw [e]
  · rw [tr_cons (by omega), if_pos h]
/-- lesser stretches: each at most one of the greater, the first at most the first; no more of them -/
theorem rel_mem {b b' : Nat} {l l' : List Nat} (h : Rel b l l') (g : Good b' l') : ∀ x ∈ l, ∃ y ∈ l', x ≤ y := by
  unfold Rel at h
  split at h
  · subst h
    intro x hx
    have e : x = 0 := by simpa using hx
    cases l' with
    | nil => exact absurd rfl g.ne
    | cons y r => exact ⟨y, List.mem_cons_self, by omega⟩
  · subst h
    exact tr_mem l' b
theorem rel_len {b b' : Nat} {l l' : List Nat} (h : Rel b l l') (g : Good b' l') : l.length ≤ l'.length := by
  unfold Rel at h
  split at h
  · subst h
    cases l' with
    | nil => exact absurd rfl g.ne
    | cons y r => simp
  · subst h
    exact tr_len l' b
theorem good_cut {b c : Nat} {l : List Nat} (hc : 0 < c) (hb : 0 < b) (g : Good b l) : Good b (cutAll c l) := by
  have p := g.pos hb
  obtain ⟨y, r, rfl⟩ : ∃ y r, l = y :: r := by
    cases l with
    | nil => exact absurd rfl g.ne
    | cons y r => exact ⟨y, r, rfl⟩
  obtain ⟨r', hr⟩ := parts_head hc (p y List.mem_cons_self)
  have e : cutAll c (y :: r) = min c y :: (r' ++ cutAll c r) := by
    show parts c y ++ cutAll c r = _
    rw [hr]; rfl
  refine ⟨by rw [cut_sum hc p, g.sum], by rw [e]; simp, fun _ x hx => ?_, fun h => by omega, fun x hx => ?_⟩
  · obtain ⟨z, hz, hx⟩ := List.mem_flatMap.mp hx
    exact (parts_pos hc (p z hz) x hx).1
  · rw [e]
    show x ≤ min c y
    obtain ⟨z, hz, hx⟩ := List.mem_flatMap.mp hx
    have q := parts_pos hc (p z hz) x hx
    have f : z ≤ y := g.first z hz
    omega
mutual
/-- what a way's steps are: sizes above heads, at least one piece put together -/
def Way.ok : Way → Prop
  | .mk h steps => 0 < h ∧ Step.okAll h steps
def Step.okAll (h : Nat) : List Step → Prop
  | [] => True
  | s :: r => Step.ok h s ∧ Step.okAll h r
def Step.ok (h : Nat) : Step → Prop
  | .road size _ _ => h < size
  | .join most => 0 < most
  | .tunnel w most _ => Way.ok w ∧ 0 < most
end
theorem road_comes {h size : Nat} {ts : Bool} {lw : LW} {sealed : Bool} {l m : List Nat} (e : road h size ts lw sealed l = .comes m) : (m = l ∧ ∀ x ∈ l, x ≤ size - h) ∨ (m = cutAll (size - h) l ∧ sealed = false ∧ lw = .cut ∧ ¬ ∀ x ∈ l, x ≤ size - h) := by
  unfold road at e
  split at e
  · rename_i q
    injection e with e
    exact .inl ⟨e.symm, q⟩
  · rename_i q
    split at e
    · split at e <;> cases e
    · rename_i qs
      split at e
      · injection e with e
        exact .inr ⟨e.symm, by simpa using qs, rfl, q⟩
      · cases e
      · cases e
theorem tunnel_comes {inner : Nat → Fate} {ih most : Nat} {t : TW} {l m : List Nat} : ∀ {r : List Nat}, tunnel inner ih most t l r = .comes m → m = l ∧ ∀ x ∈ r, ∃ k, inner x = .comes k ∧ k.length ≤ most
  | [], e => by
    unfold tunnel at e
    injection e with e
    exact ⟨e.symm, fun x hx => by cases hx⟩
  | x :: r, e => by
    unfold tunnel at e
    split at e
    · rename_i k hk
      split at e
      · cases e
      · rename_i hl
        obtain ⟨h1, h2⟩ := tunnel_comes e
        refine ⟨h1, fun y hy => ?_⟩
        rcases List.mem_cons.mp hy with z | z
        · exact ⟨k, z ▸ hk, by omega⟩
        · exact h2 y z
    · rename_i f hf
      cases hi : inner x with
      | comes k => exact absurd hi (hf k)
      | told s p =>
        rw [hi] at e
        simp only [turned] at e
        split at e <;> cases e
      | silent p =>
        rw [hi] at e
        cases e
theorem tunnel_pass {inner : Nat → Fate} {ih most : Nat} {t : TW} {l : List Nat} : ∀ {r : List Nat}, (∀ x ∈ r, ∃ k, inner x = .comes k ∧ k.length ≤ most) → tunnel inner ih most t l r = .comes l
  | [], _ => rfl
  | x :: r, h => by
    obtain ⟨k, e, hk⟩ := h x List.mem_cons_self
    unfold tunnel
    rw [e]
    show (if k.length > most then _ else _) = _
    rw [if_neg (by omega)]
    exact tunnel_pass fun y hy => h y (List.mem_cons_of_mem _ hy)
theorem rel_cut {b b' c : Nat} {l l' : List Nat} (hc : 0 < c) (hle : b ≤ b') (h : Rel b l l') (g : Good b' l') (g0 : Good b l) : Rel b (if b = 0 then l else cutAll c l) (cutAll c l') := by
  unfold Rel at h ⊢
  split
  · rename_i e
    rw [if_pos e] at h
    exact h
  · rename_i e
    rw [if_neg e] at h
    subst h
    exact cut_tr hc (g.pos (by omega)) (by rw [g.sum]; exact hle)
/-- one road, both letters -/
theorem road_mono {h size : Nat} {ts : Bool} {lw : LW} {sealed : Bool} {b b' : Nat} {l l' m' : List Nat} (hs : h < size) (hle : b ≤ b') (g : Good b l) (g' : Good b' l') (r : Rel b l l') (e : road h size ts lw sealed l' = .comes m') :
    ∃ m, road h size ts lw sealed l = .comes m ∧ Good b m ∧ Good b' m' ∧ Rel b m m' := by
  have hc : 0 < size - h := by omega
  rcases road_comes e with ⟨rfl, ha⟩ | ⟨rfl, rfl, rfl, hn⟩
  · have hl : ∀ x ∈ l, x ≤ size - h := fun x hx => by
      obtain ⟨y, hy, hxy⟩ := rel_mem r g' x hx
      exact Nat.le_trans hxy (ha y hy)
    exact ⟨l, by unfold road; rw [if_pos hl], g, g', r⟩
  · have hb' : 0 < b' := by
      rcases Nat.eq_zero_or_pos b' with z | z
      · rw [g'.zero z] at hn
        exact absurd (fun x hx => by have e : x = 0 := by simpa using hx
                                     omega) hn
      · exact z
    have gm' := good_cut hc hb' g'
    have rm := rel_cut hc hle r g' g
    by_cases hl : ∀ x ∈ l, x ≤ size - h
    · refine ⟨l, by unfold road; rw [if_pos hl], g, gm', ?_⟩
      by_cases hb : b = 0
      · rw [if_pos hb] at rm; exact rm
      · rw [if_neg hb, cut_same fun x hx => ⟨g.pos (by omega) x hx, hl x hx⟩] at rm
        exact rm
    · have hb : ¬ b = 0 := fun z => hl fun x hx => by
        rw [g.zero z] at hx
        have e : x = 0 := by simpa using hx
        omega
      rw [if_neg hb] at rm
      exact ⟨_, by unfold road; rw [if_neg hl, if_neg (by simp)], good_cut hc (by omega) g, gm', rm⟩
mutual
/-- a letter that comes does so for each lesser body -/
theorem Way.mono (sealed : Bool) : ∀ (w : Way), w.ok → ∀ (b b' : Nat) (m' : List Nat), b ≤ b' → w.walk sealed b' = .comes m' → ∃ m, w.walk sealed b = .comes m ∧ Good b m ∧ Good b' m' ∧ Rel b m m'
  | .mk h steps, hw, b, b', m', hle, e => Way.from_mono sealed h steps hw.1 hw.2 0 b b' [b] [b'] m' hle (good_one b) (good_one b') (rel_one hle) e
theorem Way.from_mono (sealed : Bool) (h : Nat) : ∀ (steps : List Step), 0 < h → Step.okAll h steps → ∀ (i b b' : Nat) (l l' m' : List Nat), b ≤ b' → Good b l → Good b' l' → Rel b l l' → Way.from sealed h steps i l' = .comes m' →
    ∃ m, Way.from sealed h steps i l = .comes m ∧ Good b m ∧ Good b' m' ∧ Rel b m m'
  | [], _, _, i, b, b', l, l', m', hle, g, g', r, e => by
    unfold Way.from at e
    injection e with e
    subst e
    exact ⟨l, by unfold Way.from; rfl, g, g', r⟩
  | s :: rest, h0, hok, i, b, b', l, l', m', hle, g, g', r, e => by
    unfold Way.from at e
    split at e
    · rename_i k' hk
      obtain ⟨k, e1, gk, gk', rk⟩ := Step.mono sealed h s h0 hok.1 b b' l l' k' hle g g' r hk
      obtain ⟨m, e2, q⟩ := Way.from_mono sealed h rest h0 hok.2 (i + 1) b b' k k' m' hle gk gk' rk e
      exact ⟨m, by unfold Way.from; rw [e1]; exact e2, q⟩
    · rename_i f hf
      cases hd : Step.does sealed h s l' with
      | comes k => exact absurd hd (hf k)
      | told a p => rw [hd] at e; cases e
      | silent p => rw [hd] at e; cases e
theorem Step.mono (sealed : Bool) (h : Nat) : ∀ (s : Step), 0 < h → Step.ok h s → ∀ (b b' : Nat) (l l' m' : List Nat), b ≤ b' → Good b l → Good b' l' → Rel b l l' → Step.does sealed h s l' = .comes m' →
    ∃ m, Step.does sealed h s l = .comes m ∧ Good b m ∧ Good b' m' ∧ Rel b m m'
  | .road size ts lw, _, hok, b, b', l, l', m', hle, g, g', r, e => by
    unfold Step.does at e ⊢
    exact road_mono hok hle g g' r e
  | .join most, _, hok, b, b', l, l', m', hle, g, g', r, e => by
    unfold Step.does join at e
    split at e
    · cases e
    · rename_i q
      injection e with e
      subst e
      refine ⟨[b], ?_, good_one b, by rw [g'.sum]; exact good_one b', by rw [g'.sum]; exact rel_one hle⟩
      unfold Step.does join
      rw [if_neg (by have := rel_len r g'; omega), g.sum]
  | .tunnel w most t, _, hok, b, b', l, l', m', hle, g, g', r, e => by
    unfold Step.does at e ⊢
    obtain ⟨rfl, ha⟩ := tunnel_comes e
    refine ⟨l, tunnel_pass fun x hx => ?_, g, g', r⟩
    obtain ⟨y, hy, hxy⟩ := rel_mem r g' x hx
    obtain ⟨k', hk', hl'⟩ := ha y hy
    obtain ⟨k, hk, gk, gk', rk⟩ := Way.mono sealed w hok.1 (h + x) (h + y) k' (by omega) hk'
    exact ⟨k, hk, by have := rel_len rk gk'; omega⟩
end
/-- a sealed letter is one piece -/
theorem Way.from_sealed (h : Nat) : ∀ (steps : List Step) (i b : Nat) (m : List Nat), Way.from true h steps i [b] = .comes m → m = [b]
  | [], i, b, m, e => by
    unfold Way.from at e
    injection e with e
    exact e.symm
  | s :: rest, i, b, m, e => by
    unfold Way.from at e
    split at e
    · rename_i k hk
      have hb : k = [b] := by
        cases s with
        | road size ts lw =>
          unfold Step.does at hk
          rcases road_comes hk with ⟨q, _⟩ | ⟨_, q, _⟩
          · exact q
          · cases q
        | join most =>
          unfold Step.does join at hk
          split at hk
          · cases hk
          · injection hk with hk
            simpa using hk.symm
        | tunnel w most t =>
          unfold Step.does at hk
          exact (tunnel_comes hk).1
      subst hb
      exact Way.from_sealed h rest (i + 1) b m e
    · rename_i f hf
      cases hd : Step.does true h s [b] with
      | comes k => exact absurd hd (hf k)
      | told a p => rw [hd] at e; cases e
      | silent p => rw [hd] at e; cases e
theorem Way.walk_sealed (w : Way) (b : Nat) (m : List Nat) (e : w.walk true b = .comes m) : m = [b] := by
  obtain ⟨h, steps⟩ := w
  exact Way.from_sealed h steps 0 b m e
theorem from_cons (sealed : Bool) (h : Nat) (x : Step) (s : List Step) (i : Nat) (l : List Nat) : Way.from sealed h (x :: s) i l = match Step.does sealed h x l with
    | .comes m => Way.from sealed h s (i + 1) m
    | f => seen i f := by
  conv => lhs; unfold Way.from
/-- one way behind another -/
theorem Way.from_append (sealed : Bool) (h : Nat) (r : List Step) : ∀ (s : List Step) (i : Nat) (l : List Nat), Way.from sealed h (s ++ r) i l = match Way.from sealed h s i l with
    | .comes m => Way.from sealed h r (i + s.length) m
    | f => f
  | [], i, l => by
    show Way.from sealed h r i l = _
    rw [show Way.from sealed h [] i l = .comes l by unfold Way.from; rfl]
    rfl
  | x :: s, i, l => by
    rw [List.cons_append, from_cons, from_cons]
    cases hd : Step.does sealed h x l with
    | comes k =>
      show Way.from sealed h (s ++ r) (i + 1) k = _
      rw [Way.from_append sealed h r s (i + 1) k]
      have e : i + 1 + s.length = i + (x :: s).length := by simp; omega
      rw [e]
    | told a p => rfl
    | silent p => rfl
/-- the places of the steps behind i: as if the way began there -/
def shift (i : Nat) : Fate → Fate
  | .told s (p :: q) => .told s ((p + i) :: q)
  | .silent (p :: q) => .silent ((p + i) :: q)
  | f => f
theorem shift_seen (i j : Nat) (f : Fate) : shift i (seen j f) = seen (j + i) f := by cases f <;> rfl
theorem Way.from_shift (sealed : Bool) (h i : Nat) : ∀ (s : List Step) (j : Nat) (l : List Nat), Way.from sealed h s (j + i) l = shift i (Way.from sealed h s j l)
  | [], j, l => by
    rw [show Way.from sealed h [] j l = .comes l by unfold Way.from; rfl, show Way.from sealed h [] (j + i) l = .comes l by unfold Way.from; rfl]
    rfl
  | x :: s, j, l => by
    rw [from_cons, from_cons]
    cases hd : Step.does sealed h x l with
    | comes k =>
      show Way.from sealed h s (j + i + 1) k = shift i (Way.from sealed h s (j + 1) k)
      rw [show j + i + 1 = j + 1 + i by omega]
      exact Way.from_shift sealed h i s (j + 1) k
    | told a p => exact (shift_seen i j _).symm
    | silent p => exact (shift_seen i j _).symm
end M

end
section
set_option Elab.async false
set_option linter.all false
set_option maxRecDepth 100000
set_option maxHeartbeats 4000000
/-! ## the program's ways: good ones -/
namespace WP
open PySem L2 G
def top (i : Nat) : Stmt := PySem.Challenge.pw_roadsizes_k81_texts_refused.main.body.getD i (.Pass ⟨0, 0, 0, 0⟩)
abbrev sInteger : Stmt := top 3
abbrev sWithin : Stmt := top 4
abbrev sMost : Stmt := top 30
abbrev sList : Stmt := top 28
abbrev sStep : Stmt := top 32
abbrev sRoad : Stmt := top 29
abbrev sTells : Stmt := top 31
abbrev sHead : Stmt := top 27
abbrev sInit : Stmt := inClass (top 26) 0
abbrev sLen : Stmt := inClass (top 26) 1
abbrev sAdd : Stmt := inClass (top 26) 5
structure Bn (mg : Str → Option Value) : Prop where
  isi : mg "isinstance" = none
  bool : mg "bool" = none
  int : mg "int" = none
  tuple : mg "tuple" = none
  list : mg "list" = none
  len : mg "len" = none
  enum : mg "enumerate" = none
  max : mg "max" = none
  sum : mg "sum" = none
section
variable {P : Program} {w : World} {K : PySem.W.Frag} {mg : Str → Option Value} {base : Heap}
def spInteger : Sp := fun vs H Q _ => ∃ v : Int, vs = [.int v] ∧ Q (.bl true) H
theorem scIn : FnScope ["value"] ["value"] (defScope sInteger) := ⟨rfl, rfl, rfl, by decide +kernel, rfl, by decide +kernel, by decide +kernel⟩
theorem ok_integer {f : Addr} {fd : FuncData} (F : Fun K "is_integer" "is_integer" sInteger f fd) (B : Bn mg) : FnOk P w K mg base CX0 1 f fd ["value"] spInteger := by
  refine F.ok scIn (fun vs H Q E h => ?_) (fun cdv A outer s H vs Q E hr h => ?_)
  · obtain ⟨v, rfl, _⟩ := h
    rfl
  · obtain ⟨v, rfl, k⟩ := h
    refine ⟨_, pss_one (ps_ret (pe_and (pe_callB call_isi (by rfl) B.isi (by decide +kernel) (pa_cons (pv 0) (pa_cons (pe_bltn (v := .ty "int") (by rfl) B.int (by decide +kernel) rfl) pa_nil)))
      (pe_one (pe_not (pe_callB call_isi (by rfl) B.isi (by decide +kernel) (pa_cons (pv 0) (pa_cons (pe_bltn (v := .ty "bool") (by rfl) B.bool (by decide +kernel) rfl) pa_nil))))))), ?_⟩
    exact ⟨_, rfl, _, _, _, _, _, rfl, .ty _, .base (.int _), kit_ty (r := true) (by decide +kernel), _, rfl, iteT ⟨_, rfl, _, _, _, _, _, rfl, .ty _, .base (.int _), kit_ty (r := false) (by decide +kernel), _, rfl, k⟩⟩
def spWithin : Sp := fun vs H Q _ => ∃ v a b : Int, vs = [.int v, .int a, .int b] ∧ Q (.bl (decide (a ≤ v ∧ v ≤ b))) H
theorem sc3 : FnScope ["value", "least", "greatest"] ["value", "least", "greatest"] (defScope sWithin) := ⟨rfl, rfl, rfl, by decide +kernel, rfl, by decide +kernel, by decide +kernel⟩
theorem ok_within {f fI : Addr} {fd fdI : FuncData} (F : Fun K "is_within" "is_within" sWithin f fd) (B : Bn mg) (FI : Fun K "is_integer" "is_integer" sInteger fI fdI) (gI : mg "is_integer" = some (.ref fI)) (bI : Binds K fdI ["value"] []) : FnOk P w K mg base CX0 2 f fd ["value", "least", "greatest"] spWithin := by
  have GI : FnOk P w K mg base CX0 1 fI fdI ["value"] spInteger := ok_integer FI B
  refine F.ok sc3 (fun vs H Q E h => ?_) (fun cdv A outer s H vs Q E hr h => ?_)
  · obtain ⟨v, a, b, rfl, _⟩ := h
    rfl
  · obtain ⟨v, a, b, rfl, k⟩ := h
    refine ⟨_, pss_one (ps_ret (pe_and (pe_call GI hr rfl gI FI.kp bI .nil pass0 (pa_cons (pv 0) pa_nil)) (pe_one (pe_chain op_le op_le (pv 1) (pv 0) (pv 2))))), ?_⟩
    refine ⟨_, rfl, v, rfl, _, rfl, iteT ?_⟩
    refine ⟨_, rfl, _, rfl, _, _, rfl, rfl, _, rfl, ?_⟩
    refine ite2 (fun h1 => ⟨_, rfl, _, _, rfl, rfl, ?_⟩) (fun h1 => ?_)
    · have e1 : a ≤ v := of_decide_eq_true h1
      have e : decide (a ≤ v ∧ v ≤ b) = decide (v ≤ b) := by
        by_cases z : v ≤ b
        · rw [decide_eq_true z, decide_eq_true ⟨e1, z⟩]
        · rw [decide_eq_false z, decide_eq_false fun q => z q.2]
      rw [e] at k
      exact k
    · have e : decide (a ≤ v ∧ v ≤ b) = false := decide_eq_false fun q => h1 (decide_eq_true q.1)
      rw [e] at k
      exact k
/-- is_body, _is_most of ints -/
def spIn1 (a b : Int) : Sp := fun vs H Q _ => ∃ v : Int, vs = [.int v] ∧ Q (.bl (decide (a ≤ v ∧ v ≤ b))) H
structure Wi (P : Program) (w : World) (K : PySem.W.Frag) (mg : Str → Option Value) (base : Heap) (f : Addr) (fd : FuncData) : Prop where
  ok : FnOk P w K mg base CX0 2 f fd ["value", "least", "greatest"] spWithin
  g : mg "is_within" = some (.ref f)
  k : PySem.W.keepIn K (.ref f) = true
  b : Binds K fd ["value", "least", "greatest"] []
theorem scM : FnScope ["value"] ["value"] (defScope sMost) := ⟨rfl, rfl, rfl, by decide +kernel, rfl, by decide +kernel, by decide +kernel⟩
theorem ok_most {f fW : Addr} {fd fdW : FuncData} {t : Tok} (F : Fun K "is_most" "is_most" sMost f fd) (W : Wi P w K mg base fW fdW) (g : mg "GREATEST_MOST" = some (.int 1000000000000 t)) : FnOk P w K mg base CX0 3 f fd ["value"] (spIn1 1 1000000000000) := by
  refine F.ok scM (fun vs H Q E h => ?_) (fun cdv A outer s H vs Q E hr h => ?_)
  · obtain ⟨v, rfl, _⟩ := h
    rfl
  · obtain ⟨v, rfl, k⟩ := h
    exact ⟨_, pss_one (ps_ret (pe_call W.ok hr rfl W.g W.k W.b .nil pass0 (pa_cons (pv 0) (pa_cons pe_int (pa_cons (pe_glob (v := .int 1000000000000) rfl g ⟨_, rfl⟩) pa_nil))))), _, rfl, v, 1, 1000000000000, rfl, k⟩
theorem scHd : FnScope ["value"] ["value"] (defScope sHead) := ⟨rfl, rfl, rfl, by decide +kernel, rfl, by decide +kernel, by decide +kernel⟩
theorem ok_head {f fW : Addr} {fd fdW : FuncData} {t : Tok} (F : Fun K "is_head" "is_head" sHead f fd) (W : Wi P w K mg base fW fdW) (g : mg "GREATEST_HEAD" = some (.int 40 t)) : FnOk P w K mg base CX0 3 f fd ["value"] (spIn1 1 40) := by
  refine F.ok scHd (fun vs H Q E h => ?_) (fun cdv A outer s H vs Q E hr h => ?_)
  · obtain ⟨v, rfl, _⟩ := h
    rfl
  · obtain ⟨v, rfl, k⟩ := h
    exact ⟨_, pss_one (ps_ret (pe_call W.ok hr rfl W.g W.k W.b .nil pass0 (pa_cons (pv 0) (pa_cons pe_int (pa_cons (pe_glob (v := .int 40) rfl g ⟨_, rfl⟩) pa_nil))))), _, rfl, v, 1, 40, rfl, k⟩
end
end WP

end
section
set_option Elab.async false
set_option linter.all false
set_option maxRecDepth 100000
set_option maxHeartbeats 4000000
/-! ## ways on the heap -/
namespace M
mutual
def Way.depth : Way → Nat
  | .mk _ s => 1 + Step.deepest s
def Step.deepest : List Step → Nat
  | [] => 0
  | .tunnel w _ _ :: r => max w.depth (Step.deepest r)
  | .road _ _ _ :: r => Step.deepest r
  | .join _ :: r => Step.deepest r
end
mutual
def Way.size : Way → Nat
  | .mk _ s => s.length + Step.inner s
def Step.inner : List Step → Nat
  | [] => 0
  | .tunnel w _ _ :: r => w.size + Step.inner r
  | .road _ _ _ :: r => Step.inner r
  | .join _ :: r => Step.inner r
end
mutual
/-- a way that the program takes -/
def Way.fine : Way → Prop
  | .mk h s => (1 ≤ h ∧ h ≤ 40) ∧ (1 ≤ s.length ∧ s.length ≤ 12) ∧ Step.fineAll h s ∧ 1 + Step.deepest s ≤ 3 ∧ s.length + Step.inner s ≤ 40
def Step.fineAll (h : Nat) : List Step → Prop
  | [] => True
  | s :: r => Step.fine h s ∧ Step.fineAll h r
def Step.fine (h : Nat) : Step → Prop
  | .road size _ _ => h < size ∧ size ≤ 1000
  | .join most => 1 ≤ most ∧ most ≤ 1000000000000
  | .tunnel w most _ => Way.fine w ∧ 1 ≤ most ∧ most ≤ 1000000000000
end
end M
namespace WP
open PySem L2 G
def sdS (b : Bool) : Str := if b then "tell" else "drop"
def lwS : M.LW → Str
  | .cut => "cut"
  | .tell => "tell"
  | .drop => "drop"
def twS : M.TW → Str
  | .turn => "turn"
  | .keep => "keep"
  | .lose => "lose"
def flds (h : Int) (t : Addr) (D Z : Int) : List (Str × V) := putF "size" (.int Z) (putF "depth" (.int D) (putF "steps" (.ref t) (putF "head" (.int h) [])))
theorem nk : ¬ (("head" : Str) = "steps") ∧ ¬ (("head" : Str) = "depth") ∧ ¬ (("head" : Str) = "size") ∧ ¬ (("steps" : Str) = "depth") ∧ ¬ (("steps" : Str) = "size") ∧ ¬ (("depth" : Str) = "size") := by decide +kernel
theorem flds_head (h : Int) (t : Addr) (D Z : Int) : (flds h t D Z).lookup ("head" : Str) = some (.int h) := by
  unfold flds
  rw [lookup_putF, if_neg nk.2.2.1, lookup_putF, if_neg nk.2.1, lookup_putF, if_neg nk.1, lookup_putF, if_pos rfl]
theorem flds_steps (h : Int) (t : Addr) (D Z : Int) : (flds h t D Z).lookup ("steps" : Str) = some (.ref t) := by
  unfold flds
  rw [lookup_putF, if_neg nk.2.2.2.2.1, lookup_putF, if_neg nk.2.2.2.1, lookup_putF, if_pos rfl]
theorem flds_depth (h : Int) (t : Addr) (D Z : Int) : (flds h t D Z).lookup ("depth" : Str) = some (.int D) := by
  unfold flds
  rw [lookup_putF, if_neg nk.2.2.2.2.2, lookup_putF, if_pos rfl]
theorem flds_size (h : Int) (t : Addr) (D Z : Int) : (flds h t D Z).lookup ("size" : Str) = some (.int Z) := by
  unfold flds
  rw [lookup_putF, if_pos rfl]
mutual
/-- a way stands at a -/
def WayAt (C : Addr) (H : Hp) : M.Way → Addr → Prop
  | .mk h s, a => ∃ dx t xs, H a = some (.ins C dx (flds h t ((1 + M.Step.deepest s : Nat) : Int) ((s.length + M.Step.inner s : Nat) : Int))) ∧ H t = some (.tup xs) ∧ StepsAt C H s xs
def StepsAt (C : Addr) (H : Hp) : List M.Step → List V → Prop
  | [], xs => xs = []
  | s :: r, xs => ∃ x ys, xs = x :: ys ∧ StepAt C H s x ∧ StepsAt C H r ys
def StepAt (C : Addr) (H : Hp) : M.Step → V → Prop
  | .road size ts lw, x => ∃ t, x = .ref t ∧ H t = some (.tup [.str "road", .int (size : Int), .str (sdS ts), .str (lwS lw)])
  | .join most, x => ∃ t, x = .ref t ∧ H t = some (.tup [.str "join", .int (most : Int)])
  | .tunnel w most tw, x => ∃ t a, x = .ref t ∧ H t = some (.tup [.str "tunnel", .ref a, .int (most : Int), .str (twS tw)]) ∧ WayAt C H w a
end
mutual
theorem WayAt.mono {C : Addr} {H H' : Hp} (s : Same H H') : ∀ {w : M.Way} {a : Addr}, WayAt C H w a → WayAt C H' w a
  | .mk h st, a, x => by
    unfold WayAt at x ⊢
    obtain ⟨dx, t, xs, h1, h2, h3⟩ := x
    exact ⟨dx, t, xs, s _ _ h1, s _ _ h2, StepsAt.mono s h3⟩
theorem StepsAt.mono {C : Addr} {H H' : Hp} (s : Same H H') : ∀ {st : List M.Step} {xs : List V}, StepsAt C H st xs → StepsAt C H' st xs
  | [], xs, x => by
    unfold StepsAt at x ⊢
    exact x
  | y :: r, xs, x => by
    unfold StepsAt at x ⊢
    obtain ⟨u, ys, e, h1, h2⟩ := x
    exact ⟨u, ys, e, StepAt.mono s h1, StepsAt.mono s h2⟩
theorem StepAt.mono {C : Addr} {H H' : Hp} (s : Same H H') : ∀ {st : M.Step} {x : V}, StepAt C H st x → StepAt C H' st x
  | .road size ts lw, v, x => by
    unfold StepAt at x ⊢
    obtain ⟨t, e, h⟩ := x
    exact ⟨t, e, s _ _ h⟩
  | .join most, v, x => by
    unfold StepAt at x ⊢
    obtain ⟨t, e, h⟩ := x
    exact ⟨t, e, s _ _ h⟩
  | .tunnel w most tw, v, x => by
    unfold StepAt at x ⊢
    obtain ⟨t, a, e, h, h2⟩ := x
    exact ⟨t, a, e, s _ _ h, WayAt.mono s h2⟩
end
theorem StepsAt.get {C : Addr} {H : Hp} : ∀ {st : List M.Step} {xs : List V} {i : Nat} {x : V}, StepsAt C H st xs → xs[i]? = some x → ∃ s, st[i]? = some s ∧ StepAt C H s x
  | [], xs, i, x, h, e => by
    unfold StepsAt at h
    subst h
    cases e
  | y :: r, xs, 0, x, h, e => by
    unfold StepsAt at h
    obtain ⟨u, ys, rfl, h1, _⟩ := h
    cases e
    exact ⟨y, rfl, h1⟩
  | y :: r, xs, i + 1, x, h, e => by
    unfold StepsAt at h
    obtain ⟨u, ys, rfl, _, h2⟩ := h
    obtain ⟨s, a, b⟩ := StepsAt.get (i := i) h2 e
    exact ⟨s, a, b⟩
theorem StepsAt.len {C : Addr} {H : Hp} : ∀ {st : List M.Step} {xs : List V}, StepsAt C H st xs → xs.length = st.length
  | [], xs, h => by
    unfold StepsAt at h
    subst h
    rfl
  | y :: r, xs, h => by
    unfold StepsAt at h
    obtain ⟨u, ys, rfl, _, h2⟩ := h
    exact congrArg Nat.succ h2.len
theorem fine_get {h : Nat} : ∀ {st : List M.Step} {i : Nat} {s : M.Step}, M.Step.fineAll h st → st[i]? = some s → M.Step.fine h s
  | [], i, s, _, e => by cases e
  | y :: r, 0, s, f, e => by
    unfold M.Step.fineAll at f
    cases e
    exact f.1
  | y :: r, i + 1, s, f, e => by
    unfold M.Step.fineAll at f
    exact fine_get (i := i) f.2 e
end WP

end
section
set_option Elab.async false
set_option linter.all false
set_option maxRecDepth 100000
set_option maxHeartbeats 4000000
namespace WP
open PySem L2 G
theorem Same.of_upd {H : Hp} {p : Addr} {o : HO} (h : H p = none) : Same H (upd H p o) := fun a u e => by
  rw [upd_ne (ne_of_none e h)]
  exact e
/-- the class Way, the module's constants -/
structure Wt (K : PySem.W.Frag) (mg : Str → Option Value) (C : Addr) : Prop where
  g : mg "Way" = some (.ref C)
  cl : Cls K C
  nH : NoAttr K C "head"
  nS : NoAttr K C "steps"
  nD : NoAttr K C "depth"
  nZ : NoAttr K C "size"
  iA : PySem.W.findIn K (.ref C) "__class__" = some (some (.builtin "object.__class__"))
  iN : PySem.W.specialIn K (.builtin "object.__class__") "__get__" = some (some (.builtin "getset_descriptor.__get__"))
  iT : PySem.W.takesIn K (.builtin "object.__class__") = some true
  iM : PySem.W.mroIn K C (.type "object") = some true
  gHead : ∃ t, mg "GREATEST_HEAD" = some (.int 40 t)
  gRoad : ∃ t, mg "GREATEST_ROAD" = some (.int 1000 t)
  gMost : ∃ t, mg "GREATEST_MOST" = some (.int 1000000000000 t)
  gSteps : ∃ t, mg "MOST_STEPS" = some (.int 12 t)
  gDepth : ∃ t, mg "GREATEST_DEPTH" = some (.int 3 t)
  gSize : ∃ t, mg "GREATEST_SIZE" = some (.int 40 t)
  wS : ∃ a, mg "SEALED_WORDS" = some (.ref a) ∧ ∀ H, SqT K H a [.str "tell", .str "drop"]
  wL : ∃ a, mg "LOOSE_WORDS" = some (.ref a) ∧ ∀ H, SqT K H a [.str "cut", .str "tell", .str "drop"]
  wT : ∃ a, mg "TELLS_WORDS" = some (.ref a) ∧ ∀ H, SqT K H a [.str "turn", .str "keep", .str "lose"]
/-- a def of the text that is called by its name -/
structure Df (P : Program) (w : World) (K : PySem.W.Frag) (mg : Str → Option Value) (base : Heap) (k : Nat) (x : Str) (ps : List Str) (sp : Sp) : Prop where
  ex : ∃ (f : Addr) (fd : FuncData), FnOk P w K mg base CX0 k f fd ps sp ∧ mg x = some (.ref f) ∧ PySem.W.keepIn K (.ref f) = true ∧ Binds K fd ps []
section
variable {P : Program} {w : World} {K : PySem.W.Frag} {mg : Str → Option Value} {base : Heap} {C : Addr}
def spRoad : Sp := fun vs H Q _ => ∃ (size : Nat) (least : Int) (ts : Bool) (lw : M.LW), vs = [.int (size : Int), .str (sdS ts), .str (lwS lw), .int least] ∧ least ≤ (size : Int) ∧ size ≤ 1000 ∧ Q (.bl true) H
theorem in_sd (b : Bool) : inV (.str (sdS b)) [.str "tell", .str "drop"] = true := by cases b <;> decide +kernel
theorem in_lw (l : M.LW) : inV (.str (lwS l)) [.str "cut", .str "tell", .str "drop"] = true := by cases l <;> decide +kernel
theorem in_tw (l : M.TW) : inV (.str (twS l)) [.str "turn", .str "keep", .str "lose"] = true := by cases l <;> decide +kernel
theorem scR : FnScope ["size", "sealed", "loose", "least"] ["size", "sealed", "loose", "least"] (defScope sRoad) := ⟨rfl, rfl, rfl, by decide +kernel, rfl, by decide +kernel, by decide +kernel⟩
theorem ok_road {f : Addr} {fd : FuncData} (F : Fun K "is_road" "is_road" sRoad f fd) (T : Wt K mg C) (W : Df P w K mg base 2 "is_within" ["value", "least", "greatest"] spWithin) : FnOk P w K mg base CX0 3 f fd ["size", "sealed", "loose", "least"] spRoad := by
  obtain ⟨fW, fdW, GW, gW, kW, bW⟩ := W.ex
  obtain ⟨t1, g1⟩ := T.gRoad
  obtain ⟨aS, g2, q2⟩ := T.wS
  obtain ⟨aL, g3, q3⟩ := T.wL
  refine F.ok scR (fun vs H Q E h => ?_) (fun cdv A outer s H vs Q E hr h => ?_)
  · obtain ⟨size, least, ts, lw, rfl, _⟩ := h
    rfl
  · obtain ⟨size, least, ts, lw, rfl, hs, hs2, k⟩ := h
    refine ⟨_, pss_one (ps_ret (pe_and (pe_call GW hr rfl gW kW bW .nil pass0 (pa_cons (pv 0) (pa_cons (pv 3) (pa_cons (pe_glob (v := .int 1000) rfl g1 ⟨_, rfl⟩) pa_nil)))) (pe_and (pe_cmpR op_in_seq (pv 1) (pe_glob (v := .ref aS) rfl g2 rfl) (by rfl)) (pe_one (pe_cmpR op_in_seq (pv 2) (pe_glob (v := .ref aL) rfl g3 rfl) (by rfl)))))), ?_⟩
    have e : decide (least ≤ (size : Int) ∧ (size : Int) ≤ 1000) = true := decide_eq_true (by omega)
    refine ⟨_, rfl, _, rfl, (size : Int), least, 1000, rfl, ?_⟩
    rw [e]
    refine ⟨_, rfl, ?_⟩
    refine iteT ⟨_, rfl, aS, _, rfl, .inr (q2 _), rfl, rfl, ?_⟩
    rw [in_sd]
    refine ⟨_, rfl, iteT ⟨_, rfl, aL, _, rfl, .inr (q3 _), rfl, rfl, ?_⟩⟩
    rw [in_lw]
    exact k
def spTells : Sp := fun vs H Q _ => ∃ tw : M.TW, vs = [.str (twS tw)] ∧ Q (.bl true) H
theorem scT : FnScope ["value"] ["value"] (defScope sTells) := ⟨rfl, rfl, rfl, by decide +kernel, rfl, by decide +kernel, by decide +kernel⟩
theorem ok_tells {f : Addr} {fd : FuncData} (F : Fun K "is_tells" "is_tells" sTells f fd) (T : Wt K mg C) : FnOk P w K mg base CX0 1 f fd ["value"] spTells := by
  obtain ⟨aT, g2, q2⟩ := T.wT
  refine F.ok scT (fun vs H Q E h => ?_) (fun cdv A outer s H vs Q E hr h => ?_)
  · obtain ⟨tw, rfl, _⟩ := h
    rfl
  · obtain ⟨tw, rfl, k⟩ := h
    refine ⟨_, pss_one (ps_ret (pe_cmpR op_in_seq (pv 0) (pe_glob (v := .ref aT) rfl g2 rfl) (by rfl))), ?_⟩
    refine ⟨_, rfl, aT, _, rfl, .inr (q2 _), rfl, rfl, ?_⟩
    rw [in_tw]
    exact k
/-- is_step_list, of a list or a tuple -/
def spList (K : PySem.W.Frag) : Sp := fun vs H Q _ => ∃ (l : Addr) (xs : List V), vs = [.ref l] ∧ (H l = some (.lst xs) ∨ H l = some (.tup xs)) ∧ 1 ≤ xs.length ∧ xs.length ≤ 12 ∧ ∀ H', Same H H' → Q (.bl true) H'
theorem scLi : FnScope ["value"] ["value"] (defScope sList) := ⟨rfl, rfl, rfl, by decide +kernel, rfl, by decide +kernel, by decide +kernel⟩
theorem ok_list {f : Addr} {fd : FuncData} (F : Fun K "is_step_list" "is_step_list" sList f fd) (B : Bn mg) (T : Wt K mg C) : FnOk P w K mg base CX0 1 f fd ["value"] (spList K) := by
  obtain ⟨t1, g1⟩ := T.gSteps
  refine F.ok scLi (fun vs H Q E h => ?_) (fun cdv A outer s H vs Q E hr h => ?_)
  · obtain ⟨l, xs, rfl, _⟩ := h
    rfl
  · obtain ⟨l, xs, rfl, hl, l1, l2, k⟩ := h
    refine ⟨_, pss_one (ps_ret (pe_and (pe_callB call_isiT (by rfl) B.isi (by decide +kernel) (pa_cons (pv 0) (pa_cons (pe_tup (pa_cons (pe_bltn (v := .ty "list") (by rfl) B.list (by decide +kernel) rfl) (pa_cons (pe_bltn (v := .ty "tuple") (by rfl) B.tuple (by decide +kernel) rfl) pa_nil))) pa_nil)))
      (pe_one (pe_chain op_le op_le pe_int (pe_callB call_len_seq (by rfl) B.len PySem.boot_len (pa_cons (pv 0) pa_nil)) (pe_glob (v := .int 12) rfl g1 ⟨_, rfl⟩))))), ?_⟩
    refine ⟨_, rfl, by show 2 ≤ sizeLine; decide, fun p np => ?_⟩
    have sp : Same H (upd H p (.tup [.ty "list", .ty "tuple"])) := Same.of_upd np
    have fin : ∀ (n : Int), n = (xs.length : Int) → ∀ Q' : VK, (∀ H', Same H H' → Q' (.bl true) H') → (∃ i j, V.int 1 = .int i ∧ V.int n = .int j ∧ ∃ k, V.bl (decide (i ≤ j)) = .bl k ∧ if k = true then ∃ i2 j2, V.int n = .int i2 ∧ V.int 12 = .int j2 ∧ Q' (.bl (decide (i2 ≤ j2))) (upd H p (.tup [.ty "list", .ty "tuple"])) else Q' (.bl false) (upd H p (.tup [.ty "list", .ty "tuple"]))) := by
      intro n hn Q' k'
      refine ⟨_, _, rfl, rfl, _, rfl, ?_⟩
      rw [decide_eq_true (by omega)]
      refine iteT ⟨_, _, rfl, rfl, ?_⟩
      rw [decide_eq_true (by omega)]
      exact k' _ sp
    have kl : PySem.W.kitAny K (.type "list") [.type "list", .type "tuple"] = some true := by
      unfold PySem.W.kitAny
      rw [kit_ty (r := true) (by decide +kernel)]
    have kt : PySem.W.kitAny K (.type "tuple") [.type "list", .type "tuple"] = some true := by
      unfold PySem.W.kitAny
      rw [kit_ty (r := false) (by decide +kernel)]
      unfold PySem.W.kitAny
      rw [kit_ty (r := true) (by decide +kernel)]
    rcases hl with hl | hl
    · exact ⟨_, p, _, _, _, _, rfl, upd_same, .cons (.ty _) (.cons (.ty _) .nil), .base (.lst (sp _ _ hl)), kl, _, rfl, iteT ⟨_, rfl, l, xs, rfl, .inl (SqL.of (sp _ _ hl)), fin _ rfl _ k⟩⟩
    · exact ⟨_, p, _, _, _, _, rfl, upd_same, .cons (.ty _) (.cons (.ty _) .nil), .base (.tup (sp _ _ hl)), kt, _, rfl, iteT ⟨_, rfl, l, xs, rfl, .inr (SqT.of (sp _ _ hl)), fin _ rfl _ k⟩⟩
/-- _is_step of a good step -/
def spStep (C : Addr) : Sp := fun vs H Q _ => ∃ (x : V) (h : Nat) (st : M.Step), vs = [x, .int (h : Int)] ∧ StepAt C H st x ∧ M.Step.fine h st ∧ Q (.bl true) H
theorem scSt : FnScope ["value", "head", "kind"] ["value", "head"] (defScope sStep) := ⟨rfl, rfl, rfl, by decide +kernel, rfl, by decide +kernel, by decide +kernel⟩
theorem kinds : ("road" : Str) ≠ "join" ∧ ("road" : Str) ≠ "tunnel" ∧ ("join" : Str) ≠ "tunnel" ∧ ("join" : Str) ≠ "road" ∧ ("tunnel" : Str) ≠ "road" ∧ ("tunnel" : Str) ≠ "join" := by decide +kernel
theorem ok_step {f : Addr} {fd : FuncData} (F : Fun K "_is_step" "_is_step" sStep f fd) (B : Bn mg) (T : Wt K mg C) (WR : Df P w K mg base 3 "is_road" ["size", "sealed", "loose", "least"] spRoad) (WM : Df P w K mg base 3 "is_most" ["value"] (spIn1 1 1000000000000)) (WT : Df P w K mg base 1 "is_tells" ["value"] spTells) :
    FnOk P w K mg base CX0 5 f fd ["value", "head"] (spStep C) := by
  obtain ⟨fR, fdR, GR, gR, kR, bR⟩ := WR.ex
  obtain ⟨fM, fdM, GM, gM, kM, bM⟩ := WM.ex
  obtain ⟨fT, fdT, GT, gT, kT, bT⟩ := WT.ex
  refine F.ok scSt (fun vs H Q E h => ?_) (fun cdv A outer s H vs Q E hr h => ?_)
  · obtain ⟨x, h, st, rfl, _⟩ := h
    rfl
  · obtain ⟨x, h, st, rfl, hx, hf, k⟩ := h
    refine ⟨_, pss_cons (ps_if (PW.pt (pw_or (pt_not (pt_val (pe_callB call_isi (by rfl) B.isi (by decide +kernel) (pa_cons (pv 0) (pa_cons (pe_bltn (v := .ty "tuple") (by rfl) B.tuple (by decide +kernel) rfl) pa_nil))))) (pw_or1 (pt_cmpR (op_eq) (pe_callB call_len_seq (by rfl) B.len PySem.boot_len (pa_cons (pv 0) pa_nil)) (pe_int) (nomark _))))) (pss_one (ps_ret pe_bl)) (pss_nil))
      (pss_cons (ps_set (i := 2) scSt.nd rfl (Or.inl rfl) (pe_ix ix_tup (pv 0) pe_int (fun _ _ => rfl)))
      (pss_cons (ps_if (pt_cmpR (op_eq) (pv 2) (pe_str) (nomark _)) (pss_one (ps_ret (pe_and (pe_cmpR (op_eq) (pe_callB call_len_seq (by rfl) B.len PySem.boot_len (pa_cons (pv 0) pa_nil)) (pe_int) (nomark _)) (pe_one (pe_call GR (hr.mono (by decide)) rfl gR kR bR .nil pass0 (pa_cons (pe_ix ix_tup (pv 0) pe_int (fun _ _ => rfl)) (pa_cons (pe_ix ix_tup (pv 0) pe_int (fun _ _ => rfl)) (pa_cons (pe_ix ix_tup (pv 0) pe_int (fun _ _ => rfl)) (pa_cons (pe_op op_add (pv 1) (pe_int)) pa_nil))))))))) (pss_nil))
      (pss_cons (ps_if (pt_cmpR (op_eq) (pv 2) (pe_str) (nomark _)) (pss_one (ps_ret (pe_and (pe_cmpR (op_eq) (pe_callB call_len_seq (by rfl) B.len PySem.boot_len (pa_cons (pv 0) pa_nil)) (pe_int) (nomark _)) (pe_one (pe_call GM (hr.mono (by decide)) rfl gM kM bM .nil pass0 (pa_cons (pe_ix ix_tup (pv 0) pe_int (fun _ _ => rfl)) pa_nil)))))) (pss_nil))
      (pss_cons (ps_if (pt_cmpR (op_eq) (pv 2) (pe_str) (nomark _)) (pss_one (ps_ret (pe_and (pe_cmpR (op_eq) (pe_callB call_len_seq (by rfl) B.len PySem.boot_len (pa_cons (pv 0) pa_nil)) (pe_int) (nomark _)) (pe_and (pe_callB call_isi (by rfl) B.isi (by decide +kernel) (pa_cons (pe_ix ix_tup (pv 0) pe_int (fun _ _ => rfl)) (pa_cons (pe_glob (v := .ref C) rfl T.g rfl) pa_nil))) (pe_and (pe_call GM (hr.mono (by decide)) rfl gM kM bM .nil pass0 (pa_cons (pe_ix ix_tup (pv 0) pe_int (fun _ _ => rfl)) pa_nil)) (pe_one (pe_call GT (hr.mono (by decide)) rfl gT kT bT .nil pass0 (pa_cons (pe_ix ix_tup (pv 0) pe_int (fun _ _ => rfl)) pa_nil)))))))) (pss_nil))
      (pss_one (ps_ret pe_bl)))))), ?_⟩
    have pre : ∀ (t : Addr) (y : V) (ys : List V), x = .ref t → H t = some (.tup (y :: ys)) → ∀ (D : Ends) (rest : TS), rest D [some x, some (.int (h : Int)), some y] H →
        tSeq (tIfS (tOr (tNot (tB (tCB (rIsi K) (tCons (tVar 0) (tCons (tC (.ty "tuple")) tNil))))) (tTest (tOp rEq (tCB (fun xs H Q => ∃ p ys, xs = [.ref p] ∧ (SqL K H p ys ∨ SqT K H p ys) ∧ Q (.int ys.length) H) (tCons (tVar 0) tNil)) (tC (.int 0))))) (tRet (tC (.bl false))) tNext)
          (tSeq (tAsg (tOp (rIxT K) (tVar 0) (tC (.int 0))) (gName 2)) rest) D [some x, some (.int (h : Int)), none] H := by
      intro t y ys ex ht D rest q
      subst ex
      refine ⟨_, rfl, _, _, _, _, _, rfl, .ty _, .base (.tup ht), kit_ty (r := true) (by decide +kernel), _, rfl, iteF ⟨_, rfl, t, _, rfl, .inr (SqT.of ht), rfl, _, rfl, ?_⟩⟩
      have e : decide (V.int ((y :: ys).length : Int) = V.int 0) = false := decide_eq_false (by
        intro z
        injection z with z
        simp at z
        omega)
      rw [e]
      exact iteF ⟨_, rfl, t, _, _, y, rfl, rfl, SqT.of ht, (by exact atI_nat (xs := y :: ys) (j := 0) rfl), q⟩
    have yes : ∀ {a : Str}, decide (V.str a = V.str a) = true := decide_eq_true rfl
    have no : ∀ {a b : Str}, a ≠ b → decide (V.str a = V.str b) = false := fun h => decide_eq_false fun z => h (V.str.inj z)
    cases st with
    | road size ts lw =>
      unfold StepAt at hx
      unfold M.Step.fine at hf
      obtain ⟨t, rfl, ht⟩ := hx
      refine pre t _ _ rfl ht _ _ ⟨_, rfl, rfl, _, rfl, ?_⟩
      rw [yes]
      exact iteT ⟨_, rfl, t, _, rfl, .inr (SqT.of ht), rfl, _, rfl, iteT ⟨_, rfl, t, _, _, _, rfl, rfl, SqT.of ht, (by exact atI_nat (xs := [V.str "road", .int (size : Int), .str (sdS ts), .str (lwS lw)]) (j := 1) rfl), _, rfl, t, _, _, _, rfl, rfl, SqT.of ht, (by exact atI_nat (xs := [V.str "road", .int (size : Int), .str (sdS ts), .str (lwS lw)]) (j := 2) rfl), _, rfl, t, _, _, _, rfl, rfl, SqT.of ht, (by exact atI_nat (xs := [V.str "road", .int (size : Int), .str (sdS ts), .str (lwS lw)]) (j := 3) rfl), _, rfl, _, _, rfl, rfl, size, (h : Int) + 1, ts, lw, rfl, by omega, hf.2, k⟩⟩
    | join most =>
      unfold StepAt at hx
      unfold M.Step.fine at hf
      obtain ⟨t, rfl, ht⟩ := hx
      refine pre t _ _ rfl ht _ _ ⟨_, rfl, rfl, _, rfl, ?_⟩
      rw [no kinds.2.2.2.1]
      refine iteF ⟨_, rfl, rfl, _, rfl, ?_⟩
      rw [yes]
      refine iteT ⟨_, rfl, t, _, rfl, .inr (SqT.of ht), rfl, _, rfl, iteT ⟨_, rfl, t, _, _, _, rfl, rfl, SqT.of ht, (by exact atI_nat (xs := [V.str "join", V.int (most : Int)]) (j := 1) rfl), most, rfl, ?_⟩⟩
      rw [decide_eq_true (by omega)]
      exact k
    | tunnel w most tw =>
      unfold StepAt at hx
      unfold M.Step.fine at hf
      obtain ⟨t, a, rfl, ht, hw⟩ := hx
      refine pre t _ _ rfl ht _ _ ⟨_, rfl, rfl, _, rfl, ?_⟩
      rw [no kinds.2.2.2.2.1]
      refine iteF ⟨_, rfl, rfl, _, rfl, ?_⟩
      rw [no kinds.2.2.2.2.2]
      refine iteF ⟨_, rfl, rfl, _, rfl, ?_⟩
      rw [yes]
      obtain ⟨wh, ws⟩ := w
      unfold WayAt at hw
      obtain ⟨dx, u, xs, h1, _, _⟩ := hw
      have kit : PySem.W.kitOne K (.ref C) (.ref C) = some true := by
        unfold PySem.W.kitOne
        rw [if_pos (by simp)]
      refine iteT ⟨_, rfl, t, _, rfl, .inr (SqT.of ht), rfl, _, rfl, iteT ⟨_, rfl, t, _, _, _, rfl, rfl, SqT.of ht, (by exact atI_nat (xs := [V.str "tunnel", .ref a, .int (most : Int), .str (twS tw)]) (j := 1) rfl), _, _, _, _, true, rfl, .own C, .base (.ins h1 T.cl T.iA T.iN T.iT T.iM), kit, _, rfl, iteT ⟨_, rfl, t, _, _, _, rfl, rfl, SqT.of ht, (by exact atI_nat (xs := [V.str "tunnel", .ref a, .int (most : Int), .str (twS tw)]) (j := 2) rfl), most, rfl, ?_⟩⟩⟩
      rw [decide_eq_true (by omega)]
      exact ⟨_, rfl, iteT ⟨_, rfl, t, _, _, _, rfl, rfl, SqT.of ht, (by exact atI_nat (xs := [V.str "tunnel", .ref a, .int (most : Int), .str (twS tw)]) (j := 3) rfl), tw, rfl, k⟩⟩
end
end WP

end
section
set_option autoImplicit false
set_option Elab.async false
set_option linter.all false
set_option maxRecDepth 100000
set_option maxHeartbeats 4000000
namespace WP
open PySem L2 G PyProof.Rows
/-! ### a tuple that is counted through -/
theorem en_new {v : Value} {o : Obj} {Hd : Heap → Prop} (B : Begins v o Hd) : Meets (Builtin.«enumerate.__new__» ⟨[.type "enumerate", v], []⟩) (fun _ R u => Hd u.heap ∧ R (.ok (.ret (.ref (u.heap.push o).objs.size))) { u with heap := (u.heap.push o).push { cls := .type "enumerate", data := .fields #[.none, .bool false, .ref u.heap.objs.size, rawInt 0, .none, .none] } }) :=
  .of_wp fun prog w A R u h => by
    obtain ⟨x, g, d, k, os⟩ := u
    obtain ⟨h1, h⟩ := h
    have sb := sub_enumerate
    have q1 : ∀ {A2 : Around} {E : Value → Shared → Prop} {Q : Value → Shared → Prop}, Q (.ref x.objs.size) ⟨x.push o, g, d, k, os⟩ → wpAny (model prog w) A2 (pyIter v) Q E ⟨x, g, d, k, os⟩ := fun q => B.iter prog w _ _ ⟨x, g, d, k, os⟩ _ h1 q
    wp_walk using q1
    refine wpAny_stack_any fun _ => wpAny_pure ?_
    split
    · rename_i c _ _ _ _ _
      cases (c == Value.type "enumerate") <;> (wp_walk using q1; exact ⟨_, rfl, h⟩)
    · (wp_walk using q1; exact ⟨_, rfl, h⟩)
theorem en_call {prog : Program} {w : World} {A : Around} {E : Value → Shared → Prop} {s : Shared} {v : Value} {o : Obj} {Hd : Heap → Prop} {Q : Value → Shared → Prop} (B : Begins v o Hd) (h1 : Hd s.heap)
    (h : ∀ u, IsEnum u (s.heap.objs.size + 1) s.heap.objs.size 0 .none → u.get? s.heap.objs.size = some o → (∀ b p, s.heap.get? b = some p → u.get? b = some p) → Q (.ref (s.heap.objs.size + 1)) { s with heap := u }) : wpAny (model prog w) A (call (.type "enumerate") [v]) Q E s := by
  refine callType_new F.called_enumerate (by decide) (F.typeCall_enumerate_1 _) (F.newCall_enumerate_1 _) (fun x => F.args_object_init_2 x _) F.entry_enumerate_new (en_new B) ⟨h1, ?_⟩
  have z : (s.heap.push o).objs.size = s.heap.objs.size + 1 := Heap.size_push ..
  show _ ∧ _
  rw [z]
  have he := Heap.get?_push_size (s.heap.push o) (o := { cls := .type "enumerate", data := .fields #[.none, .bool false, .ref s.heap.objs.size, rawInt 0, .none, .none] }) rfl
  rw [z] at he
  exact ⟨⟨_, he, rfl⟩, h _ he (Heap.get?_push_of_some _ (Heap.get?_push_size _ B.free)) fun b p e => Heap.get?_push_of_some _ (Heap.get?_push_of_some _ e)⟩
/-- the tuple at a, each item in a new pair behind its place -/
def Iet (K : PySem.W.Frag) (a : Addr) : It where
  go := fun i H => ∃ (xs : List V) (x : V), SqT K H a xs ∧ xs[i]? = some x
  yld := fun i H v H' => ∃ T x, v = .ref T ∧ H T = none ∧ H' = upd H T (.tup [.int (i : Nat), x]) ∧ ∀ xs, SqT K H a xs → xs[i]? = some x
  stop := fun i H => ∃ xs : List V, SqT K H a xs ∧ xs.length ≤ i
theorem turn_et {P : Program} {w : World} {K : PySem.W.Frag} {elts : List Expr} {kk : Nat} {tpos : Pos} (a e it : Addr) (hae : a ≠ e) (hai : a ≠ it) :
    Turn P w K (.Tuple elts kk tpos) (Iet K a) [e, it] e (fun i h => (∃ x, IsEnum h e it ((i : Nat) : Int) x) ∧ h.IsTupleIter it a i ∧ e ≠ it) where
  mem := List.mem_cons_self
  obj := fun i h st b hb => by
    obtain ⟨⟨x, he⟩, ⟨o, ho, hc, hd⟩, _⟩ := st
    rcases List.mem_cons.mp hb with z | z
    · subst z
      exact ⟨_, he, fun v q => nomatch q⟩
    · have z2 : b = it := by simpa using z
      subst z2
      exact ⟨o, ho, fun v q => by rw [hd] at q; cases q⟩
  keep := fun i h h' st k => by
    obtain ⟨⟨x, he⟩, hi, hn⟩ := st
    exact ⟨⟨x, k e (by simp) _ he⟩, hi.at fun o q => k it (by simp) o q, hn⟩
  item := by
    intro X hP hw hK hc i
    intro pins s σ H E I hf st hg
    subst hP hw hK
    obtain ⟨⟨_, he⟩, hit, hne⟩ := st
    obtain ⟨xs, x, hq, hx⟩ := hg
    obtain ⟨its, rv, p, lz⟩ := I.tuple hq
    obtain ⟨u, hu, ru⟩ := rv.get hx
    have hi : i < its.toArray.size := by
      have := List.getElem?_eq_some_iff.mp hu
      obtain ⟨z, _⟩ := this
      simpa using z
    have le : e < s.heap.objs.size := Heap.lt_size he
    have li : it < s.heap.objs.size := by
      obtain ⟨_, q, _⟩ := hit
      exact Heap.lt_size q
    have hef : e ∉ [it, a] := by
      intro z
      rcases List.mem_cons.mp z with z | z
      · exact hne z
      · have z2 : e = a := by simpa using z
        exact hae z2.symm
    refine wpAny_pyNext_enum_itemD (Draws.tuple (A := X.A.in1) (by exact I.ok.hd hc) it a hai its.toArray) he ⟨hit, show s.heap.IsTuple a its.toArray from p⟩ hi hne hef fun y h' tk hy ho hs hT hsz hk => ?_
    have ey : y = u := by
      have q : its.toArray[i]? = some u := by simpa using hu
      rw [q] at hy
      exact (Option.some.inj hy).symm
    subst ey
    refine ⟨_, rfl, wpAny_letOwnedTupleGo_enum (s := { s with heap := h', toks := tk + 1 }) ho fun h2 he2 sb => ?_⟩
    have hT2 : h2.get? s.heap.objs.size = some { cls := .type "tuple", data := .seq #[.int i tk, y] } := (sb.2 _ (Nat.ne_of_gt le)).trans hT
    have new : ObjOk X.prog X.w (upd H s.heap.objs.size (.tup [.int (i : Nat), x])) h2 s.heap.objs.size (.tup [.int (i : Nat), x]) :=
      ⟨by show 2 ≤ sizeLine; decide, [.int i tk, y], .cons ⟨_, rfl⟩ (.cons ru .nil), ⟨_, hT2, rfl, _, rfl⟩⟩
    have keep : ∀ b ob, b ∉ [e, it] → s.heap.get? b = some ob → h2.get? b = some ob := fun b ob hb q => (sb.2 b (fun z => hb (by simp [z]))).trans (hk b ob (fun z => hb (by simp [z])) (fun z => hb (by simp [z])) q)
    have I1 : Inv X pins σ (upd H s.heap.objs.size (.tup [.int (i : Nat), x])) { s with heap := h2, toks := tk + 1 } := I.turnedNew (ch := [e, it]) keep hf (Nat.le_refl _) new
    refine ⟨.ref s.heap.objs.size, _, I1, rfl, ⟨_, x, rfl, I.hok.fresh (Nat.le_refl _), rfl, fun ys hy => by rw [I.tuple_inj hy hq]; exact hx⟩, ⟨⟨y, ?_⟩, hs.1.at fun o q => (sb.2 it (Ne.symm hne)).trans q, hne⟩, fun b hb => ?_⟩
    · rw [show ((i + 1 : Nat) : Int) = (i : Int) + 1 by omega]
      exact he2
    · have lb : b < s.heap.objs.size := by
        rcases List.mem_cons.mp hb with z | z
        · rw [z]; exact le
        · rw [show b = it by simpa using z]; exact li
      rw [upd_ne (Nat.ne_of_lt lb)]
      exact (hf b hb).1
  done := by
    intro X hP hw hK hc i
    intro pins s σ H E I hf st hg
    subst hP hw hK
    obtain ⟨⟨_, he⟩, hit, hne⟩ := st
    obtain ⟨xs, hq, hx⟩ := hg
    obtain ⟨its, rv, p, lz⟩ := I.tuple hq
    have ⟨f0, f1, f2, f3, f4, f5⟩ := hf it (List.mem_cons_of_mem _ List.mem_cons_self)
    have hl := rv.length
    have hTe : s.TypeIs (.ref e) "enumerate" := ⟨_, he, rfl⟩
    unfold pyNext
    refine wpAny_bind (wpAny_attempt (wpAny_callSpecial?_slot (name := Str.ofString "__next__") hTe F.slot_enumerate_next (wpAny_call_entry F.slot_enumerate_next hTe F.entry_enumerate_next ?_ (F.args_enumerate_next_1 _))))
    refine (show wpAny _ _ (field (.ref e) 2 >>= _) _ _ _ from ?_)
    refine wpAny_bind (wpAny_field he rfl (x := .ref it) rfl (wpAny_bind (wpAny_nextOf_tuple_end (I.ok.hd hc) hit (show s.heap.IsTuple a its.toArray from p) (by simp; omega) fun h' x hx1 hx2 => ?_)))
    obtain ⟨o, ho, hc2⟩ := hx2
    exact wpAny_bind (wpAny_isInstance (T := "StopIteration") (b := true) ⟨o, ho, hc2⟩ isSubtype_stop (wpAny_pure ⟨rfl, I.turned (t' := s.toks) (fun b o hb q => hx1 b o hb q) f0 f1 f3 f4 f5⟩))
  self := fun _ _ s Q E st h => by
    obtain ⟨⟨x, he⟩, _⟩ := st
    exact wpAny_pyIter_enum he h
def iEnT (K : PySem.W.Frag) (ta : TA) : TI := fun σ H R => ta σ H fun vs H1 => ∃ a xs, vs = [.ref a] ∧ SqT K H1 a xs ∧ R (Iet K a) H1
theorem pi_et {X : Cx} {e : Expr} {ta : TA} {p pos tpos : Pos} {elts : List Expr} {kk : Nat} (hg : Gl X "enumerate") (hm : X.mg "enumerate" = none) (ha : PA X [e] ta) (hs : starEach [e] X.env = [(false, eval e X.env)] := by rfl) : PI X (.Tuple elts kk tpos) (.Call (.Name "enumerate" p) [e] [] pos) (iEnT X.K ta) := by
  constructor
  intro pins s σ H R I h
  refine Call_ (ld_blt I hg hm boot_enumerate (PyProof.Rows.callWith_type1 (thn (ha.run pos pins s σ H _ I h) fun us s1 ⟨vs, H1, I1, r1, a, xs, ex, hq, q⟩ => ?_) hs rfl))
  subst ex
  cases r1 with
  | cons r rr =>
    cases rr
    cases r
    obtain ⟨its, rv, p', hz⟩ := I1.tuple hq
    have p2 : s1.heap.IsTuple a its.toArray := p'
    have la : a < s1.heap.objs.size := by
      obtain ⟨_, q, _⟩ := p2
      exact Heap.lt_size q
    refine en_call (begins_tuple a its.toArray) p2 fun u he hit hk => wpAny_pyIter_enum he ?_
    have I2 : Inv X pins σ H1 { s1 with heap := u } := I1.kept (t' := s1.toks) hk
    refine ⟨_, [s1.heap.objs.size + 1, s1.heap.objs.size], _, _, H1, rfl, I2, turn_et a (s1.heap.objs.size + 1) s1.heap.objs.size (Nat.ne_of_lt (Nat.lt_succ_of_lt la)) (Nat.ne_of_lt la), ⟨⟨.none, he⟩, ⟨_, hit, rfl, rfl⟩, Nat.succ_ne_self _⟩, fun b hb => ?_, q⟩
    have sb : s1.heap.objs.size ≤ b := by
      rcases List.mem_cons.mp hb with z | z
      · rw [z]; exact Nat.le_add_right _ _
      · rw [show b = s1.heap.objs.size by simpa using z]
        exact Nat.le_refl _
    exact I1.fpOk sb (I1.hok.fresh sb)
theorem walk_et {K : PySem.W.Frag} {a : Addr} {xs : List V} : Walk (Iet K a) xs.length (fun H => SqT K H a xs) (YPair (fun i => some (.int (i : Nat))) (fun i => xs[i]?)) where
  goes := fun i _ hi q => ⟨xs, xs[i], q, by simp [hi]⟩
  stops := fun _ q => ⟨xs, q, Nat.le_refl _⟩
  yields := fun i H v H' _ q y => by
    obtain ⟨T, x, h1, h2, h3, h4⟩ := y
    exact ⟨T, _, x, h1, h2, h3, rfl, h4 xs q⟩
end WP

end
section
set_option autoImplicit false
set_option Elab.async false
set_option linter.all false
set_option maxRecDepth 100000
set_option maxHeartbeats 4000000
/-! ## Way.__init__ for good rows: the pieces -/
namespace M
def tuns : List Step → List Way
  | [] => []
  | .tunnel w _ _ :: r => w :: tuns r
  | .road _ _ _ :: r => tuns r
  | .join _ :: r => tuns r
theorem tuns_app : ∀ (l m : List Step), tuns (l ++ m) = tuns l ++ tuns m
  | [], m => rfl
  | .tunnel w a b :: r, m => by
    show w :: tuns (r ++ m) = w :: tuns r ++ tuns m
    rw [tuns_app r m]; rfl
  | .road a b c :: r, m => tuns_app r m
  | .join a :: r, m => tuns_app r m
theorem tuns_len : ∀ l : List Step, (tuns l).length ≤ l.length
  | [] => Nat.le_refl _
  | .tunnel w a b :: r => by
    show (tuns r).length + 1 ≤ r.length + 1
    exact Nat.succ_le_succ (tuns_len r)
  | .road a b c :: r => Nat.le_succ_of_le (tuns_len r)
  | .join a :: r => Nat.le_succ_of_le (tuns_len r)
theorem inner_eq : ∀ st : List Step, Step.inner st = ((tuns st).map Way.size).sum
  | [] => by simp [Step.inner, tuns]
  | .tunnel w a b :: r => by
    unfold Step.inner tuns
    rw [inner_eq r, List.map_cons, List.sum_cons]
  | .road a b c :: r => by
    unfold Step.inner tuns
    exact inner_eq r
  | .join a :: r => by
    unfold Step.inner tuns
    exact inner_eq r
theorem deepest_eq : ∀ st : List Step, Step.deepest st = (tuns st).foldr (fun w d => max w.depth d) 0
  | [] => by simp [Step.deepest, tuns]
  | .tunnel w a b :: r => by
    unfold Step.deepest tuns
    rw [deepest_eq r, List.foldr_cons]
  | .road a b c :: r => by
    unfold Step.deepest tuns
    exact deepest_eq r
  | .join a :: r => by
    unfold Step.deepest tuns
    exact deepest_eq r
theorem fold_max : ∀ (l : List Int) (a b : Int), (l.foldl max (max a b)) = max a (l.foldl max b)
  | [], a, b => rfl
  | c :: r, a, b => by
    show r.foldl max (max (max a b) c) = max a (r.foldl max (max b c))
    rw [Int.max_assoc, fold_max r a (max b c)]
theorem deep_max (ws : List Way) : (match ws.map fun w => ((w.depth : Nat) : Int) with | [] => (0 : Int) | n :: r => r.foldl max n) = ((ws.foldr (fun w d => max w.depth d) 0 : Nat) : Int) := by
  induction ws with
  | nil => rfl
  | cons w r ih =>
    show ((r.map fun w => ((w.depth : Nat) : Int)).foldl max ((w.depth : Nat) : Int)) = _
    cases r with
    | nil => show ((w.depth : Nat) : Int) = ((max w.depth 0 : Nat) : Int); rw [Nat.max_zero]
    | cons v q =>
      show ((q.map fun w => ((w.depth : Nat) : Int)).foldl max (max ((w.depth : Nat) : Int) ((v.depth : Nat) : Int))) = _
      rw [fold_max]
      have e : ((q.map fun w => ((w.depth : Nat) : Int)).foldl max ((v.depth : Nat) : Int)) = (((v :: q).foldr (fun w d => max w.depth d) 0 : Nat) : Int) := ih
      rw [e]
      show _ = ((max w.depth ((v :: q).foldr (fun w d => max w.depth d) 0) : Nat) : Int)
      omega
theorem sum_cast (ws : List Way) : (ws.map fun w => ((w.size : Nat) : Int)).sum = (((ws.map Way.size).sum : Nat) : Int) := by
  induction ws with
  | nil => rfl
  | cons w r ih => rw [List.map_cons, List.sum_cons, ih, List.map_cons, List.sum_cons]; omega
end M
namespace WP
open PySem L2 G
section
variable {X : Cx} {tg it : Expr}
theorem pi_or {w1 w2 : TI} (h1 : PI X tg it w1) (h2 : PI X tg it w2) : PI X tg it (fun σ H R => w1 σ H R ∨ w2 σ H R) := ⟨fun pins s σ H R I h => h.elim (h1.run pins s σ H R I) (h2.run pins s σ H R I)⟩
def tDead : TS := fun _ _ _ => False
theorem ps_dead {b : List Stmt} : PSs X b tDead := ⟨fun _ _ _ _ _ _ h => h.elim⟩
end
def SAt (H : Hp) (l : Addr) (xs : List V) : Prop := H l = some (.lst xs) ∨ H l = some (.tup xs)
theorem SAt.mono {H H' : Hp} {l : Addr} {xs : List V} (s : Same H H') (h : SAt H l xs) : SAt H' l xs := h.elim (fun e => .inl (s _ _ e)) fun e => .inr (s _ _ e)
section
variable {K : PySem.W.Frag} {H : Hp} {σ : St} {l : Addr} {xs : List V}
theorem or_seq {te : TE} {R : It → Hp → Prop} (ht : ∀ Q : VK, Q (.ref l) H → te σ H Q) (hl : SAt H l xs) (k : ∀ (J : It) (Gd : Hp → Prop), (∀ H', Same H H' → Gd H') → Walk J xs.length Gd (YAt xs) → R J H) : iList K te σ H R ∨ iTup K te σ H R :=
  hl.elim (fun e => .inl (ht _ ⟨l, rfl, ⟨xs, SqL.of e⟩, k _ _ (fun H' s => SqL.of (s _ _ e)) walk_list⟩)) fun e => .inr (ht _ ⟨l, rfl, ⟨xs, SqT.of e⟩, k _ _ (fun H' s => SqT.of (s _ _ e)) walk_tup⟩)
theorem or_enum {ta : TA} {R : It → Hp → Prop} (ht : ∀ Q : List V → Hp → Prop, Q [.ref l] H → ta σ H Q) (hl : SAt H l xs) (k : ∀ (J : It) (Gd : Hp → Prop), (∀ H', Same H H' → Gd H') → Walk J xs.length Gd (YPair (fun i => some (.int (i : Nat))) (fun i => xs[i]?)) → R J H) : iEnum K ta σ H R ∨ iEnT K ta σ H R :=
  hl.elim (fun e => .inl (ht _ ⟨l, xs, rfl, SqL.of e, k _ _ (fun H' s => SqL.of (s _ _ e)) walk_enum⟩)) fun e => .inr (ht _ ⟨l, xs, rfl, SqT.of e, k _ _ (fun H' s => SqT.of (s _ _ e)) walk_et⟩)
end
/-- ways at addresses -/
inductive WaysAt (C : Addr) (H : Hp) : List M.Way → List V → Prop
  | nil : WaysAt C H [] []
  | cons {w : M.Way} {a : Addr} {ws : List M.Way} {vs : List V} (h : WayAt C H w a) (t : WaysAt C H ws vs) : WaysAt C H (w :: ws) (.ref a :: vs)
theorem WaysAt.mono {C : Addr} {H H' : Hp} (s : Same H H') {ws : List M.Way} {vs : List V} (h : WaysAt C H ws vs) : WaysAt C H' ws vs := by
  induction h with
  | nil => exact .nil
  | cons h _ ih => exact .cons (h.mono s) ih
theorem WaysAt.snoc {C : Addr} {H : Hp} {ws : List M.Way} {vs : List V} {w : M.Way} {a : Addr} (h : WaysAt C H ws vs) (hw : WayAt C H w a) : WaysAt C H (ws ++ [w]) (vs ++ [.ref a]) := by
  induction h with
  | nil => exact .cons hw .nil
  | cons h _ ih => exact .cons h ih
theorem WaysAt.len {C : Addr} {H : Hp} {ws : List M.Way} {vs : List V} (h : WaysAt C H ws vs) : vs.length = ws.length := by
  induction h with
  | nil => rfl
  | cons _ _ ih => simp [ih]
theorem WaysAt.get {C : Addr} {H : Hp} {ws : List M.Way} {vs : List V} (h : WaysAt C H ws vs) : ∀ {i : Nat} {v : V}, vs[i]? = some v → ∃ w a, ws[i]? = some w ∧ v = .ref a ∧ WayAt C H w a := by
  induction h with
  | nil => intro i v e; cases e
  | cons h t ih =>
    intro i v e
    cases i with
    | zero => cases e; exact ⟨_, _, rfl, rfl, h⟩
    | succ i => obtain ⟨w, a, e1, e2, e3⟩ := ih (i := i) e; exact ⟨w, a, e1, e2, e3⟩
end WP

end
section
set_option autoImplicit false
set_option Elab.async false
set_option linter.all false
set_option maxRecDepth 100000
set_option maxHeartbeats 4000000
/-! ## Way.__init__ for good rows -/
namespace WP
open PySem L2 G
section
variable {P : Program} {w : World} {K : PySem.W.Frag} {mg : Str → Option Value} {base : Heap} {C : Addr}
abbrev NI : List Str := ["self", "head", "steps", "position", "step", "inner_ways", "depth", "size", "inner"]
theorem scI : FnScope NI ["self", "head", "steps"] (defScope sInit) := ⟨rfl, rfl, rfl, by decide +kernel, rfl, by decide +kernel, by decide +kernel⟩
/-- the ways of the tunnels -/
def tTuns (K : PySem.W.Frag) : TE := tLc (fun σ H R => iList K (tVar 2) σ H R ∨ iTup K (tVar 2) σ H R) (gName 4) (tTest (tOp rEq (tOp (rIxT K) (tVar 4) (tC (.int 0))) (tC (.str "tunnel")))) (tOp (rIxT K) (tVar 4) (tC (.int 1))) [4]
theorem add_upd {H G : Hp} {D : Addr} {o : HO} (nD : H D = none) (s : Same H G) : Same H (upd G D o) := fun b u e => by
  rw [upd_ne (ne_of_none e nD)]
  exact s _ _ e
theorem take_snoc {α : Type} {l : List α} {i : Nat} {x : α} (h : l[i]? = some x) : l.take (i + 1) = l.take i ++ [x] := by
  rw [List.take_succ, h]
  rfl
theorem tuns_run {σ : St} {H : Hp} {a0 a1 p q a5 a6 a7 a8 : Option V} {l : Addr} {xs : List V} {st : List M.Step} {Q : VK} (hσ : σ = [a0, a1, some (.ref l), p, q, a5, a6, a7, a8]) (hl : SAt H l xs) (hs : StepsAt C H st xs) (hn : xs.length ≤ 1000)
    (k : ∀ D vs H', Same H H' → H' D = some (.lst vs) → WaysAt C H (M.tuns st) vs → Q (.ref D) H') : tTuns K σ H Q := by
  subst hσ
  have yes : ∀ {a : Str}, decide (V.str a = V.str a) = true := decide_eq_true rfl
  have no : ∀ {a b : Str}, a ≠ b → decide (V.str a = V.str b) = false := fun h => decide_eq_false fun z => h (V.str.inj z)
  refine or_seq (fun Q h => ⟨_, rfl, h⟩) hl fun J Gd hG wk D nD => ?_
  refine lc_it wk (fun i G => Same H G ∧ ∃ acc, acc.length ≤ i ∧ G D = some (.lst acc) ∧ WaysAt C H (M.tuns (st.take i)) acc) ⟨Same.of_upd nD, [], Nat.le_refl _, upd_same, .nil⟩ (fun i G _ p => hG G p.1) ?_ ?_
  · rintro i v G G' hi ⟨s, acc, hA, hD, hw⟩ ⟨rfl, hx⟩
    obtain ⟨sp, hsp, hst⟩ := hs.get hx
    have et := take_snoc hsp
    have la : acc.length < sizeLine := Nat.lt_of_lt_of_le (Nat.lt_of_le_of_lt hA hi) (Nat.le_trans hn (by decide))
    have z1 : ∀ {y0 : V} {ys : List V}, atI (y0 :: ys) (0 : Int) = some y0 := fun {y0 ys} => by exact atI_nat (xs := y0 :: ys) (j := 0) rfl
    refine ⟨rfl, ?_⟩
    have hst2 := hst
    cases sp with
    | road size ts lw =>
      unfold StepAt at hst
      obtain ⟨t, rfl, ht⟩ := hst
      refine ⟨_, rfl, t, _, _, _, rfl, rfl, SqT.of (s _ _ ht), z1, rfl, _, rfl, ?_⟩
      rw [no kinds.2.1]
      refine iteF ⟨s, acc, Nat.le_succ_of_le hA, hD, ?_⟩
      rw [et, M.tuns_app]
      exact (List.append_nil _).symm ▸ hw
    | join most =>
      unfold StepAt at hst
      obtain ⟨t, rfl, ht⟩ := hst
      refine ⟨_, rfl, t, _, _, _, rfl, rfl, SqT.of (s _ _ ht), z1, rfl, _, rfl, ?_⟩
      rw [no kinds.2.2.1]
      refine iteF ⟨s, acc, Nat.le_succ_of_le hA, hD, ?_⟩
      rw [et, M.tuns_app]
      exact (List.append_nil _).symm ▸ hw
    | tunnel wy most tw =>
      unfold StepAt at hst
      obtain ⟨t, a, rfl, ht, hway⟩ := hst
      refine ⟨_, rfl, t, _, _, _, rfl, rfl, SqT.of (s _ _ ht), z1, rfl, _, rfl, ?_⟩
      rw [yes]
      refine iteT ⟨_, rfl, t, _, _, _, rfl, rfl, SqT.of (s _ _ ht), (by exact atI_nat (xs := [V.str "tunnel", V.ref a, V.int (most : Int), V.str (twS tw)]) (j := 1) rfl), acc, hD, la, add_upd nD s, _, by simp; exact hA, upd_same, ?_⟩
      rw [et, M.tuns_app]
      exact hw.snoc hway
  · rintro G ⟨s, acc, hA, hD, hw⟩
    have e : st.take xs.length = st := by rw [hs.len]; exact List.take_length
    rw [e] at hw
    exact k D acc G s hD hw
/-- a field of each of the ways, ints -/
def tFlds (K : PySem.W.Frag) (f : Str) : TE := tLc (iList K (tVar 5)) (gName 8) tYes (tFld K (tVar 8) f) [8]
theorem flds_run {f : Str} {g : M.Way → Int} {σ : St} {H : Hp} {a0 a1 a2 p q a6 a7 a8 : Option V} {D0 : Addr} {vs : List V} {ws : List M.Way} {Q : VK} (T : Wt K mg C) (nf : NoAttr K C f) (hg : ∀ H wy a, WayAt C H wy a → ∃ dx fs, H a = some (.ins C dx fs) ∧ fs.lookup f = some (.int (g wy)))
    (hσ : σ = [a0, a1, a2, p, q, some (.ref D0), a6, a7, a8]) (hl : H D0 = some (.lst vs)) (hw : WaysAt C H ws vs) (hn : vs.length ≤ 1000) (k : ∀ D H', Same H H' → H' D = some (.lst ((ws.map g).map V.int)) → Q (.ref D) H') : tFlds K f σ H Q := by
  subst hσ
  refine ⟨_, rfl, D0, rfl, ⟨vs, SqL.of hl⟩, fun D nD => ?_⟩
  refine lc_it walk_list (fun i G => Same H G ∧ G D = some (.lst ((((ws.take i).map g)).map V.int))) ⟨Same.of_upd nD, upd_same⟩ (fun i G _ p => SqL.of (p.1 _ _ hl)) ?_ ?_
  · rintro i v G G' hi ⟨s, hD⟩ ⟨rfl, hx⟩
    obtain ⟨wy, a, hwi, rfl, hat⟩ := hw.get hx
    obtain ⟨dx, fs, h1, h2⟩ := hg H wy a hat
    refine ⟨rfl, _, rfl, a, C, dx, fs, _, rfl, s _ _ h1, T.cl, nf, h2, _, hD, ?_, add_upd nD s, ?_⟩
    · rw [List.length_map, List.length_map, List.length_take]
      exact Nat.lt_of_le_of_lt (Nat.le_trans (Nat.min_le_left _ _) (Nat.le_of_lt (Nat.lt_of_lt_of_le hi hn))) (by decide)
    · rw [take_snoc hwi, List.map_append, List.map_append, upd_same]
      rfl
  · rintro G ⟨s, hD⟩
    have e : ws.take vs.length = ws := by rw [hw.len]; exact List.take_length
    rw [e] at hD
    exact k D G s hD
theorem depth_fld (H : Hp) (wy : M.Way) (a : Addr) (h : WayAt C H wy a) : ∃ dx fs, H a = some (.ins C dx fs) ∧ fs.lookup ("depth" : Str) = some (.int ((wy.depth : Nat) : Int)) := by
  obtain ⟨wh, ws⟩ := wy
  unfold WayAt at h
  obtain ⟨dx, t, xs, h1, _, _⟩ := h
  refine ⟨dx, _, h1, ?_⟩
  rw [flds_depth]
  unfold M.Way.depth
  rfl
theorem size_fld (H : Hp) (wy : M.Way) (a : Addr) (h : WayAt C H wy a) : ∃ dx fs, H a = some (.ins C dx fs) ∧ fs.lookup ("size" : Str) = some (.int ((wy.size : Nat) : Int)) := by
  obtain ⟨wh, ws⟩ := wy
  unfold WayAt at h
  obtain ⟨dx, t, xs, h1, _, _⟩ := h
  refine ⟨dx, _, h1, ?_⟩
  rw [flds_size]
  unfold M.Way.size
  rfl
end
end WP

end
section
set_option autoImplicit false
set_option Elab.async false
set_option linter.all false
set_option maxRecDepth 100000
set_option maxHeartbeats 4000000
/-! ## Way.__init__ for good rows: the def -/
namespace WP
open PySem L2 G
theorem set_then {te : TE} {i : Nat} {t2 : TS} {D : Ends} {σ : St} {H : Hp} (h : te σ H fun v H1 => t2 D (σ.set i (some v)) H1) : tSeq (tAsg te (gName i)) t2 D σ H := h
theorem add_of {tb : TE} {i : Int} {σ : St} {H : Hp} {Q : VK} (h : tb σ H fun y H2 => ∃ a b, V.int i = .int a ∧ y = .int b ∧ Q (.int (a + b)) H2) : tOp (rI0 fun i j => .int (i + j)) (tC (.int i)) tb σ H Q := h
theorem maxID_at {K : PySem.W.Frag} {H : Hp} {Q : VK} {a : Addr} {ns : List Int} {n : Int} (e : (match ns with | [] => (0 : Int) | n :: r => r.foldl max n) = n) (hq : SqL K H a (ns.map V.int)) (q : Q (.int n) H) : G.rMaxID K [.ref a] [.int 0] H Q := by
  subst e
  refine ⟨a, ns, 0, rfl, rfl, hq, ?_⟩
  cases ns <;> exact q
theorem maxD_of {K : PySem.W.Frag} {tl : TE} {σ : St} {H : Hp} {Q : VK} (h : tl σ H fun x H1 => G.rMaxID K [x] [.int 0] H1 Q) : tCKw (G.rMaxID K) (tCons tl tNil) (tCons (tC (.int 0)) tNil) σ H Q := h
theorem sum_of {K : PySem.W.Frag} {tl : TE} {σ : St} {H : Hp} {Q : VK} (h : tl σ H fun x H1 => rSum K [x] H1 Q) : tCB (rSum K) (tCons tl tNil) σ H Q := h
theorem len_add {K : PySem.W.Frag} {tl : TE} {σ : St} {H : Hp} {Q : VK} {l : Addr} {xs : List V} (hσ : σ[2]? = some (some (.ref l))) (hl : SAt H l xs) (h : tl σ H fun x H1 => rSum K [x] H1 fun y H2 => ∃ a b, V.int (xs.length : Int) = .int a ∧ y = .int b ∧ Q (.int (a + b)) H2) :
    tOp (rI0 fun i j => .int (i + j)) (tCB (fun zs H Q => ∃ p ys, zs = [.ref p] ∧ (SqL K H p ys ∨ SqT K H p ys) ∧ Q (.int ys.length) H) (tCons (tVar 2) tNil)) (tCB (rSum K) (tCons tl tNil)) σ H Q :=
  ⟨_, hσ, l, xs, rfl, hl.elim (fun e => .inl (SqL.of e)) (fun e => .inr (SqT.of e)), h⟩
theorem tup_or {K : PySem.W.Frag} {H : Hp} {l : Addr} {xs : List V} {Q : VK} (hl : SAt H l xs) (k : ∀ t G, Same H G → G t = some (.tup xs) → Q (.ref t) G) : (SqL K H l xs ∧ ∀ q, H q = none → Q (.ref q) (upd H q (.tup xs))) ∨ (SqT K H l xs ∧ Q (.ref l) H) :=
  hl.elim (fun e => .inl ⟨SqL.of e, fun q hq => k _ _ (Same.of_upd hq) upd_same⟩) fun e => .inr ⟨SqT.of e, k _ _ (Same.refl _) e⟩
theorem len_put {f : Str} {v : V} {fs : List (Str × V)} {n : Nat} (h : fs.length < n) : (putF f v fs).length < n + 1 := by
  exact Nat.lt_of_le_of_lt (length_putF f v fs) (Nat.succ_lt_succ h)
section
variable {P : Program} {w : World} {K : PySem.W.Frag} {mg : Str → Option Value} {base : Heap} {C : Addr}
/-- at a new instance x: steps of a list or a tuple, as they stood before it was made -/
def spInit (C : Addr) : Sp := fun vs H Q _ => ∃ (x l dx : Addr) (h : Nat) (xs : List V) (st : List M.Step) (H0 : Hp), vs = [.ref x, .int (h : Int), .ref l] ∧ H x = some (.ins C dx []) ∧ H0 x = none ∧ Same H0 H ∧ SAt H0 l xs ∧ StepsAt C H0 st xs ∧ M.Way.fine (.mk h st) ∧
  ∀ H', Same H0 H' → WayAt C H' (.mk h st) x → Q .non H'
theorem ok_init {f : Addr} {fd : FuncData} (F : Fun K "__init__" "Way.__init__" sInit f fd) (B : Bn mg) (T : Wt K mg C) (W : Df P w K mg base 3 "is_head" ["value"] (spIn1 1 40)) (WL : Df P w K mg base 1 "is_step_list" ["value"] (spList K)) (WS : Df P w K mg base 5 "_is_step" ["value", "head"] (spStep C)) :
    FnOk P w K mg base CX0 6 f fd ["self", "head", "steps"] (spInit C) := by
  obtain ⟨fW, fdW, GW, gW, kW, bW⟩ := W.ex
  obtain ⟨fL, fdL, GL, gL, kL, bL⟩ := WL.ex
  obtain ⟨fS, fdS, GS, gS, kS, bS⟩ := WS.ex
  obtain ⟨t2, g2⟩ := T.gDepth
  obtain ⟨t3, g3⟩ := T.gSize
  refine F.ok scI (fun vs H Q E h => ?_) (fun cdv A outer s H vs Q E hr h => ?_)
  · obtain ⟨x, l, dx, h, xs, st, H0, rfl, _⟩ := h
    rfl
  · obtain ⟨x, l, dx, h, xs, st, H0, rfl, hx, hx0, s0, hl, hs, hf, k⟩ := h
    have r1 := hr.mono (by decide : 1 ≤ 5)
    have r0 := hr.mono (by decide : 3 ≤ 5)
    refine ⟨_, pss_cons (ps_if (pt_not (pt_val (pe_call GW r0 rfl gW kW bW .nil pass0 (pa_cons (pv 1) pa_nil)))) ps_dead pss_nil)
      (pss_cons (ps_if (pt_not (pt_val (pe_call GL r1 rfl gL kL bL .nil pass0 (pa_cons (pv 2) pa_nil)))) ps_dead pss_nil)
      (pss_cons (ps_for PassesOwn.never rfl (pi_or (pi_enum (by rfl) B.enum (pa_cons (pv 2) pa_nil)) (pi_et (by rfl) B.enum (pa_cons (pv 2) pa_nil))) (pg_tup (by rfl) (pgs_cons (pg_name (i := 3) scI.nd rfl (Or.inl rfl)) (pgs_cons (pg_name (i := 4) scI.nd rfl (Or.inl rfl)) pgs_nil)))
        (pss_one (ps_if (pt_not (pt_val (pe_call GS hr rfl gS kS bS .nil pass0 (pa_cons (pv 4) (pa_cons (pv 1) pa_nil))))) ps_dead pss_nil)))
      (pss_cons (ps_setLc (i := 5) (own := [("step", 4)]) (g := gName 4) (tt := tTest (tOp rEq (tOp (rIxT K) (tVar 4) (tC (.int 0))) (tC (.str "tunnel")))) (te := tOp (rIxT K) (tVar 4) (tC (.int 1))) rfl scI.nd rfl rfl (sw_true rfl rfl rfl (by decide +kernel)) (pi_or (pi_list (pv 2)) (pi_tup (pv 2))) (blkOk_by (N := NI) (sc := defScope sInit) (by decide +kernel))
          (fun _ _ _ _ _ => pg_name (i := 4) scI.nd rfl (Or.inl rfl)) (fun _ _ _ _ _ => pts_one (by exact pt_cmpR op_eq (pe_ix ix_tup (pv 4) pe_int (fun _ _ => rfl)) pe_str (nomark _))) (fun _ _ _ _ _ => by exact pe_ix ix_tup (pv 4) pe_int (fun _ _ => rfl)))
      (pss_cons (ps_set (i := 6) scI.nd rfl (Or.inl rfl) (pe_op op_add pe_int (pe_callBK (G.call_maxID rfl hr.units) (by rfl) B.max (by decide +kernel) (pa_cons (pe_lc (own := [("inner", 8)]) (g := gName 8) (tt := tYes) (te := tFld K (tVar 8) "depth") rfl scI.nd (pi_list (pv 5)) (blkOk_by (N := NI) (sc := defScope sInit) (by decide +kernel))
          (fun _ _ _ _ _ => pg_name (i := 8) scI.nd rfl (Or.inl rfl)) (fun _ _ _ _ _ => pts_nil) (fun _ _ _ _ _ => by exact pe_fld (pv 8) rfl)) pa_nil) (pk_cons pe_int pk_nil))))
      (pss_cons (ps_if (pt_cmpR op_gt (pv 6) (pe_glob (v := .int 3) rfl g2 ⟨_, rfl⟩) (nomark _)) ps_dead pss_nil)
      (pss_cons (ps_set (i := 7) scI.nd rfl (Or.inl rfl) (pe_op op_add (pe_callB call_len_seq (by rfl) B.len PySem.boot_len (pa_cons (pv 2) pa_nil)) (pe_callB (cr_sum rfl) (by rfl) B.sum (by decide +kernel) (pa_cons (pe_lc (own := [("inner", 8)]) (g := gName 8) (tt := tYes) (te := tFld K (tVar 8) "size") rfl scI.nd (pi_list (pv 5)) (blkOk_by (N := NI) (sc := defScope sInit) (by decide +kernel))
          (fun _ _ _ _ _ => pg_name (i := 8) scI.nd rfl (Or.inl rfl)) (fun _ _ _ _ _ => pts_nil) (fun _ _ _ _ _ => by exact pe_fld (pv 8) rfl)) pa_nil))))
      (pss_cons (ps_if (pt_cmpR op_gt (pv 7) (pe_glob (v := .int 40) rfl g3 ⟨_, rfl⟩) (nomark _)) ps_dead pss_nil)
      (pss_cons (ps_fld (pv 0) (pv 1) rfl)
      (pss_cons (ps_fld (pv 0) (pe_callTy call_tuple_of (by rfl) B.tuple (by decide +kernel) (pa_cons (pv 2) pa_nil)) rfl)
      (pss_cons (ps_fld (pv 0) (pv 6) rfl)
      (pss_one (ps_fld (pv 0) (pv 7) rfl)))))))))))), ?_⟩
    unfold M.Way.fine at hf
    obtain ⟨hh, hn, hall, hd, hz⟩ := hf
    have ln := hs.len
    refine ⟨_, rfl, (h : Int), rfl, ?_⟩
    rw [decide_eq_true (by omega)]
    refine ⟨_, rfl, iteF ⟨_, rfl, l, xs, rfl, hl.mono s0, by omega, by omega, fun H1 s1 => ⟨_, rfl, iteF ?_⟩⟩⟩
    have S1 := s0.trans s1
    have hx1 : H1 x = some (.ins C dx []) := s1 _ _ hx
    clear s1 hx s0
    refine or_enum (fun Q h => ⟨_, rfl, h⟩) (hl.mono S1) fun J Gd hG wk => ?_
    refine for_it wk (fun i σ G => Same H1 G ∧ ∃ p q, σ = [some (.ref x), some (.int (h : Int)), some (.ref l), p, q, none, none, none, none]) ⟨Same.refl _, _, _, rfl⟩ (fun i σ G _ z => hG G z.1) ?_ ?_
    · rintro i v σ G G' hi ⟨s, p, q, rfl⟩ ⟨t, a, b, rfl, nt, rfl, e1, hb⟩
      cases e1
      obtain ⟨sp, hsp, hst⟩ := hs.get hb
      have s2 : Same H1 (upd G t (.tup [V.int (i : Nat), b])) := s.trans (Same.of_upd nt)
      refine ⟨t, _, rfl, SqT.of upd_same, rfl, _, _, rfl, _, _, rfl, rfl, ?_⟩
      exact ⟨_, rfl, _, rfl, b, h, sp, rfl, hst.mono (S1.trans s2), fine_get hall hsp, _, rfl, iteF ⟨s2, _, _, rfl⟩⟩
    · rintro σ G ⟨s, p, q, rfl⟩
      have S2 := S1.trans s
      have hx2 := s _ _ hx1
      dsimp only
      refine set_then (te := tTuns K) (i := 5) ?_
      refine tuns_run (st := st) (xs := xs) rfl (hl.mono S2) (hs.mono S2) (by omega) fun D0 vs H2 s3 hD0 hW => ?_
      have lw : vs.length ≤ 1000 := by
        have e1 := hW.len
        have e2 := M.tuns_len st
        omega
      refine set_then (i := 6) ?_
      refine add_of (i := 1) (maxD_of (tl := tFlds K "depth") ?_)
      refine flds_run (f := "depth") (g := fun w => ((w.depth : Nat) : Int)) T T.nD (fun H wy a => depth_fld H wy a) rfl hD0 (hW.mono s3) lw fun D1 H3 s4 hD1 => ?_
      refine maxID_at (M.deep_max _) (SqL.of hD1) ⟨_, _, rfl, rfl, ?_⟩
      rw [← M.deepest_eq]
      refine ⟨_, rfl, _, _, rfl, rfl, _, rfl, ?_⟩
      rw [decide_eq_false (by omega)]
      refine iteF ?_
      unfold tNext
      dsimp only
      have s5 := s3.trans s4
      refine set_then (i := 7) (len_add (l := l) (xs := xs) (tl := tFlds K "size") rfl (hl.mono (S2.trans s5)) ?_)
      refine flds_run (f := "size") (g := fun w => ((w.size : Nat) : Int)) T T.nZ (fun H wy a => size_fld H wy a) rfl (s4 _ _ hD0) (hW.mono s5) lw fun D2 H4 s6 hD2 => ?_
      refine ⟨D2, _, rfl, SqL.of hD2, _, _, rfl, rfl, ?_⟩
      rw [M.sum_cast, ← M.inner_eq]
      refine ⟨_, rfl, _, _, rfl, rfl, _, rfl, ?_⟩
      rw [decide_eq_false (by omega)]
      refine iteF ?_
      dsimp only
      have S4 : Same H0 H4 := S2.trans (s5.trans s6)
      have hx4 : H4 x = some (.ins C dx []) := s6 _ _ (s5 _ _ hx2)
      refine ⟨_, rfl, _, rfl, x, C, dx, [], rfl, hx4, T.cl, T.nH, by decide, ?_⟩
      have S5 : Same H0 (upd H4 x (.ins C dx (putF "head" (.int (h : Int)) []))) := add_upd hx0 S4
      have e1 : (1 : Int) + ((M.Step.deepest st : Nat) : Int) = ((1 + M.Step.deepest st : Nat) : Int) := by omega
      have e2 : ((xs.length : Nat) : Int) + ((M.Step.inner st : Nat) : Int) = ((st.length + M.Step.inner st : Nat) : Int) := by omega
      have fin : ∀ (t : Addr) (G2 : Hp), Same (upd H4 x (.ins C dx (putF "head" (.int (h : Int)) []))) G2 → G2 t = some (.tup xs) → tSeq (sFld K (tVar 0) (tC (.ref t)) "steps") (tSeq (sFld K (tVar 0) (tVar 6) "depth") (sFld K (tVar 0) (tVar 7) "size")) { nx := fun _ H' => Q V.non H', rt := Q } [some (.ref x), some (.int (h : Int)), some (.ref l), p, q, some (.ref D0), some (.int (1 + ((M.Step.deepest st : Nat) : Int))), some (.int ((xs.length : Int) + ((M.Step.inner st : Nat) : Int))), none] G2 := fun t G2 sG ht => by
        have hx5 : G2 x = some (.ins C dx (putF "head" (.int (h : Int)) [])) := sG _ _ upd_same
        have tx : t ≠ x := fun z => by
          rw [z, hx5] at ht
          cases ht
        have S6 := S5.trans sG
        rw [e1, e2]
        refine ⟨_, rfl, x, C, dx, _, rfl, hx5, T.cl, T.nS, len_put (by decide), ?_⟩
        refine ⟨_, rfl, _, rfl, x, C, dx, _, rfl, upd_same, T.cl, T.nD, len_put (len_put (by decide)), ?_⟩
        refine ⟨_, rfl, _, rfl, x, C, dx, _, rfl, upd_same, T.cl, T.nZ, len_put (len_put (len_put (by decide))), ?_⟩
        have S7 := add_upd (o := .ins C dx (flds (h : Int) t ((1 + M.Step.deepest st : Nat) : Int) ((st.length + M.Step.inner st : Nat) : Int))) hx0 (add_upd (o := .ins C dx (putF "depth" (.int ((1 + M.Step.deepest st : Nat) : Int)) (putF "steps" (.ref t) (putF "head" (.int (h : Int)) [])))) hx0 (add_upd (o := .ins C dx (putF "steps" (.ref t) (putF "head" (.int (h : Int)) []))) hx0 S6))
        refine k _ S7 ?_
        unfold WayAt
        exact ⟨dx, t, xs, upd_same, by rw [upd_ne tx, upd_ne tx, upd_ne tx]; exact ht, hs.mono S7⟩
      rcases hl.mono S5 with e | e
      · exact ⟨_, rfl, l, xs, rfl, .inl ⟨SqL.of e, fun t nt => fin t _ (Same.of_upd nt) upd_same⟩⟩
      · exact ⟨_, rfl, l, xs, rfl, .inr ⟨SqT.of e, fin l _ (Same.refl _) e⟩⟩
end
end WP

end
section
set_option autoImplicit false
set_option Elab.async false
set_option linter.all false
set_option maxRecDepth 100000
set_option maxHeartbeats 4000000
/-! ## len, +, in, [] and != by a class's own methods -/
namespace WO
open PySem PySem.Spec PyProof.Rows L2
section
variable {X : Cx} {CX : CXT} {n : Nat} {f C : Addr} {fd : FuncData} {ps : List Str} {sp : Sp} {E : XK}
/-- an own method, run somewhere below the running body -/
theorem run_own {A : Around} {pins : List (Addr × Obj)} {s : Shared} {σ : L2.St} {H : Hp} {xs : List V} {us : List Value} {Z : VK} {G : Value → Shared → Prop} (F : FnOk X.prog X.w X.K X.mg X.base CX n f fd ps sp) (sb : Sub X n A) (hb : Binds X.K fd ps []) (hx : Passes CX X E)
    (I : Inv X pins σ H s) (r : Vals xs us) (hsp : sp xs H Z E) (k : ∀ z u H1 s1, Inv X pins σ H1 s1 → RelV z u → Z z H1 → G u s1) : wpAny (model X.prog X.w) A (call (.ref f) us) G X.xe s := by
  have hl := F.len _ _ _ _ hsp
  have lu : us.length = ps.length := by rw [← r.length]; exact hl
  have env : Env0 X.prog X.w X.K X.mg X.base A X.stack s H := by
    have e := I.env0
    exact ⟨by rw [sb.fr]; exact e.frames, e.mod, e.bs, e.bsz, e.funs, e.frf, e.hok, e.bare⟩
  refine wpAny_call (codeAny_mono (F.run A X.stack s H ⟨us, []⟩ us xs _ E sb.room env (by simpa using hb s us I.kIn (by simpa using lu)) r hsp) fun res s1 hq => ?_)
  match res, hq with
  | .error e, hq => exact hx pins σ H s e s1 I hq
  | .ok (.ret u), hq =>
    obtain ⟨z, H1, I1, rz, q⟩ := I.after hq
    exact k z u H1 s1 I1 rz q
  | .ok .next, hq => exact hq.elim
  | .ok .brk, hq => exact hq.elim
  | .ok .cont, hq => exact hq.elim
/-- an instance of the class at C -/
def InsC (C : Addr) (H : Hp) (a : Addr) : Prop := ∃ dx fs, H a = some (.ins C dx fs)
structure Own (K : PySem.W.Frag) (C f : Addr) (m : Str) : Prop where
  at' : PySem.W.findIn K (.ref C) m = some (some (.ref f))
  fn : PySem.W.isFn K (.ref f) = true
def rLenO (C : Addr) (sp : Sp) (E : XK) : List V → Hp → VK → Prop := fun xs H Q => ∃ a, xs = [.ref a] ∧ InsC C H a ∧ sp [.ref a] H (fun v H1 => ∃ k : Nat, v = .int k ∧ k < 1000000 ∧ Q (.int k) H1) E
theorem call_lenO (F : FnOk X.prog X.w X.K X.mg X.base CX n f fd ps sp) (hr : Room (n + 1) X.A) (O : Own X.K C f "__len__") (hb : Binds X.K fd ps []) (hx : Passes CX X E) : CallR X (.builtin "len") (rLenO C sp E) := by
  intro pins s σ H xs us Q I r h
  obtain ⟨a, rfl, ⟨dx, fs, ha⟩, hsp⟩ := h
  cases r with
  | cons ra rr =>
    cases rr
    cases ra
    obtain ⟨_, J, _⟩ := ins_get I.hok ha
    obtain ⟨od, J, _⟩ := J.look
    obtain ⟨m, hF⟩ := I.fr
    refine PySem.W.len_K hF I.ok.mod.kin J O.at' O.fn (run_own F (A := X.A.in1) (xs := [.ref a]) ⟨hr.in1, rfl⟩ hb hx I (.cons rfl .nil) hsp fun z u H1 s1 I1 rz q => ?_)
    obtain ⟨k, rfl, hk, q⟩ := q
    obtain ⟨t, rfl⟩ := rz
    exact ⟨⟨by omega, by omega⟩, .int k, H1, I1.tok _, ⟨_, rfl⟩, q⟩
def rAddO (C : Addr) (sp : Sp) (E : XK) : R2 := fun x y H Q => ∃ a b, x = .ref a ∧ y = .ref b ∧ InsC C H a ∧ InsC C H b ∧ sp [.ref a, .ref b] H (fun v H1 => ∃ c, v = .ref c ∧ Q (.ref c) H1) E
theorem op_addO (F : FnOk X.prog X.w X.K X.mg X.base CX n f fd ps sp) (hr : Room n X.A) (O : Own X.K C f "__add__") (hc : PySem.W.selfFirst X.K C = true) (hb : Binds X.K fd ps []) (hx : Passes CX X E) : OpR X (binaryOp .Add) (rAddO C sp E) := by
  intro pins s σ H x y v u Q I rx ry h
  obtain ⟨a, b, rfl, rfl, ⟨dx, fs, ha⟩, ⟨dy, gs, hb'⟩, hsp⟩ := h
  cases rx
  cases ry
  obtain ⟨_, J, _⟩ := ins_get I.hok ha
  obtain ⟨_, J', _⟩ := ins_get I.hok hb'
  obtain ⟨od, J, _⟩ := J.look
  obtain ⟨od', J', _⟩ := J'.look
  obtain ⟨m, hF⟩ := I.fr
  refine PySem.W.binop_K (op := .Add) hF I.ok.mod.kin J J'.type hc O.at' O.fn (run_own F (A := X.A) (xs := [.ref a, .ref b]) ⟨hr, rfl⟩ hb hx I (.cons rfl (.cons rfl .nil)) hsp fun z u H1 s1 I1 rz q => ?_)
  obtain ⟨c, rfl, q⟩ := q
  cases rz
  exact ⟨.ref c, H1, I1, rfl, q⟩
def rInO (C : Addr) (sp : Sp) (E : XK) : R2 := fun x y H Q => ∃ a, y = .ref a ∧ InsC C H a ∧ sp [.ref a, x] H (fun v H1 => ∃ b, v = .bl b ∧ Q (.bl b) H1) E
def rNotInO (C : Addr) (sp : Sp) (E : XK) : R2 := fun x y H Q => ∃ a, y = .ref a ∧ InsC C H a ∧ sp [.ref a, x] H (fun v H1 => ∃ b, v = .bl b ∧ Q (.bl (!b)) H1) E
theorem op_inO (F : FnOk X.prog X.w X.K X.mg X.base CX n f fd ps sp) (hr : Room n X.A) (O : Own X.K C f "__contains__") (hb : Binds X.K fd ps []) (hx : Passes CX X E) : OpR X (compareOp .In) (rInO C sp E) := by
  intro pins s σ H x y v u Q I rx ry h
  obtain ⟨a, rfl, ⟨dx, fs, ha⟩, hsp⟩ := h
  cases ry
  obtain ⟨_, J, _⟩ := ins_get I.hok ha
  obtain ⟨od, J, _⟩ := J.look
  obtain ⟨m, hF⟩ := I.fr
  refine PySem.W.in_K hF I.ok.mod.kin J O.at' O.fn (run_own F (A := X.A) (xs := [.ref a, x]) ⟨hr, rfl⟩ hb hx I (.cons rfl (.cons rx .nil)) hsp fun z u H1 s1 I1 rz q => ?_)
  obtain ⟨b, rfl, q⟩ := q
  cases rz
  exact wpAny_truthy_bool ⟨.bl b, H1, I1, rfl, q⟩
theorem op_notInO (F : FnOk X.prog X.w X.K X.mg X.base CX n f fd ps sp) (hr : Room n X.A) (O : Own X.K C f "__contains__") (hb : Binds X.K fd ps []) (hx : Passes CX X E) : OpR X (compareOp .NotIn) (rNotInO C sp E) := by
  intro pins s σ H x y v u Q I rx ry h
  obtain ⟨a, rfl, ⟨dx, fs, ha⟩, hsp⟩ := h
  cases ry
  obtain ⟨_, J, _⟩ := ins_get I.hok ha
  obtain ⟨od, J, _⟩ := J.look
  obtain ⟨m, hF⟩ := I.fr
  refine PySem.W.notIn_K hF I.ok.mod.kin J O.at' O.fn (run_own F (A := X.A) (xs := [.ref a, x]) ⟨hr, rfl⟩ hb hx I (.cons rfl (.cons rx .nil)) hsp fun z u H1 s1 I1 rz q => ?_)
  obtain ⟨b, rfl, q⟩ := q
  cases rz
  exact wpAny_truthy_bool ⟨.bl (!b), H1, I1, rfl, q⟩
/-- o[e] by the own __getitem__ -/
def rIxO (C : Addr) (sp : Sp) (E : XK) : R2 := fun x y H Q => ∃ a, x = .ref a ∧ InsC C H a ∧ sp [.ref a, y] H Q E
theorem pe_ixO {a b : Expr} {ta tb : TE} {pos : Pos} (F : FnOk X.prog X.w X.K X.mg X.base CX n f fd ps sp) (hr : Room (n + 1) X.A) (O : Own X.K C f "__getitem__") (hf : PySem.W.fnIn X.K f = true) (hb : Binds X.K fd ps []) (hx : Passes CX X E) (ha : PE X a ta) (hi : PE X b tb)
    (hs : ∀ v i, subscripted b true v i = runValue (.builtin "lifetime.subscript" ⟨[v, i], []⟩)) : PE X (.Subscript a b pos) (tOp (rIxO C sp E) ta tb) := by
  refine ⟨fun pins s σ H Q I h => ?_⟩
  refine Subscript_ (binT ha hi I h fun v u s2 x y H2 I2 rx ry q => ?_)
  obtain ⟨p, rfl, ⟨dx, fs, hp⟩, hsp⟩ := q
  cases rx
  obtain ⟨_, J, _⟩ := ins_get I2.hok hp
  obtain ⟨od, J, _⟩ := J.look
  obtain ⟨m, hF⟩ := I2.fr
  exact PySem.W.sub_K hF I2.ok.mod.kin J O.at' hf O.fn (run_own F (A := X.A.in1) (xs := [.ref p, y]) ⟨hr.in1, rfl⟩ hb hx I2 (.cons rfl (.cons ry .nil)) hsp fun z u H1 s1 I1 rz q => ⟨z, H1, I1, rz, q⟩) (hs _ _)
/-- == by the own __eq__, either answer -/
def rEqO (C : Addr) (sp : Sp) (E : XK) : R2 := fun x y H Q => ∃ a b, x = .ref a ∧ y = .ref b ∧ InsC C H a ∧ InsC C H b ∧ sp [.ref a, .ref b] H (fun v H1 => ∃ c, v = .bl c ∧ Q (.bl c) H1) E
theorem op_eqO (F : FnOk X.prog X.w X.K X.mg X.base CX n f fd ps sp) (hr : Room n X.A) (O : Own X.K C f "__eq__") (hb : Binds X.K fd ps []) (hx : Passes CX X E) : OpR X (compareOp .Eq) (rEqO C sp E) := by
  intro pins s σ H x y v u Q I rx ry h
  obtain ⟨a, b, rfl, rfl, ⟨dx, fs, ha⟩, ⟨dy, gs, hb'⟩, hsp⟩ := h
  cases rx
  cases ry
  obtain ⟨_, J, _⟩ := ins_get I.hok ha
  obtain ⟨_, J', _⟩ := ins_get I.hok hb'
  obtain ⟨od, J, _⟩ := J.look
  obtain ⟨od', J', _⟩ := J'.look
  obtain ⟨m, hF⟩ := I.fr
  show wpAny (model X.prog X.w) X.A (richCompare .Eq (.ref a) (.ref b)) (EP X pins σ Q) X.xe s
  refine PySem.W.cmp_K (op := .Eq) (tb := .ref C) hr.units0 hF I.ok.mod.kin J J'.type (by simp [PySem.W.notFirst]) O.at' O.fn (run_own F (A := X.A) (xs := [.ref a, .ref b]) ⟨hr, rfl⟩ hb hx I (.cons rfl (.cons rfl .nil)) hsp fun z u H1 s1 I1 rz q => ?_)
  obtain ⟨c, rfl, q⟩ := q
  cases rz
  exact ⟨.bl c, H1, I1, rfl, q⟩
end
end WO

end
section
set_option autoImplicit false
set_option Elab.async false
set_option linter.all false
set_option maxRecDepth 100000
set_option maxHeartbeats 4000000
/-! ## set(a list of hin), and sorted of it -/
namespace WS
open PySem PySem.Spec PyProof.Rows L2
abbrev empt (Wd : World) : Obj := { cls := .type "set", dict := none, data := .set #[] 0 (.fresh 0 0 (!Wd.params.followText "set-order")) }
abbrev walker (ls : Addr) : Obj := { cls := .type "list_iterator", data := .fields #[.ref ls, .int 0 0] }
section
variable {Pg : Program} {Wd : World} {Ar : Around} {Ex : Value → Shared → Prop} {sh : Shared}
/-- what is left of a new set, filled -/
def Filled (Wd : World) (sh : Shared) (zs : List Int) (s2 : Shared) : Prop := ∃ hp tk c, s2 = { sh with heap := hp, toks := tk } ∧ SetR Wd hp sh.heap.objs.size (fun j => decide (j ∈ zs)) c ∧ c ≤ zs.length ∧ ∀ b o, sh.heap.get? b = some o → hp.get? b = some o
set_option maxHeartbeats 3200000 in
/-- __init__ of the new set at the end of the heap -/
theorem init_list {ls : Addr} {arr : Array Value} {zs : List Int} (ok : Ar.handled = none) (at0 : sh.heap.IsList ls arr) (hin : IntsAre arr.toList zs) (few : zs.length + 1 < scanBound) (tS : Shared.TypeIs { sh with heap := sh.heap.push (empt Wd) } (.ref sh.heap.objs.size) "set") :
    codeAny (model Pg Wd) Ar (.call (.builtin "set.__init__") ⟨[.ref sh.heap.objs.size, .ref ls], []⟩) (wants (fun r s2 => r = .none ∧ Filled Wd sh zs s2) Ex) { sh with heap := sh.heap.push (empt Wd) } := by
  have size_eq : arr.size = zs.length := by
    have q := IntsAre.length hin
    rwa [Array.length_toList] at q
  refine codeAny_call_builtin (R := wants _ Ex) F.called_set.init.plain F.entry_set_init (check_set_init_1 tS ?_)
  obtain ⟨⟨oc, od, oda, osl⟩, gl, cl, nl, dl⟩ := at0
  simp only at cl dl
  subst cl; subst dl
  have gl2 : (sh.heap.push (empt Wd)).get? ls = some { cls := .type "list", dict := od, data := .seq arr nl, slots := osl } := Heap.get?_push_of_some _ gl
  have k1 := F.sub_list_set
  have k2 := F.sub_list_frozenset
  have k3 : (Value.type "list" == Value.type "dict") = false := by decide
  have il : (sh.heap.push (empt Wd)).IsList ls arr := ⟨_, gl2, rfl, nl, rfl⟩
  unfold Builtin.«set.__init__» noKeywords Builtin.Frozenset.updateFrom
  generalize eI : pyIter = IT
  wp_walk
  subst eI
  refine wpAny_pyIter_list il ?_
  refine wpAny_bind (wpAny_runValue ?_)
  have low : ls < sh.heap.objs.size := Heap.lt_size gl
  have sz : (sh.heap.push (empt Wd)).objs.size = sh.heap.objs.size + 1 := Heap.size_push ..
  have ne1 : ls ≠ (sh.heap.push (empt Wd)).objs.size := by rw [sz]; exact Nat.ne_of_lt (Nat.lt_succ_of_lt low)
  have ne2 : sh.heap.objs.size ∉ [(sh.heap.push (empt Wd)).objs.size, ls] := by
    rw [sz]
    intro z
    rcases List.mem_cons.mp z with e | e
    · exact absurd e (Nat.ne_of_lt (Nat.lt_succ_self _))
    · exact absurd (List.mem_singleton.mp e) (Nat.ne_of_gt low)
  have item : ∀ (i : Nat) (v : Value), arr[i]? = some v → ∃ k t, zs[i]? = some k ∧ v = .int k t := by
    intro i v hv
    have hi : i < zs.length := by rw [← size_eq]; exact (Array.getElem?_eq_some_iff.mp hv).1
    obtain ⟨t, e⟩ := PyProof.Rows.IntsAre.int_at hin i v (by rw [Array.getElem?_toList]; exact hv)
    refine ⟨zs[i], t, List.getElem?_eq_getElem hi, ?_⟩
    rw [e, List.getD_eq_getElem?_getD, List.getElem?_eq_getElem hi] <;> rfl
  refine set_update_ints ((Walks.list (by simp [ok]) _ ls ne1 arr).toS) sh.heap.objs.size ne2 zs size_eq few item (arr.size - 0) 0 _ (by omega) (Nat.zero_le _) ⟨⟨_, Heap.get?_push_size _ rfl, rfl, rfl⟩, (il.push _)⟩ ?first0 ?rest0
  case first0 =>
    have g : ((sh.heap.push (empt Wd)).push (walker ls)).get? sh.heap.objs.size = some (empt Wd) := Heap.get?_push_of_some _ (Heap.get?_push_size _ rfl)
    exact ⟨0, Nat.le_refl 0, setR_new_at g⟩
  case rest0 =>
    rintro ⟨hp, g2, d2, tk, os2⟩ c mv hc R
    have eg : g2 = sh.gens := mv.gens
    have ed : d2 = sh.drawn := mv.drawn
    have eo : os2 = sh.os := mv.os
    subst eg; subst ed; subst eo
    show wpAny _ _ _ _ _ _
    refine wpAny_pure ?_
    show wpAny _ _ (ret Value.none) _ _ _
    rw [size_eq] at hc
    refine wpAny_pure ⟨rfl, hp, tk, c, rfl, R, hc, fun b o e => ?_⟩
    have lb : b < sh.heap.objs.size := Heap.lt_size e
    refine mv.heap b o ?_ (Heap.get?_push_of_some _ (Heap.get?_push_of_some _ e))
    rw [sz]
    intro z
    rcases List.mem_cons.mp z with e | e
    · exact absurd e (Nat.ne_of_lt lb)
    · exact absurd (List.mem_singleton.mp e) (Nat.ne_of_lt (Nat.lt_succ_of_lt lb))
set_option maxHeartbeats 3200000 in
theorem set_of_list {ls : Addr} {arr : Array Value} (zs : List Int) {Qv : Value → Shared → Prop} (ok : Ar.handled = none) (at0 : sh.heap.IsList ls arr) (hin : IntsAre arr.toList zs) (few : zs.length + 1 < scanBound)
    (k : ∀ s2, Filled Wd sh zs s2 → Qv (.ref sh.heap.objs.size) s2) : wpAny (model Pg Wd) Ar (call (.type "set") [.ref ls]) Qv Ex sh := by
  obtain ⟨c0, tl0, mro0⟩ := F.called_set.mro
  have f1 := F.called_set.made
  have f2 := F.called_set.sub
  refine wpAny_call (codeAny_of_tree ?_)
  show wpAny _ _ (callAny (.type "set") _) _ _ _
  refine wpAny_pure ⟨Code.quiet_builtin _ (by decide +kernel), codeAny_builtin F.entry_type_call ?_⟩
  rw [Around.under_plain (weight_type_call_type "set" [.ref ls] []) rfl]
  have f3 := F.called_set.notType
  have f4 := F.called_set.canCreate
  have f5 := F.typeCall_set_1 (.ref ls)
  repeat (any_goals (first | assumption | wp_step))
  refine codeAny_mono (code_set_led1 (.ref ls) (E := Ex) (Q₁ := fun ob s1 => ob = .ref sh.heap.objs.size ∧ s1 = { sh with heap := sh.heap.push (empt Wd) }) ⟨rfl, rfl⟩) fun r s1 hr => ?_
  match r, hr with
  | .error e, hr => exact hr
  | .ok .next, hr => exact hr.elim
  | .ok .brk, hr => exact hr.elim
  | .ok .cont, hr => exact hr.elim
  | .ok (.ret ob), hr =>
    obtain ⟨rfl, rfl⟩ := hr
    have tS : Shared.TypeIs { sh with heap := sh.heap.push (empt Wd) } (.ref sh.heap.objs.size) "set" := ⟨_, Heap.get?_push_size _ rfl, rfl⟩
    have f6 := F.called_set.init.lookup
    have f7 := F.called_set.init.bind (.ref sh.heap.objs.size)
    repeat (any_goals (first | assumption | wp_step))
    refine codeAny_mono (init_list (zs := zs) (Ex := Ex) (by simp [ok]) at0 hin few tS) fun r2 s2 hr2 => ?_
    match r2, hr2 with
    | .error e, hr2 => exact hr2
    | .ok .next, hr2 => exact hr2.elim
    | .ok .brk, hr2 => exact hr2.elim
    | .ok .cont, hr2 => exact hr2.elim
    | .ok (.ret v), hr2 =>
      obtain ⟨rfl, hF⟩ := hr2
      obtain ⟨hp, tk, c, rfl, R, hc, hk⟩ := hF
      repeat (any_goals (first | assumption | wp_step))
      exact k _ ⟨hp, tk, c, rfl, R, hc, hk⟩
end
section
variable {X : Cx}
def rSetL (K : PySem.W.Frag) (Wd : World) : List V → Hp → VK → Prop := fun xs H Q => ∃ (l : Addr) (zs : List Int), xs = [.ref l] ∧ SqL K H l (zs.map V.int) ∧ zs.length ≤ 4000 ∧ ∀ (p : Addr) (c : Nat), H p = none → c ≤ zs.length → Q (.ref p) (upd H p (SetO Wd p (fun j => decide (j ∈ zs)) c))
theorem cr_setL (hc : X.calm = true) : CallR X (.type "set") (rSetL X.K X.w) := by
  intro pins s σ H xs us Q I r h
  obtain ⟨l, zs, rfl, hL, few, q⟩ := h
  rw [Vals.ref1 r]
  obtain ⟨its, rv, pl, _⟩ := I.list hL
  refine set_of_list zs (I.ok.hd hc) pl.isList (by simpa using ints_of_vals rv) (by unfold scanBound; omega) fun s2 hF => ?_
  obtain ⟨hp, tk, c, rfl, R, hc2, hk⟩ := hF
  exact ⟨.ref _, upd H s.heap.objs.size (SetO X.w s.heap.objs.size (fun j => decide (j ∈ zs)) c), I.laid (t' := tk) hk (Nat.le_refl _) (setO_new R), rfl, q _ c (I.hok.fresh (Nat.le_refl _)) hc2⟩
end
end WS

end
section
set_option autoImplicit false
set_option Elab.async false
set_option linter.all false
set_option maxRecDepth 100000
set_option maxHeartbeats 4000000
/-! ## pieces for any law -/
namespace Y
open PySem L2 G
theorem of_upd {H : Hp} {p : Addr} {o : HO} (h : H p = none) : Same H (upd H p o) := fun a u e => by
  rw [upd_ne (ne_of_none e h)]
  exact e
theorem add_upd {H G : Hp} {D : Addr} {o : HO} (nD : H D = none) (s : Same H G) : Same H (upd G D o) := fun b u e => by
  rw [upd_ne (ne_of_none e nD)]
  exact s _ _ e
/-- a def of the text that is called by its name, and keeps a promise -/
structure Df (P : Program) (w : World) (K : PySem.W.Frag) (mg : Str → Option Value) (base : Heap) (k : Nat) (x : Str) (ps : List Str) (sp : Sp) : Prop where
  ex : ∃ (f : Addr) (fd : FuncData), FnOk P w K mg base CX0 k f fd ps sp ∧ mg x = some (.ref f) ∧ PySem.W.keepIn K (.ref f) = true ∧ Binds K fd ps []
structure Fd (K : PySem.W.Frag) (mg : Str → Option Value) (x : Str) (st : Stmt) (ps : List Str) : Prop where
  ex : ∃ (f : Addr) (fd : FuncData), Fun K x x st f fd ∧ mg x = some (.ref f) ∧ PySem.W.keepIn K (.ref f) = true ∧ Binds K fd ps []
theorem Fd.df {P : Program} {w : World} {K : PySem.W.Frag} {mg : Str → Option Value} {base : Heap} {x : Str} {st : Stmt} {ps : List Str} {k : Nat} {sp : Sp} (h : Fd K mg x st ps) (ok : ∀ f fd, Fun K x x st f fd → FnOk P w K mg base CX0 k f fd ps sp) : Df P w K mg base k x ps sp := by
  obtain ⟨f, fd, h1, h2, h3, h4⟩ := h.ex
  exact ⟨f, fd, ok f fd h1, h2, h3, h4⟩
theorem set_then {te : TE} {i : Nat} {t2 : TS} {D : Ends} {σ : L2.St} {H : Hp} (h : te σ H fun v H1 => t2 D (σ.set i (some v)) H1) : tSeq (tAsg te (gName i)) t2 D σ H := h
theorem len_put {f : Str} {v : V} {fs : List (Str × V)} {n : Nat} (h : fs.length < n) : (putF f v fs).length < n + 1 := Nat.lt_of_le_of_lt (length_putF f v fs) (Nat.succ_lt_succ h)
theorem take_snoc {α : Type} {l : List α} {i : Nat} {x : α} (h : l[i]? = some x) : l.take (i + 1) = l.take i ++ [x] := by
  rw [List.take_succ, h]
  rfl
theorem drop_at {α : Type} {l : List α} {i : Nat} {x : α} (h : l[i]? = some x) : l.drop i = x :: l.drop (i + 1) := by
  obtain ⟨hi, ex⟩ := List.getElem?_eq_some_iff.mp h
  rw [← ex, ← List.drop_eq_getElem_cons hi]
section
variable {X : Cx} {tg it : Expr}
theorem pi_or {w1 w2 : TI} (h1 : PI X tg it w1) (h2 : PI X tg it w2) : PI X tg it (fun σ H R => w1 σ H R ∨ w2 σ H R) := ⟨fun pins s σ H R I h => h.elim (h1.run pins s σ H R I) (h2.run pins s σ H R I)⟩
def tDead : TS := fun _ _ _ => False
theorem ps_dead {b : List Stmt} : PSs X b tDead := ⟨fun _ _ _ _ _ _ h => h.elim⟩
end
def SAt (H : Hp) (l : Addr) (xs : List V) : Prop := H l = some (.lst xs) ∨ H l = some (.tup xs)
theorem SAt.mono {H H' : Hp} {l : Addr} {xs : List V} (s : Same H H') (h : SAt H l xs) : SAt H' l xs := h.elim (fun e => .inl (s _ _ e)) fun e => .inr (s _ _ e)
section
variable {K : PySem.W.Frag} {H : Hp} {σ : L2.St} {l : Addr} {xs : List V}
theorem or_seq {te : TE} {R : It → Hp → Prop} (ht : ∀ Q : VK, Q (.ref l) H → te σ H Q) (hl : SAt H l xs) (k : ∀ (J : It) (Gd : Hp → Prop), (∀ H', Same H H' → Gd H') → Walk J xs.length Gd (YAt xs) → R J H) : iList K te σ H R ∨ iTup K te σ H R :=
  hl.elim (fun e => .inl (ht _ ⟨l, rfl, ⟨xs, SqL.of e⟩, k _ _ (fun H' s => SqL.of (s _ _ e)) walk_list⟩)) fun e => .inr (ht _ ⟨l, rfl, ⟨xs, SqT.of e⟩, k _ _ (fun H' s => SqT.of (s _ _ e)) walk_tup⟩)
end
theorem at0 {y0 : V} {ys : List V} : atI (y0 :: ys) (0 : Int) = some y0 := by exact atI_nat (xs := y0 :: ys) (j := 0) rfl
def ni (l : List Nat) : List V := (l.map fun n => ((n : Nat) : Int)).map V.int
theorem ni_len (l : List Nat) : (ni l).length = l.length := by
  unfold ni
  rw [List.length_map, List.length_map]
theorem ni_get {l : List Nat} {i : Nat} {x : V} (h : (ni l)[i]? = some x) : ∃ b, l[i]? = some b ∧ x = .int ((b : Nat) : Int) := by
  unfold ni at h
  rw [List.getElem?_map, List.getElem?_map] at h
  cases e : l[i]? with
  | none => rw [e] at h; cases h
  | some b =>
    rw [e] at h
    cases h
    exact ⟨b, rfl, rfl⟩
theorem ni_at {l : List Nat} {i b : Nat} (h : l[i]? = some b) : (ni l)[i]? = some (.int ((b : Nat) : Int)) := by
  unfold ni
  rw [List.getElem?_map, List.getElem?_map, h]
  rfl
theorem ni_app (l m : List Nat) : ni (l ++ m) = ni l ++ ni m := by
  unfold ni
  rw [List.map_append, List.map_append]
theorem ni_drop (l : List Nat) (i : Nat) : (ni l).drop i = ni (l.drop i) := by
  unfold ni
  rw [← List.map_drop, ← List.map_drop]
theorem ni_take (l : List Nat) (i : Nat) : (ni l).take i = ni (l.take i) := by
  unfold ni
  rw [← List.map_take, ← List.map_take]
theorem line2 : 2 ≤ sizeLine ∧ 3 ≤ sizeLine ∧ 1 ≤ sizeLine ∧ 0 ≤ sizeLine := by decide
/-- xs[k:] -/
theorem cut_from (xs : List V) (k : Nat) : cutV xs (some (k : Int)) none = xs.drop k := by
  unfold cutV
  rw [HT.sIx_none, HT.sIx_nat]
  by_cases h : k ≤ xs.length
  · rw [Nat.min_eq_left h]
    exact List.take_of_length_le (by rw [List.length_drop]; omega)
  · rw [Nat.min_eq_right (by omega), List.drop_of_length_le (by omega), List.drop_of_length_le (by omega), List.take_nil]
theorem six_pos {n k : Nat} (h : 0 < k) (hn : 0 < n) (d : Nat) : HT.sIx n d (some (k : Int)) ≠ 0 := by
  rw [HT.sIx_nat]
  omega
structure Bn (mg : Str → Option Value) : Prop where
  isi : mg "isinstance" = none
  bool : mg "bool" = none
  int : mg "int" = none
  tuple : mg "tuple" = none
  list : mg "list" = none
  len : mg "len" = none
  range : mg "range" = none
  zip : mg "zip" = none
  min : mg "min" = none
  max : mg "max" = none
  sorted : mg "sorted" = none
  set : mg "set" = none
  enum : mg "enumerate" = none
end Y

end
section
set_option autoImplicit false
set_option Elab.async false
set_option linter.all false
set_option maxRecDepth 100000
set_option maxHeartbeats 4000000
/-! ## pieces of the gates' texts that the texts of ways want, too -/
namespace M
def Step.dep : Step → Nat
  | .tunnel w _ _ => w.depth
  | .road _ _ _ => 0
  | .join _ => 0
theorem deep_cons : ∀ (s : Step) (r : List Step), Step.deepest (s :: r) = max (Step.dep s) (Step.deepest r)
  | .tunnel w a b, r => by
    conv => lhs; unfold Step.deepest
    rfl
  | .road a b c, r => by
    conv => lhs; unfold Step.deepest
    exact (Nat.zero_max _).symm
  | .join a, r => by
    conv => lhs; unfold Step.deepest
    exact (Nat.zero_max _).symm
theorem dep_le : ∀ {s : List Step} {i : Nat} {x : Step}, s[i]? = some x → Step.dep x ≤ Step.deepest s
  | [], i, x, h => by cases h
  | y :: r, 0, x, h => by
    have e : y = x := Option.some.inj h
    rw [deep_cons, e]
    omega
  | y :: r, i + 1, x, h => by
    have := dep_le (s := r) (i := i) (x := x) h
    rw [deep_cons]
    omega
theorem depth_pos (wy : Way) : 1 ≤ wy.depth := by
  obtain ⟨h, s⟩ := wy
  unfold Way.depth
  omega
end M
namespace WP
open PySem L2 G
variable {C : Addr}
theorem head_fld {H : Hp} {wy : M.Way} {a : Addr} (h : WayAt C H wy a) : ∃ dx fs, H a = some (.ins C dx fs) ∧ fs.lookup ("head" : Str) = some (.int ((wy.head : Nat) : Int)) := by
  obtain ⟨wh, ws⟩ := wy
  unfold WayAt at h
  obtain ⟨dx, t, xs, h1, _, _⟩ := h
  exact ⟨dx, _, h1, flds_head _ _ _ _⟩
theorem steps_fld {H : Hp} {wy : M.Way} {a : Addr} (h : WayAt C H wy a) : ∃ dx fs t xs, H a = some (.ins C dx fs) ∧ fs.lookup ("steps" : Str) = some (.ref t) ∧ H t = some (.tup xs) ∧ StepsAt C H wy.steps xs := by
  obtain ⟨wh, ws⟩ := wy
  unfold WayAt at h
  obtain ⟨dx, t, xs, h1, h2, h3⟩ := h
  exact ⟨dx, _, t, xs, h1, flds_steps _ _ _ _, h2, h3⟩
end WP
namespace CP
open PySem L2 G Y
/-- all but lists stays -/
def KeepT (H H' : Hp) : Prop := ∀ a o, (∀ xs, o ≠ .lst xs) → H a = some o → H' a = some o
theorem put_keepT {G : Hp} {l : Addr} {xs : List V} {o : HO} (h : G l = some (.lst xs)) : KeepT G (upd G l o) := fun a o n e => by
  rw [upd_ne (fun z => by
    rw [z, h] at e
    cases e
    exact n _ rfl)]
  exact e
theorem same_keepT {H H' : Hp} (s : Same H H') : KeepT H H' := fun a o _ e => s a o e
theorem if_then {c : TT} {t1 t2 t3 : TS} {D : Ends} {σ : L2.St} {H : Hp} (Z : L2.St → Hp → Prop) (k : ∀ σ' H', Z σ' H' → t3 D σ' H') (h : (∀ σ' H', Z σ' H' → t3 D σ' H') → tIfS c t1 t2 { D with nx := fun σ' H' => t3 D σ' H' } σ H) : tSeq (tIfS c t1 t2) t3 D σ H := h k
theorem set_k {te : TE} {i : Nat} {t2 : TS} {D : Ends} {σ : L2.St} {H : Hp} (Z : V → Hp → Prop) (k : ∀ v H', Z v H' → t2 D (σ.set i (some v)) H') (h : (∀ v H', Z v H' → t2 D (σ.set i (some v)) H') → te σ H fun v H1 => t2 D (σ.set i (some v)) H1) : tSeq (tAsg te (gName i)) t2 D σ H := h k
theorem iteP {p : Prop} [Decidable p] {A B : Prop} (h : p) (a : A) : if decide p = true then A else B := by
  rw [decide_eq_true h]
  exact a
theorem iteN {p : Prop} [Decidable p] {A B : Prop} (h : ¬ p) (b : B) : if decide p = true then A else B := by
  rw [decide_eq_false h]
  exact b
theorem iteNT {x y : V} {A B : Prop} (h : ¬ x = y) (a : A) : if (!decide (x = y)) = true then A else B := by
  rw [decide_eq_false h]
  exact a
theorem fine_all {wy : M.Way} (h : wy.fine) : M.Step.fineAll wy.head wy.steps ∧ wy.steps.length ≤ 12 ∧ wy.size ≤ 40 := by
  obtain ⟨wh, s⟩ := wy
  unfold M.Way.fine at h
  refine ⟨h.2.2.1, h.2.1.2, ?_⟩
  unfold M.Way.size
  exact h.2.2.2.2
theorem fine_dep {wy : M.Way} (h : wy.fine) : wy.depth ≤ 3 := by
  obtain ⟨wh, s⟩ := wy
  unfold M.Way.fine at h
  unfold M.Way.depth
  exact h.2.2.2.1
end CP

end
section
set_option autoImplicit false
set_option Elab.async false
set_option linter.all false
set_option maxRecDepth 100000
set_option maxHeartbeats 4000000
/-! ## a tuple, the other way round -/
namespace QR
open PySem PySem.Spec PyProof.Rows L2
section
variable {prog : Program} {w : World} {A : Around} {E : Value → Shared → Prop} {s : Shared}
theorem applied_back {sl : Addr} {vs : Value} {n : Nat} {Q : Int × Int × Nat → Shared → Prop} (hs : s.heap.IsSliceOf sl .none .none vs) (ps : IsPart vs (some (-1)))
    (h : Q ((n : Int) - 1, -1, n) s) : wpAny (model prog w) A (Builtin.Slice.sliceApplied (.ref sl) (pure (n : Int))) Q E s := by
  obtain ⟨os, hos, hcs, hds⟩ := id hs
  unfold Builtin.Slice.sliceApplied Builtin.Slice.sliceFields
  refine wpAny_bind (wpAny_bind (wpAny_field hos hds (x := .none) rfl (wpAny_bind (wpAny_field hos hds (x := .none) rfl (wpAny_bind (wpAny_field hos hds (x := vs) rfl (wpAny_pure ?_)))))))
  refine wpAny_bind (HT.slicePart_ ps ?_)
  show wpAny _ _ (if ((-1 : Int) == 0) = true then _ else _) _ _ s
  rw [if_neg (by decide)]
  refine wpAny_bind (HT.slicePart_ .none (wpAny_bind (HT.slicePart_ .none (wpAny_bind (wpAny_pure ?_)))))
  have e1 : Builtin.Slice.sliceAdjust none none (-1) (n : Int) = ((n : Int) - 1, -1) := by
    unfold Builtin.Slice.sliceAdjust
    simp
  have e2 : Builtin.Slice.slicePlaces ((n : Int) - 1) (-1) (-1) = n := by
    unfold Builtin.Slice.slicePlaces
    simp
    omega
  show wpAny _ _ (match Builtin.Slice.sliceAdjust none none (-1) (n : Int) with | (lo, hi) => pure (lo, (-1 : Int), Builtin.Slice.slicePlaces lo hi (-1))) _ _ s
  rw [e1]
  show wpAny _ _ (pure ((n : Int) - 1, (-1 : Int), Builtin.Slice.slicePlaces ((n : Int) - 1) (-1) (-1))) _ _ s
  rw [e2]
  exact wpAny_pure h
theorem fm_congr {f g : Nat → Option Value} : ∀ {l : List Nat}, (∀ m ∈ l, f m = g m) → l.filterMap f = l.filterMap g
  | [], _ => rfl
  | x :: l, h => by
    have e := fm_congr (f := f) (g := g) (l := l) fun m hm => h m (List.mem_cons_of_mem _ hm)
    rw [List.filterMap_cons, List.filterMap_cons, h x List.mem_cons_self, e]
theorem pick_back (xs : Array Value) : ((List.range xs.size).filterMap fun (m : Nat) => xs[(((xs.size : Int) - 1) + (m : Int) * (-1)).toNat]?).toArray = xs.toList.reverse.toArray := by
  have e : (List.range xs.size).filterMap (fun (m : Nat) => xs[(((xs.size : Int) - 1) + (m : Int) * (-1)).toNat]?) = ((List.range xs.size).map fun k => xs.size - 1 - k).filterMap (xs[·]?) := by
    rw [List.filterMap_map]
    refine fm_congr fun m hm => ?_
    have := List.mem_range.mp hm
    show xs[_]? = xs[xs.size - 1 - m]?
    rw [show (((xs.size : Int) - 1) + (m : Int) * (-1)).toNat = xs.size - 1 - m by omega]
  rw [e, PySem.W.krv_range, List.filterMap_reverse, PySem.W.krv_all]
theorem get_back {t sl : Addr} {items : Array Value} {vs : Value} {Q : Value → Shared → Prop} (ht : IsTup s.heap t items) (hs : s.heap.IsSliceOf sl .none .none vs) (ps : IsPart vs (some (-1)))
    (h : Q (.ref s.heap.objs.size) { s with heap := s.heap.push { cls := .type "tuple", data := .seq items.toList.reverse.toArray } }) (hsz : items.size ≤ sizeLine) : wpAny (model prog w) A (getItem (.ref t) (.ref sl)) Q E s := by
  have fits : sizeOk (.seq items.toList.reverse.toArray) := by
    show items.toList.reverse.toArray.size ≤ sizeLine
    simpa using hsz
  obtain ⟨os, hos, hcs, hds⟩ := id hs
  have hT : s.TypeIs (.ref sl) "slice" := ⟨os, hos, hcs⟩
  unfold getItem
  try with_reducible refine wpAny_holding ?_
  first | refine wpAny_bind (wpAny_pure ?_) | skip
  refine wpAny_bind (wpAny_sequenceKey ht.typeIs (by decide) (wpAny_bind (wpAny_callSpecial?_slot (name := Str.ofString "__getitem__") ht.typeIs PyProof.Rows.slot_tuple_getitem
    (wpAny_call_entry PyProof.Rows.slot_tuple_getitem ht.typeIs PyProof.Rows.entry_tuple_getitem ?_ (PyProof.Rows.args_tuple_getitem _ _)))))
  show wpAny _ _ (Builtin.Tuple.tupleItemsOf (.ref t) >>= _) _ _ s
  refine wpAny_bind (tupleItemsOf_ ht (wpAny_bind (wpAny_typeOf hT ?_)))
  rw [if_pos (by decide)]
  refine wpAny_bind (applied_back hs ps ?_)
  have no : ¬ ((((items.size : Int) - 1) == 0 && (-1 : Int) == 1 && items.size == items.size) = true) := by simp
  show wpAny _ _ (if ((((items.size : Int) - 1) == 0 && (-1 : Int) == 1 && items.size == items.size) = true) then _ else _) _ _ s
  rw [if_neg no, pick_back]
  first
    | exact wpAny_bind (m := Builtin.Tuple.tupleExact _) (wpAny_newObj_type (wpAny_pure ⟨_, rfl, wpAny_pure h⟩) fits)
    | exact wpAny_bind (wpAny_bind (m := Builtin.Tuple.tupleExact _) (wpAny_newObj_type (wpAny_pure ⟨_, rfl, wpAny_pure h⟩) fits))
end
section
variable {X : Cx}
/-- t[::-1] of a tuple -/
def tRevT (K : PySem.W.Frag) (te : TE) : TE := fun σ H Q => te σ H fun x H1 => ∃ a xs, x = .ref a ∧ SqT K H1 a xs ∧ ∀ p, H1 p = none → Q (.ref p) (upd H1 p (.tup xs.reverse))
theorem pe_revT {e : Expr} {te : TE} {k : Nat} {p1 p2 p3 pos : Pos} (he : PE X e te) : PE X (.Subscript e (.Slice none none (some (.UnaryOp .USub (.Constant (.int 1) k p1) p2)) p3) pos) (tRevT X.K te) := by
  refine ⟨fun pins s σ H Q I h => Subscript_ (thn (he.run pins s σ H _ I h) fun v s1 ⟨x, H1, I1, r1, q1⟩ => ?_)⟩
  obtain ⟨a, xs, ex, hx, q⟩ := q1
  subst ex
  cases r1
  have st : PO X (some (.UnaryOp .USub (.Constant (.int 1) k p1) p2)) (tPart (tUn (rU fun i => .int (-i)) (tC (.int 1)))) := po_some (pe_un un_neg pe_int)
  refine wpAny_Slice (thn (po_none.run pins s1 σ H1 (fun o H2 => o = none ∧ H2 = H1) I1 ⟨rfl, rfl⟩) fun vl s2 hl => ?_)
  obtain ⟨l, H2, I2, pl, el, e2⟩ := hl
  subst el e2
  refine thn (po_none.run pins s2 σ H2 (fun o H3 => o = none ∧ H3 = H2) I2 ⟨rfl, rfl⟩) fun vu s3 hu => ?_
  obtain ⟨u, H3, I3, pu, eu, e3⟩ := hu
  subst eu e3
  refine thn (st.run pins s3 σ H3 (fun o H4 => o = some (-1) ∧ H4 = H3) I3 ⟨1, rfl, -1, rfl, rfl, rfl⟩) fun vs s4 hs4 => ?_
  obtain ⟨o, H4, I4, ps, eo, e4⟩ := hs4
  subst eo e4
  cases pl
  cases pu
  have I5 : Inv X pins σ H4 { s4 with heap := s4.heap.push { cls := .type "slice", data := .fields #[.none, .none, vs] } } := I4.kept (t' := s4.toks) fun b ob q => Heap.get?_push_of_some _ q
  obtain ⟨its, r, ht, hz⟩ := I5.tuple hx
  have hlen := r.length
  show wpAny (model X.prog X.w) X.A (subscriptTail e (.Slice none none (some (.UnaryOp .USub (.Constant (.int 1) k p1) p2)) p3) (.ref a) (.ref s4.heap.objs.size)) (EP X pins σ Q) X.xe { s4 with heap := s4.heap.push { cls := .type "slice", data := .fields #[.none, .none, vs] } }
  refine tail_any (ops := [.ref a, .ref s4.heap.objs.size]) ht.typeIs PyProof.Rows.slot_tuple_getitem.lookup ?_ (by with_unfolding_all rfl)
  refine get_back ht (Heap.IsSliceOf.new _ .none .none vs) ps ?_ (by rw [List.size_toArray]; omega)
  refine ⟨.ref _, _, I5.laid (t' := s4.toks) (o := .tup xs.reverse) (fun b ob q => Heap.get?_push_of_some _ q) (Nat.le_refl _) ?_, rfl, q _ (I5.hok.fresh (Nat.le_refl _))⟩
  exact ⟨by rw [List.length_reverse]; exact hz, _, r.reverse, IsTup.new _ _⟩
end
end QR

end
section
set_option Elab.async false
set_option linter.all false
set_option maxRecDepth 100000
set_option maxHeartbeats 4000000
/-! ## where the law draws from -/
namespace S
open PySem L2
def top (i : Nat) : Stmt := PySem.Challenge.pw_roadsizes_k81_texts_refused.main.body.getD i (.Pass ⟨0, 0, 0, 0⟩)
abbrev sSource : Stmt := top 42
abbrev sDraw : Stmt := top 43
abbrev sPick : Stmt := top 44
/-- the built-ins that these defs call -/
structure Bi (mg : Str → Option Value) : Prop where
  int : mg "int" = none
  len : mg "len" = none
/-- a source: two numbers that are not negative, the second one small -/
def Two (r m : Int) : List V := [.int r, .int m]
structure Fine (r m : Int) : Prop where
  r0 : 0 ≤ r
  m0 : 0 ≤ m
  m1 : m < 2147483648
def At (H : Hp) (p : Addr) : Prop := ∃ r m, H p = some (.lst (Two r m)) ∧ Fine r m
theorem bits_lt (x : Int) : x.natAbs < 2 ^ (Builtin.Int.intBits x) := by
  unfold Builtin.Int.intBits
  split
  · rename_i h
    have e : x = 0 := by simpa using h
    subst e
    decide
  · exact Nat.lt_log2_self
theorem bits_le {x : Int} {n : Nat} (h : x.natAbs < 2 ^ n) : Builtin.Int.intBits x ≤ n := by
  unfold Builtin.Int.intBits
  split
  · exact Nat.zero_le _
  · rename_i q
    have ne : x.natAbs ≠ 0 := fun e => q (by simp [Int.natAbs_eq_zero.mp e])
    exact (Nat.log2_lt ne).mpr h
theorem cube_gen {m z : Int} {N : Nat} (hN : 100 ≤ N) (h0 : 0 ≤ m) (h1 : m < 2147483648) (hz : Builtin.Int.intBits z ≤ N) : Builtin.Int.intBits (m * 40127 + z) ≤ N + 1 := by
  have b2 : z.natAbs < 2 ^ N := Nat.lt_of_lt_of_le (bits_lt z) (Nat.pow_le_pow_right (by decide) hz)
  refine bits_le ?_
  have e2 : (2 : Nat) ^ 100 ≤ 2 ^ N := Nat.pow_le_pow_right (by decide) hN
  have e3 : (2 : Nat) ^ 100 = 1267650600228229401496703205376 := by decide
  rw [Nat.pow_succ]
  generalize (2 : Nat) ^ N = t at *
  omega
theorem cube_ok {m z : Int} (h0 : 0 ≤ m) (h1 : m < 2147483648) (hz : Builtin.Int.intBits z ≤ 1048576) : (Builtin.Int.intBits (m * 40127 + z) : Int) * 3 ≤ 2 ^ 27 := by
  have b4 := cube_gen (N := 1048576) (by decide) h0 h1 hz
  have e27 : (2 : Int) ^ 27 = 134217728 := by decide
  rw [e27]
  omega
/-! ### promises -/
def spSource (K : PySem.W.Frag) : Sp := fun vs H Q _ => ∃ (a : Addr) (ns : List Int) (i : Nat), vs = [.ref a, .int i] ∧ i ≤ 1000 ∧ SqL K H a (ns.map V.int) ∧ ns.length ≤ 63 ∧ (∀ z ∈ ns, Builtin.Int.intBits z ≤ 1048576) ∧
  ∀ p r m, H p = none → Fine r m → Q (.ref p) (upd H p (.lst (Two r m)))
def spDraw : Sp := fun vs H Q _ => ∃ (p : Addr) (r m span : Int), vs = [.ref p, .int span] ∧ H p = some (.lst (Two r m)) ∧ Fine r m ∧ 1 ≤ span ∧ span.natAbs.log2 < 9000 ∧
  ∀ k r' m', Fine r' m' → 0 ≤ k → k < span → Q (.int k) (upd H p (.lst (Two r' m')))
def spPick (K : PySem.W.Frag) : Sp := fun vs H Q _ => ∃ (p l : Addr) (r m : Int) (xs : List V), vs = [.ref p, .ref l] ∧ H p = some (.lst (Two r m)) ∧ Fine r m ∧ l ≠ p ∧ SqL K H l xs ∧ 1 ≤ xs.length ∧ xs.length ≤ 1000 ∧
  ∀ (j : Nat) (x : V) (r' m' : Int), Fine r' m' → xs[j]? = some x → Q x (upd H p (.lst (Two r' m')))
section
variable {P : Program} {w : World} {K : PySem.W.Frag} {mg : Str → Option Value} {base : Heap}
theorem sc1 : FnScope ["script", "start", "seed", "cell", "digits"] ["script", "start"] (defScope sSource) := ⟨rfl, rfl, rfl, by decide +kernel, rfl, by decide +kernel, by decide +kernel⟩
theorem ints_at {ns : List Int} {i : Nat} {x : V} (h : (ns.map V.int)[i]? = some x) : ∃ z, x = .int z ∧ z ∈ ns ∧ ns[i]? = some z := by
  rw [List.getElem?_map] at h
  cases e : ns[i]? with
  | none => rw [e] at h; cases h
  | some z => rw [e] at h; exact ⟨z, (Option.some.inj h).symm, List.mem_of_getElem? e, rfl⟩
theorem ok_source {f : Addr} {fd : FuncData} (F : Fun K "_law_stream" "_law_stream" sSource f fd) (B : Bi mg) : FnOk P w K mg base CX0 1 f fd ["script", "start"] (spSource K) := by
  refine F.ok sc1 (fun vs H Q E h => ?_) (fun cdv A outer s H vs Q E hr h => ?_)
  · obtain ⟨a, ns, i, rfl, _⟩ := h
    rfl
  · obtain ⟨a, ns, st, rfl, hst, hS, hl, hb, k⟩ := h
    refine ⟨_, pss_cons (ps_set (i := 2) sc1.nd rfl (Or.inl rfl) (pe_op op_add pe_int (pv 1)))
      (pss_cons (ps_for PassesOwn.never rfl (pi_list (pv 0)) (pg_name (i := 3) sc1.nd rfl (Or.inl rfl))
        (pss_one (ps_set (i := 2) sc1.nd rfl (Or.inl rfl) (pe_op op_add (pe_op op_mod
          (pe_op G.op_powN (pe_callTy call_int1 (by rfl) B.int (by decide +kernel) (pa_cons (pe_op op_add (pe_op op_mul (pv 2) pe_int) (pv 3)) pa_nil)) pe_int) pe_int) pe_int))))
      (pss_cons (ps_set (i := 4) sc1.nd rfl (Or.inl rfl) pe_int)
      (pss_cons (ps_if (PW.pt (pw_and (pt_cmpR op_lt (pv 1) (pe_callB call_len_seq (by rfl) B.len PySem.boot_len (pa_cons (pv 0) pa_nil)) (nomark _))
          (pw_and1 (pt_cmpR op_ge (pe_ix ix_list (pv 0) (pv 1) (fun _ _ => rfl)) (pe_op op_pow pe_int pe_int) (nomark _)))))
        (pss_one (ps_set (i := 4) sc1.nd rfl (Or.inl rfl) (pe_op op_sub (pe_ix ix_list (pv 0) (pv 1) (fun _ _ => rfl)) (pe_op op_pow pe_int pe_int)))) pss_nil)
      (pss_one (ps_ret (pe_lst (pa_cons (pv 4) (pa_cons (pv 2) pa_nil)))))))), ?_⟩
    -- mixed = 97 + start
    refine ⟨_, rfl, _, _, rfl, rfl, ?_⟩
    -- for cell in script
    refine ⟨_, rfl, a, rfl, ⟨_, hS⟩, for_list (K := K) (a := a) (xs := ns.map V.int) (fun i σ H2 => ∃ (m : Int) (c : Option V), σ = [some (.ref a), some (.int st), some (.int m), c, none] ∧ H2 = H ∧ (0 ≤ m ∧ m < 2147483648))
      ⟨_, none, rfl, rfl, by omega, by omega⟩ (fun i σ H2 _ ⟨_, _, _, e, _⟩ => by rw [e]; exact hS) ?_ ?_⟩
    · rintro i y σ H2 hi ⟨m, c, rfl, rfl, h0, h1⟩
      obtain ⟨z, rfl, hz, _⟩ := ints_at hi
      refine ⟨_, rfl, _, _, rfl, rfl, .inl ⟨by omega, by omega⟩, _, rfl, _, _, rfl, rfl, .inl ⟨_, rfl, _, _, rfl, rfl, ⟨by decide, cube_ok h0 h1 (hb z hz)⟩, _, _, rfl, rfl, (by show (0 : Int) < 2147483629; decide), _, _, rfl, rfl, ?_⟩⟩
      refine ⟨_, _, rfl, rfl, ?_⟩
      have e1 := Int.emod_nonneg ((m * 40127 + z) ^ (3 : Int).toNat) (b := 2147483629) (by decide)
      have e2 := Int.emod_lt_of_pos ((m * 40127 + z) ^ (3 : Int).toNat) (b := 2147483629) (by decide)
      exact ⟨Int.add_nonneg e1 (by decide), Int.lt_of_lt_of_le (Int.add_lt_add_right e2 1) (by decide)⟩
    · rintro σ H2 ⟨m, c, rfl, rfl, h0, h1⟩
      -- rest = 0; if start < len(script) and script[start] >= 10 ** 18
      refine ⟨_, rfl, _, rfl, a, _, rfl, .inl hS, _, _, rfl, rfl, _, rfl, ?_⟩
      have fin : ∀ r : Int, 0 ≤ r → tRet (tLst (tCons (tVar 4) (tCons (tVar 2) tNil))) { nx := fun _ H' => Q .non H', rt := Q } [some (.ref a), some (.int st), some (.int m), c, some (.int r)] H2 := fun r hr =>
        ⟨_, rfl, _, rfl, (by show 2 ≤ sizeLine; decide), fun p hp => k p r m hp ⟨hr, h0, h1⟩⟩
      by_cases hlt : st < ns.length
      · have e : decide ((st : Int) < ((ns.map V.int).length : Int)) = true := by
          rw [List.length_map]
          exact decide_eq_true (by omega)
        rw [e]
        refine iteT ?_
        have hit : (ns.map V.int)[st]? = some (V.int ns[st]) := by rw [List.getElem?_map, List.getElem?_eq_getElem hlt]; rfl
        refine ⟨_, rfl, _, rfl, a, _, _, _, rfl, rfl, hS, atI_nat hit, _, _, rfl, rfl, ⟨by decide, by decide, by decide⟩, _, _, rfl, rfl, _, rfl, ?_⟩
        refine ite2 (fun hge => ?_) (fun _ => fin 0 (by decide))
        refine ⟨_, rfl, _, rfl, a, _, _, _, rfl, rfl, hS, atI_nat hit, _, _, rfl, rfl, ⟨by decide, by decide, by decide⟩, _, _, rfl, rfl, ?_⟩
        exact fin _ (Int.sub_nonneg_of_le (of_decide_eq_true hge))
      · have e : decide ((st : Int) < ((ns.map V.int).length : Int)) = false := by
          rw [List.length_map]
          exact decide_eq_false (by omega)
        rw [e]
        exact iteF (iteF (fin 0 (by decide)))
theorem fits {a : Int} {n : Nat} (h : 0 ≤ a) (h1 : a < 2 ^ n) : a.natAbs < 2 ^ n := by
  have e : ((2 : Int) ^ n) = ((2 ^ n : Nat) : Int) := by rw [Int.natCast_pow]; rfl
  rw [e] at h1
  omega
theorem sc2 : FnScope ["stream", "size", "found"] ["stream", "size"] (defScope sDraw) := ⟨rfl, rfl, rfl, by decide +kernel, rfl, by decide +kernel, by decide +kernel⟩
theorem ok_draw {f : Addr} {fd : FuncData} (F : Fun K "_law_draw" "_law_draw" sDraw f fd) (B : Bi mg) : FnOk P w K mg base CX0 1 f fd ["stream", "size"] spDraw := by
  refine F.ok sc2 (fun vs H Q E h => ?_) (fun cdv A outer s H vs Q E hr h => ?_)
  · obtain ⟨p, r, m, span, rfl, _⟩ := h
    rfl
  · obtain ⟨p, r, m, span, rfl, hp, ⟨r0, m0, m1⟩, s1, s2, k⟩ := h
    refine ⟨_, pss_cons (ps_if (pt_cmpR op_ge (pe_ix ix_list (pv 0) pe_int (fun _ _ => rfl)) (pv 1) (nomark _))
        (pss_cons (ps_set (i := 2) sc2.nd rfl (Or.inl rfl) (pe_op op_mod (pe_callTy call_int1 (by rfl) B.int (by decide +kernel) (pa_cons (pe_ix ix_list (pv 0) pe_int (fun _ _ => rfl)) pa_nil)) (pv 1)))
        (pss_cons (ps_asg (pe_op op_fdivW (pe_ix ix_list (pv 0) pe_int (fun _ _ => rfl)) (pv 1)) (pg_sub (pv 0) pe_int set_list))
        (pss_one (ps_ret (pv 2))))) pss_nil)
      (pss_cons (ps_asg (pe_op op_mod (pe_callTy call_int1 (by rfl) B.int (by decide +kernel) (pa_cons (pe_op op_add (pe_op op_mul (pe_ix ix_list (pv 0) pe_int (fun _ _ => rfl)) pe_int) pe_int) pa_nil)) pe_int) (pg_sub (pv 0) pe_int set_list))
      (pss_one (ps_ret (pe_op op_mod (pe_op op_fdiv (pe_op op_mod (pe_op op_pow (pe_op op_mod (pe_op op_pow (pe_callTy call_int1 (by rfl) B.int (by decide +kernel) (pa_cons (pe_ix ix_list (pv 0) pe_int (fun _ _ => rfl)) pa_nil)) pe_int) pe_int) pe_int) pe_int) pe_int) (pv 1))))), ?_⟩
    have g0 : atI (Two r m) 0 = some (.int r) := rfl
    refine ⟨_, rfl, p, _, _, _, rfl, rfl, SqL.of hp, g0, _, rfl, _, _, rfl, rfl, _, rfl, ?_⟩
    refine ite2 (fun hge => ?_) (fun hlt => ?_)
    · have hge' : span ≤ r := of_decide_eq_true hge
      have q0 : 0 ≤ r / span := Int.ediv_nonneg r0 (by omega)
      refine ⟨_, rfl, p, _, _, _, rfl, rfl, SqL.of hp, g0, .inl ⟨_, rfl, _, rfl, _, _, rfl, rfl, (by show 0 < span; omega), ?_⟩⟩
      refine ⟨_, rfl, p, _, _, _, rfl, rfl, SqL.of hp, g0, _, rfl, _, _, rfl, rfl, ⟨(by omega), s2⟩, ?_⟩
      refine ⟨_, rfl, p, _, _, _, rfl, rfl, hp, rfl, ?_⟩
      exact ⟨_, rfl, k (r % span) (r / span) m ⟨q0, m0, m1⟩ (Int.emod_nonneg _ (by omega)) (Int.emod_lt_of_pos _ (by omega))⟩
    · have g1 : atI (Two r m) 1 = some (.int m) := rfl
      have e1 := Int.emod_nonneg (m * 48271 + 12345) (b := 2147483647) (by decide)
      have e2 := Int.emod_lt_of_pos (m * 48271 + 12345) (b := 2147483647) (by decide)
      refine ⟨_, rfl, p, _, _, _, rfl, rfl, SqL.of hp, g1, _, _, rfl, rfl, .inl ⟨by omega, by omega⟩, _, _, rfl, rfl, .inl ⟨_, rfl, _, _, rfl, rfl, (by show (0 : Int) < 2147483647; decide), ?_⟩⟩
      refine ⟨_, rfl, p, _, _, _, rfl, rfl, hp, rfl, ?_⟩
      have hp2 : (upd H p (.lst (Two r ((m * 48271 + 12345) % 2147483647)))) p = some (.lst (Two r ((m * 48271 + 12345) % 2147483647))) := upd_same
      have g2 : atI (Two r ((m * 48271 + 12345) % 2147483647)) 1 = some (.int ((m * 48271 + 12345) % 2147483647)) := rfl
      have f1 := Int.emod_nonneg (((m * 48271 + 12345) % 2147483647) ^ (3 : Int).toNat) (b := 2147483629) (by decide)
      have f2 := Int.emod_lt_of_pos (((m * 48271 + 12345) % 2147483647) ^ (3 : Int).toNat) (b := 2147483629) (by decide)
      refine ⟨_, rfl, p, _, _, _, rfl, rfl, SqL.of hp2, g2, .inl ⟨_, rfl, _, _, rfl, rfl, ⟨by decide, by decide, by omega⟩, _, _, rfl, rfl, (by show (0 : Int) < 2147483629; decide), ?_⟩⟩
      generalize (((m * 48271 + 12345) % 2147483647) ^ (3 : Int).toNat) % 2147483629 = u at f1 f2 ⊢
      refine ⟨_, _, rfl, rfl, ⟨by decide, by decide, by omega⟩, _, _, rfl, rfl, (by show (0 : Int) < 1000000007; decide), _, _, rfl, rfl, ⟨by decide, by decide⟩, _, rfl, _, _, rfl, rfl, (by show 0 < span; omega), ?_⟩
      exact k _ r _ ⟨r0, e1, by omega⟩ (Int.emod_nonneg _ (by omega)) (Int.emod_lt_of_pos _ (by omega))
end
end S

end
section
set_option autoImplicit false
set_option Elab.async false
set_option linter.all false
set_option maxRecDepth 100000
set_option maxHeartbeats 4000000
/-! ## repr of small values; _law_same, _law_choose -/
namespace QR
open PySem PySem.Spec PyProof.Rows L2 G
theorem shown_fits20 {d : PyData} (h : d.leavesShort 20 = true) (hb : d.bulk ≤ 100000) : d.shown.length ≤ sizeLine := by
  have a := PyData.shown_le_bulk 20 (by decide) d h
  have b : (20 + 2) * d.bulk + 20 ≤ 3000000 := by omega
  exact Nat.le_trans (Nat.le_trans a b) (by decide)
inductive Sh (K : PySem.W.Frag) (H : Hp) : V → Str → Prop
  | non : Sh K H .non "None"
  | bl (b : Bool) : Sh K H (.bl b) (if b then "True" else "False")
  | int (i : Int) : i.natAbs.log2 < 1920 → Sh K H (.int i) (toString i)
  | ref {a : Addr} {d : PyData} : Dr K H true (.ref a) d → d.showable = true → d.depth ≤ 20 → d.leavesShort 20 = true → d.bulk ≤ 100000 → Sh K H (.ref a) d.shown
def rReprS (K : PySem.W.Frag) : List V → Hp → VK → Prop := fun xs H Q => ∃ x t, xs = [x] ∧ Sh K H x t ∧ Q (.str t) H
section
variable {X : Cx}
theorem call_reprS (hg : X.A.guards = some []) (hu : X.A.units + 64 < cLine) : CallR X (.builtin "repr") (rReprS X.K) := by
  intro pins s σ H xs us Q I r h
  obtain ⟨x, t, rfl, hs, q⟩ := h
  cases hs with
  | non => exact call_reprF pins s σ H _ us Q I r (.inl ⟨rfl, q⟩)
  | bl b => exact call_reprF pins s σ H _ us Q I r (.inr (.inl ⟨b, rfl, q⟩))
  | int i hi => exact call_reprF pins s σ H _ us Q I r (.inr (.inr ⟨i, rfl, hi, q⟩))
  | @ref a d hd h1 h2 h3 h4 =>
    cases r with
    | cons rx rr =>
      cases rr
      cases rx
      obtain ⟨as, hr, _⟩ := Dr.reads I d _ _ hd rfl
      refine repr_of_reads' hr h1 (fun z => ?_) hg (by omega) (fun _ _ e => e) (fun h' u tk k => ⟨.str d.shown, H, I.kept (t' := tk) k, ⟨u, rfl⟩, q⟩) (shown_fits20 h3 h4)
      rw [Dr.noDict d _ hd] at z
      cases z
theorem ix_or {r1 r2 : R2} (h1 : IxR X r1) (h2 : IxR X r2) : IxR X (fun x y H Q => r1 x y H Q ∨ r2 x y H Q) := fun value slice pins s σ H x y v u Q I rx ry h hs => h.elim (fun h => h1 value slice pins s σ H x y v u Q I rx ry h hs) fun h => h2 value slice pins s σ H x y v u Q I rx ry h hs
end
end QR
namespace S
open PySem L2 QR
abbrev sSame : Stmt := top 45
section
variable {P : Program} {w : World} {K : PySem.W.Frag} {mg : Str → Option Value} {base : Heap}
def spSame (K : PySem.W.Frag) : Sp := fun vs H Q _ => ∃ (x y : V) (t : Str), vs = [x, y] ∧ Sh K H x t ∧ Sh K H y t ∧ Q (.bl true) H
theorem scSm : FnScope ["one", "two"] ["one", "two"] (defScope sSame) := ⟨rfl, rfl, rfl, by decide +kernel, rfl, by decide +kernel, by decide +kernel⟩
theorem ok_same {f : Addr} {fd : FuncData} (F : Fun K "_law_same" "_law_same" sSame f fd) (hrep : mg "repr" = none) : G.Ok P w K mg base CX0 1 f fd ["one", "two"] (spSame K) := by
  refine G.mk F scSm (fun vs H Q E h => ?_) (fun cdv A outer s H vs Q E hg hr h => ?_)
  · obtain ⟨x, y, t, rfl, _⟩ := h
    rfl
  · obtain ⟨x, y, t, rfl, h1, h2, k⟩ := h
    refine ⟨_, pss_one (ps_ret (pe_cmpR op_eq (pe_callB (call_reprS hg hr.units) (by rfl) hrep (by decide +kernel) (pa_cons (pv 0) pa_nil)) (pe_callB (call_reprS hg hr.units) (by rfl) hrep (by decide +kernel) (pa_cons (pv 1) pa_nil)) (nomark _))), ?_⟩
    refine ⟨_, rfl, x, t, rfl, h1, _, rfl, y, t, rfl, h2, rfl, ?_⟩
    rw [decide_eq_true rfl]
    exact k
/-- a pick from a list or a tuple -/
def spChoose (K : PySem.W.Frag) : Sp := fun vs H Q _ => ∃ (p l : Addr) (r m : Int) (xs : List V), vs = [.ref p, .ref l] ∧ H p = some (.lst (Two r m)) ∧ Fine r m ∧ l ≠ p ∧ (SqL K H l xs ∨ SqT K H l xs) ∧ 1 ≤ xs.length ∧ xs.length ≤ 1000 ∧
  ∀ (j : Nat) (x : V) (r' m' : Int), Fine r' m' → xs[j]? = some x → Q x (upd H p (.lst (Two r' m')))
theorem scCh : FnScope ["stream", "items"] ["stream", "items"] (defScope sPick) := ⟨rfl, rfl, rfl, by decide +kernel, rfl, by decide +kernel, by decide +kernel⟩
theorem keepL {H : Hp} {p l : Addr} {o : HO} {xs : List V} (hne : l ≠ p) (h : SqL K H l xs) : SqL K (upd H p o) l xs := by
  rcases h with (h | ⟨o, h⟩) | h
  · exact .inl (.inl (by rw [upd_ne hne]; exact h))
  · exact .inl (.inr ⟨o, by rw [upd_ne hne]; exact h⟩)
  · exact .inr h
theorem keepS {H : Hp} {p l : Addr} {o : HO} {xs : List V} (hne : l ≠ p) (h : SqT K H l xs) : SqT K (upd H p o) l xs := by
  rcases h with (h | ⟨o, h⟩) | h
  · exact .inl (.inl (by rw [upd_ne hne]; exact h))
  · exact .inl (.inr ⟨o, by rw [upd_ne hne]; exact h⟩)
  · exact .inr h
theorem ok_choose {f : Addr} {fd : FuncData} (F : Fun K "_law_choose" "_law_choose" sPick f fd) (hlen : mg "len" = none) (DR : Y.Df P w K mg base 1 "_law_draw" ["stream", "size"] spDraw) : FnOk P w K mg base CX0 2 f fd ["stream", "items"] (spChoose K) := by
  obtain ⟨fD, fdD, GD, gD, kD, bD⟩ := DR.ex
  refine F.ok scCh (fun vs H Q E h => ?_) (fun cdv A outer s H vs Q E hr h => ?_)
  · obtain ⟨p, l, r, m, xs, rfl, _⟩ := h
    rfl
  · obtain ⟨p, l, r, m, xs, rfl, hp, hf, hne, hL, l1, l2, k⟩ := h
    refine ⟨_, pss_one (ps_ret (pe_ix (ix_or ix_list ix_tup) (pv 1) (pe_call GD hr rfl gD kD bD .nil pass0 (pa_cons (pv 0) (pa_cons (pe_callB call_len_seq (by rfl) hlen PySem.boot_len (pa_cons (pv 1) pa_nil)) pa_nil))) (fun _ _ => rfl))), ?_⟩
    refine ⟨_, rfl, _, rfl, _, rfl, l, xs, rfl, hL, p, r, m, _, rfl, hp, hf, by omega, ?_, fun j r' m' hf' h0 h1 => ?_⟩
    · exact PySem.Flt.log2_lt_of (k := 9000) (by decide) (Nat.lt_of_lt_of_le (by omega : _ < 1001) (Nat.le_trans (by decide : 1001 ≤ 2 ^ 10) (Nat.pow_le_pow_right (by decide) (by decide))))
    · obtain ⟨n, rfl⟩ := Int.eq_ofNat_of_zero_le h0
      have hn : n < xs.length := by omega
      have hit : xs[n]? = some xs[n] := List.getElem?_eq_getElem hn
      rcases hL with hL | hL
      · exact .inl ⟨l, xs, _, xs[n], rfl, rfl, keepL hne hL, atI_nat hit, k n _ r' m' hf' hit⟩
      · exact .inr ⟨l, xs, _, xs[n], rfl, rfl, keepS hne hL, atI_nat hit, k n _ r' m' hf' hit⟩
end
end S

end
section
set_option autoImplicit false
set_option Elab.async false
set_option linter.all false
set_option maxRecDepth 100000
set_option maxHeartbeats 4000000
/-! ## draws: what they leave -/
namespace Y
open PySem L2 G
/-- all but the source at p stays -/
def Bt (p : Addr) (H H' : Hp) : Prop := (∀ a o, a ≠ p → H a = some o → H' a = some o) ∧ S.At H' p
theorem Bt.trans {p : Addr} {H H1 H2 : Hp} (a : Bt p H H1) (b : Bt p H1 H2) : Bt p H H2 := ⟨fun x o n e => b.1 x o n (a.1 x o n e), b.2⟩
theorem Bt.same {p : Addr} {H H' : Hp} (s : Same H H') (h : S.At H p) : Bt p H H' := by
  obtain ⟨r, m, e, f⟩ := h
  exact ⟨fun a o _ e2 => s _ _ e2, r, m, s _ _ e, f⟩
theorem Bt.put {p : Addr} {H : Hp} {r m : Int} (f : S.Fine r m) : Bt p H (upd H p (.lst (S.Two r m))) := ⟨fun a o n e => by rw [upd_ne n]; exact e, r, m, upd_same, f⟩
theorem Bt.new {p u : Addr} {H : Hp} (o : HO) (h : S.At H p) (hu : H u = none) : Bt p H (upd H u o) := Bt.same (of_upd hu) h
theorem at_ne {H : Hp} {p L : Addr} (h : S.At H p) (hL : H L = none) : L ≠ p := fun e => by
  obtain ⟨r, m, e2, _⟩ := h
  rw [e, e2] at hL
  cases hL
theorem bt_lst {p L : Addr} {H H' : Hp} {o : HO} (b : Bt p H H') (ne : L ≠ p) (h : H L = some o) : H' L = some o := b.1 L _ ne h
theorem sameAt {p : Addr} {H H' : Hp} (s : Same H H') (h : S.At H p) : S.At H' p := by
  obtain ⟨r, m, e, f⟩ := h
  exact ⟨r, m, s _ _ e, f⟩
theorem sameBt {p : Addr} {H G G' : Hp} (s : Same H G) (n : H p = none) (b : Bt p G G') : Same H G' := fun a o e => b.1 a o (fun z => by rw [z, n] at e; cases e) (s a o e)
theorem draw_at {H : Hp} {Q : VK} {E : XK} {p : Addr} {n : Int} (h : S.At H p) (n1 : 1 ≤ n) (n2 : n.natAbs.log2 < 9000) (k : ∀ j H', 0 ≤ j → j < n → Bt p H H' → Q (.int j) H') : S.spDraw [.ref p, .int n] H Q E := by
  obtain ⟨r, m, hp, hf⟩ := h
  exact ⟨p, r, m, n, rfl, hp, hf, n1, n2, fun j r1 m1 f1 j0 j1 => k j _ j0 j1 (Bt.put f1)⟩
/-- a draw as it stands in an expression: below a written number, or below what a name holds -/
theorem draw_vv {σ : L2.St} {H : Hp} {Q : VK} {E : XK} {p : Addr} {i : Nat} {n : Int} (hσ : σ[i]? = some (some (.ref p))) (h : S.At H p) (n1 : 1 ≤ n) (n2 : n.natAbs.log2 < 9000) (k : ∀ j H', 0 ≤ j → j < n → Bt p H H' → Q (.int j) H') : tCall S.spDraw [] E (tCons (tVar i) (tCons (tC (.int n)) tNil)) σ H Q := ⟨_, hσ, draw_at (E := E) h n1 n2 k⟩
theorem draw_var {σ : L2.St} {H : Hp} {Q : VK} {E : XK} {p : Addr} {i j : Nat} {n : Int} (hσ : σ[i]? = some (some (.ref p))) (hj : σ[j]? = some (some (.int n))) (h : S.At H p) (n1 : 1 ≤ n) (n2 : n.natAbs.log2 < 9000) (k : ∀ j H', 0 ≤ j → j < n → Bt p H H' → Q (.int j) H') : tCall S.spDraw [] E (tCons (tVar i) (tCons (tVar j) tNil)) σ H Q := ⟨_, hσ, _, hj, draw_at (E := E) h n1 n2 k⟩
theorem draw_of {σ : L2.St} {H : Hp} {Q : VK} {p : Addr} {E : XK} {i : Nat} {c n : Int} (hσ : σ[i]? = some (some (.ref p))) (h : S.At H p) (n1 : 1 ≤ n) (n2 : n.natAbs.log2 < 9000) (k : ∀ j H', 0 ≤ j → j < n → Bt p H H' → Q (.int (c + j)) H') :
    tOp (rI0 fun i j => .int (i + j)) (tC (.int c)) (tCall S.spDraw [] E (tCons (tVar i) (tCons (tC (.int n)) tNil))) σ H Q := by
  obtain ⟨r, m, hp, hf⟩ := h
  exact ⟨_, hσ, p, r, m, n, rfl, hp, hf, n1, n2, fun j r1 m1 f1 j0 j1 => ⟨_, _, rfl, rfl, k j _ j0 j1 (Bt.put f1)⟩⟩
theorem draw_w {σ : L2.St} {H : Hp} {Q : VK} {E : XK} {p : Addr} {i j : Nat} {c n : Int} (hσ : σ[i]? = some (some (.ref p))) (hj : σ[j]? = some (some (.int n))) (h : S.At H p) (n1 : 1 ≤ n) (n2 : n.natAbs.log2 < 9000) (k : ∀ x H', 0 ≤ x → x < n → Bt p H H' → Q (.int (c + x)) H') :
    tOp (rI0 fun i j => .int (i + j)) (tC (.int c)) (tCall S.spDraw [] E (tCons (tVar i) (tCons (tVar j) tNil))) σ H Q := by
  obtain ⟨r, m, hp, hf⟩ := h
  exact ⟨_, hσ, _, hj, p, r, m, n, rfl, hp, hf, n1, n2, fun x r1 m1 f1 j0 j1 => ⟨_, _, rfl, rfl, k x _ j0 j1 (Bt.put f1)⟩⟩
/-- a pick from a list just made -/
theorem pick_at {K : PySem.W.Frag} {H : Hp} {Q : VK} {p l : Addr} {E : XK} {xs : List V} (h : S.At H p) (hl : H l = none) (h1 : 1 ≤ xs.length) (h2 : xs.length ≤ 1000) (k : ∀ x H', x ∈ xs → Bt p H H' → Q x H') : S.spPick K [.ref p, .ref l] (upd H l (.lst xs)) Q E := by
  obtain ⟨r, m, hp, hf⟩ := h
  have lp : l ≠ p := fun z => by
    rw [z, hp] at hl
    cases hl
  exact ⟨p, l, r, m, xs, rfl, by rw [upd_ne lp.symm]; exact hp, hf, lp, SqL.of upd_same, h1, h2, fun j x r2 m2 f2 hx => k x _ (List.mem_of_getElem? hx) ((Bt.same (of_upd hl) ⟨r, m, hp, hf⟩).trans (Bt.put f2))⟩
theorem pick_of {K : PySem.W.Frag} {σ : L2.St} {H : Hp} {Q : VK} {p : Addr} {E : XK} {i : Nat} {xs : List V} {ta : TA} (hσ : σ[i]? = some (some (.ref p))) (h : S.At H p) (h1 : 1 ≤ xs.length) (h2 : xs.length ≤ 1000) (ha : ∀ Q2 : List V → Hp → Prop, Q2 xs H → ta σ H Q2) (k : ∀ x H', x ∈ xs → Bt p H H' → Q x H') :
    tCall (S.spPick K) [] E (tCons (tVar i) (tCons (tLst ta) tNil)) σ H Q := ⟨_, hσ, ha _ ⟨Nat.le_trans h2 (by decide), fun l hl => pick_at (E := E) h hl h1 h2 k⟩⟩
end Y

end
section
set_option autoImplicit false
set_option Elab.async false
set_option linter.all false
set_option maxRecDepth 100000
set_option maxHeartbeats 4000000
/-! ## plans of ways, as the law draws them; their ways -/
namespace M
def isz : Step → Nat
  | .tunnel w _ _ => w.size
  | .road _ _ _ => 0
  | .join _ => 0
theorem inner_cons : ∀ (s : Step) (r : List Step), Step.inner (s :: r) = isz s + Step.inner r
  | .tunnel w a b, r => by
    conv => lhs; unfold Step.inner
    rfl
  | .road a b c, r => by
    conv => lhs; unfold Step.inner
    exact (Nat.zero_add _).symm
  | .join a, r => by
    conv => lhs; unfold Step.inner
    exact (Nat.zero_add _).symm
/-- how great inner ways of steps are, and ways, by the depth that is drawn -/
def bs : Nat → Nat
  | 0 => 0
  | 1 => 2
  | _ + 2 => 9
def zs : Nat → Nat
  | 0 => 2
  | 1 => 9
  | _ + 2 => 40
def SmStep (d h : Nat) (y : Step) : Prop := Step.fine h y ∧ Step.dep y ≤ d ∧ isz y ≤ bs d
structure Sm (d : Nat) (w : Way) : Prop where
  fine : w.fine
  dp : w.depth ≤ d + 1
  sz : w.size ≤ zs d
  ln : w.steps.length ≤ d + 2
theorem sm_all {d h : Nat} : ∀ {s : List Step}, (∀ y ∈ s, SmStep d h y) → Step.fineAll h s ∧ Step.deepest s ≤ d ∧ Step.inner s ≤ s.length * bs d
  | [], _ => ⟨by unfold Step.fineAll; trivial, by unfold Step.deepest; omega, by unfold Step.inner; omega⟩
  | y :: r, q => by
    obtain ⟨a, b, c⟩ := q y List.mem_cons_self
    obtain ⟨e, f, g⟩ := sm_all (s := r) fun z hz => q z (List.mem_cons_of_mem _ hz)
    refine ⟨by unfold Step.fineAll; exact ⟨a, e⟩, by rw [deep_cons]; omega, ?_⟩
    rw [inner_cons, List.length_cons, Nat.add_mul]
    omega
theorem sm_way {d h : Nat} {s : List Step} (hd : d ≤ 2) (h1 : 1 ≤ h) (h2 : h ≤ 40) (l1 : 1 ≤ s.length) (l2 : s.length ≤ d + 2) (q : ∀ y ∈ s, SmStep d h y) : Sm d (.mk h s) := by
  obtain ⟨a, b, c⟩ := sm_all q
  have c2 : s.length + Step.inner s ≤ zs d := by
    match d, hd, l2, c with
    | 0, _, l2, c =>
      have c : Step.inner s ≤ s.length * 0 := c
      show s.length + Step.inner s ≤ 2
      omega
    | 1, _, l2, c =>
      have c : Step.inner s ≤ s.length * 2 := c
      show s.length + Step.inner s ≤ 9
      omega
    | 2, _, l2, c =>
      have c : Step.inner s ≤ s.length * 9 := c
      show s.length + Step.inner s ≤ 40
      omega
  have c3 : zs d ≤ 40 := by
    match d with
    | 0 => decide
    | 1 => decide
    | _ + 2 => exact Nat.le_refl 40
  refine ⟨?_, by unfold Way.depth; omega, by unfold Way.size; exact c2, l2⟩
  unfold Way.fine
  exact ⟨by omega, by omega, a, by omega, by omega⟩
theorem zs_bs {d : Nat} (h : d ≠ 0) (hd : d ≤ 2) : zs (d - 1) ≤ bs d := by
  match d, hd with
  | 0, _ => exact absurd rfl h
  | 1, _ => decide
  | 2, _ => decide
end M
namespace CP
open PySem L2 G Y
abbrev sLPlan : Stmt := S.top 46
abbrev sLMost : Stmt := S.top 47
abbrev sLStep : Stmt := S.top 48
abbrev sLWay : Stmt := S.top 49
theorem choose_at {K : PySem.W.Frag} {H : Hp} {Q : VK} {p l : Addr} {E : XK} {xs : List V} (h : S.At H p) (ne : l ≠ p) (hl : SqL K H l xs ∨ SqT K H l xs) (h1 : 1 ≤ xs.length) (h2 : xs.length ≤ 1000) (k : ∀ x H', x ∈ xs → Bt p H H' → Q x H') : S.spChoose K [.ref p, .ref l] H Q E := by
  obtain ⟨r, m, hp, hf⟩ := h
  exact ⟨p, l, r, m, xs, rfl, hp, hf, ne, hl, h1, h2, fun j x r2 m2 f2 hx => k x _ (List.mem_of_getElem? hx) (Bt.put f2)⟩
theorem choose_new {K : PySem.W.Frag} {H : Hp} {Q : VK} {p l : Addr} {E : XK} {xs : List V} (h : S.At H p) (hl : H l = none) (h1 : 1 ≤ xs.length) (h2 : xs.length ≤ 1000) (k : ∀ x H', x ∈ xs → Bt p H H' → Q x H') : S.spChoose K [.ref p, .ref l] (upd H l (.lst xs)) Q E :=
  choose_at (sameAt (of_upd hl) h) (at_ne h hl) (.inl (SqL.of upd_same)) h1 h2 fun x H' hx b => k x H' hx ((Bt.same (of_upd hl) h).trans b)
theorem choose_of {K : PySem.W.Frag} {σ : L2.St} {H : Hp} {Q : VK} {p : Addr} {E : XK} {i : Nat} {xs : List V} {ta : TA} (hσ : σ[i]? = some (some (.ref p))) (h : S.At H p) (h1 : 1 ≤ xs.length) (h2 : xs.length ≤ 1000) (ha : ∀ Q2 : List V → Hp → Prop, Q2 xs H → ta σ H Q2) (k : ∀ x H', x ∈ xs → Bt p H H' → Q x H') :
    tCall (S.spChoose K) [] E (tCons (tVar i) (tCons (tLst ta) tNil)) σ H Q := ⟨_, hσ, ha _ ⟨Nat.le_trans h2 (by decide), fun l hl => choose_new (E := E) h hl h1 h2 k⟩⟩
theorem draw_te {σ : L2.St} {H : Hp} {Q : VK} {E : XK} {p : Addr} {i : Nat} {n : Int} {te : TE} (hσ : σ[i]? = some (some (.ref p))) (ht : ∀ Q2 : VK, Q2 (.int n) H → te σ H Q2) (h : S.At H p) (n1 : 1 ≤ n) (n2 : n.natAbs.log2 < 9000) (k : ∀ j H', 0 ≤ j → j < n → Bt p H H' → Q (.int j) H') : tCall S.spDraw [] E (tCons (tVar i) (tCons te tNil)) σ H Q := ⟨_, hσ, ht _ (draw_at (E := E) h n1 n2 k)⟩
theorem bt_keepT {p : Addr} {H H' : Hp} (b : Bt p H H') (h : S.At H p) : KeepT H H' := fun a o n e => b.1 a o (fun z => by
  obtain ⟨r, m, e2, _⟩ := h
  rw [z, e2] at e
  cases e
  exact n _ rfl) e
theorem KeepT.trans {H H1 H2 : Hp} (a : KeepT H H1) (b : KeepT H1 H2) : KeepT H H2 := fun x o n e => b x o n (a x o n e)
theorem KeepT.tup {H H' : Hp} {t : Addr} {xs : List V} (k : KeepT H H') (h : H t = some (.tup xs)) : H' t = some (.tup xs) := k _ _ (fun _ z => by cases z) h
mutual
/-- a plan of a way: a head, a tuple of its steps; ways in tunnels are plans, too -/
def PlanAt (H : Hp) : M.Way → V → Prop
  | .mk h s, v => ∃ t L xs, v = .ref t ∧ H t = some (.tup [.int (h : Int), .ref L]) ∧ H L = some (.tup xs) ∧ PlAll H s xs
def PlAll (H : Hp) : List M.Step → List V → Prop
  | [], xs => xs = []
  | s :: r, xs => ∃ x ys, xs = x :: ys ∧ PlStep H s x ∧ PlAll H r ys
def PlStep (H : Hp) : M.Step → V → Prop
  | .road size ts lw, x => ∃ t, x = .ref t ∧ H t = some (.tup [.str "road", .int (size : Int), .str (WP.sdS ts), .str (WP.lwS lw)])
  | .join most, x => ∃ t, x = .ref t ∧ H t = some (.tup [.str "join", .int (most : Int)])
  | .tunnel w most tw, x => ∃ t v, x = .ref t ∧ H t = some (.tup [.str "tunnel", v, .int (most : Int), .str (WP.twS tw)]) ∧ PlanAt H w v
end
mutual
theorem PlanAt.keep {H H' : Hp} (s : KeepT H H') : ∀ {w : M.Way} {v : V}, PlanAt H w v → PlanAt H' w v
  | .mk h st, v, x => by
    unfold PlanAt at x ⊢
    obtain ⟨t, L, xs, e, h1, h2, h3⟩ := x
    exact ⟨t, L, xs, e, s.tup h1, s.tup h2, PlAll.keep s h3⟩
theorem PlAll.keep {H H' : Hp} (s : KeepT H H') : ∀ {st : List M.Step} {xs : List V}, PlAll H st xs → PlAll H' st xs
  | [], xs, x => by
    unfold PlAll at x ⊢
    exact x
  | y :: r, xs, x => by
    unfold PlAll at x ⊢
    obtain ⟨u, ys, e, h1, h2⟩ := x
    exact ⟨u, ys, e, PlStep.keep s h1, PlAll.keep s h2⟩
theorem PlStep.keep {H H' : Hp} (s : KeepT H H') : ∀ {st : M.Step} {x : V}, PlStep H st x → PlStep H' st x
  | .road size ts lw, v, x => by
    unfold PlStep at x ⊢
    obtain ⟨t, e, h⟩ := x
    exact ⟨t, e, s.tup h⟩
  | .join most, v, x => by
    unfold PlStep at x ⊢
    obtain ⟨t, e, h⟩ := x
    exact ⟨t, e, s.tup h⟩
  | .tunnel w most tw, v, x => by
    unfold PlStep at x ⊢
    obtain ⟨t, u, e, h, h2⟩ := x
    exact ⟨t, u, e, s.tup h, PlanAt.keep s h2⟩
end
theorem PlAll.snoc {H : Hp} : ∀ {s : List M.Step} {xs : List V} {y : M.Step} {x : V}, PlAll H s xs → PlStep H y x → PlAll H (s ++ [y]) (xs ++ [x])
  | [], xs, y, x, h, h2 => by
    unfold PlAll at h
    subst h
    show PlAll H [y] [x]
    unfold PlAll
    exact ⟨x, [], rfl, h2, by unfold PlAll; rfl⟩
  | z :: s, xs, y, x, h, h2 => by
    unfold PlAll at h
    obtain ⟨u, ys, rfl, h3, h4⟩ := h
    show PlAll H (z :: (s ++ [y])) (u :: (ys ++ [x]))
    unfold PlAll
    exact ⟨u, ys ++ [x], rfl, h3, PlAll.snoc h4 h2⟩
theorem PlAll.len {H : Hp} : ∀ {s : List M.Step} {xs : List V}, PlAll H s xs → xs.length = s.length
  | [], xs, h => by
    unfold PlAll at h
    rw [h]
    rfl
  | z :: s, xs, h => by
    unfold PlAll at h
    obtain ⟨u, ys, rfl, _, h4⟩ := h
    rw [List.length_cons, List.length_cons, PlAll.len h4]
theorem PlAll.get {H : Hp} : ∀ {s : List M.Step} {xs : List V} {i : Nat} {x : V}, PlAll H s xs → xs[i]? = some x → ∃ y, s[i]? = some y ∧ PlStep H y x
  | [], xs, i, x, h, e => by
    unfold PlAll at h
    subst h
    cases e
  | z :: s, xs, i, x, h, e => by
    unfold PlAll at h
    obtain ⟨u, ys, rfl, h3, h4⟩ := h
    cases i with
    | zero =>
      cases e
      exact ⟨z, rfl, h3⟩
    | succ i => exact PlAll.get (i := i) h4 e
theorem sd_of {x : V} (h : x ∈ [V.str "tell", V.str "tell", V.str "drop"]) : ∃ ts, x = .str (WP.sdS ts) := by
  rcases List.mem_cons.mp h with e | h
  · exact ⟨true, e⟩
  rcases List.mem_cons.mp h with e | h
  · exact ⟨true, e⟩
  · have e : x = V.str "drop" := by simpa using h
    exact ⟨false, e⟩
theorem lw_of {x : V} (h : x ∈ [V.str "cut", V.str "cut", V.str "cut", V.str "tell", V.str "drop"]) : ∃ lw, x = .str (WP.lwS lw) := by
  rcases List.mem_cons.mp h with e | h
  · exact ⟨.cut, e⟩
  rcases List.mem_cons.mp h with e | h
  · exact ⟨.cut, e⟩
  rcases List.mem_cons.mp h with e | h
  · exact ⟨.cut, e⟩
  rcases List.mem_cons.mp h with e | h
  · exact ⟨.tell, e⟩
  · have e : x = V.str "drop" := by simpa using h
    exact ⟨.drop, e⟩
theorem tw_of {x : V} (h : x ∈ [V.str "turn", V.str "turn", V.str "keep", V.str "lose"]) : ∃ tw, x = .str (WP.twS tw) := by
  rcases List.mem_cons.mp h with e | h
  · exact ⟨.turn, e⟩
  rcases List.mem_cons.mp h with e | h
  · exact ⟨.turn, e⟩
  rcases List.mem_cons.mp h with e | h
  · exact ⟨.keep, e⟩
  · have e : x = V.str "lose" := by simpa using h
    exact ⟨.lose, e⟩
section
variable {P : Program} {w : World} {K : PySem.W.Frag} {mg : Str → Option Value} {base : Heap} {C CW : Addr}
def spLMost : Sp := fun vs H Q _ => ∃ p, vs = [.ref p] ∧ S.At H p ∧ ∀ (m : Nat) H', 1 ≤ m → m ≤ 1000000000000 → Bt p H H' → Q (.int (m : Int)) H'
theorem scLm : FnScope ["stream"] ["stream"] (defScope sLMost) := ⟨rfl, rfl, rfl, by decide +kernel, rfl, by decide +kernel, by decide +kernel⟩
theorem ok_lmost {f : Addr} {fd : FuncData} (F : Fun K "_law_most" "_law_most" sLMost f fd) (DD : Df P w K mg base 1 "_law_draw" ["stream", "size"] S.spDraw) (DP : Df P w K mg base 2 "_law_choose" ["stream", "items"] (S.spChoose K)) : FnOk P w K mg base CX0 3 f fd ["stream"] spLMost := by
  obtain ⟨fD, fdD, GD, gD, kD, bD⟩ := DD.ex
  obtain ⟨fP, fdP, GP, gP, kP, bP⟩ := DP.ex
  refine F.ok scLm (fun vs H Q E h => ?_) (fun cdv A outer s H vs Q E hr h => ?_)
  · obtain ⟨p, rfl, _⟩ := h
    rfl
  · obtain ⟨p, rfl, hp, kk⟩ := h
    refine ⟨_, pss_one (ps_ret (pe_call GP (hr.mono (by omega)) rfl gP kP bP .nil pass0 (pa_cons (pv 0) (pa_cons (pe_lst (pa_cons (pe_int) (pa_cons (pe_int) (pa_cons (pe_int) (pa_cons (pe_int) (pa_cons (pe_op op_add (pe_int) (pe_call GD (hr.mono (by omega)) rfl gD kD bD .nil pass0 (pa_cons (pv 0) (pa_cons (pe_int) pa_nil)))) (pa_cons (pe_op op_powN pe_int pe_int) (pa_cons (pe_op op_sub (pe_op op_powN pe_int pe_int) (pe_int)) pa_nil)))))))) pa_nil)))), ?_⟩
    refine ⟨_, rfl, draw_of rfl hp (by decide) (by decide +kernel) fun j H1 j0 j1 b1 => ⟨10, 12, rfl, rfl, ⟨by decide, by decide +kernel⟩, 10, 12, rfl, rfl, ⟨by decide, by decide +kernel⟩, _, _, rfl, rfl, (by show 7 ≤ sizeLine; decide), fun l hl => ?_⟩⟩
    refine choose_new (E := E0) b1.2 hl (by show 1 ≤ 7; decide) (by show 7 ≤ 1000; decide) fun x H2 hx b2 => ?_
    have bt := b1.trans b2
    have fin : ∀ n : Nat, x = .int (n : Int) → 1 ≤ n → n ≤ 1000000000000 → Q x H2 := fun n e a b => by
      subst e
      exact kk n _ a b bt
    simp only [List.append_nil, List.cons_append, List.nil_append, List.mem_cons, List.mem_nil_iff, or_false] at hx
    rcases hx with e | e | e | e | e | e | e
    · exact fin 1 e (by decide) (by decide)
    · exact fin 2 e (by decide) (by decide)
    · exact fin 3 e (by decide) (by decide)
    · exact fin 4 e (by decide) (by decide)
    · exact fin (1 + j).toNat (e.trans (congrArg V.int (by omega))) (by omega) (by omega)
    · exact fin 1000000000000 (e.trans (congrArg V.int (by decide +kernel))) (by decide) (by decide)
    · exact fin 999999999999 (e.trans (congrArg V.int (by decide +kernel))) (by decide) (by decide)
def spLPlan (n : Nat) : Sp := fun vs H Q _ => ∃ (p : Addr) (d b : Nat), vs = [.ref p, .int (d : Int), .int (b : Int)] ∧ S.At H p ∧ d < n ∧ d ≤ 2 ∧ b ≤ 40 ∧ ∀ wy v H', Bt p H H' → PlanAt H' wy v → M.Sm d wy → Q v H'
def spLStep (n : Nat) : Sp := fun vs H Q _ => ∃ (p : Addr) (d b h : Nat), vs = [.ref p, .int (d : Int), .int (b : Int), .int (h : Int)] ∧ S.At H p ∧ d ≤ n ∧ d ≤ 2 ∧ b ≤ 40 ∧ 1 ≤ h ∧ h ≤ 40 ∧ ∀ st v H', Bt p H H' → PlStep H' st v → M.SmStep d h st → Q v H'
abbrev NPs : List Str := ["stream", "depth", "base", "head", "sort", "cut", "word", "inner", "tells"]
theorem scPs : FnScope NPs ["stream", "depth", "base", "head"] (defScope sLStep) := ⟨rfl, rfl, rfl, by decide +kernel, rfl, by decide +kernel, by decide +kernel⟩
theorem ok_lstep {k n : Nat} {f : Addr} {fd : FuncData} (F : Fun K "_law_plan_step" "_law_plan_step" sLStep f fd) (hk : 3 ≤ k) (B : Bn mg) (DD : Df P w K mg base 1 "_law_draw" ["stream", "size"] S.spDraw) (DP : Df P w K mg base 2 "_law_choose" ["stream", "items"] (S.spChoose K)) (DM : Df P w K mg base 3 "_law_most" ["stream"] spLMost)
    (DL : Df P w K mg base k "_law_plan" ["stream", "depth", "base"] (spLPlan n)) : FnOk P w K mg base CX0 (k + 1) f fd ["stream", "depth", "base", "head"] (spLStep n) := by
  obtain ⟨fD, fdD, GD, gD, kD, bD⟩ := DD.ex
  obtain ⟨fP, fdP, GP, gP, kP, bP⟩ := DP.ex
  obtain ⟨fM, fdM, GM, gM, kM, bM⟩ := DM.ex
  obtain ⟨fL, fdL, GL, gL, kL, bL⟩ := DL.ex
  refine F.ok scPs (fun vs H Q E h => ?_) (fun cdv A outer s H vs Q E hr h => ?_)
  · obtain ⟨p, d, b, h, rfl, _⟩ := h
    rfl
  · obtain ⟨p, d, b, h, rfl, hp, hdn, hd, hb, h1, h2, kk⟩ := h
    refine ⟨_, pss_cons (ps_set (i := 4) scPs.nd rfl (Or.inl rfl) (pe_call GD (hr.mono (by omega)) rfl gD kD bD .nil pass0 (pa_cons (pv 0) (pa_cons (pe_int) pa_nil))))
      (pss_cons (ps_if (pt_cmpR (op_lt) (pv 4) (pe_int) (nomark _)) (pss_cons (ps_set (i := 5) scPs.nd rfl (Or.inl rfl) (pe_callB (call_max2 rfl) (by rfl) B.max (by decide +kernel) (pa_cons (pe_int) (pa_cons (pe_op op_sub (pe_op op_add (pv 2) (pe_call GD (hr.mono (by omega)) rfl gD kD bD .nil pass0 (pa_cons (pv 0) (pa_cons (pe_int) pa_nil)))) (pe_op op_mul (pe_int) (pe_callTy call_int1 (by rfl) B.int (by decide +kernel) (pa_cons (pe_cmpR (op_gt) (pv 2) (pe_int) (nomark _)) pa_nil)))) pa_nil))))
      (pss_cons (ps_if (pt_cmpR (op_eq) (pe_call GD (hr.mono (by omega)) rfl gD kD bD .nil pass0 (pa_cons (pv 0) (pa_cons (pe_int) pa_nil))) (pe_int) (nomark _)) (pss_one (ps_set (i := 5) scPs.nd rfl (Or.inl rfl) (pe_op op_sub (pe_op op_sub (pe_int) (pv 3)) (pe_call GD (hr.mono (by omega)) rfl gD kD bD .nil pass0 (pa_cons (pv 0) (pa_cons (pe_int) pa_nil)))))) (pss_nil))
      (pss_cons (ps_set (i := 6) scPs.nd rfl (Or.inl rfl) (pe_call GP (hr.mono (by omega)) rfl gP kP bP .nil pass0 (pa_cons (pv 0) (pa_cons (pe_lst (pa_cons (pe_str) (pa_cons (pe_str) (pa_cons (pe_str) pa_nil)))) pa_nil))))
      (pss_one (ps_ret (pe_tup (pa_cons (pe_str) (pa_cons (pe_op op_add (pv 3) (pv 5)) (pa_cons (pv 6) (pa_cons (pe_call GP (hr.mono (by omega)) rfl gP kP bP .nil pass0 (pa_cons (pv 0) (pa_cons (pe_lst (pa_cons (pe_str) (pa_cons (pe_str) (pa_cons (pe_str) (pa_cons (pe_str) (pa_cons (pe_str) pa_nil)))))) pa_nil))) pa_nil)))))))))) (pss_nil))
      (pss_cons (ps_if (PW.pt (pw_or (pt_cmpR (op_lt) (pv 4) (pe_int) (nomark _)) (pw_or1 (pt_cmpR (op_eq) (pv 1) (pe_int) (nomark _))))) (pss_one (ps_ret (pe_tup (pa_cons (pe_str) (pa_cons (pe_call GM (hr.mono (by omega)) rfl gM kM bM .nil pass0 (pa_cons (pv 0) pa_nil)) pa_nil))))) (pss_nil))
      (pss_cons (ps_par (i := 7) (j := 8) (by rfl) scPs.nd rfl rfl (by decide) rfl rfl (pa_cons (pe_call GL (hr.mono (by omega)) rfl gL kL bL .nil pass0 (pa_cons (pv 0) (pa_cons (pe_op op_sub (pv 1) (pe_int)) (pa_cons (pv 3) pa_nil)))) (pa_cons (pe_call GP (hr.mono (by omega)) rfl gP kP bP .nil pass0 (pa_cons (pv 0) (pa_cons (pe_lst (pa_cons (pe_str) (pa_cons (pe_str) (pa_cons (pe_str) (pa_cons (pe_str) pa_nil))))) pa_nil))) pa_nil)) (by rfl))
      (pss_one (ps_ret (pe_tup (pa_cons (pe_str) (pa_cons (pv 7) (pa_cons (pe_call GM (hr.mono (by omega)) rfl gM kM bM .nil pass0 (pa_cons (pv 0) pa_nil)) (pa_cons (pv 8) pa_nil)))))))))), ?_⟩
    refine set_then (i := 4) (draw_vv rfl hp (by decide) (by decide +kernel) fun j H1 a0 a1 b1 => ?_)
    refine ⟨_, rfl, _, _, rfl, rfl, _, rfl, ite2 (fun c => ?_) (fun c => ?_)⟩
    · refine set_then (i := 5) ⟨_, rfl, draw_vv rfl b1.2 (by decide) (by decide +kernel) fun j2 H2 c0 c1 b2 => ?_⟩
      refine ⟨_, _, rfl, rfl, _, rfl, _, _, rfl, rfl, .inr ⟨_, rfl, _, _, rfl, rfl, .inl ⟨?_, ?_⟩, _, _, rfl, rfl, _, _, rfl, ?_⟩⟩
      · decide
      · decide
      have mz : ∀ (t : Int), (t = 0 ∨ t = 1) → (b = 0 → t = 0) → ∃ c5 : Nat, V.int (if (b : Int) + j2 - 2 * t > 1 then (b : Int) + j2 - 2 * t else 1) = V.int (c5 : Int) ∧ 1 ≤ c5 ∧ c5 ≤ 60 := fun t ht hb0 => by
        split
        · exact ⟨((b : Int) + j2 - 2 * t).toNat, congrArg V.int (by omega), by omega, by omega⟩
        · exact ⟨1, rfl, by decide, by decide⟩
      obtain ⟨c5, e5, c6, c7⟩ := mz (if decide ((b : Int) > 0) = true then 1 else 0) (by split <;> simp) (fun e => by subst e; rfl)
      rw [e5]
      have b12 := b1.trans b2
      refine if_then (fun σ' G => Bt p H G ∧ ∃ (c8 : Nat) (q6 q7 q8 : Option V), 1 ≤ c8 ∧ h + c8 ≤ 1000 ∧ σ' = [some (.ref p), some (.int (d : Int)), some (.int (b : Int)), some (.int (h : Int)), some (.int j), some (.int (c8 : Int)), q6, q7, q8]) ?r1 (fun k1 => ?_)
      case r1 =>
        rintro σ' G ⟨bG, c8, q6, q7, q8, l1, l2, rfl⟩
        refine set_then (i := 6) (choose_of rfl bG.2 (by decide) (by decide) (fun Q2 q => q) fun x H3 hx b3 => ?_)
        obtain ⟨ts, rfl⟩ := sd_of hx
        refine ⟨_, rfl, _, rfl, _, _, rfl, rfl, _, rfl, ?_⟩
        refine choose_of rfl b3.2 (by decide) (by decide) (fun Q2 q => q) fun y H4 hy b4 => ⟨(by show 4 ≤ sizeLine; decide), fun t ht => ?_⟩
        obtain ⟨lw, rfl⟩ := lw_of hy
        refine kk (.road (h + c8) ts lw) _ _ ((bG.trans (b3.trans b4)).trans (Bt.new _ b4.2 ht)) ?_ ⟨by unfold M.Step.fine; omega, Nat.zero_le _, Nat.zero_le _⟩
        unfold PlStep
        refine ⟨t, rfl, ?_⟩
        rw [Int.natCast_add]
        exact upd_same
      refine draw_vv rfl b2.2 (by decide) (by decide +kernel) fun j3 H3 d0 d1 b3 => ⟨rfl, _, rfl, ite2 (fun c2 => ?_) (fun c2 => ?_)⟩
      · refine ⟨_, rfl, _, _, rfl, rfl, draw_vv rfl b3.2 (by decide) (by decide +kernel) fun j4 H4 f0 f1 b4 => ⟨_, _, rfl, rfl, ?_⟩⟩
        obtain ⟨c9, e9⟩ : ∃ c9 : Nat, 1000 - (h : Int) - j4 = (c9 : Int) := ⟨(1000 - (h : Int) - j4).toNat, by omega⟩
        refine k1 _ _ ⟨b12.trans (b3.trans b4), c9, none, none, none, by omega, by omega, ?_⟩
        show [some (V.ref p), some (V.int (d : Int)), some (V.int (b : Int)), some (V.int (h : Int)), some (V.int j), some (V.int (1000 - (h : Int) - j4)), none, none, none] = _
        rw [e9]
      · exact k1 _ _ ⟨b12.trans b3, c5, none, none, none, by omega, by omega, rfl⟩
    · have fj : ∀ (m : Nat) (H2 : Hp), 1 ≤ m → m ≤ 1000000000000 → Bt p H1 H2 → ∀ t, H2 t = none → Q (.ref t) (upd H2 t (.tup [.str "join", .int (m : Int)])) := fun m H2 m1 m2 b2 t ht => by
        refine kk (.join m) _ _ ((b1.trans b2).trans (Bt.new _ b2.2 ht)) ?_ ⟨by unfold M.Step.fine; exact ⟨m1, m2⟩, Nat.zero_le _, Nat.zero_le _⟩
        unfold PlStep
        exact ⟨t, rfl, upd_same⟩
      refine ⟨_, rfl, _, _, rfl, rfl, _, rfl, ite2 (fun c2 => ?_) (fun c2 => ?_)⟩
      · exact iteT ⟨_, rfl, p, rfl, b1.2, fun m H2 m1 m2 b2 => ⟨line2.1, fun t ht => fj m H2 m1 m2 b2 t ht⟩⟩
      · refine ⟨_, rfl, rfl, _, rfl, ite2 (fun c3 => ?_) (fun c3 => ?_)⟩
        · exact ⟨_, rfl, p, rfl, b1.2, fun m H2 m1 m2 b2 => ⟨line2.1, fun t ht => fj m H2 m1 m2 b2 t ht⟩⟩
        · have c4 : d ≠ 0 := fun e => c3 (by rw [e]; rfl)
          refine ⟨_, rfl, _, rfl, _, _, rfl, rfl, _, rfl, p, d - 1, h, ?_, b1.2, by omega, by omega, h2, fun wy v H2 b2 pl sm => ?_⟩
          · show [V.ref p, V.int ((d : Int) - 1), V.int (h : Int)] = _
            rw [show (d : Int) - 1 = ((d - 1 : Nat) : Int) by omega]
          refine choose_of rfl b2.2 (by decide) (by decide) (fun Q2 q => q) fun x H3 hx b3 => ⟨_, _, rfl, ?_⟩
          obtain ⟨tw, rfl⟩ := tw_of hx
          refine ⟨_, rfl, _, rfl, p, rfl, b3.2, fun m H4 m1 m2 b4 => ⟨_, rfl, (by show 4 ≤ sizeLine; decide), fun t ht => ?_⟩⟩
          have b5 := b4.trans (Bt.new (.tup [.str "tunnel", v, .int (m : Int), .str (WP.twS tw)]) b4.2 ht)
          refine kk (.tunnel wy m tw) _ _ (b1.trans (b2.trans (b3.trans b5))) ?_ ⟨by unfold M.Step.fine; exact ⟨sm.fine, m1, m2⟩, ?_, ?_⟩
          · unfold PlStep
            exact ⟨t, v, rfl, upd_same, (pl.keep (bt_keepT b3 b2.2)).keep (bt_keepT b5 b3.2)⟩
          · have := sm.dp
            show wy.depth ≤ d
            omega
          · have := sm.sz
            show wy.size ≤ M.bs d
            exact Nat.le_trans this (M.zs_bs c4 hd)
abbrev NPn : List Str := ["stream", "depth", "base", "head", "steps", "turn"]
theorem scPn : FnScope NPn ["stream", "depth", "base"] (defScope sLPlan) := ⟨rfl, rfl, rfl, by decide +kernel, rfl, by decide +kernel, by decide +kernel⟩
theorem ok_lplan {k n : Nat} {f : Addr} {fd : FuncData} (F : Fun K "_law_plan" "_law_plan" sLPlan f fd) (hk : 2 ≤ k) (B : Bn mg) (DD : Df P w K mg base 1 "_law_draw" ["stream", "size"] S.spDraw) (DP : Df P w K mg base 2 "_law_choose" ["stream", "items"] (S.spChoose K))
    (DS : Df P w K mg base k "_law_plan_step" ["stream", "depth", "base", "head"] (spLStep n)) : FnOk P w K mg base CX0 (k + 1) f fd ["stream", "depth", "base"] (spLPlan (n + 1)) := by
  obtain ⟨fD, fdD, GD, gD, kD, bD⟩ := DD.ex
  obtain ⟨fP, fdP, GP, gP, kP, bP⟩ := DP.ex
  obtain ⟨fS, fdS, GS, gS, kS, bS⟩ := DS.ex
  refine F.ok scPn (fun vs H Q E h => ?_) (fun cdv A outer s H vs Q E hr h => ?_)
  · obtain ⟨p, d, b, rfl, _⟩ := h
    rfl
  · obtain ⟨p, d, b, rfl, hp, hdn, hd, hb, kk⟩ := h
    refine ⟨_, pss_cons (ps_set (i := 3) scPn.nd rfl (Or.inr rfl) (pe_call GP (hr.mono (by omega)) rfl gP kP bP .nil pass0 (pa_cons (pv 0) (pa_cons (pe_lst (pa_cons (pe_int) (pa_cons (pe_int) (pa_cons (pe_int) (pa_cons (pe_int) (pa_cons (pe_int) (pa_cons (pe_op op_add (pe_int) (pe_call GD (hr.mono (by omega)) rfl gD kD bD .nil pass0 (pa_cons (pv 0) (pa_cons (pe_int) pa_nil)))) pa_nil))))))) pa_nil))))
      (pss_cons (ps_setLc (i := 4) (own := [("turn", 5)]) (g := gName 5) (tt := tYes) (te := tCall (spLStep n) [] E0 (tCons (tVar 0) (tCons (tVar 1) (tCons (tVar 2) (tCons (tVar 3) tNil))))) rfl scPn.nd rfl rfl (sw_true rfl rfl rfl (by decide +kernel)) (pi_range1 (by rfl) B.range (pa_cons (pe_op op_add (pe_int) (pe_call GD (hr.mono (by omega)) rfl gD kD bD .nil pass0 (pa_cons (pv 0) (pa_cons (pe_op op_add (pv 1) (pe_int)) pa_nil)))) pa_nil)) (blkOk_by (N := NPn) (sc := defScope sLPlan) (by decide +kernel))
          (fun _ _ _ _ _ => pg_name (i := 5) scPn.nd rfl (Or.inl rfl)) (fun _ _ _ _ _ => pts_nil) (fun _ _ _ _ _ => by exact pe_call GS (hr.mono (by omega)) rfl gS kS bS .nil pass0 (pa_cons (pv 0) (pa_cons (pv 1) (pa_cons (pv 2) (pa_cons (pv 3) pa_nil))))))
      (pss_one (ps_ret (pe_tup (pa_cons (pv 3) (pa_cons (pe_callTy call_tuple_of (by rfl) B.tuple (by decide +kernel) (pa_cons (pv 4) pa_nil)) pa_nil)))))), ?_⟩
    refine set_then (i := 3) ⟨_, rfl, draw_of rfl hp (by decide) (by decide +kernel) fun j H1 a0 a1 b1 => ⟨(by show 6 ≤ sizeLine; decide), fun l hl => ?_⟩⟩
    refine choose_new (E := E0) b1.2 hl (by show 1 ≤ 6; decide) (by show 6 ≤ 1000; decide) fun x H2 hx b2 => ?_
    obtain ⟨h, rfl, h1, h2⟩ : ∃ h : Nat, x = .int (h : Int) ∧ 1 ≤ h ∧ h ≤ 40 := by
      simp only [List.append_nil, List.cons_append, List.nil_append, List.mem_cons, List.mem_nil_iff, or_false] at hx
      rcases hx with e | e | e | e | e | e
      · exact ⟨1, e, by decide, by decide⟩
      · exact ⟨2, e, by decide, by decide⟩
      · exact ⟨5, e, by decide, by decide⟩
      · exact ⟨10, e, by decide, by decide⟩
      · exact ⟨3, e, by decide, by decide⟩
      · exact ⟨(1 + j).toNat, e.trans (congrArg V.int (by omega)), by omega, by omega⟩
    replace b2 := b1.trans b2
    have lg : ∀ z : Int, 1 ≤ z → z ≤ 3000 → z.natAbs.log2 < 9000 := fun z h1 h2 => PySem.Flt.log2_lt_of (k := 9000) (by decide) (Nat.lt_of_lt_of_le (by omega : _ < 2 ^ 60) (Nat.pow_le_pow_right (by decide) (by decide)))
    refine set_then (i := 4) (draw_te (n := (d : Int) + 2) rfl (fun Q2 q => ⟨_, rfl, _, _, rfl, rfl, q⟩) b2.2 (by omega) (lg _ (by omega) (by omega)) fun j3 H3 j0 j1 b3 => ⟨_, _, rfl, rfl, _, rfl, by omega, by omega, fun D0 nD => ?_⟩)
    replace b3 := b2.trans b3
    have ne := at_ne b3.2 nD
    refine lc_range (lo := 0) (n := (1 + j3).toNat) (fun i G => Bt p H3 G ∧ ∃ (xs : List V) (sts : List M.Step), G D0 = some (.lst xs) ∧ PlAll G sts xs ∧ sts.length = i ∧ ∀ y ∈ sts, M.SmStep d h y) ⟨Bt.new (.lst []) b3.2 nD, [], [], upd_same, by unfold PlAll; rfl, rfl, fun y hy => by cases hy⟩ ?_ ?_
    · rintro i G hi ⟨bG, xs, sts, hD, hP, hn, hS⟩
      have lx := hP.len
      refine ⟨rfl, _, rfl, _, rfl, _, rfl, _, rfl, p, d, b, h, rfl, bG.2, by omega, hd, hb, h1, h2, fun st v G1 b4 pl sm => ⟨xs, bt_lst b4 ne hD, small1000 (by omega), ?_, _, sts ++ [st], upd_same, ?_, by simp; exact hn, ?_⟩⟩
      · have b5 := bG.trans b4
        refine ⟨fun a o n e => ?_, ?_⟩
        · rw [upd_ne (fun z => by rw [z, nD] at e; cases e)]
          exact b5.1 a o n e
        · obtain ⟨r, m, e, f⟩ := b5.2
          exact ⟨r, m, by rw [upd_ne ne.symm]; exact e, f⟩
      · have kp := put_keepT (o := .lst (xs ++ [v])) (bt_lst b4 ne hD)
        exact ((hP.keep (bt_keepT b4 bG.2)).keep kp).snoc (pl.keep kp)
      · intro z hz
        rcases List.mem_append.mp hz with q | q
        · exact hS z q
        · rw [List.mem_singleton.mp q]
          exact sm
    · rintro G ⟨bG, xs, sts, hD, hP, hn, hS⟩
      refine ⟨_, rfl, _, rfl, D0, xs, rfl, .inl ⟨SqL.of hD, fun T hT => ⟨line2.1, fun t ht => ?_⟩⟩⟩
      have c1 := Bt.new (.tup xs) bG.2 hT
      have c2 := Bt.new (.tup [.int (h : Int), .ref T]) c1.2 ht
      refine kk (.mk h sts) _ _ ((b3.trans bG).trans (c1.trans c2)) ?_ (M.sm_way hd h1 h2 (by omega) (by omega) hS)
      unfold PlanAt
      exact ⟨t, T, xs, rfl, upd_same, of_upd ht _ _ upd_same, hP.keep (bt_keepT (c1.trans c2) bG.2)⟩
end
end CP

end
section
set_option autoImplicit false
set_option Elab.async false
set_option linter.all false
set_option maxRecDepth 100000
set_option maxHeartbeats 4000000
/-! ## texts of ways: their lines, and how they are read -/
namespace TX
open PySem hiding Step
open TL M
def S (l : List Nat) : Str := ⟨l.toArray⟩
theorem tl_S (l : List Nat) : tl (S l) = l := by simp [tl, S]
theorem S_tl (x : Str) : S (tl x) = x := ext_tl (tl_S _)
theorem S_app (a b : List Nat) : S a ++ S b = S (a ++ b) := ext_tl (by rw [tl_append, tl_S, tl_S, tl_S])
theorem S_len (l : List Nat) : (S l).length = l.length := by rw [len_tl, tl_S]
theorem S_of {x : Str} {l : List Nat} (h : tl x = l) : x = S l := by rw [← h, S_tl]
theorem S_inj {a b : List Nat} (h : S a = S b) : a = b := by rw [← tl_S a, h, tl_S]
def cHead : List Nat := [104, 101, 97, 100]
def cRoad : List Nat := [114, 111, 97, 100]
def cJoin : List Nat := [106, 111, 105, 110]
def cTun : List Nat := [116, 117, 110, 110, 101, 108]
def sd (b : Bool) : List Nat := tl (WP.sdS b)
def lw (l : LW) : List Nat := tl (WP.lwS l)
def tw (t : TW) : List Nat := tl (WP.twS t)
/-- the words of a line without an inner way -/
def plainW : Step → List (List Nat)
  | .road size ts l => [cRoad, numL size, sd ts, lw l]
  | .join most => [cJoin, numL most]
  | .tunnel _ most t => [cTun, numL most, tw t]
def headW (h : Nat) : List (List Nat) := [cHead, numL h]
/-- words put together by blanks -/
def wd (ws : List (List Nat)) : List Nat := joinL [32] ws
mutual
/-- the lines of a way, not indented -/
def Way.lines : Way → List (List Nat)
  | .mk h s => wd (headW h) :: Step.linesAll s
def Step.linesAll : List Step → List (List Nat)
  | [] => []
  | s :: r => Step.lines s ++ Step.linesAll r
def Step.lines : Step → List (List Nat)
  | .road size ts l => [wd (plainW (.road size ts l))]
  | .join most => [wd (plainW (.join most))]
  | .tunnel w most t => wd (plainW (.tunnel w most t)) :: (Way.lines w).map ([32, 32] ++ ·)
end
def text (w : Way) : List Nat := joinL [10] (Way.lines w)
theorem sd_cs (b : Bool) : sd b = [116, 101, 108, 108] ∨ sd b = [100, 114, 111, 112] := by cases b <;> decide +kernel
theorem lw_cs (l : LW) : lw l = [99, 117, 116] ∨ lw l = [116, 101, 108, 108] ∨ lw l = [100, 114, 111, 112] := by cases l <;> decide +kernel
theorem tw_cs (t : TW) : tw t = [116, 117, 114, 110] ∨ tw t = [107, 101, 101, 112] ∨ tw t = [108, 111, 115, 101] := by cases t <;> decide +kernel
/-- a word: not empty, short, of signs that are neither a blank nor a line's end -/
structure Wd (l : List Nat) : Prop where
  ne : l ≠ []
  len : l.length ≤ 13
  sp : ∀ c ∈ l, c ≠ 32 ∧ c ≠ 10
theorem wd_of {l : List Nat} (h : (!l.isEmpty && decide (l.length ≤ 13) && l.all fun c => decide (c ≠ 32 ∧ c ≠ 10)) = true) : Wd l := by
  rw [Bool.and_eq_true, Bool.and_eq_true] at h
  obtain ⟨⟨h1, h2⟩, h3⟩ := h
  refine ⟨fun e => ?_, of_decide_eq_true h2, fun c hc => of_decide_eq_true (List.all_eq_true.mp h3 c hc)⟩
  rw [e] at h1
  cases h1
theorem wd_head : Wd cHead := wd_of (by decide +kernel)
theorem wd_road : Wd cRoad := wd_of (by decide +kernel)
theorem wd_join : Wd cJoin := wd_of (by decide +kernel)
theorem wd_tun : Wd cTun := wd_of (by decide +kernel)
theorem wd_sd (b : Bool) : Wd (sd b) := by rcases sd_cs b with e | e <;> rw [e] <;> exact wd_of (by decide +kernel)
theorem wd_lw (b : LW) : Wd (lw b) := by rcases lw_cs b with e | e | e <;> rw [e] <;> exact wd_of (by decide +kernel)
theorem wd_tw (b : TW) : Wd (tw b) := by rcases tw_cs b with e | e | e <;> rw [e] <;> exact wd_of (by decide +kernel)
theorem wd_num {n : Nat} (h : n ≤ 1000000000000) : Wd (numL n) := by
  refine ⟨numL_ne n, numL_len (k := 13) (by decide) (Nat.lt_of_le_of_lt h (by decide)), fun c hc => ?_⟩
  have := numL_digits n c hc
  omega
theorem headW_wd {h : Nat} (hh : h ≤ 40) : ∀ w ∈ headW h, Wd w := fun w hw => by
  unfold headW at hw
  simp only [List.mem_cons, List.mem_nil_iff, or_false] at hw
  rcases hw with rfl | rfl
  · exact wd_head
  · exact wd_num (by omega)
theorem plainW_wd {h : Nat} {s : Step} (hf : s.fine h) : ∀ w ∈ plainW s, Wd w := fun w hw => by
  cases s with
  | road size ts l =>
    unfold Step.fine at hf
    simp only [plainW, List.mem_cons, List.mem_nil_iff, or_false] at hw
    rcases hw with rfl | rfl | rfl | rfl
    · exact wd_road
    · exact wd_num (by omega)
    · exact wd_sd _
    · exact wd_lw _
  | join most =>
    unfold Step.fine at hf
    simp only [plainW, List.mem_cons, List.mem_nil_iff, or_false] at hw
    rcases hw with rfl | rfl
    · exact wd_join
    · exact wd_num (by omega)
  | tunnel w most t =>
    unfold Step.fine at hf
    simp only [plainW, List.mem_cons, List.mem_nil_iff, or_false] at hw
    rcases hw with rfl | rfl | rfl
    · exact wd_tun
    · exact wd_num (by omega)
    · exact wd_tw _
theorem join_len {S : List Nat} (k m : Nat) (hS : S.length ≤ m) : ∀ {ps : List (List Nat)}, (∀ p ∈ ps, p.length ≤ k) → (joinL S ps).length ≤ ps.length * (k + m)
  | [], _ => Nat.zero_le _
  | [p], h => by
    have := h p List.mem_cons_self
    show p.length ≤ 1 * (k + m)
    omega
  | p :: q :: r, h => by
    have a := h p List.mem_cons_self
    have b := join_len k m hS (ps := q :: r) fun x hx => h x (List.mem_cons_of_mem _ hx)
    show (p ++ (S ++ joinL S (q :: r))).length ≤ _
    rw [List.length_append, List.length_append, List.length_cons (a := p), Nat.add_mul]
    omega
theorem join_mem {S : List Nat} {c : Nat} : ∀ {ps : List (List Nat)}, c ∈ joinL S ps → c ∈ S ∨ ∃ p ∈ ps, c ∈ p
  | [], h => by cases h
  | [p], h => .inr ⟨p, List.mem_cons_self, h⟩
  | p :: q :: r, h => by
    rcases List.mem_append.mp h with h | h
    · exact .inr ⟨p, List.mem_cons_self, h⟩
    · rcases List.mem_append.mp h with h | h
      · exact .inl h
      · rcases join_mem h with h | ⟨x, hx, hc⟩
        · exact .inl h
        · exact .inr ⟨x, List.mem_cons_of_mem _ hx, hc⟩
/-- a line: of words -/
structure Ln (l : List Nat) : Prop where
  len : l.length ≤ 60
  nl : (10 : Nat) ∉ l
theorem ln_wd {ws : List (List Nat)} (h : ∀ w ∈ ws, Wd w) (hl : ws.length ≤ 4) : (wd ws).length ≤ 56 ∧ (10 : Nat) ∉ wd ws := by
  refine ⟨?_, fun z => ?_⟩
  · have := join_len (S := [32]) 13 1 (by decide) (ps := ws) fun p hp => (h p hp).len
    unfold wd
    omega
  · rcases join_mem z with z | ⟨p, hp, hc⟩
    · exact absurd z (by decide)
    · exact ((h p hp).sp 10 hc).2 rfl
/-- words come back -/
theorem split_wd {ws : List (List Nat)} (h : ∀ w ∈ ws, Wd w) (hn : ws ≠ []) : Txt.split (S (wd ws)) (S [32]) = ws.map S := by
  have e : S (wd ws) = Txt.join (S [32]) (ws.map S) := by
    rw [join_eq]
    refine ext_tl ?_
    rw [tl_join, tl_S, tl_S, List.map_map]
    have : tl ∘ S = id := funext tl_S
    rw [this, List.map_id]
    rfl
  rw [e]
  refine split_join (s := 32) (S := []) (tl_S _) (by decide +kernel) (fun z => hn (List.map_eq_nil_iff.mp z)) fun p hp => ?_
  obtain ⟨w, hw, rfl⟩ := List.mem_map.mp hp
  rw [tl_S]
  exact fun z => ((h w hw).sp 32 z).1 rfl
theorem join_lines (ls : List (List Nat)) : Txt.join (S [10]) (ls.map S) = S (joinL [10] ls) := by
  rw [join_eq]
  refine ext_tl ?_
  rw [tl_join, tl_S, tl_S, List.map_map]
  have : tl ∘ S = id := funext tl_S
  rw [this, List.map_id]
theorem split_lines {ls : List (List Nat)} (h : ∀ l ∈ ls, (10 : Nat) ∉ l) (hn : ls ≠ []) : Txt.split (S (joinL [10] ls)) (S [10]) = ls.map S := by
  rw [← join_lines]
  refine split_join (s := 10) (S := []) (tl_S _) (by decide +kernel) (fun z => hn (List.map_eq_nil_iff.mp z)) fun p hp => ?_
  obtain ⟨w, hw, rfl⟩ := List.mem_map.mp hp
  rw [tl_S]
  exact h w hw
mutual
/-- lines are short, and so many -/
theorem way_lines : ∀ (w : Way) (d : Nat), w.fine → w.depth ≤ d → (∀ l ∈ Way.lines w, l.length ≤ 54 + 2 * d ∧ (10 : Nat) ∉ l) ∧ (Way.lines w).length ≤ 2 * w.size + 1
  | .mk h s, d, hf, hd => by
    unfold Way.fine at hf
    unfold Way.depth at hd
    unfold Way.lines Way.size
    obtain ⟨d, rfl⟩ : ∃ k, d = k + 1 := ⟨d - 1, by omega⟩
    obtain ⟨a, b⟩ := all_lines s h d hf.2.2.1 (by omega)
    refine ⟨fun l hl => ?_, by rw [List.length_cons]; omega⟩
    rcases List.mem_cons.mp hl with e | e
    · rw [e]
      have := ln_wd (headW_wd hf.1.2) (by show 2 ≤ 4; decide)
      exact ⟨by omega, this.2⟩
    · have := a l e
      exact ⟨by omega, this.2⟩
theorem all_lines : ∀ (s : List Step) (h d : Nat), Step.fineAll h s → Step.deepest s ≤ d → (∀ l ∈ Step.linesAll s, l.length ≤ 56 + 2 * d ∧ (10 : Nat) ∉ l) ∧ (Step.linesAll s).length ≤ 2 * (s.length + Step.inner s)
  | [], h, d, _, _ => by
    unfold Step.linesAll
    exact ⟨(fun l hl => by cases hl), Nat.zero_le _⟩
  | x :: r, h, d, hf, hd => by
    unfold Step.fineAll at hf
    rw [deep_cons] at hd
    obtain ⟨a, b⟩ := step_lines x h d hf.1 (by omega)
    obtain ⟨a2, b2⟩ := all_lines r h d hf.2 (by omega)
    unfold Step.linesAll
    refine ⟨fun l hl => ?_, ?_⟩
    · rcases List.mem_append.mp hl with e | e
      · exact a l e
      · exact a2 l e
    · rw [List.length_append, inner_cons, List.length_cons]
      omega
theorem step_lines : ∀ (x : Step) (h d : Nat), x.fine h → x.dep ≤ d → (∀ l ∈ Step.lines x, l.length ≤ 56 + 2 * d ∧ (10 : Nat) ∉ l) ∧ (Step.lines x).length ≤ 2 * (1 + isz x)
  | .road size ts l, h, d, hf, hd => by
    unfold Step.lines
    refine ⟨fun l hl => ?_, by rw [List.length_singleton]; omega⟩
    rw [List.mem_singleton.mp hl]
    have := ln_wd (plainW_wd hf) (by show 4 ≤ 4; decide)
    exact ⟨by omega, this.2⟩
  | .join most, h, d, hf, hd => by
    unfold Step.lines
    refine ⟨fun l hl => ?_, by rw [List.length_singleton]; omega⟩
    rw [List.mem_singleton.mp hl]
    have := ln_wd (plainW_wd hf) (by show 2 ≤ 4; decide)
    exact ⟨by omega, this.2⟩
  | .tunnel w most t, h, d, hf, hd => by
    have hf0 := hf
    unfold Step.fine at hf
    obtain ⟨a, b⟩ := way_lines w d hf.1 hd
    unfold Step.lines
    refine ⟨fun l hl => ?_, ?_⟩
    · rcases List.mem_cons.mp hl with e | e
      · rw [e]
        have := ln_wd (plainW_wd hf0) (by show 3 ≤ 4; decide)
        exact ⟨by omega, this.2⟩
      · obtain ⟨k, hk, rfl⟩ := List.mem_map.mp e
        have := a k hk
        rw [List.length_append]
        refine ⟨by show 2 + k.length ≤ _; omega, fun z => ?_⟩
        rcases List.mem_append.mp z with z | z
        · exact absurd z (by decide)
        · exact this.2 z
    · rw [List.length_cons, List.length_map]
      show _ ≤ 2 * (1 + w.size)
      omega
end
end TX

end
section
set_option autoImplicit false
set_option Elab.async false
set_option linter.all false
set_option maxRecDepth 100000
set_option maxHeartbeats 4000000
/-! ## how lines are read: a stack of ways that are begun -/
namespace TX
open PySem hiding Step
open TL M
/-- a way that is begun -/
structure Fr where
  out : Option (Nat × TW)
  head : Option Nat
  steps : List Step
inductive Li where
  | head (h : Nat)
  | plain (s : Step)
  | tun (most : Nat) (t : TW)
def liW : Li → List (List Nat)
  | .head h => headW h
  | .plain s => plainW s
  | .tun m t => [cTun, numL m, tw t]
def isTun : Step → Prop
  | .tunnel _ _ _ => True
  | .road _ _ _ => False
  | .join _ => False
mutual
/-- the lines with their levels -/
def wl : Nat → Way → List (Nat × Li)
  | lv, .mk h s => (lv, .head h) :: sls lv s
def sls : Nat → List Step → List (Nat × Li)
  | _, [] => []
  | lv, s :: r => sl lv s ++ sls lv r
def sl : Nat → Step → List (Nat × Li)
  | lv, .road a b c => [(lv, .plain (.road a b c))]
  | lv, .join a => [(lv, .plain (.join a))]
  | lv, .tunnel w m t => (lv, .tun m t) :: wl (lv + 1) w
end
def indL (lv : Nat) : List Nat := List.replicate (2 * lv) 32
def lineOf (x : Nat × Li) : List Nat := indL x.1 ++ wd (liW x.2)
theorem ind_succ (lv : Nat) : indL (lv + 1) = indL lv ++ [32, 32] := by
  unfold indL
  rw [show 2 * (lv + 1) = 2 * lv + 2 by omega]
  exact List.replicate_append_replicate.symm
mutual
theorem wl_lines : ∀ (w : Way) (lv : Nat), (wl lv w).map lineOf = (Way.lines w).map (indL lv ++ ·)
  | .mk h s, lv => by
    unfold wl Way.lines
    rw [List.map_cons, List.map_cons, sls_lines s lv]
    rfl
theorem sls_lines : ∀ (s : List Step) (lv : Nat), (sls lv s).map lineOf = (Step.linesAll s).map (indL lv ++ ·)
  | [], lv => by
    unfold sls Step.linesAll
    rfl
  | x :: r, lv => by
    unfold sls Step.linesAll
    rw [List.map_append, List.map_append, sl_lines x lv, sls_lines r lv]
theorem sl_lines : ∀ (s : Step) (lv : Nat), (sl lv s).map lineOf = (Step.lines s).map (indL lv ++ ·)
  | .road a b c, lv => by
    unfold sl Step.lines
    rfl
  | .join a, lv => by
    unfold sl Step.lines
    rfl
  | .tunnel w m t, lv => by
    unfold sl Step.lines
    rw [List.map_cons, List.map_cons, wl_lines w (lv + 1), List.map_map]
    show lineOf (lv, .tun m t) :: _ = _
    refine List.cons_eq_cons.mpr ⟨rfl, List.map_congr_left fun l _ => ?_⟩
    show indL (lv + 1) ++ l = indL lv ++ ([32, 32] ++ l)
    rw [ind_succ, List.append_assoc]
end
theorem text_lines (w : Way) : (Way.lines w) = (wl 0 w).map lineOf := by
  rw [wl_lines]
  show _ = (Way.lines w).map fun l => [] ++ l
  simp
/-- inner ways ended, down to a level; the stack's top stands first -/
inductive Closes (lv : Nat) : List Fr → List Fr → Prop
  | done {st : List Fr} : st.length = lv + 1 → Closes lv st st
  | close {b a : Fr} {r st : List Fr} {h m : Nat} {t : TW} : lv + 1 < (b :: a :: r).length → b.out = some (m, t) → b.head = some h → Way.fine (.mk h b.steps) → Closes lv ({ a with steps := a.steps ++ [.tunnel (.mk h b.steps) m t] } :: r) st → Closes lv (b :: a :: r) st
theorem Closes.len {lv : Nat} {st st' : List Fr} (c : Closes lv st st') : st'.length = lv + 1 := by
  induction c with
  | done h => exact h
  | close _ _ _ _ _ ih => exact ih
theorem Closes.trans {lv lu : Nat} {st s1 s2 : List Fr} (c : Closes lv st s1) (hl : lu ≤ lv) (d : Closes lu s1 s2) : Closes lu st s2 := by
  induction c with
  | done h => exact d
  | close hl2 h1 h2 h3 _ ih => exact .close (by omega) h1 h2 h3 (ih d)
/-- a stack that goes on at a level -/
structure Rdy (lv : Nat) (st st' : List Fr) : Prop where
  cl : Closes lv st st'
  top : ∃ b r, st = b :: r ∧ (∃ h, b.head = some h) ∧ (b.steps ≠ [] ∨ st.length = lv + 1)
/-- a line is taken -/
inductive Feed : List Fr × Nat → Nat × Li → List Fr × Nat → Prop
  | head {f : Fr} {r : List Fr} {n h : Nat} : f.head = none → 1 ≤ h → h ≤ 40 → Feed (f :: r, n) (r.length, .head h) ({ f with head := some h } :: r, n)
  | plain {st : List Fr} {f : Fr} {r : List Fr} {n h lv : Nat} {s : Step} : Rdy lv st (f :: r) → f.head = some h → ¬ isTun s → s.fine h → h ≤ 40 → f.steps.length < 12 → n < 40 → Feed (st, n) (lv, .plain s) ({ f with steps := f.steps ++ [s] } :: r, n + 1)
  | tun {st : List Fr} {f : Fr} {r : List Fr} {n lv m : Nat} {t : TW} : Rdy lv st (f :: r) → 1 ≤ m → m ≤ 1000000000000 → f.steps.length < 12 → n + 1 < 40 → r.length + 2 ≤ 3 → Feed (st, n) (lv, .tun m t) (⟨some (m, t), none, []⟩ :: f :: r, n + 1)
inductive Runs : List Fr × Nat → List (Nat × Li) → List Fr × Nat → Prop
  | nil {x : List Fr × Nat} : Runs x [] x
  | cons {x y z : List Fr × Nat} {l : Nat × Li} {ls : List (Nat × Li)} : Feed x l y → Runs y ls z → Runs x (l :: ls) z
theorem Runs.app {x y z : List Fr × Nat} {ls ms : List (Nat × Li)} (a : Runs x ls y) (b : Runs y ms z) : Runs x (ls ++ ms) z := by
  induction a with
  | nil => exact b
  | cons f _ ih => exact .cons f (ih b)
mutual
theorem runs_way : ∀ (w : Way) (f : Fr) (r : List Fr) (n : Nat), w.fine → f.head = none → f.steps = [] → r.length + w.depth ≤ 3 → n + w.size ≤ 40 →
    ∃ st, Runs (f :: r, n) (wl r.length w) (st, n + w.size) ∧ Rdy r.length st ({ f with head := some w.head, steps := w.steps } :: r) ∧ (∃ b q, st = b :: q ∧ b.steps ≠ [])
  | .mk h s, f, r, n, hf, h1, h2, hd, hn => by
    unfold Way.fine at hf
    unfold Way.depth at hd
    unfold Way.size at hn ⊢
    unfold wl
    have e : f.steps ++ s = s := by rw [h2]; rfl
    obtain ⟨st, a, b, c⟩ := runs_all s { f with head := some h } r ({ f with head := some h } :: r) n h (lv := r.length) ⟨.done (by rw [List.length_cons]), _, _, rfl, ⟨h, rfl⟩, .inr (by rw [List.length_cons])⟩ rfl hf.2.2.1 hf.1.2 (by show f.steps.length + s.length ≤ 12; rw [h2]; simp; omega) rfl (by omega) hn
    refine ⟨st, .cons (.head h1 hf.1.1 hf.1.2) a, ?_, ?_⟩
    · have := b
      dsimp only at this
      rw [e] at this
      exact this
    · exact c (fun z => by rw [z] at hf; simp at hf)
theorem runs_all : ∀ (s : List Step) (f : Fr) (r st : List Fr) (n h : Nat) {lv : Nat}, Rdy lv st (f :: r) → f.head = some h → Step.fineAll h s → h ≤ 40 → f.steps.length + s.length ≤ 12 → r.length = lv → lv + 1 + Step.deepest s ≤ 3 → n + (s.length + Step.inner s) ≤ 40 →
    ∃ st', Runs (st, n) (sls lv s) (st', n + (s.length + Step.inner s)) ∧ Rdy lv st' ({ f with steps := f.steps ++ s } :: r) ∧ (s ≠ [] → ∃ b q, st' = b :: q ∧ b.steps ≠ [])
  | [], f, r, st, n, h, lv, hr, hh, _, _, _, hl, _, _ => by
    unfold sls
    refine ⟨st, ?_, ?_, fun z => absurd rfl z⟩
    · show Runs (st, n) [] (st, n + (0 + Step.inner []))
      unfold Step.inner
      exact .nil
    · rw [List.append_nil]
      exact hr
  | x :: s, f, r, st, n, h, lv, hr, hh, hf, h40, hl, hl2, hd, hn => by
    unfold Step.fineAll at hf
    rw [deep_cons] at hd
    rw [inner_cons, List.length_cons] at hn ⊢
    rw [List.length_cons] at hl
    obtain ⟨s1, a1, b1, c1⟩ := runs_step x f r st n h hr hh hf.1 h40 (by omega) hl2 (by omega) (by omega)
    obtain ⟨b0, q0, e0, n0⟩ := c1
    obtain ⟨s2, a2, b2, c2⟩ := runs_all s { f with steps := f.steps ++ [x] } r s1 (n + (1 + isz x)) h b1 hh hf.2 h40 (by show (f.steps ++ [x]).length + s.length ≤ 12; rw [List.length_append, List.length_singleton]; omega) hl2 (by omega) (by omega)
    refine ⟨s2, ?_, ?_, fun _ => ?_⟩
    · unfold sls
      have := a1.app a2
      rw [show n + (s.length + 1 + (isz x + Step.inner s)) = n + (1 + isz x) + (s.length + Step.inner s) by omega]
      exact this
    · have e : (f.steps ++ [x]) ++ s = f.steps ++ x :: s := by rw [List.append_assoc]; rfl
      have := b2
      dsimp only at this
      rw [e] at this
      exact this
    · by_cases z : s = []
      · subst z
        unfold sls at a2
        cases a2
        exact ⟨b0, q0, e0, n0⟩
      · exact c2 z
theorem runs_step : ∀ (x : Step) (f : Fr) (r st : List Fr) (n h : Nat) {lv : Nat}, Rdy lv st (f :: r) → f.head = some h → x.fine h → h ≤ 40 → f.steps.length < 12 → r.length = lv → lv + 1 + x.dep ≤ 3 → n + (1 + isz x) ≤ 40 →
    ∃ st', Runs (st, n) (sl lv x) (st', n + (1 + isz x)) ∧ Rdy lv st' ({ f with steps := f.steps ++ [x] } :: r) ∧ ∃ b q, st' = b :: q ∧ b.steps ≠ []
  | .road a b c, f, r, st, n, h, lv, hr, hh, hf, h40, hl, hl2, hd, hn => by
    unfold sl
    refine ⟨_, .cons (.plain hr hh (fun z => z) hf h40 hl (by omega)) .nil, ⟨.done (by rw [List.length_cons, hl2]), _, _, rfl, ⟨h, hh⟩, .inl (by simp)⟩, _, _, rfl, by simp⟩
  | .join a, f, r, st, n, h, lv, hr, hh, hf, h40, hl, hl2, hd, hn => by
    unfold sl
    refine ⟨_, .cons (.plain hr hh (fun z => z) hf h40 hl (by omega)) .nil, ⟨.done (by rw [List.length_cons, hl2]), _, _, rfl, ⟨h, hh⟩, .inl (by simp)⟩, _, _, rfl, by simp⟩
  | .tunnel w m t, f, r, st, n, h, lv, hr, hh, hf, h40, hl, hl2, hd, hn => by
    unfold Step.fine at hf
    have hd2 : lv + 1 + w.depth ≤ 3 := hd
    have hn2 : n + (1 + w.size) ≤ 40 := hn
    have dp : 1 ≤ w.depth := by
      obtain ⟨wh, ws⟩ := w
      unfold Way.depth
      omega
    have sp : 1 ≤ w.size := by
      obtain ⟨wh, ws⟩ := w
      have := hf.1
      unfold Way.fine at this
      unfold Way.size
      omega
    obtain ⟨st', a1, b1, b0, q0, e0, n0⟩ := runs_way w ⟨some (m, t), none, []⟩ (f :: r) (n + 1) hf.1 rfl rfl (by rw [List.length_cons, hl2]; omega) (by omega)
    rw [List.length_cons, hl2] at a1 b1
    unfold sl
    refine ⟨st', ?_, ⟨?_, b0, q0, e0, ?_, .inl n0⟩, b0, q0, e0, n0⟩
    · rw [show n + (1 + isz (.tunnel w m t)) = n + 1 + w.size by show n + (1 + w.size) = _; omega]
      exact .cons (.tun hr hf.2.1 hf.2.2 hl (by omega) (by omega)) a1
    · obtain ⟨wh, ws⟩ := w
      refine b1.cl.trans (Nat.le_succ lv) (.close (h := wh) (m := m) (t := t) ?_ rfl rfl hf.1 (.done ?_))
      · rw [List.length_cons, List.length_cons, hl2]
        omega
      · rw [List.length_cons, hl2]
    · obtain ⟨b2, q2, e2, h2, _⟩ := b1.top
      rw [e0] at e2
      cases e2
      exact h2
end
theorem runs_text {w : Way} (h : w.fine) : ∃ st, Runs ([⟨none, none, []⟩], 0) (wl 0 w) (st, w.size) ∧ Closes 0 st [⟨none, some w.head, w.steps⟩] ∧ ∃ b q, st = b :: q ∧ b.steps ≠ [] := by
  have f := h
  obtain ⟨wh, ws⟩ := w
  unfold Way.fine at f
  obtain ⟨st, a, b, c⟩ := runs_way (.mk wh ws) ⟨none, none, []⟩ [] 0 h rfl rfl (by unfold Way.depth; simp; omega) (by unfold Way.size; omega)
  rw [Nat.zero_add] at a
  exact ⟨st, a, b.cl, c⟩
end TX

end
section
set_option autoImplicit false
set_option Elab.async false
set_option linter.all false
set_option maxRecDepth 100000
set_option maxHeartbeats 4000000
/-! ## ways of plans -/
namespace WP
open PySem L2 G
variable {C : Addr}
open CP (KeepT)
mutual
theorem WayAt.keep {C : Addr} {H H' : Hp} (s : CP.KeepT H H') : ∀ {w : M.Way} {a : Addr}, WayAt C H w a → WayAt C H' w a
  | .mk h st, a, x => by
    unfold WayAt at x ⊢
    obtain ⟨dx, t, xs, h1, h2, h3⟩ := x
    exact ⟨dx, t, xs, s _ _ (fun _ z => by cases z) h1, CP.KeepT.tup s h2, StepsAt.keep s h3⟩
theorem StepsAt.keep {C : Addr} {H H' : Hp} (s : CP.KeepT H H') : ∀ {st : List M.Step} {xs : List V}, StepsAt C H st xs → StepsAt C H' st xs
  | [], xs, x => by
    unfold StepsAt at x ⊢
    exact x
  | y :: r, xs, x => by
    unfold StepsAt at x ⊢
    obtain ⟨u, ys, e, h1, h2⟩ := x
    exact ⟨u, ys, e, StepAt.keep s h1, StepsAt.keep s h2⟩
theorem StepAt.keep {C : Addr} {H H' : Hp} (s : CP.KeepT H H') : ∀ {st : M.Step} {x : V}, StepAt C H st x → StepAt C H' st x
  | .road size ts lw, v, x => by
    unfold StepAt at x ⊢
    obtain ⟨t, e, h⟩ := x
    exact ⟨t, e, CP.KeepT.tup s h⟩
  | .join most, v, x => by
    unfold StepAt at x ⊢
    obtain ⟨t, e, h⟩ := x
    exact ⟨t, e, CP.KeepT.tup s h⟩
  | .tunnel w most tw, v, x => by
    unfold StepAt at x ⊢
    obtain ⟨t, a, e, h, h2⟩ := x
    exact ⟨t, a, e, CP.KeepT.tup s h, WayAt.keep s h2⟩
end
theorem StepsAt.snoc {C : Addr} {H : Hp} : ∀ {s : List M.Step} {xs : List V} {y : M.Step} {x : V}, StepsAt C H s xs → StepAt C H y x → StepsAt C H (s ++ [y]) (xs ++ [x])
  | [], xs, y, x, h, h2 => by
    unfold StepsAt at h
    subst h
    show StepsAt C H [y] [x]
    unfold StepsAt
    exact ⟨x, [], rfl, h2, by unfold StepsAt; rfl⟩
  | z :: s, xs, y, x, h, h2 => by
    unfold StepsAt at h
    obtain ⟨u, ys, rfl, h3, h4⟩ := h
    show StepsAt C H (z :: (s ++ [y])) (u :: (ys ++ [x]))
    unfold StepsAt
    exact ⟨u, ys ++ [x], rfl, h3, StepsAt.snoc h4 h2⟩
structure Mw (P : Program) (w : World) (K : PySem.W.Frag) (mg : Str → Option Value) (base : Heap) (C : Addr) : Prop where
  ex : ∃ (f : Addr) (fd : FuncData), FnOk P w K mg base CX0 6 f fd ["self", "head", "steps"] (spInit C) ∧ Mk K C f ∧ Binds K fd ["self", "head", "steps"] []
theorem made_way {H : Hp} {Q : VK} {E : XK} {l : Addr} {h : Nat} {xs : List V} {st : List M.Step} (hl : SAt H l xs) (hs : StepsAt C H st xs) (hf : M.Way.fine (.mk h st)) (k : ∀ x H', Same H H' → WayAt C H' (.mk h st) x → Q (.ref x) H') :
    ∀ x dx, H x = none → H dx = none → dx ≠ x → spInit C (.ref x :: ([.int (h : Int), .ref l] ++ [])) (upd (upd H dx (.own x)) x (.ins C dx [])) (fun v H2 => v = .non ∧ Q (.ref x) H2) E := fun x dx hx hdx ne =>
  ⟨x, l, dx, h, xs, st, H, rfl, upd_same, hx, (Same.of_upd hdx).trans (Same.of_upd (by rw [upd_ne ne.symm]; exact hx)), hl, hs, hf, fun H' s wa => ⟨rfl, k x H' s wa⟩⟩
end WP
namespace CP
open PySem L2 G Y
theorem PlStep.kind {H : Hp} : ∀ {s : M.Step} {x : V}, PlStep H s x → ∃ t, x = .ref t
  | .road _ _ _, x, h => by unfold PlStep at h; obtain ⟨t, e, h⟩ := h; exact ⟨t, e⟩
  | .join _, x, h => by unfold PlStep at h; obtain ⟨t, e, h⟩ := h; exact ⟨t, e⟩
  | .tunnel _ _ _, x, h => by unfold PlStep at h; obtain ⟨t, v, e, h, _⟩ := h; exact ⟨t, e⟩
section
variable {P : Program} {w : World} {K : PySem.W.Frag} {mg : Str → Option Value} {base : Heap} {C CW : Addr}
def spLWay (C : Addr) (n : Nat) : Sp := fun vs H Q _ => ∃ v wy, vs = [v] ∧ PlanAt H wy v ∧ M.Way.fine wy ∧ wy.depth ≤ n ∧ ∀ a H', Same H H' → WP.WayAt C H' wy a → Q (.ref a) H'
theorem scLw : FnScope ["plan", "head", "steps", "found", "step"] ["plan"] (defScope sLWay) := ⟨rfl, rfl, rfl, by decide +kernel, rfl, by decide +kernel, by decide +kernel⟩
theorem ok_lway {k n : Nat} {f : Addr} {fd : FuncData} (F : Fun K "_law_way" "_law_way" sLWay f fd) (T : WP.Wt K mg CW) (MW : WP.Mw P w K mg base CW) (hk : 7 ≤ k) (DW : Df P w K mg base k "_law_way" ["plan"] (spLWay CW n)) : FnOk P w K mg base CX0 (k + 1) f fd ["plan"] (spLWay CW (n + 1)) := by
  obtain ⟨fI, fdI, GI, MK, bI⟩ := MW.ex
  obtain ⟨fW, fdW, GW, gW, kW, bW⟩ := DW.ex
  refine F.ok scLw (fun vs H Q E h => ?_) (fun cdv A outer s H vs Q E hr h => ?_)
  · obtain ⟨v, wy, rfl, _⟩ := h
    rfl
  · obtain ⟨v, wy, rfl, hR, hf, hd, kk⟩ := h
    refine ⟨_, pss_cons (ps_asg (pv 0) (pg_tup (by rfl) (pgs_cons (pg_name (i := 1) scLw.nd rfl (Or.inl rfl)) (pgs_cons (pg_name (i := 2) scLw.nd rfl (Or.inl rfl)) pgs_nil))))
      (pss_cons (ps_set (i := 3) scLw.nd rfl (Or.inl rfl) (pe_lst pa_nil))
      (pss_cons (ps_for PassesOwn.never rfl (pi_tup (pv 2)) (pg_name (i := 4) scLw.nd rfl (Or.inl rfl)) (pss_one (ps_expr (pe_bm PySem.F.plainAttrs_list PySem.F.slot_list_append PySem.F.type_list_append mt_append (pv 3) (pa_cons (pe_ifExp (pt_cmpR (op_eq) (pe_ix ix_tup (pv 4) (pe_int) (fun _ _ => rfl)) (pe_str) (nomark _)) (pe_tup (pa_cons (pe_str) (pa_cons (pe_call GW (hr.mono (by omega)) rfl gW kW bW .nil pass0 (pa_cons (pe_ix ix_tup (pv 4) (pe_int) (fun _ _ => rfl)) pa_nil)) (pa_cons (pe_ix ix_tup (pv 4) (pe_int) (fun _ _ => rfl)) (pa_cons (pe_ix ix_tup (pv 4) (pe_int) (fun _ _ => rfl)) pa_nil))))) (pv 4)) pa_nil)))))
      (pss_one (ps_ret (pe_make MK GI (hr.mono (by omega)) rfl T.g bI .nil pass0 (pa_cons (pv 1) (pa_cons (pv 3) pa_nil))))))), ?_⟩
    obtain ⟨h, st⟩ := wy
    unfold PlanAt at hR
    obtain ⟨t, L, xs, rfl, ht, hL, hA⟩ := hR
    have hf0 := hf
    unfold M.Way.fine at hf
    obtain ⟨hh, hl, hall, hdd, hzz⟩ := hf
    unfold M.Way.depth at hd
    have lx := hA.len
    have z0 : ∀ {y0 : V} {ys : List V}, atI (y0 :: ys) (0 : Int) = some y0 := fun {y0 ys} => by exact atI_nat (xs := y0 :: ys) (j := 0) rfl
    refine ⟨_, rfl, t, _, rfl, SqT.of ht, rfl, _, _, rfl, _, _, rfl, rfl, ?_⟩
    dsimp only
    refine set_then (i := 3) ⟨line2.2.2.2, fun D hD => ?_⟩
    have s0 : Same H (upd H D (.lst [])) := of_upd hD
    refine ⟨_, rfl, L, rfl, ⟨_, SqT.of (s0 _ _ hL)⟩, ?_⟩
    refine for_it walk_tup (fun i σ G => Same H G ∧ ∃ acc q, σ = [some (.ref t), some (.int (h : Int)), some (.ref L), some (.ref D), q] ∧ G D = some (.lst acc) ∧ WP.StepsAt CW G (st.take i) acc)
      ⟨s0, [], _, rfl, upd_same, by unfold WP.StepsAt; rfl⟩ (fun i σ G _ z => SqT.of (z.1 _ _ hL)) ?_ ?_
    · rintro i x σ G G' hi ⟨s1, acc, q, rfl, hAc, hSt⟩ ⟨rfl, hx⟩
      obtain ⟨y, hy, hat⟩ := hA.get hx
      have la := hSt.len
      have et := take_snoc hy
      have lt : acc.length < sizeLine := small1000 (by rw [la, List.length_take]; omega)
      have fin : ∀ (G2 : Hp) (u : V), Same G' G2 → WP.StepAt CW G2 y u → Same H (upd G2 D (.lst (acc ++ [u]))) ∧ ∃ acc2 q, [some (V.ref t), some (.int (h : Int)), some (.ref L), some (.ref D), some x] = [some (.ref t), some (.int (h : Int)), some (.ref L), some (.ref D), q] ∧ (upd G2 D (.lst (acc ++ [u]))) D = some (.lst acc2) ∧ WP.StepsAt CW (upd G2 D (.lst (acc ++ [u]))) (st.take (i + 1)) acc2 := fun G2 u s2 hu => by
        refine ⟨add_upd hD (s1.trans s2), _, _, rfl, upd_same, ?_⟩
        rw [et]
        have kp : KeepT G2 (upd G2 D (.lst (acc ++ [u]))) := put_keepT (s2 _ _ hAc)
        exact ((hSt.mono s2).keep kp).snoc (hu.keep kp)
      dsimp only
      refine ⟨_, rfl, .inl ⟨rfl, _, SqL.of hAc⟩, ?_⟩
      cases y with
      | road size ts lw =>
        unfold PlStep at hat
        obtain ⟨t2, rfl, h2⟩ := hat
        refine ⟨_, rfl, t2, _, _, _, rfl, rfl, SqT.of (s1 _ _ h2), z0, rfl, _, rfl, ?_⟩
        refine iteN (fun z => absurd (V.str.inj z) (by decide +kernel)) ⟨_, rfl, D, acc, _, rfl, rfl, hAc, lt, fin G' _ (Same.refl _) ?_⟩
        unfold WP.StepAt
        exact ⟨t2, rfl, s1 _ _ h2⟩
      | join most =>
        unfold PlStep at hat
        obtain ⟨t2, rfl, h2⟩ := hat
        refine ⟨_, rfl, t2, _, _, _, rfl, rfl, SqT.of (s1 _ _ h2), z0, rfl, _, rfl, ?_⟩
        refine iteN (fun z => absurd (V.str.inj z) (by decide +kernel)) ⟨_, rfl, D, acc, _, rfl, rfl, hAc, lt, fin G' _ (Same.refl _) ?_⟩
        unfold WP.StepAt
        exact ⟨t2, rfl, s1 _ _ h2⟩
      | tunnel wi most tw =>
        unfold PlStep at hat
        obtain ⟨tx, v2, rfl, h2, hin⟩ := hat
        have fi := WP.fine_get hall hy
        unfold M.Step.fine at fi
        have di := M.dep_le hy
        have h3 := SqT.of (K := K) (s1 _ _ h2)
        have z1 : atI [V.str "tunnel", v2, .int (most : Int), .str (WP.twS tw)] (1 : Int) = some v2 := by exact atI_nat (j := 1) rfl
        have z2 : atI [V.str "tunnel", v2, .int (most : Int), .str (WP.twS tw)] (2 : Int) = some (.int (most : Int)) := by exact atI_nat (j := 2) rfl
        have z3 : atI [V.str "tunnel", v2, .int (most : Int), .str (WP.twS tw)] (3 : Int) = some (.str (WP.twS tw)) := by exact atI_nat (j := 3) rfl
        refine ⟨_, rfl, tx, _, _, _, rfl, rfl, h3, z0, rfl, _, rfl, ?_⟩
        refine iteP rfl ⟨_, rfl, tx, _, _, _, rfl, rfl, h3, z1, v2, wi, rfl, hin.keep (same_keepT s1), fi.1, ?_, fun a G2 s2 hwa => ?_⟩
        · have e : M.Step.dep (.tunnel wi most tw) = wi.depth := rfl
          omega
        have h4 := SqT.of (K := K) (s2 _ _ (s1 _ _ h2))
        refine ⟨_, rfl, tx, _, _, _, rfl, rfl, h4, z2, _, rfl, tx, _, _, _, rfl, rfl, h4, z3, (by show 4 ≤ sizeLine; decide), fun u hu => ?_⟩
        have s3 : Same G2 (upd G2 u (.tup [.str "tunnel", .ref a, .int (most : Int), .str (WP.twS tw)])) := of_upd hu
        refine ⟨D, acc, _, rfl, rfl, s3 _ _ (s2 _ _ hAc), lt, fin _ _ (s2.trans s3) ?_⟩
        unfold WP.StepAt
        exact ⟨u, a, rfl, upd_same, hwa.mono s3⟩
    · rintro σ G ⟨s1, acc, q, rfl, hAc, hSt⟩
      have e : st.take xs.length = st := by rw [lx]; exact List.take_length
      rw [e] at hSt
      refine ⟨_, rfl, _, rfl, ?_⟩
      exact WP.made_way (.inl hAc) hSt hf0 fun x H' s2 wa => kk x H' (s1.trans s2) wa
end
end CP

end
section
set_option autoImplicit false
set_option Elab.async false
set_option linter.all false
set_option maxRecDepth 100000
set_option maxHeartbeats 4000000
/-! ## the lines of a way: the program's and the law's -/
namespace CP
open PySem L2 G Y
open TL TX
abbrev sTLines : Stmt := S.top 37
abbrev sWText : Stmt := S.top 35
abbrev sLLines : Stmt := S.top 50
/-- texts as values -/
def sv (ls : List (List Nat)) : List V := ls.map fun l => V.str (TX.S l)
theorem sv_app (a b : List (List Nat)) : sv (a ++ b) = sv a ++ sv b := List.map_append
theorem sv_len (a : List (List Nat)) : (sv a).length = a.length := List.length_map ..
theorem sv_strs (a : List (List Nat)) : sv a = (a.map TX.S).map V.str := by
  unfold sv
  rw [List.map_map]
  rfl
theorem sv_get {a : List (List Nat)} {i : Nat} {x : V} (h : (sv a)[i]? = some x) : ∃ l, a[i]? = some l ∧ x = .str (TX.S l) := by
  unfold sv at h
  rw [List.getElem?_map] at h
  cases e : a[i]? with
  | none => rw [e] at h; cases h
  | some l => rw [e] at h; cases h; exact ⟨l, rfl, rfl⟩
def rStr : List V → Hp → VK → Prop := fun xs H Q => (∃ a, xs = [.str a] ∧ Q (.str a) H) ∨ ∃ i : Int, xs = [.int i] ∧ i.natAbs.log2 < 1920 ∧ Q (.str (toString i)) H
theorem cr_str {X : Cx} : CallR X (.type "str") rStr := fun pins s σ H xs us Q I r h => h.elim (SkE.call_str_str pins s σ H xs us Q I r) (call_str_int pins s σ H xs us Q I r)
def rAdS : R2 := fun x y H Q => ∃ i j, x = .str i ∧ y = .str j ∧ i.length + j.length ≤ sizeLine ∧ Q (.str (i ++ j)) H
theorem op_adS {X : Cx} : OpR X (binaryOp .Add) rAdS := op_add_str
theorem lg_nat {n : Nat} (h : n ≤ 1000000000000) : ((n : Nat) : Int).natAbs.log2 < 1920 := PySem.Flt.log2_lt_of (k := 1920) (by decide) (Nat.lt_of_lt_of_le (by omega : _ < 2 ^ 60) (Nat.pow_le_pow_right (by decide) (by decide)))
theorem num_S (n : Nat) : Str.ofString (toString ((n : Nat) : Int)) = TX.S (numL n) := S_of (tl_num n)
/-- a value and its word -/
inductive Wv : V → List Nat → Prop
  | s {x : Str} {l : List Nat} : x = TX.S l → Wv (.str x) l
  | n {n : Nat} : n ≤ 1000000000000 → Wv (.int (n : Int)) (numL n)
inductive WvA : List V → List (List Nat) → Prop
  | nil : WvA [] []
  | cons {x : V} {l : List Nat} {xs : List V} {ls : List (List Nat)} : Wv x l → WvA xs ls → WvA (x :: xs) (l :: ls)
theorem WvA.get {xs : List V} {ls : List (List Nat)} (h : WvA xs ls) : ∀ {i : Nat} {x : V}, xs[i]? = some x → ∃ l, ls[i]? = some l ∧ Wv x l := by
  induction h with
  | nil => intro i x e; cases e
  | cons a _ ih =>
    intro i x e
    cases i with
    | zero => cases e; exact ⟨_, rfl, a⟩
    | succ i => exact ih (i := i) e
theorem WvA.len {xs : List V} {ls : List (List Nat)} (h : WvA xs ls) : xs.length = ls.length := by
  induction h with
  | nil => rfl
  | cons a _ ih => rw [List.length_cons, List.length_cons, ih]
theorem k_road : ("road" : Str) = TX.S cRoad := S_of (by decide +kernel)
theorem k_join : ("join" : Str) = TX.S cJoin := S_of (by decide +kernel)
theorem k_tun : ("tunnel" : Str) = TX.S cTun := S_of (by decide +kernel)
theorem k_head : ("head" : Str) = TX.S cHead := S_of (by decide +kernel)
theorem k_sd (b : Bool) : WP.sdS b = TX.S (sd b) := S_of rfl
theorem k_lw (b : M.LW) : WP.lwS b = TX.S (lw b) := S_of rfl
theorem k_tw (b : M.TW) : WP.twS b = TX.S (tw b) := S_of rfl
theorem k_sp : (" " : Str) = TX.S [32] := S_of (by decide +kernel)
theorem k_nl : ("\n" : Str) = TX.S [10] := S_of (by decide +kernel)
theorem k_ind : ("  " : Str) = TX.S [32, 32] := S_of (by decide +kernel)
theorem t_sp : tl (" " : Str) = [32] := by rw [k_sp, tl_S]
theorem t_head : tl ("head " : Str) = cHead ++ [32] := by decide +kernel
theorem t_road : tl ("road " : Str) = cRoad ++ [32] := by decide +kernel
theorem t_join : tl ("join " : Str) = cJoin ++ [32] := by decide +kernel
theorem t_tun : tl ("tunnel " : Str) = cTun ++ [32] := by decide +kernel
theorem t_emp : tl Str.empty = [] := rfl
theorem t_num (n : Nat) : tl (Str.ofString (toString ((n : Nat) : Int))) = numL n := tl_num n
theorem sum_len {k : Nat} : ∀ {ws : List (List Nat)}, (∀ w ∈ ws, w.length ≤ k) → ((ws.map TX.S).map (·.length)).sum ≤ ws.length * k
  | [], _ => Nat.zero_le _
  | w :: r, h => by
    have a := h w List.mem_cons_self
    have b := sum_len (ws := r) fun x hx => h x (List.mem_cons_of_mem _ hx)
    rw [List.map_cons, List.map_cons, List.sum_cons, List.length_cons, Nat.add_mul, S_len]
    omega
theorem join_wd (ws : List (List Nat)) : Txt.join (" " : Str) (ws.map TX.S) = TX.S (wd ws) := by
  rw [k_sp, join_eq]
  refine ext_tl ?_
  rw [tl_join, tl_S, tl_S, List.map_map]
  have : tl ∘ TX.S = id := funext tl_S
  rw [this, List.map_id]
  rfl
theorem join_nl (ls : List (List Nat)) : Txt.join ("\n" : Str) (ls.map TX.S) = TX.S (joinL [10] ls) := by
  rw [k_nl]
  exact join_lines ls
theorem lines_len {w : M.Way} (h : w.fine) : (∀ l ∈ Way.lines w, l.length ≤ 60) ∧ (Way.lines w).length ≤ 81 := by
  obtain ⟨a, b⟩ := way_lines w 3 h (fine_dep h)
  have := (fine_all h).2.2
  exact ⟨fun l hl => (a l hl).1, by omega⟩
theorem plain_vals {C : Addr} {H : Hp} {s : M.Step} {v : V} {h : Nat} (hs : WP.StepAt C H s v) (hf : s.fine h) (hn : ¬ isTun s) : ∃ t xs, v = .ref t ∧ H t = some (.tup xs) ∧ WvA xs (plainW s) ∧ (∃ k r, xs = .str k :: r ∧ k ≠ "tunnel") ∧ xs.length ≤ 4 := by
  cases s with
  | road size ts l =>
    unfold WP.StepAt at hs
    unfold M.Step.fine at hf
    obtain ⟨t, e, ht⟩ := hs
    exact ⟨t, _, e, ht, .cons (.s k_road) (.cons (.n (by omega)) (.cons (.s (k_sd _)) (.cons (.s (k_lw _)) .nil))), ⟨_, _, rfl, by decide +kernel⟩, by show 4 ≤ 4; decide⟩
  | join most =>
    unfold WP.StepAt at hs
    unfold M.Step.fine at hf
    obtain ⟨t, e, ht⟩ := hs
    exact ⟨t, _, e, ht, .cons (.s k_join) (.cons (.n (by omega)) .nil), ⟨_, _, rfl, by decide +kernel⟩, by show 2 ≤ 4; decide⟩
  | tunnel w m t => exact absurd trivial hn
theorem la_nil : Step.linesAll [] = [] := by unfold Step.linesAll; rfl
theorem la_cons (x : M.Step) (r : List M.Step) : Step.linesAll (x :: r) = Step.lines x ++ Step.linesAll r := by
  conv => lhs; unfold Step.linesAll
theorem la_app : ∀ (a b : List M.Step), Step.linesAll (a ++ b) = Step.linesAll a ++ Step.linesAll b
  | [], b => by rw [la_nil]; rfl
  | x :: r, b => by
    show Step.linesAll (x :: (r ++ b)) = _
    rw [la_cons, la_cons, la_app r b, List.append_assoc]
theorem lines_app (s : List M.Step) (x : M.Step) : Step.linesAll (s ++ [x]) = Step.linesAll s ++ Step.lines x := by
  rw [la_app, la_cons, la_nil, List.append_nil]
theorem take_lines {s : List M.Step} (i : Nat) : ∃ r, Step.linesAll s = Step.linesAll (s.take i) ++ r := ⟨Step.linesAll (s.drop i), by rw [← la_app, List.take_append_drop]⟩
/-- lines that a list holds, while it is filled -/
theorem few_lines {h : Nat} {s : List M.Step} (hf : M.Way.fine (.mk h s)) (i : Nat) : (wd (headW h) :: Step.linesAll (s.take i)).length ≤ 81 := by
  have := (lines_len hf).2
  unfold Way.lines at this
  obtain ⟨r, e⟩ := take_lines (s := s) i
  rw [e] at this
  rw [List.length_cons] at this ⊢
  rw [List.length_append] at this
  omega
section
variable {P : Program} {w : World} {K : PySem.W.Frag} {mg : Str → Option Value} {base : Heap} {C CW : Addr}
def spTLines (CW : Addr) (n : Nat) : Sp := fun vs H Q _ => ∃ (a : Addr) (wy : M.Way), vs = [.ref a] ∧ WP.WayAt CW H wy a ∧ M.Way.fine wy ∧ wy.depth ≤ n ∧ ∀ D H', Same H H' → H D = none → H' D = some (.lst (sv (Way.lines wy))) → Q (.ref D) H'
abbrev NTl : List Str := ["way", "lines", "step", "_", "inner", "most", "tells", "line", "word"]
theorem scTl : FnScope NTl ["way"] (defScope sTLines) := ⟨rfl, rfl, rfl, by decide +kernel, rfl, by decide +kernel, by decide +kernel⟩
theorem ok_tlines {k n : Nat} {f : Addr} {fd : FuncData} (F : Fun K "_lines" "_lines" sTLines f fd) (B : Bn mg) (hstr : mg "str" = none) (gI : ∃ t, mg "INDENTATION" = some (.str "  " t)) (T : WP.Wt K mg CW) (hk : 1 ≤ k) (DL : Df P w K mg base k "_lines" ["way"] (spTLines CW n)) : FnOk P w K mg base CX0 (k + 1) f fd ["way"] (spTLines CW (n + 1)) := by
  obtain ⟨fL, fdL, GL, gL, kL, bL⟩ := DL.ex
  obtain ⟨tI, gI⟩ := gI
  refine F.ok scTl (fun vs H Q E h => ?_) (fun cdv A outer s H vs Q E hr h => ?_)
  · obtain ⟨a, wy, rfl, _⟩ := h
    rfl
  · obtain ⟨a, wy, rfl, hw, hf, hd, kk⟩ := h
    refine ⟨_, pss_cons (ps_set (i := 1) scTl.nd rfl (Or.inl rfl) (pe_lst (pa_cons (pe_joined (.cons (pe_str) (.cons (pe_fmt (pe_fld (pv 0) rfl)) .nil))) pa_nil)))
      (pss_cons (ps_for PassesOwn.never rfl (pi_tup (pe_fld (pv 0) rfl)) (pg_name (i := 2) scTl.nd rfl (Or.inl rfl)) (pss_one (ps_if (pt_cmpR (op_eq) (pe_ix ix_tup (pv 2) (pe_int) (fun _ _ => rfl)) (pe_str) (nomark _)) (pss_cons (ps_asg (pv 2) (pg_tup (by rfl) (pgs_cons (pg_name (i := 3) scTl.nd rfl (Or.inl rfl)) (pgs_cons (pg_name (i := 4) scTl.nd rfl (Or.inl rfl)) (pgs_cons (pg_name (i := 5) scTl.nd rfl (Or.inl rfl)) (pgs_cons (pg_name (i := 6) scTl.nd rfl (Or.inl rfl)) pgs_nil))))))
      (pss_cons (ps_expr (pe_bm PySem.F.plainAttrs_list PySem.F.slot_list_append PySem.F.type_list_append mt_append (pv 1) (pa_cons (pe_joined (.cons (pe_str) (.cons (pe_fmt (pv 5)) (.cons (pe_str) (.cons (pe_fmt (pv 6)) .nil))))) pa_nil)))
      (pss_one (ps_expr (pe_bm PySem.F.plainAttrs_list PySem.F.slot_list_extend PySem.F.type_list_extend mt_extend (pv 1) (pa_cons (pe_lc (own := [("line", 7)]) (g := gName 7) (tt := tYes) (te := tOp rAdS (tC (.str "  ")) (tVar 7)) rfl scTl.nd (pi_list (pe_call GL (hr.mono (by omega)) rfl gL kL bL .nil pass0 (pa_cons (pv 4) pa_nil))) (blkOk_by (N := NTl) (sc := defScope sTLines) (by decide +kernel))
          (fun _ _ _ _ _ => by exact pg_name (i := 7) scTl.nd rfl (Or.inl rfl)) (fun _ _ _ _ _ => pts_nil) (fun _ _ _ _ _ => by exact pe_op (op_adS) (pe_glob (v := .str "  ") rfl gI ⟨_, rfl⟩) (pv 7))) pa_nil)))))) (pss_one (ps_expr (pe_bm PySem.F.plainAttrs_list PySem.F.slot_list_append PySem.F.type_list_append mt_append (pv 1) (pa_cons (pe_join (pe_str) (pe_lc (own := [("word", 8)]) (g := gName 8) (tt := tYes) (te := tCB rStr (tCons (tVar 8) tNil)) rfl scTl.nd (pi_tup (pv 2)) (blkOk_by (N := NTl) (sc := defScope sTLines) (by decide +kernel))
          (fun _ _ _ _ _ => by exact pg_name (i := 8) scTl.nd rfl (Or.inl rfl)) (fun _ _ _ _ _ => pts_nil) (fun _ _ _ _ _ => by exact pe_callTy cr_str (by rfl) hstr (by decide +kernel) (pa_cons (pv 8) pa_nil)))) pa_nil)))))))
      (pss_one (ps_ret (pv 1)))), ?_⟩
    obtain ⟨h, st⟩ := wy
    have hf0 := hf
    unfold M.Way.fine at hf
    unfold M.Way.depth at hd
    obtain ⟨dxh, fh, a1, a2⟩ := WP.head_fld hw
    obtain ⟨dxs, fs, t, xs, b1, b2, b3, b4⟩ := WP.steps_fld hw
    have hst : WP.StepsAt CW H st xs := b4
    have a2 : fh.lookup ("head" : Str) = some (.int (h : Int)) := a2
    have z0 : ∀ {y0 : V} {ys : List V}, atI (y0 :: ys) (0 : Int) = some y0 := fun {y0 ys} => by exact atI_nat (xs := y0 :: ys) (j := 0) rfl
    refine set_then (i := 1) ⟨_, rfl, by decide +kernel, ?_⟩
    refine ⟨_, rfl, a, CW, dxh, fh, _, rfl, a1, T.cl, T.nH, a2, .inr ⟨_, rfl, lg_nat (show h ≤ 1000000000000 by omega), _, rfl, ?_, ?_⟩⟩
    · rw [len_tl, tl_append, tl_append, t_head, t_emp]
      show _ ≤ sizeLine
      have e5 : (TX.cHead ++ [32] : List Nat).length = 5 := rfl
      rw [t_num, List.length_append, List.nil_append, e5]
      have := (wd_num (show h ≤ 1000000000000 by omega)).len
      exact Nat.le_trans (show _ ≤ 18 by omega) (by decide)
    have e0 : ((Str.empty ++ ("head " : Str)) ++ Str.ofString (toString ((h : Nat) : Int))) = TX.S (wd (headW h)) := S_of (by
      rw [tl_append, tl_append, t_head, t_emp, t_num]
      unfold wd headW joinL joinL
      simp)
    refine ⟨line2.2.2.1, fun D hD => ?_⟩
    have s0 := of_upd (o := .lst [V.str ((Str.empty ++ ("head " : Str)) ++ Str.ofString (toString ((h : Nat) : Int)))]) hD
    have eD : upd H D (.lst [V.str ((Str.empty ++ ("head " : Str)) ++ Str.ofString (toString ((h : Nat) : Int)))]) D = some (.lst (sv [wd (headW h)])) := by
      rw [upd_same, e0]
      rfl
    generalize upd H D (.lst [V.str ((Str.empty ++ ("head " : Str)) ++ Str.ofString (toString ((h : Nat) : Int)))]) = G0 at s0 eD ⊢
    refine ⟨_, rfl, a, CW, dxs, fs, _, rfl, s0 _ _ b1, T.cl, T.nS, b2, t, rfl, ⟨_, SqT.of (s0 _ _ b3)⟩, ?_⟩
    have hst0 := hst.mono s0
    have b30 := s0 _ _ b3
    have lx : xs.length = st.length := hst.len
    refine for_it walk_tup (fun i σ G => Same G0 G ∨ True → Same H G ∧ G D = some (.lst (sv (wd (headW h) :: Step.linesAll (st.take i)))) ∧ G t = some (.tup xs) ∧ ∃ q2 q3 q4 q5 q6, σ = [some (.ref a), some (.ref D), q2, q3, q4, q5, q6, none, none])
      (fun _ => ⟨s0, by rw [List.take_zero]; unfold Step.linesAll; exact eD, b30, _, _, _, _, _, rfl⟩) (fun i σ G _ z => SqT.of (z (.inr trivial)).2.2.1) ?_ ?_
    · rintro i x σ G G' hi z ⟨rfl, hx⟩
      obtain ⟨s1, hA, hT, q2, q3, q4, q5, q6, rfl⟩ := z (.inr trivial)
      obtain ⟨y, hy, hat⟩ := hst.get hx
      have hat := hat.mono s1
      have fy := WP.fine_get hf.2.2.1 hy
      have et := take_snoc hy
      have fin : ∀ (G2 : Hp) (l : List V) (q2 q3 q4 q5 q6 : Option V), Same H G2 → G2 t = some (.tup xs) → G2 D = some (.lst (sv (wd (headW h) :: Step.linesAll (st.take i)) ++ l)) → l = sv (Step.lines y) →
          (Same G0 G2 ∨ True → Same H G2 ∧ G2 D = some (.lst (sv (wd (headW h) :: Step.linesAll (st.take (i + 1))))) ∧ G2 t = some (.tup xs) ∧ ∃ r2 r3 r4 r5 r6, [some (V.ref a), some (.ref D), q2, q3, q4, q5, q6, none, none] = [some (.ref a), some (.ref D), r2, r3, r4, r5, r6, none, none]) := fun G2 l q2 q3 q4 q5 q6 s2 h2 h3 el _ => by
        refine ⟨s2, ?_, h2, _, _, _, _, _, rfl⟩
        rw [h3, et, lines_app, el, ← sv_app]
        rfl
      have lA := few_lines hf0 i
      dsimp only
      by_cases ht : isTun y
      · cases y with
        | road _ _ _ => exact ht.elim
        | join _ => exact ht.elim
        | tunnel wi most tw =>
          unfold WP.StepAt at hat
          obtain ⟨t2, ai, rfl, h2, hwi⟩ := hat
          have fi := fy
          unfold M.Step.fine at fi
          have di := M.dep_le hy
          have di2 : wi.depth ≤ n := by
            have e : M.Step.dep (.tunnel wi most tw) = wi.depth := rfl
            omega
          refine ⟨_, rfl, t2, _, _, _, rfl, rfl, SqT.of h2, z0, rfl, _, rfl, ?_⟩
          refine iteP rfl ?_
          refine ⟨_, rfl, t2, _, rfl, SqT.of h2, rfl, _, _, rfl, _, _, rfl, _, _, rfl, _, _, rfl, rfl, ?_⟩
          dsimp only
          have lm := (wd_num (show most ≤ 1000000000000 by omega)).len
          have lt2 := (wd_tw tw).len
          have t1 : tl (("tunnel " : Str)) = cTun ++ [32] := t_tun
          have t2e : tl ((Str.empty ++ ("tunnel " : Str)) ++ Str.ofString (toString ((most : Nat) : Int))) = cTun ++ [32] ++ numL most := by rw [tl_append, tl_append, t_tun, t_emp, t_num]; rfl
          have t3e : tl (((Str.empty ++ ("tunnel " : Str)) ++ Str.ofString (toString ((most : Nat) : Int))) ++ (" " : Str)) = cTun ++ [32] ++ numL most ++ [32] := by rw [tl_append, t2e, t_sp]
          have t4e : tl ((((Str.empty ++ ("tunnel " : Str)) ++ Str.ofString (toString ((most : Nat) : Int))) ++ (" " : Str)) ++ WP.twS tw) = cTun ++ [32] ++ numL most ++ [32] ++ TX.tw tw := by rw [tl_append, t3e]; rfl
          have lc : (cTun ++ [32]).length = 7 := rfl
          refine ⟨_, rfl, .inl ⟨rfl, _, SqL.of hA⟩, ?_⟩
          refine ⟨_, rfl, by decide +kernel, _, rfl, .inr ⟨_, rfl, lg_nat (show most ≤ 1000000000000 by omega), _, rfl, ?_, _, rfl, ?_, _, rfl, .inl ⟨_, rfl, ?_, _, rfl, ?_, ?_⟩⟩⟩
          · rw [len_tl, t2e, List.length_append, lc]
            exact Nat.le_trans (show _ ≤ 20 by omega) (by decide)
          · rw [len_tl, t3e, List.length_append, List.length_append, lc]
            exact Nat.le_trans (show _ ≤ 21 by show 7 + _ + 1 ≤ 21; omega) (by decide)
          · rw [len_tl]
            exact Nat.le_trans lt2 (by decide)
          · rw [len_tl, t4e, List.length_append, List.length_append, List.length_append, lc]
            exact Nat.le_trans (show _ ≤ 34 by show 7 + _ + 1 + _ ≤ 34; omega) (by decide)
          have e4 : ((((Str.empty ++ ("tunnel " : Str)) ++ Str.ofString (toString ((most : Nat) : Int))) ++ (" " : Str)) ++ WP.twS tw) = TX.S (wd (plainW (.tunnel wi most tw))) := S_of (by
            rw [t4e]
            unfold wd plainW joinL joinL joinL
            simp)
          rw [e4]
          refine ⟨D, _, _, rfl, rfl, hA, small1000 (by rw [sv_len]; omega), ?_⟩
          have nD2 : ∀ o, H D = some o → False := fun o z => by rw [hD] at z; cases z
          have s2 := add_upd (o := .lst (sv (wd (headW h) :: Step.linesAll (st.take i)) ++ [V.str (TX.S (wd (plainW (.tunnel wi most tw))))])) hD s1
          have kp := put_keepT (o := .lst (sv (wd (headW h) :: Step.linesAll (st.take i)) ++ [V.str (TX.S (wd (plainW (.tunnel wi most tw))))])) hA
          have hT2 := kp.tup hT
          have hwi2 := hwi.keep kp
          have hA2 : upd G' D (.lst (sv (wd (headW h) :: Step.linesAll (st.take i)) ++ [V.str (TX.S (wd (plainW (.tunnel wi most tw))))])) D = some (.lst (sv (wd (headW h) :: Step.linesAll (st.take i)) ++ [V.str (TX.S (wd (plainW (.tunnel wi most tw))))])) := upd_same
          generalize upd G' D (.lst (sv (wd (headW h) :: Step.linesAll (st.take i)) ++ [V.str (TX.S (wd (plainW (.tunnel wi most tw))))])) = G2 at s2 hT2 hwi2 hA2 ⊢
          refine ⟨_, rfl, .inl ⟨rfl, _, SqL.of hA2⟩, ?_⟩
          refine ⟨_, rfl, ai, wi, rfl, hwi2, fi.1, di2, fun D2 G3 s3 n2 e2 => ?_⟩
          refine ⟨D2, rfl, ⟨_, SqL.of e2⟩, fun D3 n3 => ?_⟩
          obtain ⟨len1, len2⟩ := lines_len fi.1
          refine lc_list (K := K) (a := D2) (xs := sv (Way.lines wi)) (fun i G => Same G3 G ∧ G D3 = some (.lst (sv (((Way.lines wi).take i).map ([32, 32] ++ ·))))) ⟨of_upd n3, by rw [upd_same, List.take_zero]; rfl⟩ (fun i G _ z => SqL.of (z.1 _ _ e2)) ?_ ?_
          · rintro i2 x2 G4 hx2 ⟨s4, e5⟩
            obtain ⟨l, hl, rfl⟩ := sv_get hx2
            have ll := len1 l (List.mem_of_getElem? hl)
            refine ⟨rfl, _, rfl, _, _, rfl, rfl, ?_, _, e5, small1000 (by rw [sv_len, List.length_map, List.length_take]; omega), add_upd n3 s4, ?_⟩
            · rw [S_len, len_tl, k_ind, tl_S]
              exact Nat.le_trans (show _ ≤ 62 by show 2 + _ ≤ 62; omega) (by decide)
            · rw [upd_same, take_snoc hl, List.map_append, sv_app, k_ind, S_app]
              rfl
          · rintro G4 ⟨s4, e5⟩
            rw [sv_len, List.take_length] at e5
            refine ⟨D, D3, _, _, rfl, rfl, s4 _ _ (s3 _ _ hA2), e5, ?_, ?_⟩
            · have l5 := (way_lines (.mk h st) 3 hf0 (fine_dep hf0)).2
              refine Nat.le_trans (show _ ≤ 1000 from ?_) (by decide)
              rw [List.length_append, sv_len, sv_len, List.length_map, List.length_singleton]
              omega
            · exact fin _ _ _ _ _ _ _ (add_upd hD ((s2.trans s3).trans s4)) ((put_keepT (s4 _ _ (s3 _ _ hA2))).tup (s4 _ _ (s3 _ _ hT2))) (by rw [upd_same, List.append_assoc]) (by
                unfold Step.lines
                rfl)
      · obtain ⟨t2, ys, rfl, h2, hW, ⟨k0, r0, rfl, nk⟩, l4⟩ := plain_vals hat fy ht
        refine ⟨_, rfl, t2, _, _, _, rfl, rfl, SqT.of h2, z0, rfl, _, rfl, ?_⟩
        refine iteN (fun z => nk (V.str.inj z)) ?_
        have ww := plainW_wd fy
        have lw := hW.len
        refine ⟨_, rfl, .inl ⟨rfl, _, SqL.of hA⟩, ⟨_, rfl⟩, _, rfl, t2, rfl, ⟨_, SqT.of h2⟩, fun D3 n3 => ?_⟩
        refine lc_tup (K := K) (a := t2) (xs := .str k0 :: r0) (fun i G => Same G' G ∧ G D3 = some (.lst (sv ((plainW y).take i)))) ⟨of_upd n3, by rw [upd_same, List.take_zero]; rfl⟩ (fun i G _ z => SqT.of (z.1 _ _ h2)) ?_ ?_
        · rintro i2 x2 G4 hx2 ⟨s4, e5⟩
          obtain ⟨l, hl, hv⟩ := hW.get hx2
          have la : (sv ((plainW y).take i2)).length < sizeLine := small1000 (by rw [sv_len, List.length_take, ← lw]; omega)
          have nx : ∀ u, u = TX.S l → Same G' (upd G4 D3 (.lst (sv ((plainW y).take i2) ++ [V.str u]))) ∧ upd G4 D3 (.lst (sv ((plainW y).take i2) ++ [V.str u])) D3 = some (.lst (sv ((plainW y).take (i2 + 1)))) := fun u e => by
            refine ⟨add_upd n3 s4, ?_⟩
            rw [upd_same, take_snoc hl, sv_app, e]
            rfl
          cases hv with
          | s e => exact ⟨rfl, _, rfl, .inl ⟨_, rfl, _, e5, la, nx _ e⟩⟩
          | n hn => exact ⟨rfl, _, rfl, .inr ⟨_, rfl, lg_nat hn, _, e5, la, nx _ (num_S _)⟩⟩
        · rintro G4 ⟨s4, e5⟩
          rw [lw, List.take_length] at e5
          refine ⟨_, D3, (plainW y).map TX.S, rfl, rfl, .inl (SqL.of (by rw [e5, sv_strs])), ?_, D, _, _, rfl, rfl, s4 _ _ hA, small1000 (by rw [sv_len]; omega), ?_⟩
          · have := sum_len (k := 13) (fun w hw => (ww w hw).len)
            rw [List.length_map, show (" " : Str).length = 1 from by rw [len_tl, t_sp]; rfl]
            have l5 : (plainW y).length ≤ 4 := by rw [← lw]; exact l4
            omega
          · refine fin _ _ _ _ _ _ _ (add_upd hD (s1.trans s4)) ((put_keepT (s4 _ _ hA)).tup (s4 _ _ hT)) upd_same ?_
            rw [join_wd]
            cases y with
            | road _ _ _ => unfold Step.lines; rfl
            | join _ => unfold Step.lines; rfl
            | tunnel _ _ _ => exact absurd trivial ht
    · rintro σ G z
      obtain ⟨s1, hA, hT, q2, q3, q4, q5, q6, rfl⟩ := z (.inr trivial)
      rw [lx, List.take_length] at hA
      refine ⟨_, rfl, kk D G s1 hD ?_⟩
      unfold Way.lines
      exact hA
end
end CP

end
section
set_option autoImplicit false
set_option Elab.async false
set_option linter.all false
set_option maxRecDepth 100000
set_option maxHeartbeats 4000000
/-! ## way_text; the law's lines -/
namespace CP
open PySem L2 G Y
open TL TX
section
variable {P : Program} {w : World} {K : PySem.W.Frag} {mg : Str → Option Value} {base : Heap} {C CW : Addr}
def spWText (CW : Addr) : Sp := fun vs H Q _ => ∃ (a : Addr) (wy : M.Way), vs = [.ref a] ∧ WP.WayAt CW H wy a ∧ M.Way.fine wy ∧ ∀ H', Same H H' → Q (.str (TX.S (text wy))) H'
theorem scWt : FnScope ["way"] ["way"] (defScope sWText) := ⟨rfl, rfl, rfl, by decide +kernel, rfl, by decide +kernel, by decide +kernel⟩
theorem ok_wtext {k : Nat} {f : Addr} {fd : FuncData} (F : Fun K "way_text" "way_text" sWText f fd) (DL : Df P w K mg base k "_lines" ["way"] (spTLines CW 3)) : FnOk P w K mg base CX0 (k + 1) f fd ["way"] (spWText CW) := by
  obtain ⟨fL, fdL, GL, gL, kL, bL⟩ := DL.ex
  refine F.ok scWt (fun vs H Q E h => ?_) (fun cdv A outer s H vs Q E hr h => ?_)
  · obtain ⟨a, wy, rfl, _⟩ := h
    rfl
  · obtain ⟨a, wy, rfl, hw, hf, kk⟩ := h
    refine ⟨_, pss_one (ps_ret (pe_join (pe_str) (pe_call GL (hr.mono (by omega)) rfl gL kL bL .nil pass0 (pa_cons (pv 0) pa_nil)))), ?_⟩
    obtain ⟨l1, l2⟩ := lines_len hf
    refine ⟨⟨_, rfl⟩, _, rfl, a, wy, rfl, hw, hf, fine_dep hf, fun D G s1 n1 e1 => ?_⟩
    refine ⟨_, D, (Way.lines wy).map TX.S, rfl, rfl, .inl (SqL.of (by rw [e1, sv_strs])), ?_, ?_⟩
    · have := sum_len (k := 60) l1
      rw [List.length_map, show ("\n" : Str).length = 1 from by rw [len_tl, k_nl, tl_S]; rfl]
      omega
    · rw [join_nl]
      exact kk G s1
def spLLines (n : Nat) : Sp := fun vs H Q _ => ∃ (v : V) (wy : M.Way) (ld : Str), vs = [v, .str ld] ∧ PlanAt H wy v ∧ M.Way.fine wy ∧ wy.depth ≤ n ∧ ld.length + 2 * n ≤ 100 ∧ ∀ D H', Same H H' → H D = none → H' D = some (.lst (sv ((Way.lines wy).map (tl ld ++ ·)))) → Q (.ref D) H'
abbrev NLl : List Str := ["plan", "lead", "found", "step"]
theorem scLl : FnScope NLl ["plan", "lead"] (defScope sLLines) := ⟨rfl, rfl, rfl, by decide +kernel, rfl, by decide +kernel, by decide +kernel⟩
theorem catl {l : Str} {x : Str} {a b : List Nat} (h : tl l = a) (hx : tl x = b) : tl (l ++ x) = a ++ b := by rw [tl_append, h, hx]
theorem len_of {x : Str} {a : List Nat} {n : Nat} (h : tl x = a) (hl : a.length ≤ n) (hn : n ≤ 1000) : x.length ≤ 1000 := by
  rw [len_tl, h]
  omega
theorem ok_llines {k n : Nat} {f : Addr} {fd : FuncData} (F : Fun K "_law_lines" "_law_lines" sLLines f fd) (B : Bn mg) (hstr : mg "str" = none) (hk : 1 ≤ k) (DL : Df P w K mg base k "_law_lines" ["plan", "lead"] (spLLines n)) : FnOk P w K mg base CX0 (k + 1) f fd ["plan", "lead"] (spLLines (n + 1)) := by
  obtain ⟨fL, fdL, GL, gL, kL, bL⟩ := DL.ex
  refine F.ok scLl (fun vs H Q E h => ?_) (fun cdv A outer s H vs Q E hr h => ?_)
  · obtain ⟨v, wy, ld, rfl, _⟩ := h
    rfl
  · obtain ⟨v, wy, ld, rfl, hp, hf, hd, hld, kk⟩ := h
    refine ⟨_, pss_cons (ps_set (i := 2) scLl.nd rfl (Or.inl rfl) (pe_lst (pa_cons (pe_op (op_adS) (pe_op (op_adS) (pv 1) (pe_str)) (pe_callTy cr_str (by rfl) hstr (by decide +kernel) (pa_cons (pe_ix ix_tup (pv 0) (pe_int) (fun _ _ => rfl)) pa_nil))) pa_nil)))
      (pss_cons (ps_for PassesOwn.never rfl (pi_tup (pe_ix ix_tup (pv 0) (pe_int) (fun _ _ => rfl))) (pg_name (i := 3) scLl.nd rfl (Or.inl rfl)) (pss_one (ps_if (pt_cmpR (op_eq) (pe_ix ix_tup (pv 3) (pe_int) (fun _ _ => rfl)) (pe_str) (nomark _)) (pss_cons (ps_expr (pe_bm PySem.F.plainAttrs_list PySem.F.slot_list_append PySem.F.type_list_append mt_append (pv 2) (pa_cons (pe_op (op_adS) (pe_op (op_adS) (pe_op (op_adS) (pe_op (op_adS) (pv 1) (pe_str)) (pe_callTy cr_str (by rfl) hstr (by decide +kernel) (pa_cons (pe_ix ix_tup (pv 3) (pe_int) (fun _ _ => rfl)) pa_nil))) (pe_str)) (pe_ix ix_tup (pv 3) (pe_int) (fun _ _ => rfl))) pa_nil)))
      (pss_one (ps_set (i := 2) scLl.nd rfl (Or.inl rfl) (pe_op (op_cat) (pv 2) (pe_call GL (hr.mono (by omega)) rfl gL kL bL .nil pass0 (pa_cons (pe_ix ix_tup (pv 3) (pe_int) (fun _ _ => rfl)) (pa_cons (pe_op (op_adS) (pv 1) (pe_str)) pa_nil))))))) (pss_one (ps_if (pt_cmpR (op_eq) (pe_ix ix_tup (pv 3) (pe_int) (fun _ _ => rfl)) (pe_str) (nomark _)) (pss_one (ps_expr (pe_bm PySem.F.plainAttrs_list PySem.F.slot_list_append PySem.F.type_list_append mt_append (pv 2) (pa_cons (pe_op (op_adS) (pe_op (op_adS) (pv 1) (pe_str)) (pe_callTy cr_str (by rfl) hstr (by decide +kernel) (pa_cons (pe_ix ix_tup (pv 3) (pe_int) (fun _ _ => rfl)) pa_nil))) pa_nil)))) (pss_one (ps_expr (pe_bm PySem.F.plainAttrs_list PySem.F.slot_list_append PySem.F.type_list_append mt_append (pv 2) (pa_cons (pe_op (op_adS) (pe_op (op_adS) (pe_op (op_adS) (pe_op (op_adS) (pe_op (op_adS) (pe_op (op_adS) (pv 1) (pe_str)) (pe_callTy cr_str (by rfl) hstr (by decide +kernel) (pa_cons (pe_ix ix_tup (pv 3) (pe_int) (fun _ _ => rfl)) pa_nil))) (pe_str)) (pe_ix ix_tup (pv 3) (pe_int) (fun _ _ => rfl))) (pe_str)) (pe_ix ix_tup (pv 3) (pe_int) (fun _ _ => rfl))) pa_nil)))))))))
      (pss_one (ps_ret (pv 2)))), ?_⟩
    obtain ⟨h, st⟩ := wy
    have hf0 := hf
    unfold M.Way.fine at hf
    unfold M.Way.depth at hd
    unfold PlanAt at hp
    obtain ⟨t, L, xs, rfl, ht, hL, hA⟩ := hp
    have big : ∀ {n : Nat}, n ≤ 1000 → n ≤ sizeLine := fun h => Nat.le_of_lt (small1000 h)
    have z0 : ∀ {y0 : V} {ys : List V}, atI (y0 :: ys) (0 : Int) = some y0 := fun {y0 ys} => by exact atI_nat (xs := y0 :: ys) (j := 0) rfl
    have z1 : ∀ {y0 y1 : V} {ys : List V}, atI (y0 :: y1 :: ys) (1 : Int) = some y1 := fun {y0 y1 ys} => by exact atI_nat (xs := y0 :: y1 :: ys) (j := 1) rfl
    have z2 : ∀ {y0 y1 y2 : V} {ys : List V}, atI (y0 :: y1 :: y2 :: ys) (2 : Int) = some y2 := fun {y0 y1 y2 ys} => by exact atI_nat (xs := y0 :: y1 :: y2 :: ys) (j := 2) rfl
    have z3 : ∀ {y0 y1 y2 y3 : V} {ys : List V}, atI (y0 :: y1 :: y2 :: y3 :: ys) (3 : Int) = some y3 := fun {y0 y1 y2 y3 ys} => by exact atI_nat (xs := y0 :: y1 :: y2 :: y3 :: ys) (j := 3) rfl
    have hl0 : (tl ld).length ≤ 100 := by rw [← len_tl]; omega
    have nh := (wd_num (show h ≤ 1000000000000 by omega)).len
    have p1 : tl (ld ++ ("head " : Str)) = tl ld ++ (TX.cHead ++ [32]) := catl rfl t_head
    have p2 : tl ((ld ++ ("head " : Str)) ++ Str.ofString (toString ((h : Nat) : Int))) = tl ld ++ (TX.cHead ++ [32]) ++ numL h := catl p1 (t_num h)
    have e5 : (TX.cHead ++ [32] : List Nat).length = 5 := rfl
    have q1 : (ld ++ ("head " : Str)).length = (tl ld).length + 5 := by rw [len_tl, p1, List.length_append, e5]
    refine set_then (i := 2) ⟨_, rfl, _, _, rfl, rfl, big (by rw [len_tl, show (("head " : Str)).length = 5 from by rw [len_tl, t_head]; rfl]; omega), ?_⟩
    refine ⟨_, rfl, t, _, _, _, rfl, rfl, SqT.of ht, z0, .inr ⟨_, rfl, lg_nat (show h ≤ 1000000000000 by omega), _, _, rfl, rfl, big (by rw [q1, len_tl (Str.ofString _), t_num]; omega), ?_⟩⟩
    rw [show ((ld ++ ("head " : Str)) ++ Str.ofString (toString ((h : Nat) : Int))) = TX.S (tl ld ++ wd (headW h)) from S_of (by
      rw [p2]
      unfold wd headW joinL joinL
      simp)]
    refine ⟨line2.2.2.1, fun D hD => ?_⟩
    have s0 := of_upd (o := .lst [V.str (TX.S (tl ld ++ wd (headW h)))]) hD
    have eD : upd H D (.lst [V.str (TX.S (tl ld ++ wd (headW h)))]) D = some (.lst (sv [tl ld ++ wd (headW h)])) := upd_same
    generalize upd H D (.lst [V.str (TX.S (tl ld ++ wd (headW h)))]) = G0 at s0 eD ⊢
    refine ⟨_, rfl, t, _, _, _, rfl, rfl, SqT.of (s0 _ _ ht), z1, L, rfl, ⟨_, SqT.of (s0 _ _ hL)⟩, ?_⟩
    have lx := hA.len
    refine for_it walk_tup (fun i σ G => Same H G ∧ ∃ (D : Addr) (q3 : Option V), H D = none ∧ G D = some (.lst (sv ((wd (headW h) :: Step.linesAll (st.take i)).map (tl ld ++ ·)))) ∧ σ = [some (.ref t), some (.str ld), some (.ref D), q3])
      ⟨s0, D, _, hD, by rw [List.take_zero, la_nil]; exact eD, rfl⟩ (fun i σ G _ z => SqT.of (z.1 _ _ hL)) ?_ ?_
    · rintro i x σ G G' hi ⟨s1, D, q3, hD, hA2, rfl⟩ ⟨rfl, hx⟩
      obtain ⟨y, hy, hat⟩ := hA.get hx
      have hat := hat.keep (same_keepT s1)
      have fy := WP.fine_get hf.2.2.1 hy
      have et := take_snoc hy
      have lA := few_lines hf0 i
      have la : (sv ((wd (headW h) :: Step.linesAll (st.take i)).map (tl ld ++ ·))).length ≤ 81 := by rw [sv_len, List.length_map]; exact lA
      have fin : ∀ (u : Str) (ws : List Nat), tl u = tl ld ++ ws → Step.lines y = [ws] → Same H (upd G' D (.lst (sv ((wd (headW h) :: Step.linesAll (st.take i)).map (tl ld ++ ·)) ++ [V.str u]))) ∧ ∃ (D2 : Addr) (q3 : Option V), H D2 = none ∧ (upd G' D (.lst (sv ((wd (headW h) :: Step.linesAll (st.take i)).map (tl ld ++ ·)) ++ [V.str u]))) D2 = some (.lst (sv ((wd (headW h) :: Step.linesAll (st.take (i + 1))).map (tl ld ++ ·)))) ∧ [some (V.ref t), some (V.str ld), some (V.ref D), some x] = [some (.ref t), some (.str ld), some (.ref D2), q3] := fun u ws e1 e2 => by
        refine ⟨add_upd hD s1, D, _, hD, ?_, rfl⟩
        rw [upd_same, et, lines_app, e2, S_of e1, ← List.cons_append, List.map_append, sv_app]
        rfl
      dsimp only
      cases y with
      | road size ts lw =>
        unfold PlStep at hat
        unfold M.Step.fine at fy
        obtain ⟨t2, rfl, h2⟩ := hat
        have h2 := SqT.of (K := K) h2
        have nm := (wd_num (show size ≤ 1000000000000 by omega)).len
        have ns := (wd_sd ts).len
        have nl := (wd_lw lw).len
        have a1 : tl (ld ++ ("road " : Str)) = tl ld ++ (TX.cRoad ++ [32]) := catl rfl t_road
        have a2 : tl ((ld ++ ("road " : Str)) ++ Str.ofString (toString ((size : Nat) : Int))) = tl ld ++ (TX.cRoad ++ [32]) ++ numL size := catl a1 (t_num _)
        have a3 := catl a2 t_sp
        have a4 : tl ((((ld ++ ("road " : Str)) ++ Str.ofString (toString ((size : Nat) : Int))) ++ (" " : Str)) ++ WP.sdS ts) = tl ld ++ (TX.cRoad ++ [32]) ++ numL size ++ [32] ++ TX.sd ts := catl a3 rfl
        have a5 := catl a4 t_sp
        have a6 : tl ((((((ld ++ ("road " : Str)) ++ Str.ofString (toString ((size : Nat) : Int))) ++ (" " : Str)) ++ WP.sdS ts) ++ (" " : Str)) ++ WP.lwS lw) = tl ld ++ (TX.cRoad ++ [32]) ++ numL size ++ [32] ++ TX.sd ts ++ [32] ++ TX.lw lw := catl a5 rfl
        have ls : ("road " : Str).length = 5 := by rw [len_tl, t_road]; rfl
        have l1 : (" " : Str).length = 1 := by rw [len_tl, t_sp]; rfl
        have lq : (TX.cRoad ++ [32] : List Nat).length = 5 := rfl
        have lo : ([32] : List Nat).length = 1 := rfl
        have ln := len_tl (Str.ofString (toString ((size : Nat) : Int)))
        rw [t_num] at ln
        have lsd : (WP.sdS ts).length = (TX.sd ts).length := len_tl _
        have llw : (WP.lwS lw).length = (TX.lw lw).length := len_tl _
        have b1 := len_tl (ld ++ ("road " : Str))
        rw [a1, List.length_append, lq] at b1
        have b2 := len_tl ((ld ++ ("road " : Str)) ++ Str.ofString (toString ((size : Nat) : Int)))
        rw [a2, List.length_append, List.length_append, lq] at b2
        have b3 := len_tl (((ld ++ ("road " : Str)) ++ Str.ofString (toString ((size : Nat) : Int))) ++ (" " : Str))
        rw [a3, List.length_append, List.length_append, List.length_append, lq, lo] at b3
        have b4 := len_tl ((((ld ++ ("road " : Str)) ++ Str.ofString (toString ((size : Nat) : Int))) ++ (" " : Str)) ++ WP.sdS ts)
        rw [a4, List.length_append, List.length_append, List.length_append, List.length_append, lq, lo] at b4
        have b5 := len_tl (((((ld ++ ("road " : Str)) ++ Str.ofString (toString ((size : Nat) : Int))) ++ (" " : Str)) ++ WP.sdS ts) ++ (" " : Str))
        rw [a5, List.length_append, List.length_append, List.length_append, List.length_append, List.length_append, lq, lo] at b5
        have ll := len_tl ld
        refine ⟨_, rfl, t2, _, _, _, rfl, rfl, h2, z0, rfl, _, rfl, iteN (fun z => absurd (V.str.inj z) (by decide +kernel)) ?_⟩
        refine ⟨_, rfl, t2, _, _, _, rfl, rfl, h2, z0, rfl, _, rfl, iteN (fun z => absurd (V.str.inj z) (by decide +kernel)) ?_⟩
        refine ⟨_, rfl, .inl ⟨rfl, _, SqL.of hA2⟩, ?_⟩
        refine ⟨_, rfl, _, _, rfl, rfl, big (by rw [ls]; omega), _, rfl, t2, _, _, _, rfl, rfl, h2, z1, .inr ⟨_, rfl, lg_nat (show size ≤ 1000000000000 by omega), _, _, rfl, rfl, big (by rw [b1, ln]; omega), _, _, rfl, rfl, big (by rw [b2, l1]; omega), _, rfl, t2, _, _, _, rfl, rfl, h2, z2, _, _, rfl, rfl, big (by rw [b3, lsd]; omega), _, _, rfl, rfl, big (by rw [b4, l1]; omega), _, rfl, t2, _, _, _, rfl, rfl, h2, z3, _, _, rfl, rfl, big (by rw [b5, llw]; omega), D, _, _, rfl, rfl, hA2, small1000 (by omega), ?_⟩⟩
        refine fin _ (wd (plainW (.road size ts lw))) ?_ (by unfold Step.lines; rfl)
        rw [a6]
        unfold wd plainW joinL joinL joinL joinL
        simp
      | join most =>
        unfold PlStep at hat
        unfold M.Step.fine at fy
        obtain ⟨t2, rfl, h2⟩ := hat
        have h2 := SqT.of (K := K) h2
        have nm := (wd_num (show most ≤ 1000000000000 by omega)).len
        have a1 : tl (ld ++ ("join " : Str)) = tl ld ++ (TX.cJoin ++ [32]) := catl rfl t_join
        have a2 : tl ((ld ++ ("join " : Str)) ++ Str.ofString (toString ((most : Nat) : Int))) = tl ld ++ (TX.cJoin ++ [32]) ++ numL most := catl a1 (t_num _)
        have ls : ("join " : Str).length = 5 := by rw [len_tl, t_join]; rfl
        have lq : (TX.cJoin ++ [32] : List Nat).length = 5 := rfl
        have ln := len_tl (Str.ofString (toString ((most : Nat) : Int)))
        rw [t_num] at ln
        have b1 := len_tl (ld ++ ("join " : Str))
        rw [a1, List.length_append, lq] at b1
        have ll := len_tl ld
        refine ⟨_, rfl, t2, _, _, _, rfl, rfl, h2, z0, rfl, _, rfl, iteN (fun z => absurd (V.str.inj z) (by decide +kernel)) ?_⟩
        refine ⟨_, rfl, t2, _, _, _, rfl, rfl, h2, z0, rfl, _, rfl, iteP rfl ?_⟩
        refine ⟨_, rfl, .inl ⟨rfl, _, SqL.of hA2⟩, ?_⟩
        refine ⟨_, rfl, _, _, rfl, rfl, big (by rw [ls]; omega), _, rfl, t2, _, _, _, rfl, rfl, h2, z1, .inr ⟨_, rfl, lg_nat (show most ≤ 1000000000000 by omega), _, _, rfl, rfl, big (by rw [b1, ln]; omega), D, _, _, rfl, rfl, hA2, small1000 (by omega), ?_⟩⟩
        refine fin _ (wd (plainW (.join most))) ?_ (by unfold Step.lines; rfl)
        rw [a2]
        unfold wd plainW joinL joinL
        simp
      | tunnel wi most tw =>
        unfold PlStep at hat
        have fi := fy
        unfold M.Step.fine at fi
        have di := M.dep_le hy
        have di2 : wi.depth ≤ n := by
          have e : M.Step.dep (.tunnel wi most tw) = wi.depth := rfl
          omega
        obtain ⟨t2, v2, rfl, h2, hwi⟩ := hat
        have h2' := h2
        have h2 := SqT.of (K := K) h2
        have nm := (wd_num (show most ≤ 1000000000000 by omega)).len
        have ns := (wd_tw tw).len
        have a1 : tl (ld ++ ("tunnel " : Str)) = tl ld ++ (TX.cTun ++ [32]) := catl rfl t_tun
        have a2 : tl ((ld ++ ("tunnel " : Str)) ++ Str.ofString (toString ((most : Nat) : Int))) = tl ld ++ (TX.cTun ++ [32]) ++ numL most := catl a1 (t_num _)
        have a3 := catl a2 t_sp
        have a4 : tl ((((ld ++ ("tunnel " : Str)) ++ Str.ofString (toString ((most : Nat) : Int))) ++ (" " : Str)) ++ WP.twS tw) = tl ld ++ (TX.cTun ++ [32]) ++ numL most ++ [32] ++ TX.tw tw := catl a3 rfl
        have ls : ("tunnel " : Str).length = 7 := by rw [len_tl, t_tun]; rfl
        have l1 : (" " : Str).length = 1 := by rw [len_tl, t_sp]; rfl
        have lq : (TX.cTun ++ [32] : List Nat).length = 7 := rfl
        have lo : ([32] : List Nat).length = 1 := rfl
        have ln := len_tl (Str.ofString (toString ((most : Nat) : Int)))
        rw [t_num] at ln
        have lsd : (WP.twS tw).length = (TX.tw tw).length := len_tl _
        have b1 := len_tl (ld ++ ("tunnel " : Str))
        rw [a1, List.length_append, lq] at b1
        have b2 := len_tl ((ld ++ ("tunnel " : Str)) ++ Str.ofString (toString ((most : Nat) : Int)))
        rw [a2, List.length_append, List.length_append, lq] at b2
        have b3 := len_tl (((ld ++ ("tunnel " : Str)) ++ Str.ofString (toString ((most : Nat) : Int))) ++ (" " : Str))
        rw [a3, List.length_append, List.length_append, List.length_append, lq, lo] at b3
        have ll := len_tl ld
        refine ⟨_, rfl, t2, _, _, _, rfl, rfl, h2, z0, rfl, _, rfl, iteP rfl ?_⟩
        refine ⟨_, rfl, .inl ⟨rfl, _, SqL.of hA2⟩, ?_⟩
        refine ⟨_, rfl, _, _, rfl, rfl, big (by rw [ls]; omega), _, rfl, t2, _, _, _, rfl, rfl, h2, z2, .inr ⟨_, rfl, lg_nat (show most ≤ 1000000000000 by omega), _, _, rfl, rfl, big (by rw [b1, ln]; omega), _, _, rfl, rfl, big (by rw [b2, l1]; omega), _, rfl, t2, _, _, _, rfl, rfl, h2, z3, _, _, rfl, rfl, big (by rw [b3, lsd]; omega), D, _, _, rfl, rfl, hA2, small1000 (by omega), ?_⟩⟩
        have s2 := add_upd (o := .lst (sv ((wd (headW h) :: Step.linesAll (st.take i)).map (tl ld ++ ·)) ++ [V.str ((((ld ++ ("tunnel " : Str)) ++ Str.ofString (toString ((most : Nat) : Int))) ++ (" " : Str)) ++ WP.twS tw)])) hD s1
        have kp := put_keepT (o := .lst (sv ((wd (headW h) :: Step.linesAll (st.take i)).map (tl ld ++ ·)) ++ [V.str ((((ld ++ ("tunnel " : Str)) ++ Str.ofString (toString ((most : Nat) : Int))) ++ (" " : Str)) ++ WP.twS tw)])) hA2
        have hwi2 := hwi.keep kp
        have h22 := kp.tup h2'
        have hA3 : upd G' D (.lst (sv ((wd (headW h) :: Step.linesAll (st.take i)).map (tl ld ++ ·)) ++ [V.str ((((ld ++ ("tunnel " : Str)) ++ Str.ofString (toString ((most : Nat) : Int))) ++ (" " : Str)) ++ WP.twS tw)])) D = some (.lst (sv (((wd (headW h) :: Step.linesAll (st.take i)) ++ [wd (plainW (.tunnel wi most tw))]).map (tl ld ++ ·)))) := by
          rw [upd_same, List.map_append, sv_app, S_of a4]
          show some (HO.lst (_ ++ [_])) = some (HO.lst (_ ++ [V.str (TX.S (tl ld ++ wd (plainW (.tunnel wi most tw))))]))
          unfold wd plainW joinL joinL joinL
          simp
        generalize upd G' D (.lst (sv ((wd (headW h) :: Step.linesAll (st.take i)).map (tl ld ++ ·)) ++ [V.str ((((ld ++ ("tunnel " : Str)) ++ Str.ofString (toString ((most : Nat) : Int))) ++ (" " : Str)) ++ WP.twS tw)])) = G2 at s2 hwi2 h22 hA3 ⊢
        have la3 : (wd (headW h) :: Step.linesAll (st.take i) ++ [wd (plainW (.tunnel wi most tw))]).length ≤ 82 := by
          rw [List.length_append, List.length_singleton]
          omega
        refine ⟨_, rfl, _, rfl, t2, _, _, _, rfl, rfl, SqT.of h22, z1, _, rfl, _, _, rfl, rfl, ?_, ?_⟩
        · exact big (by rw [show ("  " : Str).length = 2 from by rw [len_tl, k_ind, tl_S]; rfl]; omega)
        have lo2 : ("  " : Str).length = 2 := by rw [len_tl, k_ind, tl_S]; rfl
        have ldl : (ld ++ ("  " : Str)).length = ld.length + 2 := by
          rw [len_tl, tl_append, List.length_append, ← len_tl, ← len_tl, lo2]
        refine ⟨v2, wi, ld ++ ("  " : Str), rfl, hwi2, fi.1, di2, by rw [ldl]; omega, fun D2 G3 s3 n2 e2 => ?_⟩
        refine ⟨D, D2, _, _, rfl, rfl, s3 _ _ hA3, e2, ?_, fun D3 n3 => ?_⟩
        · have := (lines_len fi.1).2
          refine big ?_
          rw [sv_len, sv_len, List.length_map, List.length_map]
          omega
        · refine ⟨(s2.trans s3).trans (of_upd n3), D3, _, (s2.trans s3).free n3, ?_, rfl⟩
          have e : (wd (headW h) :: Step.linesAll (st.take (i + 1))).map (tl ld ++ ·) = ((wd (headW h) :: Step.linesAll (st.take i)) ++ [wd (plainW (.tunnel wi most tw))]).map (tl ld ++ ·) ++ (Way.lines wi).map (tl (ld ++ ("  " : Str)) ++ ·) := by
            rw [et, lines_app]
            unfold Step.lines
            rw [show wd (headW h) :: (Step.linesAll (st.take i) ++ wd (plainW (.tunnel wi most tw)) :: (Way.lines wi).map ([32, 32] ++ ·)) = (wd (headW h) :: Step.linesAll (st.take i) ++ [wd (plainW (.tunnel wi most tw))]) ++ (Way.lines wi).map ([32, 32] ++ ·) by simp, List.map_append, List.map_map]
            refine congrArg _ (List.map_congr_left fun l _ => ?_)
            show tl ld ++ ([32, 32] ++ l) = tl (ld ++ ("  " : Str)) ++ l
            rw [tl_append, k_ind, tl_S, List.append_assoc]
          rw [upd_same, e, sv_app]
    · rintro σ G ⟨s1, D, q3, hD, hA2, rfl⟩
      rw [lx, List.take_length] at hA2
      refine ⟨_, rfl, kk D G s1 hD ?_⟩
      unfold Way.lines
      exact hA2
end
end CP

end
section
set_option autoImplicit false
set_option Elab.async false
set_option linter.all false
set_option maxRecDepth 100000
set_option maxHeartbeats 4000000
/-! ## a reader on the heap -/
namespace CP
open PySem L2 G Y
open TL TX
def outM : Option (Nat × M.TW) → V
  | none => .non
  | some (m, _) => .int (m : Int)
def outT : Option (Nat × M.TW) → V
  | none => .non
  | some (_, t) => .str (WP.twS t)
def hdV : Option Nat → V
  | none => .non
  | some h => .int (h : Int)
theorem nkb : ¬ (("most" : Str) = "tells") ∧ ¬ (("most" : Str) = "head") ∧ ¬ (("most" : Str) = "steps") ∧ ¬ (("tells" : Str) = "head") ∧ ¬ (("tells" : Str) = "steps") ∧ ¬ (("head" : Str) = "steps") ∧ ¬ (("_begun" : Str) = "_size") := by decide +kernel
def bf (o : Option (Nat × M.TW)) (h : V) (s : Addr) : List (Str × V) := putF "steps" (.ref s) (putF "head" h (putF "tells" (outT o) (putF "most" (outM o) [])))
def rf (b : Addr) (n : Int) : List (Str × V) := putF "_size" (.int n) (putF "_begun" (.ref b) [])
theorem bf_eq (o : Option (Nat × M.TW)) (h : V) (s : Addr) : bf o h s = ([(("most" : Str), outM o), (("tells" : Str), outT o), (("head" : Str), h), (("steps" : Str), V.ref s)] : List (Str × V)) := by
  unfold bf
  simp [putF, nkb.1, nkb.2.1, nkb.2.2.1, nkb.2.2.2.1, nkb.2.2.2.2.1, nkb.2.2.2.2.2.1]
theorem rf_eq (b : Addr) (n : Int) : rf b n = ([(("_begun" : Str), V.ref b), (("_size" : Str), V.int n)] : List (Str × V)) := by
  unfold rf
  simp [putF, nkb.2.2.2.2.2.2]
theorem bf_head (o : Option (Nat × M.TW)) (h g : V) (s : Addr) : putF "head" g (bf o h s) = bf o g s := by
  rw [bf_eq, bf_eq]
  simp [putF, nkb.2.1, nkb.2.2.2.1]
theorem rf_size (b : Addr) (n m : Int) : putF "_size" (.int m) (rf b n) = rf b m := by
  rw [rf_eq, rf_eq]
  simp [putF, nkb.2.2.2.2.2.2]
theorem bf_look {o : Option (Nat × M.TW)} {h : V} {s : Addr} : (bf o h s).lookup ("most" : Str) = some (outM o) ∧ (bf o h s).lookup ("tells" : Str) = some (outT o) ∧ (bf o h s).lookup ("head" : Str) = some h ∧ (bf o h s).lookup ("steps" : Str) = some (.ref s) := by
  unfold bf
  refine ⟨?_, ?_, ?_, ?_⟩
  · rw [lookup_putF, if_neg nkb.2.2.1, lookup_putF, if_neg nkb.2.1, lookup_putF, if_neg nkb.1, lookup_putF, if_pos rfl]
  · rw [lookup_putF, if_neg nkb.2.2.2.2.1, lookup_putF, if_neg nkb.2.2.2.1, lookup_putF, if_pos rfl]
  · rw [lookup_putF, if_neg nkb.2.2.2.2.2.1, lookup_putF, if_pos rfl]
  · rw [lookup_putF, if_pos rfl]
theorem rf_look {b : Addr} {n : Int} : (rf b n).lookup ("_begun" : Str) = some (.ref b) ∧ (rf b n).lookup ("_size" : Str) = some (.int n) := by
  unfold rf
  refine ⟨?_, ?_⟩
  · rw [lookup_putF, if_neg nkb.2.2.2.2.2.2, lookup_putF, if_pos rfl]
  · rw [lookup_putF, if_pos rfl]
theorem rf_no {b : Addr} {n : Int} {m : Str} (h1 : ¬ m = "_begun") (h2 : ¬ m = "_size") : (rf b n).lookup m = none := by
  unfold rf
  rw [lookup_putF, if_neg h2, lookup_putF, if_neg h1]
  rfl
theorem bf_len (o : Option (Nat × M.TW)) (h : V) (s : Addr) : (bf o h s).length < 1000 := by
  rw [bf_eq]
  show 4 < 1000
  decide
theorem rf_len (b : Addr) (n : Int) : (rf b n).length < 1000 := by
  rw [rf_eq]
  show 2 < 1000
  decide
/-- all but lists and readers' objects stays -/
def KeepW (CB CR : Addr) (H H' : Hp) : Prop := ∀ a o, (∀ xs, o ≠ .lst xs) → (∀ dx fs, o ≠ .ins CB dx fs) → (∀ dx fs, o ≠ .ins CR dx fs) → H a = some o → H' a = some o
section
variable {CW CB CR : Addr}
theorem KeepW.tup {H H' : Hp} {t : Addr} {xs : List V} (k : KeepW CB CR H H') (h : H t = some (.tup xs)) : H' t = some (.tup xs) := k _ _ (fun _ z => by cases z) (fun _ _ z => by cases z) (fun _ _ z => by cases z) h
theorem KeepW.trans {H H1 H2 : Hp} (a : KeepW CB CR H H1) (b : KeepW CB CR H1 H2) : KeepW CB CR H H2 := fun x o n1 n2 n3 e => b x o n1 n2 n3 (a x o n1 n2 n3 e)
theorem keepW_same {H H' : Hp} (s : Same H H') : KeepW CB CR H H' := fun a o _ _ _ e => s a o e
theorem keepW_lst {H : Hp} {l : Addr} {xs : List V} {o : HO} (h : H l = some (.lst xs)) : KeepW CB CR H (upd H l o) := fun a u n _ _ e => by
  rw [upd_ne]
  · exact e
  · intro z
    rw [z, h] at e
    cases e
    exact n _ rfl
theorem keepW_b {H : Hp} {a dx : Addr} {fs : List (Str × V)} {o : HO} (h : H a = some (.ins CB dx fs)) : KeepW CB CR H (upd H a o) := fun b u _ n _ e => by
  rw [upd_ne]
  · exact e
  · intro z
    rw [z, h] at e
    cases e
    exact n _ _ rfl
theorem keepW_r {H : Hp} {a dx : Addr} {fs : List (Str × V)} {o : HO} (h : H a = some (.ins CR dx fs)) : KeepW CB CR H (upd H a o) := fun b u _ _ n e => by
  rw [upd_ne]
  · exact e
  · intro z
    rw [z, h] at e
    cases e
    exact n _ _ rfl
mutual
theorem way_keepW (n1 : CW ≠ CB) (n2 : CW ≠ CR) {H H' : Hp} (s : KeepW CB CR H H') : ∀ {w : M.Way} {a : Addr}, WP.WayAt CW H w a → WP.WayAt CW H' w a
  | .mk h st, a, x => by
    unfold WP.WayAt at x ⊢
    obtain ⟨dx, t, xs, h1, h2, h3⟩ := x
    exact ⟨dx, t, xs, s _ _ (fun _ z => by cases z) (fun _ _ z => by cases z; exact n1 rfl) (fun _ _ z => by cases z; exact n2 rfl) h1, s.tup h2, steps_keepW n1 n2 s h3⟩
theorem steps_keepW (n1 : CW ≠ CB) (n2 : CW ≠ CR) {H H' : Hp} (s : KeepW CB CR H H') : ∀ {st : List M.Step} {xs : List V}, WP.StepsAt CW H st xs → WP.StepsAt CW H' st xs
  | [], xs, x => by
    unfold WP.StepsAt at x ⊢
    exact x
  | y :: r, xs, x => by
    unfold WP.StepsAt at x ⊢
    obtain ⟨u, ys, e, h1, h2⟩ := x
    exact ⟨u, ys, e, step_keepW n1 n2 s h1, steps_keepW n1 n2 s h2⟩
theorem step_keepW (n1 : CW ≠ CB) (n2 : CW ≠ CR) {H H' : Hp} (s : KeepW CB CR H H') : ∀ {st : M.Step} {x : V}, WP.StepAt CW H st x → WP.StepAt CW H' st x
  | .road size ts lw, v, x => by
    unfold WP.StepAt at x ⊢
    obtain ⟨t, e, h⟩ := x
    exact ⟨t, e, s.tup h⟩
  | .join most, v, x => by
    unfold WP.StepAt at x ⊢
    obtain ⟨t, e, h⟩ := x
    exact ⟨t, e, s.tup h⟩
  | .tunnel w most tw, v, x => by
    unfold WP.StepAt at x ⊢
    obtain ⟨t, a, e, h, h2⟩ := x
    exact ⟨t, a, e, s.tup h, way_keepW n1 n2 s h2⟩
end
/-- a way that is begun, at a; its steps' list at s -/
structure FrAt (CB CW : Addr) (H : Hp) (f : Fr) (a s : Addr) : Prop where
  ex : ∃ dx xs, H a = some (.ins CB dx (bf f.out (hdV f.head) s)) ∧ H s = some (.lst xs) ∧ WP.StepsAt CW H f.steps xs
/-- the stack, its top first -/
def StkAt (CB CW : Addr) (H : Hp) : List Fr → List (Addr × Addr) → Prop
  | [], ps => ps = []
  | f :: r, ps => ∃ p qs, ps = p :: qs ∧ FrAt CB CW H f p.1 p.2 ∧ StkAt CB CW H r qs
theorem FrAt.move (n1 : CW ≠ CB) (n2 : CW ≠ CR) {H H' : Hp} {f : Fr} {a s : Addr} (k : KeepW CB CR H H') (e1 : H' a = H a) (e2 : H' s = H s) (h : FrAt CB CW H f a s) : FrAt CB CW H' f a s := by
  obtain ⟨dx, xs, h1, h2, h3⟩ := h.ex
  exact ⟨dx, xs, e1.trans h1, e2.trans h2, steps_keepW n1 n2 k h3⟩
theorem StkAt.move (n1 : CW ≠ CB) (n2 : CW ≠ CR) {H H' : Hp} (k : KeepW CB CR H H') : ∀ {st : List Fr} {ps : List (Addr × Addr)}, (∀ p ∈ ps, H' p.1 = H p.1 ∧ H' p.2 = H p.2) → StkAt CB CW H st ps → StkAt CB CW H' st ps
  | [], ps, _, h => h
  | f :: r, ps, e, h => by
    obtain ⟨p, qs, rfl, h1, h2⟩ := h
    have a := e p List.mem_cons_self
    exact ⟨p, qs, rfl, h1.move n1 n2 k a.1 a.2, StkAt.move n1 n2 k (fun q hq => e q (List.mem_cons_of_mem _ hq)) h2⟩
theorem FrAt.same {H H' : Hp} {f : Fr} {a s : Addr} (k : Same H H') (h : FrAt CB CW H f a s) : FrAt CB CW H' f a s := by
  obtain ⟨dx, xs, h1, h2, h3⟩ := h.ex
  exact ⟨dx, xs, k _ _ h1, k _ _ h2, h3.mono k⟩
theorem StkAt.same {H H' : Hp} (k : Same H H') : ∀ {st : List Fr} {ps : List (Addr × Addr)}, StkAt CB CW H st ps → StkAt CB CW H' st ps
  | [], ps, h => h
  | f :: r, ps, h => by
    obtain ⟨p, qs, rfl, h1, h2⟩ := h
    exact ⟨p, qs, rfl, h1.same k, h2.same k⟩
theorem StkAt.len {H : Hp} : ∀ {st : List Fr} {ps : List (Addr × Addr)}, StkAt CB CW H st ps → ps.length = st.length
  | [], ps, h => by
    have e : ps = [] := h
    rw [e]
    rfl
  | f :: r, ps, h => by
    obtain ⟨p, qs, rfl, h1, h2⟩ := h
    rw [List.length_cons, List.length_cons, h2.len]
/-- what the reader's list holds: the stack from the bottom -/
def bgV (ps : List (Addr × Addr)) : List V := (ps.map fun p => V.ref p.1).reverse
/-- a reader at x with its parts -/
structure RdP (CR CB CW : Addr) (H0 H : Hp) (st : List Fr) (n : Nat) (x dx b : Addr) (ps : List (Addr × Addr)) : Prop where
  hx : H x = some (.ins CR dx (rf b (n : Int)))
  hb : H b = some (.lst (bgV ps))
  stk : StkAt CB CW H st ps
  nd : (b :: ps.map Prod.snd).Nodup
  nf : (x :: ps.map Prod.fst).Nodup
  fx : H0 x = none
  fb : H0 b = none
  fp : ∀ p ∈ ps, H0 p.1 = none ∧ H0 p.2 = none
  sm : Same H0 H
def RdAt (CR CB CW : Addr) (H0 H : Hp) (st : List Fr) (n : Nat) (x : Addr) : Prop := ∃ dx b ps, RdP CR CB CW H0 H st n x dx b ps
theorem RdP.same {H0 H H' : Hp} {st : List Fr} {n : Nat} {x dx b : Addr} {ps : List (Addr × Addr)} (k : Same H H') (h : RdP CR CB CW H0 H st n x dx b ps) : RdP CR CB CW H0 H' st n x dx b ps :=
  ⟨k _ _ h.hx, k _ _ h.hb, h.stk.same k, h.nd, h.nf, h.fx, h.fb, h.fp, h.sm.trans k⟩
theorem RdAt.same {H0 H H' : Hp} {st : List Fr} {n : Nat} {x : Addr} (k : Same H H') (h : RdAt CR CB CW H0 H st n x) : RdAt CR CB CW H0 H' st n x := by
  obtain ⟨dx, b, ps, h⟩ := h
  exact ⟨dx, b, ps, h.same k⟩
theorem bg_len (ps : List (Addr × Addr)) : (bgV ps).length = ps.length := by
  unfold bgV
  rw [List.length_reverse, List.length_map]
theorem bg_cons (p : Addr × Addr) (ps : List (Addr × Addr)) : bgV (p :: ps) = bgV ps ++ [.ref p.1] := by
  unfold bgV
  rw [List.map_cons, List.reverse_cons]
/-- the stack's top, read at [-1] -/
theorem bg_top (p : Addr × Addr) (ps : List (Addr × Addr)) : atI (bgV (p :: ps)) (-1) = some (.ref p.1) := by
  rw [bg_cons]
  exact atI_last _ _
/-- the addresses of a reader's parts are told apart by their kinds -/
theorem RdP.apart {H0 H : Hp} {st : List Fr} {n : Nat} {x dx b : Addr} {ps : List (Addr × Addr)} (h : RdP CR CB CW H0 H st n x dx b ps) : b ≠ x ∧ ∀ p ∈ ps, p.1 ≠ b ∧ p.2 ≠ x ∧ p.2 ≠ b ∧ p.1 ≠ x ∧ ∀ q ∈ ps, p.1 ≠ q.2 := by
  have kd : ∀ {st : List Fr} {ps : List (Addr × Addr)}, StkAt CB CW H st ps → ∀ p ∈ ps, (∃ dx fs, H p.1 = some (.ins CB dx fs)) ∧ ∃ xs, H p.2 = some (.lst xs) := fun {st} => by
    induction st with
    | nil =>
      intro ps h p hp
      have e : ps = [] := h
      rw [e] at hp
      cases hp
    | cons f r ih =>
      intro ps h p hp
      obtain ⟨q, qs, rfl, h1, h2⟩ := h
      rcases List.mem_cons.mp hp with e | e
      · rw [e]
        obtain ⟨dx, xs, a1, a2, _⟩ := h1.ex
        exact ⟨⟨_, _, a1⟩, _, a2⟩
      · exact ih h2 p e
  refine ⟨fun z => ?_, fun p hp => ?_⟩
  · have := h.hb
    rw [z, h.hx] at this
    cases this
  · obtain ⟨⟨d1, f1, e1⟩, xs, e2⟩ := kd h.stk p hp
    refine ⟨fun z => ?_, fun z => ?_, fun z => ?_, fun z => ?_, fun q hq z => ?_⟩
    · rw [z, h.hb] at e1
      cases e1
    · rw [z, h.hx] at e2
      cases e2
    · exact (List.nodup_cons.mp h.nd).1 (z ▸ List.mem_map.mpr ⟨p, hp, rfl⟩)
    · exact (List.nodup_cons.mp h.nf).1 (z ▸ List.mem_map.mpr ⟨p, hp, rfl⟩)
    · obtain ⟨_, ys, e3⟩ := kd h.stk q hq
      rw [z, e3] at e1
      cases e1
end
end CP

end
section
set_option autoImplicit false
set_option Elab.async false
set_option linter.all false
set_option maxRecDepth 100000
set_option maxHeartbeats 4000000
/-! ## written_integer, _step; a reader's parts -/
namespace TX
open PySem hiding Step
open TL M
theorem num_first (n : Nat) : 1 ≤ n → ∃ c r, numL n = c :: r ∧ c ≠ 48 := by
  induction n using Nat.strongRecOn with
  | _ n ih =>
    intro h
    by_cases h2 : n < 10
    · rw [numL_lt h2]
      exact ⟨_, _, rfl, by omega⟩
    · obtain ⟨c, r, e, nc⟩ := ih (n / 10) (by omega) (by omega)
      rw [numL_step (by omega), e]
      exact ⟨c, _, rfl, nc⟩
theorem drop_rep : ∀ (k : Nat) (c : List Nat), (List.replicate k 32 ++ c).drop k = c
  | 0, c => rfl
  | k + 1, c => drop_rep k c
theorem strip_ind {x : Str} {k : Nat} {c : List Nat} (h : tl x = List.replicate k 32 ++ c) (hc : ∀ d r, c = d :: r → d ≠ 32) : Txt.lstripChars x (" " : Str) = S c := by
  refine S_of ?_
  unfold Txt.lstripChars
  rw [PyProof.Rows.stripBy_eq]
  have e1 : stripLo (" " : Str).cps.contains true x = k := by
    show (if true then (x.cps.toList.takeWhile _).length else 0) = k
    rw [if_pos rfl, show x.cps.toList = List.replicate k 32 ++ c from h]
    have g32 : (" " : Str).cps.contains 32 = true := by decide +kernel
    have gn : ∀ d : Nat, d ≠ 32 → (" " : Str).cps.contains d = false := fun d hd => by
      rw [show (" " : Str).cps = #[32] by decide +kernel]
      simp [hd]
    generalize (" " : Str).cps.contains = g at g32 gn
    have key : ∀ k : Nat, ((List.replicate k 32 ++ c).takeWhile g).length = k := fun k => by
      induction k with
      | zero =>
        cases c with
        | nil => rfl
        | cons d r =>
          show ((d :: r).takeWhile g).length = 0
          rw [List.takeWhile_cons, gn d (hc d r rfl)]
          rfl
      | succ k ih =>
        show ((32 :: (List.replicate k 32 ++ c)).takeWhile g).length = k + 1
        rw [List.takeWhile_cons, g32]
        show ((List.replicate k 32 ++ c).takeWhile g).length + 1 = k + 1
        rw [ih]
    exact key k
  rw [e1]
  show tl (Builtin.Str.strSub x k (stripHi _ false x k)) = c
  have e2 : ∀ g, stripHi g false x k = x.length := fun g => rfl
  rw [e2, tl_strSub_end, h]
  exact drop_rep k c
/-- what is left behind an indentation -/
theorem cut_ind {x : Str} {k : Nat} {c : List Nat} (h : tl x = List.replicate k 32 ++ c) : L2.cutS x (some (k : Int)) none = S c := by
  refine S_of ?_
  have hl : x.length = k + c.length := by rw [len_tl, h]; simp
  show ((tl x).drop (HT.sIx x.length 0 (some (k : Int)))).take (HT.sIx x.length x.length none - HT.sIx x.length 0 (some (k : Int))) = c
  rw [HT.sIx_nat, HT.sIx_none, h, Nat.min_eq_left (by omega), drop_rep]
  exact List.take_of_length_le (by omega)
end TX
namespace CP
open PySem L2 G Y
open TL TX
abbrev sWritten : Stmt := S.top 5
def rSg : R2 := fun x y H Q => ∃ (c : Nat) (z : Str), x = .str ⟨#[c]⟩ ∧ y = .str z ∧ Q (.bl (decide (c ∈ z.cps.toList))) H
theorem op_sg {X : Cx} : OpR X (compareOp .In) rSg := op_in_sign
theorem dig_in {c : Nat} (h : 48 ≤ c ∧ c ≤ 57) : decide (c ∈ ("0123456789" : Str).cps.toList) = true := by
  rw [show ("0123456789" : Str).cps.toList = [48, 49, 50, 51, 52, 53, 54, 55, 56, 57] by decide +kernel]
  simp only [List.mem_cons, List.mem_nil_iff, or_false]
  exact decide_eq_true (by omega)
section
variable {P : Program} {w : World} {K : PySem.W.Frag} {mg : Str → Option Value} {base : Heap} {C CW : Addr}
def spWritten : Sp := fun vs H Q _ => ∃ (x : Str) (n : Nat), vs = [.str x] ∧ tl x = numL n ∧ 1 ≤ n ∧ n ≤ 1000000000000 ∧ ∀ H', Same H H' → Q (.int (n : Int)) H'
abbrev NWr : List Str := ["word", "digit"]
theorem scWr : FnScope NWr ["word"] (defScope sWritten) := ⟨rfl, rfl, rfl, by decide +kernel, rfl, by decide +kernel, by decide +kernel⟩
theorem ok_written {f : Addr} {fd : FuncData} (F : Fun K "written_integer" "written_integer" sWritten f fd) (B : Bn mg) (hall : mg "all" = none) (gD : ∃ t, mg "DIGITS" = some (.str "0123456789" t)) (gM : ∃ t, mg "MOST_DIGITS" = some (.int 60 t)) : FnOk P w K mg base CX0 1 f fd ["word"] spWritten := by
  obtain ⟨tD, gD⟩ := gD
  obtain ⟨tM, gM⟩ := gM
  refine F.ok scWr (fun vs H Q E h => ?_) (fun cdv A outer s H vs Q E hr h => ?_)
  · obtain ⟨x, n, rfl, _⟩ := h
    rfl
  · obtain ⟨x, n, rfl, hx, h1, h2, kk⟩ := h
    refine ⟨_, pss_cons (ps_if (PW.pt (pw_or (pt_not (pt_chain op_le op_le (pe_int) (pe_callB call_len_str (by rfl) B.len PySem.boot_len (pa_cons (pv 0) pa_nil)) (pe_glob (v := .int 60) rfl gM ⟨_, rfl⟩))) (pw_or1 (pt_not (pt_val (pe_callB (cr_all rfl) (by rfl) hall (by decide +kernel) (pa_cons (pe_lc (own := [("digit", 1)]) (g := gName 1) (tt := tYes) (te := tOp rSg (tVar 1) (tC (.str "0123456789"))) rfl scWr.nd (pi_str (pv 0)) (blkOk_by (N := NWr) (sc := defScope sWritten) (by decide +kernel))
          (fun _ _ _ _ _ => by exact pg_name (i := 1) scWr.nd rfl (Or.inl rfl)) (fun _ _ _ _ _ => pts_nil) (fun _ _ _ _ _ => by exact pe_cmpR (op_sg) (pv 1) (pe_glob (v := .str "0123456789") rfl gD ⟨_, rfl⟩) (by rfl))) pa_nil))))))) (pss_one (ps_ret (pe_non))) (pss_nil))
      (pss_cons (ps_if (PW.pt (pw_and (pt_cmpR (op_eq) (pe_ix ix_str (pv 0) (pe_int) (fun _ _ => rfl)) (pe_str) (nomark _)) (pw_and1 (pt_cmpR (op_gt) (pe_callB call_len_str (by rfl) B.len PySem.boot_len (pa_cons (pv 0) pa_nil)) (pe_int) (nomark _))))) (pss_one (ps_ret (pe_non))) (pss_nil))
      (pss_one (ps_ret (pe_callTy call_int_str (by rfl) B.int (by decide +kernel) (pa_cons (pv 0) pa_nil))))), ?_⟩
    have wn := wd_num h2
    have lx : x.length = (numL n).length := by rw [len_tl, hx]
    have l13 := wn.len
    have l1 : 1 ≤ (numL n).length := List.length_pos_iff.mpr wn.ne
    have big : x.length ≤ sizeLine := Nat.le_of_lt (small1000 (by omega))
    refine ⟨_, rfl, x, rfl, big, _, _, rfl, rfl, _, rfl, ?_⟩
    rw [decide_eq_true (show (1 : Int) ≤ ((x.length : Nat) : Int) by omega)]
    refine iteT ⟨_, _, rfl, rfl, _, rfl, ?_⟩
    rw [decide_eq_true (show ((x.length : Nat) : Int) ≤ 60 by omega)]
    refine iteF ?_
    refine ⟨_, rfl, x, rfl, fun D hD => ?_⟩
    have cx : x.cps.size = (numL n).length := lx
    have gt : ∀ {i c : Nat}, x.cps[i]? = some c → c ∈ numL n := fun {i c} e => by
      rw [← hx]
      exact List.mem_of_getElem? (i := i) (by rw [Array.getElem?_toList]; exact e)
    refine lc_it walk_str (fun i G => Same H G ∧ G D = some (.lst ((List.replicate i true).map V.bl))) ⟨of_upd hD, upd_same⟩ (fun i G _ z => trivial) ?_ ?_
    · rintro i v G G' hi ⟨s1, e1⟩ ⟨rfl, c, hc, rfl⟩
      have dg := numL_digits n c (gt hc)
      refine ⟨rfl, _, rfl, c, _, rfl, rfl, ?_⟩
      rw [dig_in dg]
      refine ⟨_, e1, small1000 (by rw [List.length_map, List.length_replicate]; omega), add_upd hD s1, ?_⟩
      rw [upd_same, ← List.replicate_append_replicate (n := i) (m := 1), List.map_append]
      rfl
    · rintro G ⟨s1, e1⟩
      refine ⟨D, _, rfl, SqL.of e1, ?_⟩
      rw [show (List.replicate x.cps.size true).all id = true by simp]
      refine ⟨_, rfl, iteF ?_⟩
      obtain ⟨c0, r0, e0, n0⟩ := num_first n h1
      have t0 : x.cps.toList = c0 :: r0 := hx.trans e0
      refine ⟨_, rfl, x, _, c0, rfl, rfl, big, by rw [t0]; exact atI_nat (xs := c0 :: r0) (j := 0) rfl, rfl, _, rfl, ?_⟩
      refine iteN (fun z => n0 ?_) ?_
      · have z := V.str.inj z
        have e : tl (⟨#[c0]⟩ : Str) = tl ("0" : Str) := congrArg tl z
        rw [show tl ("0" : Str) = [48] by decide +kernel] at e
        exact (List.cons.inj e).1
      · refine iteF ?_
        refine ⟨_, rfl, x, (n : Int), rfl, ?_, by omega, kk G s1⟩
        rw [show x = Str.ofString (toString ((n : Nat) : Int)) from ext_tl (by rw [hx, t_num])]
        exact int_num (by omega)
end
end CP

end
section
set_option autoImplicit false
set_option Elab.async false
set_option linter.all false
set_option maxRecDepth 100000
set_option maxHeartbeats 4000000
/-! ## _step; BegunWay, Reader: made; a reader's methods -/
namespace CP
open PySem L2 G Y
open TL TX
abbrev sTStep : Stmt := S.top 40
abbrev sBInit : Stmt := inClass (S.top 38) 0
abbrev sRInit : Stmt := inClass (S.top 39) 0
abbrev sRWhole : Stmt := inClass (S.top 39) 2
abbrev sRLevel : Stmt := inClass (S.top 39) 4
/-- the class BegunWay -/
structure Bt (K : PySem.W.Frag) (mg : Str → Option Value) (C : Addr) : Prop where
  g : mg "BegunWay" = some (.ref C)
  cl : Cls K C
  nM : NoAttr K C "most"
  nT : NoAttr K C "tells"
  nH : NoAttr K C "head"
  nS : NoAttr K C "steps"
/-- the class Reader -/
structure Rt (K : PySem.W.Frag) (mg : Str → Option Value) (C : Addr) : Prop where
  g : mg "Reader" = some (.ref C)
  cl : Cls K C
  nB : NoAttr K C "_begun"
  nS : NoAttr K C "_size"
structure Mr (P : Program) (w : World) (K : PySem.W.Frag) (mg : Str → Option Value) (base : Heap) (C : Addr) (k : Nat) (m : Str) (ps : List Str) (sp : Sp) : Prop where
  ex : ∃ (f : Addr) (fd : FuncData), FnOk P w K mg base CX0 k f fd ps sp ∧ Meth K C m f ∧ Binds K fd ps []
structure Mn (P : Program) (w : World) (K : PySem.W.Frag) (mg : Str → Option Value) (base : Heap) (C : Addr) (k : Nat) (ps : List Str) (sp : Sp) : Prop where
  ex : ∃ (f : Addr) (fd : FuncData), FnOk P w K mg base CX0 k f fd ps sp ∧ L2.Mk K C f ∧ Binds K fd ps []
theorem at_k0 {y0 : V} {ys : List V} : atI (y0 :: ys) (0 : Int) = some y0 := by exact atI_nat (xs := y0 :: ys) (j := 0) rfl
theorem at_k1 {y0 y1 : V} {ys : List V} : atI (y0 :: y1 :: ys) (1 : Int) = some y1 := by exact atI_nat (xs := y0 :: y1 :: ys) (j := 1) rfl
theorem at_k2 {y0 y1 y2 : V} {ys : List V} : atI (y0 :: y1 :: y2 :: ys) (2 : Int) = some y2 := by exact atI_nat (xs := y0 :: y1 :: y2 :: ys) (j := 2) rfl
theorem at_k3 {y0 y1 y2 y3 : V} {ys : List V} : atI (y0 :: y1 :: y2 :: y3 :: ys) (3 : Int) = some y3 := by exact atI_nat (xs := y0 :: y1 :: y2 :: y3 :: ys) (j := 3) rfl
theorem S_ne {a b : List Nat} (h : a ≠ b) : ¬ V.str (TX.S a) = V.str (TX.S b) := fun z => h (S_inj (V.str.inj z))
section
variable {P : Program} {w : World} {K : PySem.W.Frag} {mg : Str → Option Value} {base : Heap} {CR CB CW : Addr}
def spTStep (CW : Addr) : Sp := fun vs H Q _ => ∃ (l : Addr) (h : Nat) (s : M.Step), vs = [.ref l, .int (h : Int)] ∧ H l = some (.lst (sv (plainW s))) ∧ ¬ isTun s ∧ s.fine h ∧ ∀ t H', Same H H' → WP.StepAt CW H' s (.ref t) → Q (.ref t) H'
theorem scTs : FnScope ["words", "head", "most", "size"] ["words", "head"] (defScope sTStep) := ⟨rfl, rfl, rfl, by decide +kernel, rfl, by decide +kernel, by decide +kernel⟩
theorem ok_tstep {f : Addr} {fd : FuncData} (F : Fun K "_step" "_step" sTStep f fd) (B : Bn mg) (DW : Df P w K mg base 1 "written_integer" ["word"] spWritten) (DM : Df P w K mg base 3 "is_most" ["value"] (WP.spIn1 1 1000000000000)) (DR : Df P w K mg base 3 "is_road" ["size", "sealed", "loose", "least"] WP.spRoad) : FnOk P w K mg base CX0 4 f fd ["words", "head"] (spTStep CW) := by
  obtain ⟨fW, fdW, GW, gW, kW, bW⟩ := DW.ex
  obtain ⟨fM, fdM, GM, gM, kM, bM⟩ := DM.ex
  obtain ⟨fR, fdR, GR, gR, kR, bR⟩ := DR.ex
  refine F.ok scTs (fun vs H Q E h => ?_) (fun cdv A outer s H vs Q E hr h => ?_)
  · obtain ⟨l, h, s, rfl, _⟩ := h
    rfl
  · obtain ⟨l, h, st, rfl, hl, hn, hf, kk⟩ := h
    refine ⟨_, pss_cons (ps_if (PW.pt (pw_and (pt_cmpR (op_eq) (pe_ix ix_list (pv 0) (pe_int) (fun _ _ => rfl)) (pe_str) (nomark _)) (pw_and1 (pt_cmpR (op_eq) (pe_callB call_len_seq (by rfl) B.len PySem.boot_len (pa_cons (pv 0) pa_nil)) (pe_int) (nomark _))))) (pss_cons (ps_set (i := 2) scTs.nd rfl (Or.inl rfl) (pe_call GW (hr.mono (by omega)) rfl gW kW bW .nil pass0 (pa_cons (pe_ix ix_list (pv 0) (pe_int) (fun _ _ => rfl)) pa_nil)))
      (pss_one (ps_ret (pe_ifExp (pt_val (pe_call GM (hr.mono (by omega)) rfl gM kM bM .nil pass0 (pa_cons (pv 2) pa_nil))) (pe_tup (pa_cons (pe_str) (pa_cons (pv 2) pa_nil))) (pe_non))))) (pss_nil))
      (pss_cons (ps_if (PW.pt (pw_and (pt_cmpR (op_eq) (pe_ix ix_list (pv 0) (pe_int) (fun _ _ => rfl)) (pe_str) (nomark _)) (pw_and1 (pt_cmpR (op_eq) (pe_callB call_len_seq (by rfl) B.len PySem.boot_len (pa_cons (pv 0) pa_nil)) (pe_int) (nomark _))))) (pss_cons (ps_set (i := 3) scTs.nd rfl (Or.inl rfl) (pe_call GW (hr.mono (by omega)) rfl gW kW bW .nil pass0 (pa_cons (pe_ix ix_list (pv 0) (pe_int) (fun _ _ => rfl)) pa_nil)))
      (pss_one (ps_ret (pe_ifExp (pt_val (pe_call GR (hr.mono (by omega)) rfl gR kR bR .nil pass0 (pa_cons (pv 3) (pa_cons (pe_ix ix_list (pv 0) (pe_int) (fun _ _ => rfl)) (pa_cons (pe_ix ix_list (pv 0) (pe_int) (fun _ _ => rfl)) (pa_cons (pe_op (op_add) (pv 1) (pe_int)) pa_nil)))))) (pe_tup (pa_cons (pe_str) (pa_cons (pv 3) (pa_cons (pe_ix ix_list (pv 0) (pe_int) (fun _ _ => rfl)) (pa_cons (pe_ix ix_list (pv 0) (pe_int) (fun _ _ => rfl)) pa_nil))))) (pe_non))))) (pss_nil))
      (pss_one (ps_ret (pe_non)))), ?_⟩
    have hq := SqL.of (K := K) hl
    cases st with
    | road size ts lw =>
      unfold M.Step.fine at hf
      refine ⟨_, rfl, l, _, _, _, rfl, rfl, hq, at_k0, rfl, _, rfl, ?_⟩
      rw [k_join]
      refine iteN (S_ne (by decide)) (iteF ?_)
      refine ⟨_, rfl, l, _, _, _, rfl, rfl, hq, at_k0, rfl, _, rfl, ?_⟩
      rw [k_road]
      refine iteP rfl ⟨_, rfl, l, _, rfl, .inl hq, rfl, _, rfl, iteP rfl ?_⟩
      refine set_then (i := 3) ⟨_, rfl, l, _, _, _, rfl, rfl, hq, at_k1, TX.S (numL size), size, rfl, tl_S _, by omega, by omega, fun H1 s1 => ?_⟩
      have hq1 := SqL.of (K := K) (s1 _ _ hl)
      refine ⟨_, rfl, _, rfl, l, _, _, _, rfl, rfl, hq1, at_k2, _, rfl, l, _, _, _, rfl, rfl, hq1, at_k3, _, rfl, _, _, rfl, rfl, size, (h : Int) + 1, ts, lw, ?_, by omega, by omega, _, rfl, ?_⟩
      · rw [k_sd, k_lw]
        rfl
      refine iteT ⟨_, rfl, _, rfl, l, _, _, _, rfl, rfl, hq1, at_k2, _, rfl, l, _, _, _, rfl, rfl, hq1, at_k3, (by show 4 ≤ sizeLine; decide), fun t ht => ?_⟩
      refine kk t _ (s1.trans (of_upd ht)) ?_
      unfold WP.StepAt
      refine ⟨t, rfl, ?_⟩
      rw [k_sd, k_lw]
      exact upd_same
    | join most =>
      unfold M.Step.fine at hf
      refine ⟨_, rfl, l, _, _, _, rfl, rfl, hq, at_k0, rfl, _, rfl, ?_⟩
      rw [k_join]
      refine iteP rfl ⟨_, rfl, l, _, rfl, .inl hq, rfl, _, rfl, iteP rfl ?_⟩
      refine set_then (i := 2) ⟨_, rfl, l, _, _, _, rfl, rfl, hq, at_k1, TX.S (numL most), most, rfl, tl_S _, by omega, by omega, fun H1 s1 => ?_⟩
      refine ⟨_, rfl, (most : Int), rfl, _, rfl, ?_⟩
      rw [decide_eq_true (by omega)]
      refine iteT ⟨_, rfl, line2.1, fun t ht => ?_⟩
      refine kk t _ (s1.trans (of_upd ht)) ?_
      unfold WP.StepAt
      exact ⟨t, rfl, upd_same⟩
    | tunnel w m t => exact absurd trivial hn
/-- BegunWay.__init__ at a new instance -/
def spBInit (CB CW : Addr) : Sp := fun vs H Q _ => ∃ (x dx : Addr) (o : Option (Nat × M.TW)) (H0 : Hp), vs = [.ref x, outM o, outT o] ∧ H x = some (.ins CB dx []) ∧ H0 x = none ∧ Same H0 H ∧
  ∀ s H', Same H0 H' → H0 s = none → FrAt CB CW H' ⟨o, none, []⟩ x s → Q .non H'
theorem scBi : FnScope ["self", "most", "tells"] ["self", "most", "tells"] (defScope sBInit) := ⟨rfl, rfl, rfl, by decide +kernel, rfl, by decide +kernel, by decide +kernel⟩
theorem ok_binit {f : Addr} {fd : FuncData} (F : Fun K "__init__" "BegunWay.__init__" sBInit f fd) (T : Bt K mg CB) : FnOk P w K mg base CX0 1 f fd ["self", "most", "tells"] (spBInit CB CW) := by
  refine F.ok scBi (fun vs H Q E h => ?_) (fun cdv A outer s H vs Q E hr h => ?_)
  · obtain ⟨x, dx, o, H0, rfl, _⟩ := h
    rfl
  · obtain ⟨x, dx, o, H0, rfl, hx, hx0, s0, kk⟩ := h
    refine ⟨_, pss_cons (ps_fld (pv 0) (pv 1) rfl)
      (pss_cons (ps_fld (pv 0) (pv 2) rfl)
      (pss_cons (ps_fld (pv 0) (pe_non) rfl)
      (pss_one (ps_fld (pv 0) (pe_lst pa_nil) rfl)))), ?_⟩
    have g0 : ([] : List (Str × V)).length < 996 := by decide
    refine ⟨_, rfl, _, rfl, x, CB, dx, _, rfl, hx, T.cl, T.nM, by decide, ?_⟩
    refine ⟨_, rfl, _, rfl, x, CB, dx, _, rfl, upd_same, T.cl, T.nT, Nat.lt_of_lt_of_le (len_put g0) (by decide), ?_⟩
    refine ⟨_, rfl, x, CB, dx, _, rfl, upd_same, T.cl, T.nH, Nat.lt_of_lt_of_le (len_put (len_put g0)) (by decide), ?_⟩
    refine ⟨line2.2.2.2, fun s hs => ?_⟩
    have hxs : x ≠ s := fun z => by
      rw [← z, upd_same] at hs
      cases hs
    refine ⟨_, rfl, x, CB, dx, _, rfl, by rw [upd_ne hxs]; exact upd_same, T.cl, T.nS, Nat.lt_of_lt_of_le (len_put (len_put (len_put g0))) (by decide), ?_⟩
    have q1 := add_upd (o := .ins CB dx (putF "most" (outM o) [])) hx0 s0
    have q2 := add_upd (o := .ins CB dx (putF "tells" (outT o) (putF "most" (outM o) []))) hx0 q1
    have q3 := add_upd (o := .ins CB dx (putF "head" .non (putF "tells" (outT o) (putF "most" (outM o) [])))) hx0 q2
    have hs0 : H0 s = none := q3.free hs
    have q4 := q3.trans (of_upd (o := .lst []) hs)
    refine kk s _ (add_upd hx0 q4) hs0 ⟨dx, [], upd_same, ?_, ?_⟩
    · rw [upd_ne hxs.symm]
      exact upd_same
    · unfold WP.StepsAt
      rfl
/-- Reader.__init__ at a new instance -/
def spRInit (CR CB CW : Addr) : Sp := fun vs H Q _ => ∃ (x dx : Addr) (H0 : Hp), vs = [.ref x] ∧ H x = some (.ins CR dx []) ∧ H0 x = none ∧ Same H0 H ∧
  ∀ H', RdAt CR CB CW H0 H' [⟨none, none, []⟩] 0 x → Q .non H'
theorem scRi : FnScope ["self"] ["self"] (defScope sRInit) := ⟨rfl, rfl, rfl, by decide +kernel, rfl, by decide +kernel, by decide +kernel⟩
theorem ok_rinit {f : Addr} {fd : FuncData} (F : Fun K "__init__" "Reader.__init__" sRInit f fd) (T : Rt K mg CR) (TB : Bt K mg CB) (MB : Mn P w K mg base CB 1 ["self", "most", "tells"] (spBInit CB CW)) : FnOk P w K mg base CX0 3 f fd ["self"] (spRInit CR CB CW) := by
  obtain ⟨fB, fdB, GB, MB, bB⟩ := MB.ex
  have gB := TB.g
  refine F.ok scRi (fun vs H Q E h => ?_) (fun cdv A outer s H vs Q E hr h => ?_)
  · obtain ⟨x, dx, H0, rfl, _⟩ := h
    rfl
  · obtain ⟨x, dx, H0, rfl, hx, hx0, s0, kk⟩ := h
    refine ⟨_, pss_cons (ps_fld (pv 0) (pe_lst (pa_cons (pe_make MB GB (hr.mono (by omega)) rfl gB bB .nil pass0 (pa_cons (pe_non) (pa_cons (pe_non) pa_nil))) pa_nil)) rfl)
      (pss_one (ps_fld (pv 0) (pe_int) rfl)), ?_⟩
    intro a dxa ha hdxa nea
    refine ⟨a, dxa, none, H, rfl, upd_same, ha, (of_upd hdxa).trans (of_upd (by rw [upd_ne nea.symm]; exact ha)), fun s1 H1 g1 hs wa => ⟨rfl, ?_⟩⟩
    refine ⟨line2.2.2.1, fun b hb => ?_⟩
    have hx1 := g1 _ _ hx
    have hxb : x ≠ b := fun z => by
      rw [z, hb] at hx1
      cases hx1
    refine ⟨_, rfl, x, CR, dx, _, rfl, by rw [upd_ne hxb]; exact hx1, T.cl, T.nB, by decide, ?_⟩
    refine ⟨_, rfl, x, CR, dx, _, rfl, upd_same, T.cl, T.nS, Nat.lt_of_lt_of_le (len_put (show ([] : List (Str × V)).length < 998 by decide)) (by decide), ?_⟩
    have xa : x ≠ a := fun z => by
      rw [z, ha] at hx
      cases hx
    obtain ⟨dxa, xs, w1, w2, w3⟩ := wa.ex
    have xs1 : x ≠ s1 := fun z => by
      rw [z, hs] at hx
      cases hx
    have ab : a ≠ b := fun z => by
      rw [z, hb] at w1
      cases w1
    have sb : s1 ≠ b := fun z => by
      rw [z, hb] at w2
      cases w2
    have e0 : xs = [] := by
      unfold WP.StepsAt at w3
      exact w3
    subst e0
    have sm := add_upd (o := .ins CR dx (rf b 0)) hx0 (add_upd (o := .ins CR dx (putF "_begun" (.ref b) [])) hx0 ((s0.trans g1).trans (of_upd (o := .lst [V.ref a]) hb)))
    refine kk _ ⟨dx, b, [(a, s1)], upd_same, ?_, ⟨(a, s1), [], rfl, ⟨dxa, [], ?_, ?_, by unfold WP.StepsAt; rfl⟩, rfl⟩, ?_, ?_, hx0, (s0.trans g1).free hb, ?_, sm⟩
    · rw [upd_ne hxb.symm, upd_ne hxb.symm]
      exact upd_same
    · rw [upd_ne xa.symm, upd_ne xa.symm, upd_ne ab]
      exact w1
    · rw [upd_ne xs1.symm, upd_ne xs1.symm, upd_ne sb]
      exact w2
    · exact List.nodup_cons.mpr ⟨fun z => sb (List.mem_singleton.mp z).symm, List.nodup_cons.mpr ⟨List.not_mem_nil, List.nodup_nil⟩⟩
    · exact List.nodup_cons.mpr ⟨fun z => xa (List.mem_singleton.mp z), List.nodup_cons.mpr ⟨List.not_mem_nil, List.nodup_nil⟩⟩
    · intro p hp
      rw [List.mem_singleton.mp hp]
      exact ⟨s0.free ha, s0.free hs⟩
/-! ### what is read of a reader -/
theorem rd_begun (T : Rt K mg CR) {σ : L2.St} {H0 H : Hp} {Q : VK} {st : List Fr} {n : Nat} {x dx b : Addr} {ps : List (Addr × Addr)} (h0 : σ[0]? = some (some (.ref x))) (h : RdP CR CB CW H0 H st n x dx b ps) (q : Q (.ref b) H) : tFld K (tVar 0) "_begun" σ H Q :=
  ⟨_, h0, x, CR, dx, _, _, rfl, h.hx, T.cl, T.nB, rf_look.1, q⟩
theorem rd_top (T : Rt K mg CR) {σ : L2.St} {H0 H : Hp} {Q : VK} {f : Fr} {r : List Fr} {n : Nat} {x dx b : Addr} {p : Addr × Addr} {ps : List (Addr × Addr)} (h0 : σ[0]? = some (some (.ref x))) (h : RdP CR CB CW H0 H (f :: r) n x dx b (p :: ps)) (q : Q (.ref p.1) H) :
    tOp (rIxL K) (tFld K (tVar 0) "_begun") (tUn (rU fun i => .int (-i)) (tC (.int 1))) σ H Q :=
  rd_begun T h0 h ⟨_, rfl, b, _, _, _, rfl, rfl, SqL.of h.hb, bg_top p ps, q⟩
theorem rd_len (T : Rt K mg CR) {σ : L2.St} {H0 H : Hp} {Q : VK} {st : List Fr} {n : Nat} {x dx b : Addr} {ps : List (Addr × Addr)} (h0 : σ[0]? = some (some (.ref x))) (h : RdP CR CB CW H0 H st n x dx b ps) (q : Q (.int ((st.length : Nat) : Int)) H) :
    tCB (fun zs H Q => ∃ p ys, zs = [.ref p] ∧ (SqL K H p ys ∨ SqT K H p ys) ∧ Q (.int ys.length) H) (tCons (tFld K (tVar 0) "_begun") tNil) σ H Q :=
  rd_begun T h0 h ⟨b, _, rfl, .inl (SqL.of h.hb), by rw [bg_len, h.stk.len]; exact q⟩
theorem stk_cons {H : Hp} {f : Fr} {r : List Fr} {ps : List (Addr × Addr)} (h : StkAt CB CW H (f :: r) ps) : ∃ p qs, ps = p :: qs ∧ FrAt CB CW H f p.1 p.2 ∧ StkAt CB CW H r qs := h
/-- Reader.is_whole -/
def spWhole (CR CB CW : Addr) : Sp := fun vs H Q _ => ∃ (x : Addr) (f : Fr) (r : List Fr) (n : Nat) (H0 : Hp), vs = [.ref x] ∧ RdAt CR CB CW H0 H (f :: r) n x ∧ Q (.bl (decide (0 < f.steps.length))) H
theorem scRw : FnScope ["self"] ["self"] (defScope sRWhole) := ⟨rfl, rfl, rfl, by decide +kernel, rfl, by decide +kernel, by decide +kernel⟩
theorem ok_whole {f : Addr} {fd : FuncData} (F : Fun K "is_whole" "Reader.is_whole" sRWhole f fd) (B : Bn mg) (T : Rt K mg CR) (TB : Bt K mg CB) : FnOk P w K mg base CX0 1 f fd ["self"] (spWhole CR CB CW) := by
  refine F.ok scRw (fun vs H Q E h => ?_) (fun cdv A outer s H vs Q E hr h => ?_)
  · obtain ⟨x, f, r, n, H0, rfl, _⟩ := h
    rfl
  · obtain ⟨x, f, r, n, H0, rfl, ⟨dx, b, ps, h⟩, k⟩ := h
    refine ⟨_, pss_one (ps_ret (pe_cmpR (op_gt) (pe_callB call_len_seq (by rfl) B.len PySem.boot_len (pa_cons (pe_fld (pe_ix ix_list (pe_fld (pv 0) rfl) (pe_un un_neg (pe_int)) (fun _ _ => rfl)) rfl) pa_nil)) (pe_int) (nomark _))), ?_⟩
    obtain ⟨p, qs, rfl, h1, h2⟩ := stk_cons h.stk
    obtain ⟨dxf, xs, w1, w2, w3⟩ := h1.ex
    refine rd_top T rfl h ⟨p.1, CB, dxf, _, _, rfl, w1, TB.cl, TB.nS, bf_look.2.2.2, p.2, xs, rfl, .inl (SqL.of w2), _, _, rfl, rfl, ?_⟩
    rw [w3.len]
    have e : decide ((0 : Int) < ((f.steps.length : Nat) : Int)) = decide (0 < f.steps.length) := decide_eq_decide.mpr (by omega)
    show Q (.bl (decide ((0 : Int) < ((f.steps.length : Nat) : Int)))) H
    rw [e]
    exact k
/-- Reader._level -/
def spLevel (CR CB CW : Addr) : Sp := fun vs H Q _ => ∃ (x : Addr) (l : Str) (f : Fr) (r : List Fr) (n lv : Nat) (c : List Nat) (H0 : Hp), vs = [.ref x, .str l] ∧ RdAt CR CB CW H0 H (f :: r) n x ∧ tl l = indL lv ++ c ∧ (∀ d q, c = d :: q → d ≠ 32) ∧ l.length ≤ 1000 ∧
  lv ≤ r.length ∧ (lv = r.length ∨ f.steps ≠ []) ∧ Q (.int (lv : Int)) H
theorem scRl : FnScope ["self", "line", "spaces", "level", "inmost"] ["self", "line"] (defScope sRLevel) := ⟨rfl, rfl, rfl, by decide +kernel, rfl, by decide +kernel, by decide +kernel⟩
theorem ok_level {f : Addr} {fd : FuncData} (F : Fun K "_level" "Reader._level" sRLevel f fd) (B : Bn mg) (T : Rt K mg CR) (gI : ∃ t, mg "INDENTATION" = some (.str "  " t)) (MW : Mr P w K mg base CR 1 "is_whole" ["self"] (spWhole CR CB CW)) : FnOk P w K mg base CX0 2 f fd ["self", "line"] (spLevel CR CB CW) := by
  obtain ⟨fW, fdW, GW, mW, bW⟩ := MW.ex
  obtain ⟨tI, gI⟩ := gI
  refine F.ok scRl (fun vs H Q E h => ?_) (fun cdv A outer s H vs Q E hr h => ?_)
  · obtain ⟨x, l, f, r, n, lv, c, H0, rfl, _⟩ := h
    rfl
  · obtain ⟨x, l, f, r, n, lv, c, H0, rfl, ⟨dx, b, ps, h⟩, hl, hc, l1, v1, v2, k⟩ := h
    refine ⟨_, pss_cons (ps_set (i := 2) scRl.nd rfl (Or.inl rfl) (pe_op (op_sub) (pe_callB call_len_str (by rfl) B.len PySem.boot_len (pa_cons (pv 1) pa_nil)) (pe_callB call_len_str (by rfl) B.len PySem.boot_len (pa_cons (pe_bm PySem.F.plainAttrs_str PySem.F.slot_str_lstrip PySem.F.type_str_lstrip mt_lstripChars (pv 1) (pa_cons (pe_str) pa_nil)) pa_nil))))
      (pss_cons (ps_set (i := 3) scRl.nd rfl (Or.inl rfl) (pe_op (op_fdiv) (pv 2) (pe_callB call_len_str (by rfl) B.len PySem.boot_len (pa_cons (pe_glob (v := .str "  ") rfl gI ⟨_, rfl⟩) pa_nil))))
      (pss_cons (ps_set (i := 4) scRl.nd rfl (Or.inl rfl) (pe_op (op_sub) (pe_callB call_len_seq (by rfl) B.len PySem.boot_len (pa_cons (pe_fld (pv 0) rfl) pa_nil)) (pe_int)))
      (pss_cons (ps_if (PW.pt (pw_or (pt_cmpR (op_ne) (pv 2) (pe_op (op_mul) (pv 3) (pe_callB call_len_str (by rfl) B.len PySem.boot_len (pa_cons (pe_glob (v := .str "  ") rfl gI ⟨_, rfl⟩) pa_nil))) (nomark _)) (pw_or1 (pt_cmpR (op_gt) (pv 3) (pv 4) (nomark _))))) (pss_one (ps_ret (pe_non))) (pss_nil))
      (pss_one (ps_ret (pe_ifExp (PW.pt (pw_or (pt_cmpR (op_eq) (pv 3) (pv 4) (nomark _)) (pw_or1 (pt_val (pe_meth0 (pv 0) T.cl mW GW (hr.mono (by omega)) bW .nil pass0))))) (pv 3) (pe_non))))))), ?_⟩
    have big : ∀ {n : Nat}, n ≤ 1000 → n ≤ sizeLine := fun h => Nat.le_of_lt (small1000 h)
    have ll : l.length = 2 * lv + c.length := by rw [len_tl, hl]; unfold indL; simp
    have lc : (TX.S c).length = c.length := S_len c
    have l2 : ("  " : Str).length = 2 := by rw [len_tl, k_ind, tl_S]; rfl
    refine set_then (i := 2) ⟨_, rfl, l, rfl, big l1, _, rfl, rfl, l, _, rfl, rfl, big l1, ?_⟩
    rw [strip_ind hl hc]
    refine ⟨_, rfl, by rw [lc]; exact big (by omega), _, _, rfl, rfl, ?_⟩
    dsimp only
    rw [lc, show ((l.length : Nat) : Int) - ((c.length : Nat) : Int) = ((2 * lv : Nat) : Int) by omega]
    refine set_then (i := 3) ⟨_, rfl, _, rfl, by decide +kernel, _, _, rfl, rfl, ?_, ?_⟩
    · rw [l2]
      exact ⟨by decide, by decide⟩
    dsimp only
    rw [l2, show ((2 * lv : Nat) : Int) / ((2 : Nat) : Int) = (lv : Int) by omega]
    have hst := h.stk
    obtain ⟨p, qs, rfl, g1, g2⟩ := stk_cons hst
    refine set_then (i := 4) (rd_len T rfl h ⟨_, _, rfl, rfl, ?_⟩)
    dsimp only
    rw [show (((f :: r).length : Nat) : Int) - 1 = ((r.length : Nat) : Int) by rw [List.length_cons]; omega]
    refine ⟨_, rfl, _, rfl, _, rfl, by decide +kernel, _, _, rfl, rfl, ?_, rfl, _, rfl, ?_⟩
    · exact .inl ⟨by omega, by omega⟩
    rw [l2]
    refine iteNS (congrArg V.int (show ((2 * lv : Nat) : Int) = (lv : Int) * ((2 : Nat) : Int) by omega)) ?_
    refine ⟨_, rfl, _, rfl, _, _, rfl, rfl, _, rfl, ?_⟩
    rw [decide_eq_false (show ¬ (lv : Int) > ((r.length : Nat) : Int) by omega)]
    refine iteF ⟨_, rfl, _, rfl, rfl, _, rfl, ite2 (fun c2 => ⟨_, rfl, k⟩) fun c2 => ?_⟩
    have ne : lv ≠ r.length := fun z => c2 (decide_eq_true (by rw [z]))
    rcases v2 with e | e
    · exact absurd e ne
    refine ⟨_, rfl, x, dx, _, rfl, h.hx, rf_no (by decide +kernel) (by decide +kernel), x, f, r, n, H0, rfl, ⟨dx, b, p :: qs, h⟩, _, rfl, ?_⟩
    rw [decide_eq_true (List.length_pos_iff.mpr e)]
    exact iteT ⟨_, rfl, k⟩
end
end CP

end
section
set_option autoImplicit false
set_option Elab.async false
set_option linter.all false
set_option maxRecDepth 100000
set_option maxHeartbeats 4000000
/-! ## a reader's methods that change it -/
namespace CP
open PySem L2 G Y
open TL TX
abbrev sRHead : Stmt := inClass (S.top 39) 5
abbrev sRTun : Stmt := inClass (S.top 39) 7
abbrev sREnd : Stmt := inClass (S.top 39) 8
section
variable {CR CB CW : Addr}
theorem frs_ne {H0 H : Hp} {st : List Fr} {n : Nat} {x dx b : Addr} {p : Addr × Addr} {ps : List (Addr × Addr)} (h : RdP CR CB CW H0 H st n x dx b (p :: ps)) : ∀ q ∈ ps, q.1 ≠ p.1 ∧ q.2 ≠ p.2 := fun q hq => by
  have a := List.nodup_cons.mp (List.nodup_cons.mp h.nf).2
  have c := List.nodup_cons.mp (List.nodup_cons.mp h.nd).2
  exact ⟨fun z => a.1 (z ▸ List.mem_map.mpr ⟨q, hq, rfl⟩), fun z => c.1 (z ▸ List.mem_map.mpr ⟨q, hq, rfl⟩)⟩
/-- the top's object is written -/
theorem rd_obj (n1 : CW ≠ CB) (n2 : CW ≠ CR) {H0 H : Hp} {f g : Fr} {r : List Fr} {n : Nat} {x dx b dxf : Addr} {p : Addr × Addr} {ps : List (Addr × Addr)} (h : RdP CR CB CW H0 H (f :: r) n x dx b (p :: ps)) (e : g.out = f.out) (e2 : g.steps = f.steps)
    (hp : ∃ fs, H p.1 = some (.ins CB dxf fs)) : RdP CR CB CW H0 (upd H p.1 (.ins CB dxf (bf g.out (hdV g.head) p.2))) (g :: r) n x dx b (p :: ps) := by
  obtain ⟨fs, hp⟩ := hp
  obtain ⟨a1, a2⟩ := h.apart
  obtain ⟨c1, c2, c3, c4, c5⟩ := a2 p List.mem_cons_self
  obtain ⟨p', qs, e0, g1, g2⟩ := stk_cons h.stk
  cases e0
  obtain ⟨dxg, xs, w1, w2, w3⟩ := g1.ex
  have kp : KeepW CB CR H (upd H p.1 (.ins CB dxf (bf g.out (hdV g.head) p.2))) := keepW_b hp
  refine ⟨by rw [upd_ne c4.symm]; exact h.hx, by rw [upd_ne c1.symm]; exact h.hb, ⟨p, ps, rfl, ⟨dxf, xs, upd_same, ?_, ?_⟩, g2.move n1 n2 kp fun q hq => ⟨upd_ne (frs_ne h q hq).1, upd_ne (c5 q (List.mem_cons_of_mem _ hq)).symm⟩⟩, h.nd, h.nf, h.fx, h.fb, h.fp, add_upd (h.fp p List.mem_cons_self).1 h.sm⟩
  · rw [upd_ne (c5 p List.mem_cons_self).symm]
    exact w2
  · rw [e2]
    exact steps_keepW n1 n2 kp w3
/-- a step behind the top's steps -/
theorem rd_put (n1 : CW ≠ CB) (n2 : CW ≠ CR) {H0 H : Hp} {f : Fr} {r : List Fr} {n : Nat} {x dx b : Addr} {p : Addr × Addr} {ps : List (Addr × Addr)} {xs : List V} {s : M.Step} {v : V} (h : RdP CR CB CW H0 H (f :: r) n x dx b (p :: ps)) (hl : H p.2 = some (.lst xs)) (hs : WP.StepAt CW H s v) :
    RdP CR CB CW H0 (upd H p.2 (.lst (xs ++ [v]))) ({ f with steps := f.steps ++ [s] } :: r) n x dx b (p :: ps) := by
  obtain ⟨a1, a2⟩ := h.apart
  obtain ⟨c1, c2, c3, c4, c5⟩ := a2 p List.mem_cons_self
  obtain ⟨p', qs, e0, g1, g2⟩ := stk_cons h.stk
  cases e0
  obtain ⟨dxg, ys, w1, w2, w3⟩ := g1.ex
  rw [hl] at w2
  cases w2
  have kp : KeepW CB CR H (upd H p.2 (.lst (xs ++ [v]))) := keepW_lst hl
  refine ⟨by rw [upd_ne c2.symm]; exact h.hx, by rw [upd_ne c3.symm]; exact h.hb, ⟨p, ps, rfl, ⟨dxg, xs ++ [v], ?_, upd_same, (steps_keepW n1 n2 kp w3).snoc (step_keepW n1 n2 kp hs)⟩, g2.move n1 n2 kp fun q hq => ⟨upd_ne ?_, upd_ne (frs_ne h q hq).2⟩⟩, h.nd, h.nf, h.fx, h.fb, h.fp, add_upd (h.fp p List.mem_cons_self).2 h.sm⟩
  · rw [upd_ne (c5 p List.mem_cons_self)]
    exact w1
  · exact (a2 q (List.mem_cons_of_mem _ hq)).2.2.2.2 p List.mem_cons_self
theorem rd_size (n1 : CW ≠ CB) (n2 : CW ≠ CR) {H0 H : Hp} {st : List Fr} {n m : Nat} {x dx b : Addr} {ps : List (Addr × Addr)} (h : RdP CR CB CW H0 H st n x dx b ps) : RdP CR CB CW H0 (upd H x (.ins CR dx (rf b (m : Int)))) st m x dx b ps := by
  obtain ⟨a1, a2⟩ := h.apart
  refine ⟨upd_same, by rw [upd_ne a1]; exact h.hb, h.stk.move n1 n2 (keepW_r h.hx) fun q hq => ⟨upd_ne (a2 q hq).2.2.2.1, upd_ne (a2 q hq).2.1⟩, h.nd, h.nf, h.fx, h.fb, h.fp, add_upd h.fx h.sm⟩
/-- a new way on the stack -/
theorem rd_push (n1 : CW ≠ CB) (n2 : CW ≠ CR) {H0 H : Hp} {st : List Fr} {g : Fr} {n : Nat} {x dx b a s : Addr} {ps : List (Addr × Addr)} (h : RdP CR CB CW H0 H st n x dx b ps) (hg : FrAt CB CW H g a s) (na : H0 a = none) (ns : H0 s = none)
    (fa : a ∉ ps.map Prod.fst) (fs : s ∉ ps.map Prod.snd) (hsb : s ≠ b) (hax : a ≠ x) : RdP CR CB CW H0 (upd H b (.lst (bgV ps ++ [.ref a]))) (g :: st) n x dx b ((a, s) :: ps) := by
  obtain ⟨a1, a2⟩ := h.apart
  obtain ⟨dxg, xs, w1, w2, w3⟩ := hg.ex
  have kp : KeepW CB CR H (upd H b (.lst (bgV ps ++ [.ref a]))) := keepW_lst h.hb
  have ab : a ≠ b := fun z => by rw [z, h.hb] at w1; cases w1
  have sx : s ≠ x := fun z => by rw [z, h.hx] at w2; cases w2
  have sb : s ≠ b := fun z => hsb z
  have ax : a ≠ x := fun z => hax z
  refine ⟨by rw [upd_ne a1.symm]; exact h.hx, by rw [upd_same, bg_cons], ⟨(a, s), ps, rfl, ⟨dxg, xs, by rw [upd_ne ab]; exact w1, by rw [upd_ne sb]; exact w2, steps_keepW n1 n2 kp w3⟩, h.stk.move n1 n2 kp fun q hq => ⟨upd_ne (a2 q hq).1, upd_ne (a2 q hq).2.2.1⟩⟩, ?_, ?_, h.fx, h.fb, fun q hq => ?_, add_upd h.fb h.sm⟩
  · have d := List.nodup_cons.mp h.nd
    refine List.nodup_cons.mpr ⟨fun z => ?_, List.nodup_cons.mpr ⟨fs, d.2⟩⟩
    rcases List.mem_cons.mp z with e | e
    · exact sb e.symm
    · exact d.1 e
  · have d := List.nodup_cons.mp h.nf
    refine List.nodup_cons.mpr ⟨fun z => ?_, List.nodup_cons.mpr ⟨fa, d.2⟩⟩
    rcases List.mem_cons.mp z with e | e
    · exact ax e.symm
    · exact d.1 e
  · rcases List.mem_cons.mp hq with e | e
    · rw [e]
      exact ⟨na, ns⟩
    · exact h.fp q e
theorem bg_last (p : Addr × Addr) (ps : List (Addr × Addr)) : (bgV (p :: ps))[(bgV (p :: ps)).length - 1]? = some (.ref p.1) ∧ (bgV (p :: ps)).dropLast = bgV ps := by
  rw [bg_cons]
  refine ⟨by simp, by simp⟩
theorem rd_pop (n1 : CW ≠ CB) (n2 : CW ≠ CR) {H0 H : Hp} {f : Fr} {r : List Fr} {n : Nat} {x dx b : Addr} {p : Addr × Addr} {ps : List (Addr × Addr)} (h : RdP CR CB CW H0 H (f :: r) n x dx b (p :: ps)) : RdP CR CB CW H0 (upd H b (.lst (bgV ps))) r n x dx b ps := by
  obtain ⟨a1, a2⟩ := h.apart
  obtain ⟨p', qs, e0, g1, g2⟩ := stk_cons h.stk
  cases e0
  have c := List.nodup_cons.mp h.nf
  have d := List.nodup_cons.mp h.nd
  refine ⟨by rw [upd_ne a1.symm]; exact h.hx, upd_same, g2.move n1 n2 (keepW_lst h.hb) fun q hq => ⟨upd_ne (a2 q (List.mem_cons_of_mem _ hq)).1, upd_ne (a2 q (List.mem_cons_of_mem _ hq)).2.2.1⟩, ?_, ?_, h.fx, h.fb, fun q hq => h.fp q (List.mem_cons_of_mem _ hq), add_upd h.fb h.sm⟩
  · exact List.nodup_cons.mpr ⟨fun z => d.1 (List.mem_cons_of_mem _ z), (List.nodup_cons.mp d.2).2⟩
  · exact List.nodup_cons.mpr ⟨fun z => c.1 (List.mem_cons_of_mem _ z), (List.nodup_cons.mp c.2).2⟩
end
section
variable {P : Program} {w : World} {K : PySem.W.Frag} {mg : Str → Option Value} {base : Heap} {CR CB CW : Addr}
def spTHead (CR CB CW : Addr) : Sp := fun vs H Q _ => ∃ (x l : Addr) (f : Fr) (r : List Fr) (n h : Nat) (H0 : Hp), vs = [.ref x, .ref l] ∧ RdAt CR CB CW H0 H (f :: r) n x ∧ H l = some (.lst (sv (headW h))) ∧ 1 ≤ h ∧ h ≤ 40 ∧ ∀ H', RdAt CR CB CW H0 H' ({ f with head := some h } :: r) n x → Q (.bl true) H'
theorem scRh : FnScope ["self", "words", "begun"] ["self", "words"] (defScope sRHead) := ⟨rfl, rfl, rfl, by decide +kernel, rfl, by decide +kernel, by decide +kernel⟩
theorem ok_thead (n1 : CW ≠ CB) (n2 : CW ≠ CR) {f : Addr} {fd : FuncData} (F : Fun K "_takes_head" "Reader._takes_head" sRHead f fd) (B : Bn mg) (T : Rt K mg CR) (TB : Bt K mg CB) (DW : Df P w K mg base 1 "written_integer" ["word"] spWritten) (DH : Df P w K mg base 3 "is_head" ["value"] (WP.spIn1 1 40)) : FnOk P w K mg base CX0 4 f fd ["self", "words"] (spTHead CR CB CW) := by
  obtain ⟨fW, fdW, GW, gW, kW, bW⟩ := DW.ex
  obtain ⟨fH, fdH, GH, gH, kH, bH⟩ := DH.ex
  refine F.ok scRh (fun vs H Q E h => ?_) (fun cdv A outer s H vs Q E hr h => ?_)
  · obtain ⟨x, l, f, r, n, h, H0, rfl, _⟩ := h
    rfl
  · obtain ⟨x, l, f, r, n, h, H0, rfl, ⟨dx, b, ps, hR⟩, hl, h1, h2, k⟩ := h
    refine ⟨_, pss_cons (ps_if (PW.pt (pw_or (pt_cmpR (op_ne) (pe_callB call_len_seq (by rfl) B.len PySem.boot_len (pa_cons (pv 1) pa_nil)) (pe_int) (nomark _)) (pw_or (pt_cmpR (op_ne) (pe_ix ix_list (pv 1) (pe_int) (fun _ _ => rfl)) (pe_str) (nomark _)) (pw_or1 (pt_not (pt_val (pe_call GH (hr.mono (by omega)) rfl gH kH bH .nil pass0 (pa_cons (pe_call GW (hr.mono (by omega)) rfl gW kW bW .nil pass0 (pa_cons (pe_ix ix_list (pv 1) (pe_int) (fun _ _ => rfl)) pa_nil)) pa_nil)))))))) (pss_one (ps_ret (pe_bl))) (pss_nil))
      (pss_cons (ps_set (i := 2) scRh.nd rfl (Or.inl rfl) (pe_ix ix_list (pe_fld (pv 0) rfl) (pe_un un_neg (pe_int)) (fun _ _ => rfl)))
      (pss_cons (ps_fld (pv 2) (pe_call GW (hr.mono (by omega)) rfl gW kW bW .nil pass0 (pa_cons (pe_ix ix_list (pv 1) (pe_int) (fun _ _ => rfl)) pa_nil)) rfl)
      (pss_one (ps_ret (pe_bl))))), ?_⟩
    have hq := SqL.of (K := K) hl
    refine ⟨_, rfl, l, _, rfl, .inl hq, rfl, _, rfl, iteNS rfl ?_⟩
    refine ⟨_, rfl, l, _, _, _, rfl, rfl, hq, at_k0, rfl, _, rfl, ?_⟩
    refine iteNS (congrArg V.str k_head.symm) ⟨_, rfl, l, _, _, _, rfl, rfl, hq, at_k1, TX.S (numL h), h, rfl, tl_S _, h1, by omega, fun H1 s1 => ?_⟩
    refine ⟨(h : Int), rfl, _, rfl, ?_⟩
    rw [decide_eq_true (by omega)]
    refine iteF ?_
    have hR1 := hR.same s1
    obtain ⟨p, qs, rfl, g1, g2⟩ := stk_cons hR1.stk
    refine set_then (i := 2) (rd_top T rfl hR1 ?_)
    refine ⟨_, rfl, l, _, _, _, rfl, rfl, SqL.of (K := K) (s1 _ _ hl), at_k1, TX.S (numL h), h, rfl, tl_S _, h1, by omega, fun H2 s2 => ?_⟩
    have hR2 := hR1.same s2
    obtain ⟨p', qs', e0, g1', g2'⟩ := stk_cons hR2.stk
    cases e0
    obtain ⟨dxf, xs, w1, w2, w3⟩ := g1'.ex
    refine ⟨_, rfl, p.1, CB, dxf, _, rfl, w1, TB.cl, TB.nH, bf_len _ _ _, ?_⟩
    rw [bf_head]
    exact k _ ⟨dx, b, p :: qs, rd_obj n1 n2 (g := { f with head := some h }) hR2 rfl rfl ⟨_, w1⟩⟩
/-- Reader._end_inner -/
def spREnd (CR CB CW : Addr) : Sp := fun vs H Q _ => ∃ (x : Addr) (c a : Fr) (r : List Fr) (n h m : Nat) (t : M.TW) (H0 : Hp), vs = [.ref x] ∧ RdAt CR CB CW H0 H (c :: a :: r) n x ∧ c.out = some (m, t) ∧ c.head = some h ∧ M.Way.fine (.mk h c.steps) ∧ a.steps.length ≤ 100 ∧
  ∀ H', RdAt CR CB CW H0 H' ({ a with steps := a.steps ++ [.tunnel (.mk h c.steps) m t] } :: r) n x → Q .non H'
theorem scRe : FnScope ["self", "inner", "around"] ["self"] (defScope sREnd) := ⟨rfl, rfl, rfl, by decide +kernel, rfl, by decide +kernel, by decide +kernel⟩
theorem ok_rend (n1 : CW ≠ CB) (n2 : CW ≠ CR) {f : Addr} {fd : FuncData} (F : Fun K "_end_inner" "Reader._end_inner" sREnd f fd) (T : Rt K mg CR) (TB : Bt K mg CB) (TW : WP.Wt K mg CW) (MW : WP.Mw P w K mg base CW) : FnOk P w K mg base CX0 8 f fd ["self"] (spREnd CR CB CW) := by
  obtain ⟨fI, fdI, GI, MI, bI⟩ := MW.ex
  have gI := TW.g
  refine F.ok scRe (fun vs H Q E h => ?_) (fun cdv A outer s H vs Q E hr h => ?_)
  · obtain ⟨x, c, a, r, n, h, m, t, H0, rfl, _⟩ := h
    rfl
  · obtain ⟨x, c, a, r, n, h, m, t, H0, rfl, ⟨dx, b, ps, hR⟩, e1, e2, hf, la, k⟩ := h
    refine ⟨_, pss_cons (ps_set (i := 1) scRe.nd rfl (Or.inl rfl) (pe_bm0 PySem.F.plainAttrs_list PySem.F.slot_list_pop PySem.F.type_list_pop mt_pop (pe_fld (pv 0) rfl)))
      (pss_cons (ps_set (i := 2) scRe.nd rfl (Or.inl rfl) (pe_ix ix_list (pe_fld (pv 0) rfl) (pe_un un_neg (pe_int)) (fun _ _ => rfl)))
      (pss_one (ps_expr (pe_bm PySem.F.plainAttrs_list PySem.F.slot_list_append PySem.F.type_list_append mt_append (pe_fld (pv 2) rfl) (pa_cons (pe_tup (pa_cons (pe_str) (pa_cons (pe_make MI GI (hr.mono (by omega)) rfl gI bI .nil pass0 (pa_cons (pe_fld (pv 1) rfl) (pa_cons (pe_fld (pv 1) rfl) pa_nil))) (pa_cons (pe_fld (pv 1) rfl) (pa_cons (pe_fld (pv 1) rfl) pa_nil))))) pa_nil))))), ?_⟩
    obtain ⟨p, qs, rfl, g1, g2⟩ := stk_cons hR.stk
    obtain ⟨p2, qs2, rfl, g3, g4⟩ := stk_cons g2
    obtain ⟨dxf, xs, w1, w2, w3⟩ := g1.ex
    obtain ⟨a1, a2⟩ := hR.apart
    obtain ⟨c1, c2, c3, c4, c5⟩ := a2 p List.mem_cons_self
    refine set_then (i := 1) (rd_begun T rfl hR ⟨.inl ⟨rfl, _, SqL.of hR.hb⟩, b, _, .ref p.1, rfl, rfl, hR.hb, (bg_last p _).1, ?_⟩)
    rw [(bg_last p _).2]
    have kp : KeepW CB CR H (upd H b (.lst (bgV (p2 :: qs2)))) := keepW_lst hR.hb
    have hP := rd_pop n1 n2 hR
    have v1 : upd H b (.lst (bgV (p2 :: qs2))) p.1 = some (.ins CB dxf (bf c.out (hdV c.head) p.2)) := by rw [upd_ne c1]; exact w1
    have v2 : upd H b (.lst (bgV (p2 :: qs2))) p.2 = some (.lst xs) := by rw [upd_ne c3]; exact w2
    have v3 := steps_keepW n1 n2 kp w3
    generalize upd H b (.lst (bgV (p2 :: qs2))) = H1 at hP v1 v2 v3 ⊢
    refine set_then (i := 2) (rd_top T rfl hP ?_)
    obtain ⟨p3, qs3, e3, g5, g6⟩ := stk_cons hP.stk
    cases e3
    obtain ⟨dx2, ys, u1, u2, u3⟩ := g5.ex
    rw [e1, e2] at v1
    refine ⟨_, rfl, p2.1, CB, dx2, _, _, rfl, u1, TB.cl, TB.nS, bf_look.2.2.2, .inl ⟨rfl, _, SqL.of u2⟩, ?_⟩
    refine ⟨_, rfl, p.1, CB, dxf, _, _, rfl, v1, TB.cl, TB.nH, bf_look.2.2.1, _, rfl, p.1, CB, dxf, _, _, rfl, v1, TB.cl, TB.nS, bf_look.2.2.2, ?_⟩
    intro y dy hy hdy ne
    refine ⟨y, p.2, dy, h, xs, c.steps, H1, rfl, upd_same, hy, (of_upd hdy).trans (of_upd (by rw [upd_ne ne.symm]; exact hy)), .inl v2, v3, hf, fun H2 s2 wa => ⟨rfl, ?_⟩⟩
    have v1' := s2 _ _ v1
    refine ⟨_, rfl, p.1, CB, dxf, _, _, rfl, v1', TB.cl, TB.nM, bf_look.1, _, rfl, p.1, CB, dxf, _, _, rfl, v1', TB.cl, TB.nT, bf_look.2.1, (by show 4 ≤ sizeLine; decide), fun u hu => ?_⟩
    have s3 := s2.trans (of_upd (o := .tup [.str "tunnel", .ref y, .int (m : Int), .str (WP.twS t)]) hu)
    have hS : WP.StepAt CW (upd H2 u (.tup [.str "tunnel", .ref y, .int (m : Int), .str (WP.twS t)])) (.tunnel (.mk h c.steps) m t) (.ref u) := by
      unfold WP.StepAt
      exact ⟨u, y, rfl, upd_same, wa.mono (of_upd hu)⟩
    refine ⟨p2.2, ys, _, rfl, rfl, s3 _ _ u2, small1000 (by rw [u3.len]; omega), ?_⟩
    exact k _ ⟨dx, b, p2 :: qs2, rd_put n1 n2 (hP.same s3) (s3 _ _ u2) hS⟩
/-- Reader._takes_tunnel -/
def spRTun (CR CB CW : Addr) : Sp := fun vs H Q _ => ∃ (x l : Addr) (st : List Fr) (n m : Nat) (t : M.TW) (H0 : Hp), vs = [.ref x, .ref l] ∧ RdAt CR CB CW H0 H st n x ∧ H l = some (.lst (sv [cTun, numL m, TX.tw t])) ∧ 1 ≤ m ∧ m ≤ 1000000000000 ∧ st.length ≤ 2 ∧ n < 40 ∧
  ∀ H', RdAt CR CB CW H0 H' (⟨some (m, t), none, []⟩ :: st) n x → Q (.bl true) H'
theorem scRu : FnScope ["self", "words"] ["self", "words"] (defScope sRTun) := ⟨rfl, rfl, rfl, by decide +kernel, rfl, by decide +kernel, by decide +kernel⟩
theorem ok_rtun (n1 : CW ≠ CB) (n2 : CW ≠ CR) {f : Addr} {fd : FuncData} (F : Fun K "_takes_tunnel" "Reader._takes_tunnel" sRTun f fd) (B : Bn mg) (T : Rt K mg CR) (TB : Bt K mg CB) (TW : WP.Wt K mg CW) (DW : Df P w K mg base 1 "written_integer" ["word"] spWritten) (DM : Df P w K mg base 3 "is_most" ["value"] (WP.spIn1 1 1000000000000)) (DT : Df P w K mg base 1 "is_tells" ["value"] WP.spTells) (MB : Mn P w K mg base CB 1 ["self", "most", "tells"] (spBInit CB CW)) : FnOk P w K mg base CX0 4 f fd ["self", "words"] (spRTun CR CB CW) := by
  obtain ⟨fW, fdW, GW, gW, kW, bW⟩ := DW.ex
  obtain ⟨fM, fdM, GM, gM, kM, bM⟩ := DM.ex
  obtain ⟨fT, fdT, GT, gT, kT, bT⟩ := DT.ex
  obtain ⟨fB, fdB, GB, MB, bB⟩ := MB.ex
  have gB := TB.g
  obtain ⟨t1, q1⟩ := TW.gDepth
  obtain ⟨t2, q2⟩ := TW.gSize
  refine F.ok scRu (fun vs H Q E h => ?_) (fun cdv A outer s H vs Q E hr h => ?_)
  · obtain ⟨x, l, st, n, m, t, H0, rfl, _⟩ := h
    rfl
  · obtain ⟨x, l, st, n, m, t, H0, rfl, ⟨dx, b, ps, hR⟩, hl, h1, h2, hd, hn, k⟩ := h
    refine ⟨_, pss_cons (ps_if (PW.pt (pw_or (pt_cmpR (op_ne) (pe_callB call_len_seq (by rfl) B.len PySem.boot_len (pa_cons (pv 1) pa_nil)) (pe_int) (nomark _)) (pw_or (pt_not (pt_val (pe_call GM (hr.mono (by omega)) rfl gM kM bM .nil pass0 (pa_cons (pe_call GW (hr.mono (by omega)) rfl gW kW bW .nil pass0 (pa_cons (pe_ix ix_list (pv 1) (pe_int) (fun _ _ => rfl)) pa_nil)) pa_nil)))) (pw_or1 (pt_not (pt_val (pe_call GT (hr.mono (by omega)) rfl gT kT bT .nil pass0 (pa_cons (pe_ix ix_list (pv 1) (pe_int) (fun _ _ => rfl)) pa_nil)))))))) (pss_one (ps_ret (pe_bl))) (pss_nil))
      (pss_cons (ps_expr (pe_bm PySem.F.plainAttrs_list PySem.F.slot_list_append PySem.F.type_list_append mt_append (pe_fld (pv 0) rfl) (pa_cons (pe_make MB GB (hr.mono (by omega)) rfl gB bB .nil pass0 (pa_cons (pe_call GW (hr.mono (by omega)) rfl gW kW bW .nil pass0 (pa_cons (pe_ix ix_list (pv 1) (pe_int) (fun _ _ => rfl)) pa_nil)) (pa_cons (pe_ix ix_list (pv 1) (pe_int) (fun _ _ => rfl)) pa_nil))) pa_nil)))
      (pss_one (ps_ret (pe_and (pe_cmpR (op_le) (pe_callB call_len_seq (by rfl) B.len PySem.boot_len (pa_cons (pe_fld (pv 0) rfl) pa_nil)) (pe_glob (v := .int 3) rfl q1 ⟨_, rfl⟩) (nomark _)) (pe_one (pe_cmpR (op_lt) (pe_fld (pv 0) rfl) (pe_glob (v := .int 40) rfl q2 ⟨_, rfl⟩) (nomark _))))))), ?_⟩
    have hq := SqL.of (K := K) hl
    refine ⟨_, rfl, l, _, rfl, .inl hq, rfl, _, rfl, iteNS rfl ?_⟩
    refine ⟨_, rfl, l, _, _, _, rfl, rfl, hq, at_k1, TX.S (numL m), m, rfl, tl_S _, h1, by omega, fun H1 s1 => ?_⟩
    refine ⟨(m : Int), rfl, _, rfl, ?_⟩
    rw [decide_eq_true (by omega)]
    refine iteF ?_
    refine ⟨_, rfl, l, _, _, _, rfl, rfl, SqL.of (s1 _ _ hl), at_k2, t, ?_, _, rfl, iteF ?_⟩
    · rw [k_tw]
      rfl
    have hR1 := hR.same s1
    refine ⟨_, rfl, x, CR, dx, _, _, rfl, hR1.hx, T.cl, T.nB, rf_look.1, .inl ⟨rfl, _, SqL.of hR1.hb⟩, ?_⟩
    refine ⟨_, rfl, l, _, _, _, rfl, rfl, SqL.of (s1 _ _ hl), at_k1, TX.S (numL m), m, rfl, tl_S _, h1, by omega, fun H2 s2 => ?_⟩
    have s12 := s1.trans s2
    refine ⟨_, rfl, l, _, _, _, rfl, rfl, SqL.of (s12 _ _ hl), at_k2, ?_⟩
    intro a dxa ha hdxa nea
    refine ⟨a, dxa, some (m, t), H2, ?_, upd_same, ha, (of_upd hdxa).trans (of_upd (by rw [upd_ne nea.symm]; exact ha)), fun s1' H3 g1 hs wa => ⟨rfl, ?_⟩⟩
    · show _ = [V.ref a, .int (m : Int), .str (WP.twS t)]
      rw [k_tw]
      rfl
    have hR2 := hR.same s12
    have hR3 := hR2.same g1
    have nin : ∀ {y : Addr}, H2 y = none → ∀ p ∈ ps, p.1 ≠ y ∧ p.2 ≠ y := fun {y} hy p hp => by
      have kd : ∀ {st : List Fr} {ps : List (Addr × Addr)}, StkAt CB CW H2 st ps → ∀ p ∈ ps, p.1 ≠ y ∧ p.2 ≠ y := fun {st} => by
        induction st with
        | nil =>
          intro ps h p hp
          have e : ps = [] := h
          rw [e] at hp
          cases hp
        | cons f r ih =>
          intro ps h p hp
          obtain ⟨q, qs, rfl, h1, h2⟩ := h
          rcases List.mem_cons.mp hp with e | e
          · rw [e]
            obtain ⟨dx, xs, a1, a2, _⟩ := h1.ex
            exact ⟨(fun z => by rw [z, hy] at a1; cases a1), (fun z => by rw [z, hy] at a2; cases a2)⟩
          · exact ih h2 p e
      exact kd hR2.stk p hp
    have ll := hR3.stk.len
    refine ⟨b, _, _, rfl, rfl, hR3.hb, small1000 (by rw [bg_len]; omega), ?_⟩
    have hR4 := rd_push n1 n2 hR3 wa (hR2.sm.free ha) (hR2.sm.free hs) (fun z => by
      obtain ⟨p, hp, e⟩ := List.mem_map.mp z
      exact (nin ha p hp).1 e) (fun z => by
      obtain ⟨p, hp, e⟩ := List.mem_map.mp z
      exact (nin hs p hp).2 e) (fun z => by
      have := hR2.hb
      rw [← z, hs] at this
      cases this) (fun z => by
      have := hR2.hx
      rw [← z, ha] at this
      cases this)
    generalize upd H3 b (.lst (bgV ps ++ [V.ref a])) = H4 at hR4 ⊢
    refine ⟨_, rfl, x, CR, dx, _, _, rfl, hR4.hx, T.cl, T.nB, rf_look.1, b, _, rfl, .inl (SqL.of hR4.hb), _, _, rfl, rfl, _, rfl, ?_⟩
    rw [decide_eq_true (show (((bgV ((a, s1') :: ps)).length : Nat) : Int) ≤ 3 by rw [bg_len, List.length_cons]; omega)]
    refine iteT ⟨_, rfl, x, CR, dx, _, _, rfl, hR4.hx, T.cl, T.nS, rf_look.2, _, _, rfl, rfl, ?_⟩
    show Q (.bl (decide ((n : Int) < 40))) H4
    rw [decide_eq_true (by omega)]
    exact k H4 ⟨dx, b, _, hR4⟩
end
end CP

end
section
set_option autoImplicit false
set_option Elab.async false
set_option linter.all false
set_option maxRecDepth 100000
set_option maxHeartbeats 4000000
/-! ## a line is taken; the way that was read -/
namespace TX
theorem Closes.le {lv : Nat} {st st' : List Fr} (c : Closes lv st st') : lv + 1 ≤ st.length := by
  induction c with
  | done h => omega
  | close h _ _ _ _ ih =>
    rw [List.length_cons, List.length_cons] at h ⊢
    omega
theorem Closes.few {lv : Nat} {g f : Fr} {r r2 : List Fr} (c : Closes lv (g :: r) (f :: r2)) (h : f.steps.length ≤ 12) : g.steps.length ≤ 12 := by
  cases c with
  | done _ => omega
  | close _ _ _ hf _ =>
    unfold M.Way.fine at hf
    exact hf.2.1.2
end TX
namespace CP
open PySem L2 G Y
open TL TX
abbrev sRStep : Stmt := inClass (S.top 39) 6
abbrev sRTakes : Stmt := inClass (S.top 39) 1
abbrev sRWay : Stmt := inClass (S.top 39) 3
section
variable {CR CB CW : Addr}
/-- something more that stays -/
theorem RdAt.more {H0 H : Hp} {st : List Fr} {n : Nat} {x l : Addr} {o : HO} (h : RdAt CR CB CW H0 H st n x) (hl : H l = none) : RdAt CR CB CW (upd H0 l o) (upd H l o) st n x := by
  obtain ⟨dx, b, ps, h⟩ := h
  have kd : ∀ {st : List Fr} {ps : List (Addr × Addr)}, StkAt CB CW H st ps → ∀ p ∈ ps, p.1 ≠ l ∧ p.2 ≠ l := fun {st} => by
    induction st with
    | nil =>
      intro ps h p hp
      have e : ps = [] := h
      rw [e] at hp
      cases hp
    | cons f r ih =>
      intro ps h p hp
      obtain ⟨q, qs, rfl, h1, h2⟩ := h
      rcases List.mem_cons.mp hp with e | e
      · rw [e]
        obtain ⟨dx, xs, a1, a2, _⟩ := h1.ex
        exact ⟨(fun z => by rw [z, hl] at a1; cases a1), (fun z => by rw [z, hl] at a2; cases a2)⟩
      · exact ih h2 p e
  have k := kd h.stk
  have xl : x ≠ l := fun z => by
    have := h.hx
    rw [z, hl] at this
    cases this
  have bl : b ≠ l := fun z => by
    have := h.hb
    rw [z, hl] at this
    cases this
  have s := of_upd (o := o) hl
  refine ⟨dx, b, ps, s _ _ h.hx, s _ _ h.hb, h.stk.same s, h.nd, h.nf, by rw [upd_ne xl]; exact h.fx, by rw [upd_ne bl]; exact h.fb, fun p hp => ⟨by rw [upd_ne (k p hp).1]; exact (h.fp p hp).1, by rw [upd_ne (k p hp).2]; exact (h.fp p hp).2⟩, fun a u e => ?_⟩
  by_cases z : a = l
  · subst z
    rw [upd_same] at e ⊢
    exact e
  · rw [upd_ne z] at e ⊢
    exact h.sm a u e
theorem RdAt.less {H0 H1 H : Hp} {st : List Fr} {n : Nat} {x : Addr} (s : Same H0 H1) (h : RdAt CR CB CW H1 H st n x) : RdAt CR CB CW H0 H st n x := by
  obtain ⟨dx, b, ps, h⟩ := h
  exact ⟨dx, b, ps, h.hx, h.hb, h.stk, h.nd, h.nf, s.free h.fx, s.free h.fb, fun p hp => ⟨s.free (h.fp p hp).1, s.free (h.fp p hp).2⟩, s.trans h.sm⟩
theorem RdAt.sm {H0 H : Hp} {st : List Fr} {n : Nat} {x : Addr} (h : RdAt CR CB CW H0 H st n x) : Same H0 H := by
  obtain ⟨dx, b, ps, h⟩ := h
  exact h.sm
theorem RdAt.ins {H0 H : Hp} {st : List Fr} {n : Nat} {x : Addr} (h : RdAt CR CB CW H0 H st n x) : ∃ dx b, H x = some (.ins CR dx (rf b (n : Int))) := by
  obtain ⟨dx, b, ps, h⟩ := h
  exact ⟨dx, b, h.hx⟩
end
section
variable {P : Program} {w : World} {K : PySem.W.Frag} {mg : Str → Option Value} {base : Heap} {CR CB CW : Addr}
def spRStep (CR CB CW : Addr) : Sp := fun vs H Q _ => ∃ (x l : Addr) (f : Fr) (r : List Fr) (n : Nat) (li : Li) (H0 : Hp), vs = [.ref x, .ref l] ∧ RdAt CR CB CW H0 H (f :: r) n x ∧ H l = some (.lst (sv (liW li))) ∧ H0 l = some (.lst (sv (liW li))) ∧ f.steps.length < 12 ∧
  ((∃ s h, li = .plain s ∧ f.head = some h ∧ ¬ isTun s ∧ s.fine h ∧ n < 40 ∧ ∀ H', RdAt CR CB CW H0 H' ({ f with steps := f.steps ++ [s] } :: r) (n + 1) x → Q (.bl true) H') ∨
   (∃ m t, li = .tun m t ∧ 1 ≤ m ∧ m ≤ 1000000000000 ∧ n + 1 < 40 ∧ r.length + 2 ≤ 3 ∧ ∀ H', RdAt CR CB CW H0 H' (⟨some (m, t), none, []⟩ :: f :: r) (n + 1) x → Q (.bl true) H'))
theorem scRs : FnScope ["self", "words", "begun", "step"] ["self", "words"] (defScope sRStep) := ⟨rfl, rfl, rfl, by decide +kernel, rfl, by decide +kernel, by decide +kernel⟩
theorem ok_rstep (n1 : CW ≠ CB) (n2 : CW ≠ CR) {f : Addr} {fd : FuncData} (F : Fun K "_takes_step" "Reader._takes_step" sRStep f fd) (B : Bn mg) (T : Rt K mg CR) (TB : Bt K mg CB) (TW : WP.Wt K mg CW) (DS : Df P w K mg base 4 "_step" ["words", "head"] (spTStep CW)) (MU : Mr P w K mg base CR 4 "_takes_tunnel" ["self", "words"] (spRTun CR CB CW)) : FnOk P w K mg base CX0 5 f fd ["self", "words"] (spRStep CR CB CW) := by
  obtain ⟨fS, fdS, GS, gS, kS, bS⟩ := DS.ex
  obtain ⟨fU, fdU, GU, mU, bU⟩ := MU.ex
  obtain ⟨t1, q1⟩ := TW.gSteps
  obtain ⟨t2, q2⟩ := TW.gSize
  refine F.ok scRs (fun vs H Q E h => ?_) (fun cdv A outer s H vs Q E hr h => ?_)
  · obtain ⟨x, l, f, r, n, li, H0, rfl, _⟩ := h
    rfl
  · obtain ⟨x, l, f, r, n, li, H0, rfl, ⟨dx, b, ps, hR⟩, hl, hl0, h12, hh⟩ := h
    refine ⟨_, pss_cons (ps_set (i := 2) scRs.nd rfl (Or.inl rfl) (pe_ix ix_list (pe_fld (pv 0) rfl) (pe_un un_neg (pe_int)) (fun _ _ => rfl)))
      (pss_cons (ps_if (PW.pt (pw_or (pt_cmpR (op_eq) (pe_callB call_len_seq (by rfl) B.len PySem.boot_len (pa_cons (pe_fld (pv 2) rfl) pa_nil)) (pe_glob (v := .int 12) rfl q1 ⟨_, rfl⟩) (nomark _)) (pw_or1 (pt_cmpR (op_eq) (pe_fld (pv 0) rfl) (pe_glob (v := .int 40) rfl q2 ⟨_, rfl⟩) (nomark _))))) (pss_one (ps_ret (pe_bl))) (pss_nil))
      (pss_cons (ps_fld (pv 0) (pe_op (op_add) (pe_fld (pv 0) rfl) (pe_int)) rfl)
      (pss_cons (ps_if (pt_cmpR (op_eq) (pe_ix ix_list (pv 1) (pe_int) (fun _ _ => rfl)) (pe_str) (nomark _)) (pss_one (ps_ret (pe_meth (pv 0) T.cl mU GU (hr.mono (by omega)) bU .nil pass0 (pa_cons (pv 1) pa_nil)))) (pss_nil))
      (pss_cons (ps_set (i := 3) scRs.nd rfl (Or.inl rfl) (pe_call GS (hr.mono (by omega)) rfl gS kS bS .nil pass0 (pa_cons (pv 1) (pa_cons (pe_fld (pv 2) rfl) pa_nil))))
      (pss_cons (ps_if (pt_cmpR (op_isN) (pv 3) (pe_non) (nomark _)) (pss_one (ps_ret (pe_bl))) (pss_nil))
      (pss_cons (ps_expr (pe_bm PySem.F.plainAttrs_list PySem.F.slot_list_append PySem.F.type_list_append mt_append (pe_fld (pv 2) rfl) (pa_cons (pv 3) pa_nil)))
      (pss_one (ps_ret (pe_bl))))))))), ?_⟩
    obtain ⟨p, qs, rfl, g1, g2⟩ := stk_cons hR.stk
    obtain ⟨dxf, xs, w1, w2, w3⟩ := g1.ex
    have n40 : n < 40 := by
      rcases hh with ⟨_, _, _, _, _, _, h, _⟩ | ⟨_, _, _, _, _, h, _⟩ <;> omega
    refine set_then (i := 2) (rd_top T rfl hR ?_)
    refine ⟨_, rfl, p.1, CB, dxf, _, _, rfl, w1, TB.cl, TB.nS, bf_look.2.2.2, p.2, xs, rfl, .inl (SqL.of w2), rfl, _, rfl, iteN (fun z => ?_) ?_⟩
    · have z := V.int.inj z
      rw [w3.len] at z
      omega
    refine ⟨_, rfl, x, CR, dx, _, _, rfl, hR.hx, T.cl, T.nS, rf_look.2, rfl, _, rfl, iteN (fun z => ?_) ?_⟩
    · have z := V.int.inj z
      omega
    refine ⟨_, rfl, x, CR, dx, _, _, rfl, hR.hx, T.cl, T.nS, rf_look.2, _, _, rfl, rfl, _, rfl, x, CR, dx, _, rfl, hR.hx, T.cl, T.nS, rf_len _ _, ?_⟩
    rw [rf_size]
    have hR2 := rd_size (m := n + 1) n1 n2 hR
    change RdP CR CB CW H0 (upd H x (.ins CR dx (rf b ((n : Int) + 1)))) (f :: r) (n + 1) x dx b (p :: qs) at hR2
    generalize upd H x (.ins CR dx (rf b ((n : Int) + 1))) = H1 at hR2 ⊢
    have hl1 := hR2.sm _ _ hl0
    have hq := SqL.of (K := K) hl1
    rcases hh with ⟨st, h, rfl, hh, nt, hf, _, k⟩ | ⟨m, t, rfl, m1, m2, hn, hr2, k⟩
    · have first : ∃ c rest, liW (.plain st) = c :: rest ∧ c ≠ cTun := by
        cases st with
        | road _ _ _ => exact ⟨_, _, rfl, by decide⟩
        | join _ => exact ⟨_, _, rfl, by decide⟩
        | tunnel _ _ _ => exact absurd trivial nt
      obtain ⟨c0, rest, ef, nc⟩ := first
      have hq0 : SqL K H1 l (V.str (TX.S c0) :: sv rest) := by
        rw [ef] at hq
        exact hq
      refine ⟨_, rfl, l, _, _, _, rfl, rfl, hq0, at_k0, rfl, _, rfl, iteN (fun z => S_ne nc (z.trans (congrArg V.str k_tun))) ?_⟩
      obtain ⟨p', qs', e0, g1', g2'⟩ := stk_cons hR2.stk
      cases e0
      obtain ⟨dxf2, xs2, v1, v2, v3⟩ := g1'.ex
      rw [hh] at v1
      unfold tNext
      dsimp only
      refine set_then (i := 3) ⟨_, rfl, _, rfl, p.1, CB, dxf2, _, _, rfl, v1, TB.cl, TB.nH, bf_look.2.2.1, l, h, st, rfl, hl1, nt, hf, fun t2 H2 s2 hS => ?_⟩
      refine ⟨_, rfl, rfl, _, rfl, iteN (fun z => by cases z) ?_⟩
      have hR3 := hR2.same s2
      refine ⟨_, rfl, p.1, CB, dxf2, _, _, rfl, s2 _ _ v1, TB.cl, TB.nS, bf_look.2.2.2, .inl ⟨rfl, _, SqL.of (s2 _ _ v2)⟩, _, rfl, p.2, xs2, _, rfl, rfl, s2 _ _ v2, small1000 (by rw [v3.len]; omega), ?_⟩
      exact k _ ⟨dx, b, p :: qs, rd_put n1 n2 hR3 (s2 _ _ v2) hS⟩
    · have hq0 : SqL K H1 l (V.str (TX.S cTun) :: sv [numL m, TX.tw t]) := hq
      refine ⟨_, rfl, l, _, _, _, rfl, rfl, hq0, at_k0, rfl, _, rfl, iteP (congrArg V.str k_tun.symm) ?_⟩
      exact ⟨_, rfl, x, dx, _, rfl, hR2.hx, rf_no (by decide +kernel) (by decide +kernel), _, rfl, x, l, f :: r, n + 1, m, t, H0, rfl, ⟨dx, b, _, hR2⟩, hl1, m1, m2, by rw [List.length_cons]; omega, hn, k⟩
/-- Reader.takes -/
def spTakes (CR CB CW : Addr) : Sp := fun vs H Q _ => ∃ (x : Addr) (st st' : List Fr) (n n' lv : Nat) (li : Li) (H0 : Hp), vs = [.ref x, .str (TX.S (lineOf (lv, li)))] ∧ RdAt CR CB CW H0 H st n x ∧ Feed (st, n) (lv, li) (st', n') ∧ (∀ v ∈ liW li, Wd v) ∧ lv ≤ 3 ∧ ∀ H', RdAt CR CB CW H0 H' st' n' x → Q (.bl true) H'
theorem scTk : FnScope ["self", "line", "level", "words"] ["self", "line"] (defScope sRTakes) := ⟨rfl, rfl, rfl, by decide +kernel, rfl, by decide +kernel, by decide +kernel⟩
theorem li_few (li : Li) : ∃ c r, liW li = c :: r ∧ (liW li).length ≤ 4 := by
  cases li with
  | head h => exact ⟨_, _, rfl, by show 2 ≤ 4; decide⟩
  | plain s =>
    cases s with
    | road _ _ _ => exact ⟨_, _, rfl, by show 4 ≤ 4; decide⟩
    | join _ => exact ⟨_, _, rfl, by show 2 ≤ 4; decide⟩
    | tunnel _ _ _ => exact ⟨_, _, rfl, by show 3 ≤ 4; decide⟩
  | tun m t => exact ⟨_, _, rfl, by show 3 ≤ 4; decide⟩
theorem wd_first {ws : List (List Nat)} (h : ∀ v ∈ ws, Wd v) : ∀ d q, wd ws = d :: q → d ≠ 32 := fun d q e => by
  cases ws with
  | nil => cases e
  | cons a r =>
    have ha := h a List.mem_cons_self
    obtain ⟨c, a', rfl⟩ := List.exists_cons_of_ne_nil ha.ne
    have hc := (ha.sp c List.mem_cons_self).1
    cases r with
    | nil =>
      have e : c :: a' = d :: q := e
      cases e
      exact hc
    | cons b r =>
      have e : c :: a' ++ ([32] ++ joinL [32] (b :: r)) = d :: q := e
      have e := (List.cons.inj e).1
      rw [← e]
      exact hc
theorem ok_takes (n1 : CW ≠ CB) (n2 : CW ≠ CR) {f : Addr} {fd : FuncData} (F : Fun K "takes" "Reader.takes" sRTakes f fd) (B : Bn mg) (T : Rt K mg CR) (TB : Bt K mg CB) (gI : ∃ t, mg "INDENTATION" = some (.str "  " t)) (ML : Mr P w K mg base CR 2 "_level" ["self", "line"] (spLevel CR CB CW))
    (MH : Mr P w K mg base CR 4 "_takes_head" ["self", "words"] (spTHead CR CB CW)) (ME : Mr P w K mg base CR 8 "_end_inner" ["self"] (spREnd CR CB CW)) (MS : Mr P w K mg base CR 5 "_takes_step" ["self", "words"] (spRStep CR CB CW)) : FnOk P w K mg base CX0 9 f fd ["self", "line"] (spTakes CR CB CW) := by
  obtain ⟨fL, fdL, GL, mL, bL⟩ := ML.ex
  obtain ⟨fH, fdH, GH, mH, bH⟩ := MH.ex
  obtain ⟨fE, fdE, GE, mE, bE⟩ := ME.ex
  obtain ⟨fS, fdS, GS, mS, bS⟩ := MS.ex
  obtain ⟨tI, gI⟩ := gI
  refine F.ok scTk (fun vs H Q E h => ?_) (fun cdv A outer s H vs Q E hr h => ?_)
  · obtain ⟨x, st, st', n, n', lv, li, H0, rfl, _⟩ := h
    rfl
  · obtain ⟨x, st, st', n, n', lv, li, H0, rfl, hR, hF, hw, l3, k⟩ := h
    refine ⟨_, pss_cons (ps_set (i := 2) scTk.nd rfl (Or.inl rfl) (pe_meth (pv 0) T.cl mL GL (hr.mono (by omega)) bL .nil pass0 (pa_cons (pv 1) pa_nil)))
      (pss_cons (ps_if (pt_cmpR (op_isN) (pv 2) (pe_non) (nomark _)) (pss_one (ps_ret (pe_bl))) (pss_nil))
      (pss_cons (ps_set (i := 3) scTk.nd rfl (Or.inl rfl) (pe_split (pe_slice sl_str (pv 1) (po_some (pe_op (op_mul) (pv 2) (pe_callB call_len_str (by rfl) B.len PySem.boot_len (pa_cons (pe_glob (v := .str "  ") rfl gI ⟨_, rfl⟩) pa_nil)))) po_none) (pe_str)))
      (pss_cons (ps_if (pt_cmpR (op_isN) (pe_fld (pe_ix ix_list (pe_fld (pv 0) rfl) (pe_un un_neg (pe_int)) (fun _ _ => rfl)) rfl) (pe_non) (nomark _)) (pss_one (ps_ret (pe_meth (pv 0) T.cl mH GH (hr.mono (by omega)) bH .nil pass0 (pa_cons (pv 3) pa_nil)))) (pss_nil))
      (pss_cons (ps_while PassesOwn.never (pt_cmpR (op_gt) (pe_callB call_len_seq (by rfl) B.len PySem.boot_len (pa_cons (pe_fld (pv 0) rfl) pa_nil)) (pe_op (op_add) (pv 2) (pe_int)) (nomark _)) (pss_one (ps_expr (pe_meth0 (pv 0) T.cl mE GE (hr.mono (by omega)) bE .nil pass0))))
      (pss_one (ps_ret (pe_meth (pv 0) T.cl mS GS (hr.mono (by omega)) bS .nil pass0 (pa_cons (pv 3) pa_nil)))))))), ?_⟩
    obtain ⟨w0, wr, ew, l4⟩ := li_few li
    have big : ∀ {n : Nat}, n ≤ 1000 → n ≤ sizeLine := fun h => Nat.le_of_lt (small1000 h)
    have wl56 := (ln_wd hw l4).1
    have ind : (indL lv).length = 2 * lv := by unfold indL; simp
    have ll : (TX.S (lineOf (lv, li))).length = 2 * lv + (wd (liW li)).length := by
      rw [S_len]
      show (indL lv ++ wd (liW li)).length = _
      rw [List.length_append, ind]
    have l2 : ("  " : Str).length = 2 := by rw [len_tl, k_ind, tl_S]; rfl
    -- the stack as the level sees it
    obtain ⟨b0, q0, rfl, v1, v2⟩ : ∃ b0 q0, st = b0 :: q0 ∧ lv ≤ q0.length ∧ (lv = q0.length ∨ b0.steps ≠ []) := by
      cases hF with
      | head h1 h2 h3 => exact ⟨_, _, rfl, Nat.le_refl _, .inl rfl⟩
      | plain hr _ _ _ _ _ _ =>
        obtain ⟨b0, q0, e, _, h2⟩ := hr.top
        have := hr.cl.le
        rw [e, List.length_cons] at this
        refine ⟨b0, q0, e, by omega, ?_⟩
        rcases h2 with h2 | h2
        · exact .inr h2
        · rw [e, List.length_cons] at h2
          exact .inl (by omega)
      | tun hr _ _ _ _ _ =>
        obtain ⟨b0, q0, e, _, h2⟩ := hr.top
        have := hr.cl.le
        rw [e, List.length_cons] at this
        refine ⟨b0, q0, e, by omega, ?_⟩
        rcases h2 with h2 | h2
        · exact .inr h2
        · rw [e, List.length_cons] at h2
          exact .inl (by omega)
    obtain ⟨dx0, bb0, hx0⟩ := hR.ins
    refine set_then (i := 2) ⟨_, rfl, x, dx0, _, rfl, hx0, rf_no (by decide +kernel) (by decide +kernel), _, rfl, x, _, b0, q0, n, lv, wd (liW li), H0, rfl, hR, tl_S _, wd_first hw, by rw [ll]; omega, v1, v2, ?_⟩
    refine ⟨_, rfl, rfl, _, rfl, iteN (fun z => by cases z) ?_⟩
    unfold tNext
    dsimp only
    refine set_then (i := 3) ⟨_, rfl, _, rfl, _, rfl, by rw [l2]; decide, _, _, rfl, rfl, .inl ⟨by omega, by omega⟩, _, rfl, ?_⟩
    dsimp only [tNoPart]
    have lS : (TX.S (lineOf (lv, li))).length ≤ 100 := by rw [ll]; omega
    have cut : cutS (TX.S (lineOf (lv, li))) (some ((lv : Int) * ((("  " : Str).length : Nat) : Int))) none = TX.S (wd (liW li)) := by
      rw [l2, show (lv : Int) * ((2 : Nat) : Int) = ((2 * lv : Nat) : Int) by omega]
      exact cut_ind (k := 2 * lv) (by rw [tl_S]; rfl)
    refine ⟨_, rfl, big (by omega), ⟨_, rfl⟩, _, _, rfl, rfl, by decide +kernel, ?_, fun l hl => ?_⟩
    · rw [cut, S_len]
      exact big (by omega)
    rw [cut, k_sp, split_wd hw (by rw [ew]; simp), ← sv_strs]
    have hRl := hR.more (o := .lst (sv (liW li))) hl
    have sH0 : Same H0 (upd H0 l (.lst (sv (liW li)))) := of_upd (by
      cases z : H0 l with
      | none => rfl
      | some o =>
        have := hR.sm _ _ z
        rw [hl] at this
        cases this)
    have e0 : upd H0 l (.lst (sv (liW li))) l = some (.lst (sv (liW li))) := upd_same
    generalize upd H0 l (.lst (sv (liW li))) = H2 at hRl sH0 e0
    have el : upd H l (.lst (sv (liW li))) l = some (.lst (sv (liW li))) := upd_same
    generalize upd H l (.lst (sv (liW li))) = H1 at hRl el ⊢
    have hRp := hRl
    obtain ⟨dx, b, ps, hP⟩ := hRp
    obtain ⟨p, qs, rfl, g1, g2⟩ := stk_cons hP.stk
    obtain ⟨dxf, xs, w1, w2, w3⟩ := g1.ex
    refine ⟨_, rfl, x, CR, dx, _, _, rfl, hP.hx, T.cl, T.nB, rf_look.1, _, rfl, b, _, _, _, rfl, rfl, SqL.of hP.hb, bg_top p qs, p.1, CB, dxf, _, _, rfl, w1, TB.cl, TB.nH, bf_look.2.2.1, rfl, _, rfl, ?_⟩
    have two : (∃ h, li = .head h ∧ lv = q0.length ∧ b0.head = none ∧ 1 ≤ h ∧ h ≤ 40 ∧ ∀ H', RdAt CR CB CW H2 H' ({ b0 with head := some h } :: q0) n x → Q (.bl true) H') ∨
        ∃ (f : Fr) (r : List Fr), (∃ h, b0.head = some h) ∧ Closes lv (b0 :: q0) (f :: r) ∧ f.steps.length < 12 ∧ ((∃ s h, li = .plain s ∧ f.head = some h ∧ ¬ isTun s ∧ s.fine h ∧ n < 40 ∧ ∀ H', RdAt CR CB CW H2 H' ({ f with steps := f.steps ++ [s] } :: r) (n + 1) x → Q (.bl true) H') ∨
          (∃ m t, li = .tun m t ∧ 1 ≤ m ∧ m ≤ 1000000000000 ∧ n + 1 < 40 ∧ r.length + 2 ≤ 3 ∧ ∀ H', RdAt CR CB CW H2 H' (⟨some (m, t), none, []⟩ :: f :: r) (n + 1) x → Q (.bl true) H')) := by
      cases hF with
      | head h1 h2 h3 => exact .inl ⟨_, rfl, rfl, h1, h2, h3, fun H' hR' => k H' (hR'.less sH0)⟩
      | plain hr hh nt hf h40 hl hn =>
        obtain ⟨b1, q1, e, ht, _⟩ := hr.top
        cases e
        exact .inr ⟨_, _, ht, hr.cl, hl, .inl ⟨_, _, rfl, hh, nt, hf, hn, fun H' hR' => k H' (hR'.less sH0)⟩⟩
      | tun hr m1 m2 hl hn hr2 =>
        obtain ⟨b1, q1, e, ht, _⟩ := hr.top
        cases e
        exact .inr ⟨_, _, ht, hr.cl, hl, .inr ⟨_, _, rfl, m1, m2, hn, hr2, fun H' hR' => k H' (hR'.less sH0)⟩⟩
    rcases two with ⟨h, rfl, _, hn, h1, h2, kk⟩ | ⟨f, r, ⟨h0, hh0⟩, cl, l12, kk⟩
    · refine iteP (by rw [hn]; rfl) ?_
      exact ⟨_, rfl, x, dx, _, rfl, hP.hx, rf_no (by decide +kernel) (by decide +kernel), _, rfl, x, l, b0, q0, n, h, H2, rfl, ⟨dx, b, _, hP⟩, el, h1, h2, kk⟩
    refine iteN (fun z => by rw [hh0] at z; cases z) ?_
    dsimp only
    refine ⟨fun m σ G => ∃ st, m = st.length ∧ RdAt CR CB CW H2 G st n x ∧ Closes lv st (f :: r) ∧ σ = [some (.ref x), some (.str (TX.S (lineOf (lv, li)))), some (.int (lv : Int)), some (.ref l)], ⟨_, b0 :: q0, rfl, hRl, cl, rfl⟩, ?_⟩
    rintro m σ G ⟨st, rfl, ⟨dx, b, ps, hP⟩, cl, rfl⟩
    refine ⟨_, rfl, x, CR, dx, _, _, rfl, hP.hx, T.cl, T.nB, rf_look.1, b, _, rfl, .inl (SqL.of hP.hb), _, rfl, _, _, rfl, rfl, _, _, rfl, rfl, _, rfl, ?_⟩
    rw [bg_len, hP.stk.len]
    cases cl with
    | done hl =>
      have hl2 : r.length = lv := by
        rw [List.length_cons] at hl
        omega
      rw [decide_eq_false (by rw [List.length_cons, hl2]; omega)]
      refine iteF ?_
      exact ⟨_, rfl, x, dx, _, rfl, hP.hx, rf_no (by decide +kernel) (by decide +kernel), _, rfl, x, l, f, r, n, li, H2, rfl, ⟨dx, b, _, hP⟩, hP.sm _ _ e0, e0, l12, kk⟩
    | @close c a r2 st2 h m t hl o1 o2 o3 cl =>
      rw [decide_eq_true (by omega)]
      refine iteT ⟨fun σ' G' => (∃ st, st.length = (a :: r2).length ∧ RdAt CR CB CW H2 G' st n x ∧ Closes lv st (f :: r)) ∧ σ' = [some (.ref x), some (.str (TX.S (lineOf (lv, li)))), some (.int (lv : Int)), some (.ref l)], fun σ' G' ⟨⟨st, e, h1, h2⟩, h3⟩ => ⟨_, by rw [List.length_cons]; exact Nat.lt_succ_self _, st, e.symm, h1, h2, h3⟩, ?_⟩
      refine ⟨_, rfl, x, dx, _, rfl, hP.hx, rf_no (by decide +kernel) (by decide +kernel), x, c, a, r2, n, h, m, t, H2, rfl, ⟨dx, b, _, hP⟩, o1, o2, o3, ?_, fun G' hR' => ⟨⟨{ a with steps := a.steps ++ [.tunnel (.mk h c.steps) m t] } :: r2, rfl, hR', cl⟩, rfl⟩⟩
      have := cl.few (Nat.le_of_lt l12)
      rw [List.length_append] at this
      omega
end
end CP

end
section
set_option autoImplicit false
set_option Elab.async false
set_option linter.all false
set_option maxRecDepth 100000
set_option maxHeartbeats 4000000
/-! ## the way that was read; read_way -/
namespace CP
open PySem L2 G Y
open TL TX
abbrev sRead : Stmt := S.top 36
section
variable {P : Program} {w : World} {K : PySem.W.Frag} {mg : Str → Option Value} {base : Heap} {CR CB CW : Addr}
def spRWay (CR CB CW : Addr) : Sp := fun vs H Q _ => ∃ (x : Addr) (st : List Fr) (f : Fr) (n h : Nat) (H0 : Hp), vs = [.ref x] ∧ RdAt CR CB CW H0 H st n x ∧ Closes 0 st [f] ∧ f.head = some h ∧ M.Way.fine (.mk h f.steps) ∧ ∀ a H', Same H0 H' → WP.WayAt CW H' (.mk h f.steps) a → Q (.ref a) H'
theorem scRy : FnScope ["self"] ["self"] (defScope sRWay) := ⟨rfl, rfl, rfl, by decide +kernel, rfl, by decide +kernel, by decide +kernel⟩
theorem ok_rway {f : Addr} {fd : FuncData} (F : Fun K "way" "Reader.way" sRWay f fd) (B : Bn mg) (T : Rt K mg CR) (TB : Bt K mg CB) (TW : WP.Wt K mg CW) (ME : Mr P w K mg base CR 8 "_end_inner" ["self"] (spREnd CR CB CW)) (MW : WP.Mw P w K mg base CW) : FnOk P w K mg base CX0 9 f fd ["self"] (spRWay CR CB CW) := by
  obtain ⟨fE, fdE, GE, mE, bE⟩ := ME.ex
  obtain ⟨fI, fdI, GI, MI, bI⟩ := MW.ex
  have gI := TW.g
  refine F.ok scRy (fun vs H Q E h => ?_) (fun cdv A outer s H vs Q E hr h => ?_)
  · obtain ⟨x, st, f, n, h, H0, rfl, _⟩ := h
    rfl
  · obtain ⟨x, st, f, n, h, H0, rfl, hR, cl, hh, hf, k⟩ := h
    refine ⟨_, pss_cons (ps_while PassesOwn.never (pt_cmpR (op_gt) (pe_callB call_len_seq (by rfl) B.len PySem.boot_len (pa_cons (pe_fld (pv 0) rfl) pa_nil)) (pe_int) (nomark _)) (pss_one (ps_expr (pe_meth0 (pv 0) T.cl mE GE (hr.mono (by omega)) bE .nil pass0))))
      (pss_one (ps_ret (pe_make MI GI (hr.mono (by omega)) rfl gI bI .nil pass0 (pa_cons (pe_fld (pe_ix ix_list (pe_fld (pv 0) rfl) (pe_int) (fun _ _ => rfl)) rfl) (pa_cons (pe_fld (pe_ix ix_list (pe_fld (pv 0) rfl) (pe_int) (fun _ _ => rfl)) rfl) pa_nil))))), ?_⟩
    have f12 : f.steps.length ≤ 12 := by
      have := hf
      unfold M.Way.fine at this
      exact this.2.1.2
    refine ⟨fun m σ G => ∃ st, m = st.length ∧ RdAt CR CB CW H0 G st n x ∧ Closes 0 st [f] ∧ σ = [some (.ref x)], ⟨_, st, rfl, hR, cl, rfl⟩, ?_⟩
    rintro m σ G ⟨st, rfl, ⟨dx, b, ps, hP⟩, cl, rfl⟩
    refine ⟨_, rfl, x, CR, dx, _, _, rfl, hP.hx, T.cl, T.nB, rf_look.1, b, _, rfl, .inl (SqL.of hP.hb), _, _, rfl, rfl, _, rfl, ?_⟩
    rw [bg_len, hP.stk.len]
    cases cl with
    | done hl =>
      refine iteF ?_
      obtain ⟨p, qs, rfl, g1, g2⟩ := stk_cons hP.stk
      have e0 : qs = [] := g2
      subst e0
      obtain ⟨dxf, xs, w1, w2, w3⟩ := g1.ex
      rw [hh] at w1
      have t0 : bgV [p] = [V.ref p.1] := rfl
      have hb : SqL K G b [V.ref p.1] := SqL.of hP.hb
      refine ⟨_, rfl, x, CR, dx, _, _, rfl, hP.hx, T.cl, T.nB, rf_look.1, b, _, _, _, rfl, rfl, hb, at_k0, p.1, CB, dxf, _, _, rfl, w1, TB.cl, TB.nH, bf_look.2.2.1, ?_⟩
      refine ⟨_, rfl, x, CR, dx, _, _, rfl, hP.hx, T.cl, T.nB, rf_look.1, b, _, _, _, rfl, rfl, hb, at_k0, p.1, CB, dxf, _, _, rfl, w1, TB.cl, TB.nS, bf_look.2.2.2, ?_⟩
      intro y dy hy hdy ne
      exact ⟨y, p.2, dy, h, xs, f.steps, G, rfl, upd_same, hy, (of_upd hdy).trans (of_upd (by rw [upd_ne ne.symm]; exact hy)), .inl w2, w3, hf, fun H2 s2 wa => ⟨rfl, k y H2 (hP.sm.trans s2) wa⟩⟩
    | @close c a r2 st2 h2 m t hl o1 o2 o3 cl =>
      rw [decide_eq_true (by omega)]
      refine iteT ⟨fun σ' G' => (∃ st, st.length = (a :: r2).length ∧ RdAt CR CB CW H0 G' st n x ∧ Closes 0 st [f]) ∧ σ' = [some (.ref x)], fun σ' G' ⟨⟨st, e, h1, h2⟩, h3⟩ => ⟨_, by rw [List.length_cons]; exact Nat.lt_succ_self _, st, e.symm, h1, h2, h3⟩, ?_⟩
      refine ⟨_, rfl, x, dx, _, rfl, hP.hx, rf_no (by decide +kernel) (by decide +kernel), x, c, a, r2, n, h2, m, t, H0, rfl, ⟨dx, b, _, hP⟩, o1, o2, o3, ?_, fun G' hR' => ⟨⟨{ a with steps := a.steps ++ [.tunnel (.mk h2 c.steps) m t] } :: r2, rfl, hR', cl⟩, rfl⟩⟩
      have := cl.few f12
      rw [List.length_append] at this
      omega
def spRead (CW : Addr) : Sp := fun vs H Q _ => ∃ wy : M.Way, vs = [.str (TX.S (text wy))] ∧ wy.fine ∧ ∀ a H', Same H H' → WP.WayAt CW H' wy a → Q (.ref a) H'
theorem scRd : FnScope ["text", "lines", "reader", "at", "line"] ["text"] (defScope sRead) := ⟨rfl, rfl, rfl, by decide +kernel, rfl, by decide +kernel, by decide +kernel⟩
mutual
theorem wl_all : ∀ (w : M.Way) (lv : Nat), w.fine → lv + w.depth ≤ 3 → ∀ x ∈ wl lv w, (∀ v ∈ liW x.2, Wd v) ∧ x.1 ≤ 3
  | .mk h s, lv, hf, hd, x, hx => by
    unfold M.Way.fine at hf
    unfold M.Way.depth at hd
    unfold wl at hx
    rcases List.mem_cons.mp hx with e | e
    · rw [e]
      exact ⟨headW_wd hf.1.2, by show lv ≤ 3; omega⟩
    · exact sls_all s lv h hf.2.2.1 (by omega) x e
theorem sls_all : ∀ (s : List M.Step) (lv h : Nat), M.Step.fineAll h s → lv + 1 + M.Step.deepest s ≤ 3 → ∀ x ∈ sls lv s, (∀ v ∈ liW x.2, Wd v) ∧ x.1 ≤ 3
  | [], lv, h, _, _, x, hx => by
    unfold sls at hx
    cases hx
  | y :: r, lv, h, hf, hd, x, hx => by
    unfold M.Step.fineAll at hf
    rw [M.deep_cons] at hd
    unfold sls at hx
    rcases List.mem_append.mp hx with e | e
    · exact sl_all y lv h hf.1 (by omega) x e
    · exact sls_all r lv h hf.2 (by omega) x e
theorem sl_all : ∀ (y : M.Step) (lv h : Nat), y.fine h → lv + 1 + y.dep ≤ 3 → ∀ x ∈ sl lv y, (∀ v ∈ liW x.2, Wd v) ∧ x.1 ≤ 3
  | .road a b c, lv, h, hf, hd, x, hx => by
    unfold sl at hx
    rw [List.mem_singleton.mp hx]
    exact ⟨plainW_wd hf, by show lv ≤ 3; omega⟩
  | .join a, lv, h, hf, hd, x, hx => by
    unfold sl at hx
    rw [List.mem_singleton.mp hx]
    exact ⟨plainW_wd hf, by show lv ≤ 3; omega⟩
  | .tunnel w m t, lv, h, hf, hd, x, hx => by
    have hf0 := hf
    unfold M.Step.fine at hf
    have hd2 : lv + 1 + w.depth ≤ 3 := hd
    unfold sl at hx
    rcases List.mem_cons.mp hx with e | e
    · rw [e]
      exact ⟨plainW_wd hf0, by show lv ≤ 3; omega⟩
    · exact wl_all w (lv + 1) hf.1 (by omega) x e
end
theorem ok_read {f : Addr} {fd : FuncData} (F : Fun K "read_way" "read_way" sRead f fd) (B : Bn mg) (hstr : mg "str" = none) (T : Rt K mg CR) (MN : Mn P w K mg base CR 3 ["self"] (spRInit CR CB CW)) (MT : Mr P w K mg base CR 9 "takes" ["self", "line"] (spTakes CR CB CW)) (MI : Mr P w K mg base CR 1 "is_whole" ["self"] (spWhole CR CB CW))
    (MY : Mr P w K mg base CR 9 "way" ["self"] (spRWay CR CB CW)) : FnOk P w K mg base CX0 10 f fd ["text"] (spRead CW) := by
  obtain ⟨fN, fdN, GN, mN, bN⟩ := MN.ex
  obtain ⟨fT, fdT, GT, mT, bT⟩ := MT.ex
  obtain ⟨fI, fdI, GI, mI, bI⟩ := MI.ex
  obtain ⟨fY, fdY, GY, mY, bY⟩ := MY.ex
  have gN := T.g
  refine F.ok scRd (fun vs H Q E h => ?_) (fun cdv A outer s H vs Q E hr h => ?_)
  · obtain ⟨wy, rfl, _⟩ := h
    rfl
  · obtain ⟨wy, rfl, hf, k⟩ := h
    refine ⟨_, pss_cons (ps_if (pt_not (pt_val (pe_callB call_isi (by rfl) B.isi (by decide +kernel) (pa_cons (pv 0) (pa_cons (pe_bltn (v := .ty "str") (by rfl) hstr (by decide +kernel) rfl) pa_nil))))) (ps_dead) (pss_nil))
      (pss_cons (ps_set (i := 1) scRd.nd rfl (Or.inl rfl) (pe_split (pv 0) (pe_str)))
      (pss_cons (ps_set (i := 2) scRd.nd rfl (Or.inl rfl) (pe_make0 mN GN (hr.mono (by omega)) rfl gN bN .nil pass0))
      (pss_cons (ps_for PassesOwn.never rfl (pi_enum (by rfl) B.enum (pa_cons (pv 1) pa_nil)) (pg_tup (by rfl) (pgs_cons (pg_name (i := 3) scRd.nd rfl (Or.inl rfl)) (pgs_cons (pg_name (i := 4) scRd.nd rfl (Or.inl rfl)) pgs_nil))) (pss_one (ps_if (pt_not (pt_val (pe_meth (pv 2) T.cl mT GT (hr.mono (by omega)) bT .nil pass0 (pa_cons (pv 4) pa_nil)))) (ps_dead) (pss_nil))))
      (pss_cons (ps_if (pt_not (pt_val (pe_meth0 (pv 2) T.cl mI GI (hr.mono (by omega)) bI .nil pass0))) (ps_dead) (pss_nil))
      (pss_one (ps_ret (pe_meth0 (pv 2) T.cl mY GY (hr.mono (by omega)) bY .nil pass0))))))), ?_⟩
    obtain ⟨len1, len2⟩ := lines_len hf
    have big : ∀ {n : Nat}, n ≤ 100000 → n ≤ sizeLine := fun h => Nat.le_trans h (by decide)
    have lt : (TX.S (text wy)).length ≤ 81 * 61 := by
      rw [S_len]
      have := join_len (S := [10]) 60 1 (by decide) (ps := Way.lines wy) len1
      unfold text
      omega
    refine ⟨_, rfl, _, _, _, _, true, rfl, .ty _, .base (.str _), kit_ty (by decide +kernel), _, rfl, iteF ?_⟩
    try unfold tNext
    dsimp only
    refine set_then (i := 1) ⟨_, rfl, ⟨_, rfl⟩, _, _, rfl, rfl, by decide +kernel, big (by omega), fun l hl => ?_⟩
    have nn : Way.lines wy ≠ [] := by
      obtain ⟨h, s⟩ := wy
      unfold Way.lines
      simp
    have e1 : Txt.split (TX.S (text wy)) ("\n" : Str) = (Way.lines wy).map TX.S := by
      rw [k_nl]
      exact split_lines (fun l hl => ((way_lines wy 3 hf (fine_dep hf)).1 l hl).2) nn
    rw [e1, ← sv_strs]
    have s0 := of_upd (o := .lst (sv (Way.lines wy))) hl
    have el : upd H l (.lst (sv (Way.lines wy))) l = some (.lst (sv (Way.lines wy))) := upd_same
    generalize upd H l (.lst (sv (Way.lines wy))) = H0 at s0 el ⊢
    dsimp only
    refine set_then (i := 2) ?_
    intro x dx hx hdx ne
    refine ⟨x, dx, H0, rfl, upd_same, hx, (of_upd hdx).trans (of_upd (by rw [upd_ne ne.symm]; exact hx)), fun H1 hR => ⟨rfl, ?_⟩⟩
    obtain ⟨stE, runs, cl, b1, q1, eE, nE⟩ := runs_text hf
    have lw := text_lines wy
    have wa := wl_all wy 0 hf (by have := fine_dep hf; omega)
    refine ⟨_, rfl, l, _, rfl, SqL.of (hR.sm _ _ el), ?_⟩
    have llen : (sv (Way.lines wy)).length = (wl 0 wy).length := by rw [sv_len, lw, List.length_map]
    refine for_it walk_enum (fun i σ G => ∃ st n q3 q4, RdAt CR CB CW H0 G st n x ∧ Runs (st, n) ((wl 0 wy).drop i) (stE, wy.size) ∧ σ = [some (.str (TX.S (text wy))), some (.ref l), some (.ref x), q3, q4])
      ⟨_, 0, _, _, hR, by rw [List.drop_zero]; exact runs, rfl⟩ (fun i σ G _ z => by obtain ⟨st, n, q3, q4, hR, _⟩ := z; exact SqL.of (hR.sm _ _ el)) ?_ ?_
    · rintro i v σ G G' hi ⟨st, n, q3, q4, hR, rn, rfl⟩ ⟨T0, a, b, rfl, nT, rfl, ha, hb⟩
      have ha : V.int (i : Nat) = a := Option.some.inj ha
      subst ha
      obtain ⟨ln, hln, rfl⟩ := sv_get hb
      rw [lw, List.getElem?_map] at hln
      obtain ⟨y, hy, rfl⟩ : ∃ y, (wl 0 wy)[i]? = some y ∧ lineOf y = ln := by
        cases e : (wl 0 wy)[i]? with
        | none => rw [e] at hln; cases hln
        | some y => rw [e] at hln; exact ⟨y, rfl, Option.some.inj hln⟩
      rw [drop_at hy] at rn
      obtain ⟨lv, li⟩ := y
      have wy1 := wa _ (List.mem_of_getElem? hy)
      have hR1 := hR.same (of_upd (o := .tup [.int (i : Nat), .str (TX.S (lineOf (lv, li)))]) nT)
      refine ⟨T0, _, rfl, SqT.of upd_same, rfl, _, _, rfl, _, _, rfl, rfl, ?_⟩
      generalize upd G T0 (.tup [.int (i : Nat), .str (TX.S (lineOf (lv, li)))]) = G1 at hR1 ⊢
      obtain ⟨dx1, b1', hx1⟩ := hR1.ins
      generalize hz : ((stE, wy.size) : List Fr × Nat) = z at rn
      cases rn with
      | @cons _ y2 _ _ _ fd rn =>
        obtain ⟨st2, n2⟩ := y2
        subst hz
        exact ⟨_, rfl, x, dx1, _, rfl, hx1, rf_no (by decide +kernel) (by decide +kernel), _, rfl, x, st, st2, n, n2, lv, li, H0, rfl, hR1, fd, wy1.1, wy1.2, fun H' hR' => ⟨_, rfl, iteF ⟨st2, n2, _, _, hR', rn, rfl⟩⟩⟩
    · rintro σ G ⟨st, n, q3, q4, hR, rn, rfl⟩
      rw [llen, List.drop_length] at rn
      generalize hz : ((stE, wy.size) : List Fr × Nat) = z at rn
      cases rn with
      | nil =>
        cases hz
        subst eE
        obtain ⟨dx1, b1', hx1⟩ := hR.ins
        refine ⟨_, rfl, x, dx1, _, rfl, hx1, rf_no (by decide +kernel) (by decide +kernel), x, b1, q1, _, H0, rfl, hR, _, rfl, ?_⟩
        rw [decide_eq_true (List.length_pos_iff.mpr nE)]
        refine iteF ?_
        obtain ⟨wh, ws⟩ := wy
        exact ⟨_, rfl, x, dx1, _, rfl, hx1, rf_no (by decide +kernel) (by decide +kernel), x, b1 :: q1, ⟨none, some wh, ws⟩, _, wh, H0, rfl, hR, cl, rfl, hf, fun a H' s wa => k a H' (s0.trans s) wa⟩
end
end CP

end
section
set_option autoImplicit false
set_option Elab.async false
set_option linter.all false
set_option maxRecDepth 100000
set_option maxHeartbeats 4000000
/-! ## any text, line by line -/
namespace TX
open PySem hiding Step
open TL M
theorem joinL_cc (S p q : List Nat) (r : List (List Nat)) : joinL S (p :: q :: r) = p ++ (S ++ joinL S (q :: r)) := rfl
/-- every text is joined of parts -/
theorem parts (c : Nat) : ∀ l : List Nat, ∃ ps : List (List Nat), ps ≠ [] ∧ joinL [c] ps = l ∧ ∀ p ∈ ps, c ∉ p
  | [] => ⟨[[]], by simp, rfl, fun p hp => by
      rw [List.mem_singleton.mp hp]
      exact List.not_mem_nil⟩
  | x :: l => by
    obtain ⟨ps, n, e, h⟩ := parts c l
    cases ps with
    | nil => exact absurd rfl n
    | cons p r =>
      by_cases hx : x = c
      · refine ⟨[] :: p :: r, by simp, ?_, fun q hq => ?_⟩
        · rw [joinL_cc, e, hx]
          rfl
        · rcases List.mem_cons.mp hq with z | z
          · rw [z]
            exact List.not_mem_nil
          · exact h q z
      · refine ⟨(x :: p) :: r, by simp, ?_, fun q hq => ?_⟩
        · rw [← e]
          cases r with
          | nil => rfl
          | cons q r => rfl
        · rcases List.mem_cons.mp hq with z | z
          · rw [z]
            intro m
            rcases List.mem_cons.mp m with m | m
            · exact hx m.symm
            · exact h p List.mem_cons_self m
          · exact h q (List.mem_cons_of_mem _ z)
/-! ### numbers -/
theorem rev_ind {α : Type} {P : List α → Prop} (h0 : P []) (h1 : ∀ v d, P v → P (v ++ [d])) (l : List α) : P l := by
  have key : ∀ m : List α, P m.reverse := fun m => by
    induction m with
    | nil => exact h0
    | cons a m ih =>
      rw [List.reverse_cons]
      exact h1 _ _ ih
  have := key l.reverse
  rwa [List.reverse_reverse] at this
theorem dv_snoc (u : List Nat) (d : Nat) : NumText.digitsVal (u ++ [d]) = NumText.digitsVal u * 10 + (d - 48) := by
  unfold NumText.digitsVal
  rw [List.foldl_append]
  rfl
theorem dv_pos : ∀ (u : List Nat), NumText.AllDigits u → (∃ c r, u = c :: r ∧ c ≠ 48) → 1 ≤ NumText.digitsVal u := by
  intro u
  refine rev_ind (P := fun u => NumText.AllDigits u → (∃ c r, u = c :: r ∧ c ≠ 48) → 1 ≤ NumText.digitsVal u) ?_ (fun v d ih => ?_) u
  · intro _ h
    obtain ⟨_, _, e, _⟩ := h
    cases e
  · intro hd h
    rw [dv_snoc]
    cases v with
    | nil =>
      obtain ⟨c, r, e, n⟩ := h
      have e : [d] = c :: r := e
      cases e
      have := hd d (by simp)
      omega
    | cons a v =>
      obtain ⟨c, r, e, n⟩ := h
      have e1 := (List.cons.inj e).1
      have := ih (fun x hx => hd x (List.mem_append_left _ hx)) ⟨a, v, rfl, e1 ▸ n⟩
      omega
/-- a number without idle zeros is written so -/
theorem canon : ∀ (w : List Nat), NumText.AllDigits w → w ≠ [] → (w.length ≤ 1 ∨ ∃ c r, w = c :: r ∧ c ≠ 48) → numL (NumText.digitsVal w) = w := by
  intro w
  refine rev_ind (P := fun w => NumText.AllDigits w → w ≠ [] → (w.length ≤ 1 ∨ ∃ c r, w = c :: r ∧ c ≠ 48) → numL (NumText.digitsVal w) = w) ?_ (fun v d ih => ?_) w
  · intro _ h
    exact absurd rfl h
  · intro hd _ h
    have dd := hd d (by simp)
    rw [dv_snoc]
    cases v with
    | nil =>
      show numL (NumText.digitsVal [] * 10 + (d - 48)) = [d]
      rw [show NumText.digitsVal [] = 0 from rfl, numL_lt (by omega)]
      rw [show 48 + (0 * 10 + (d - 48)) = d by omega]
    | cons a v =>
      have hv : NumText.AllDigits (a :: v) := fun x hx => hd x (List.mem_append_left _ hx)
      have ha : a ≠ 48 := by
        rcases h with h | ⟨c, r, e, n⟩
        · rw [List.length_append, List.length_cons, List.length_singleton] at h
          omega
        · rw [List.cons_append] at e
          exact (List.cons.inj e).1 ▸ n
      have p := dv_pos (a :: v) hv ⟨a, v, rfl, ha⟩
      rw [numL_step (by omega)]
      rw [show (NumText.digitsVal (a :: v) * 10 + (d - 48)) / 10 = NumText.digitsVal (a :: v) by omega, show (NumText.digitsVal (a :: v) * 10 + (d - 48)) % 10 = d - 48 by omega]
      rw [ih hv (by simp) (.inr ⟨a, v, rfl, ha⟩), show 48 + (d - 48) = d by omega]
theorem num_first0 (n : Nat) : 1 ≤ n → ∃ c r, numL n = c :: r ∧ c ≠ 48 := by
  induction n using Nat.strongRecOn with
  | _ n ih =>
    intro h
    by_cases h2 : n < 10
    · rw [numL_lt h2]
      exact ⟨_, _, rfl, by omega⟩
    · obtain ⟨c, r, e, nc⟩ := ih (n / 10) (by omega) (by omega)
      rw [numL_step (by omega), e]
      exact ⟨c, _, rfl, nc⟩
theorem num_canon (n : Nat) : (numL n).length ≤ 1 ∨ ∃ c r, numL n = c :: r ∧ c ≠ 48 := by
  by_cases h : n < 10
  · rw [numL_lt h]
    exact .inl (Nat.le_refl _)
  · exact .inr (num_first0 n (by omega))
/-- what is written so, up to sixty digits -/
def pnum (w : List Nat) : Option Nat := if w = numL (NumText.digitsVal w) ∧ w.length ≤ 60 then some (NumText.digitsVal w) else none
theorem pnum_iff {w : List Nat} {n : Nat} : pnum w = some n ↔ w = numL n ∧ w.length ≤ 60 := by
  unfold pnum
  split
  · rename_i h
    constructor
    · intro e
      cases e
      exact h
    · rintro ⟨e, _⟩
      rw [e, numL_val]
  · rename_i h
    constructor
    · intro e
      cases e
    · rintro ⟨e, l⟩
      exact absurd ⟨by rw [e, numL_val], l⟩ h
theorem pnum_none {w : List Nat} (h : pnum w = none) (n : Nat) : w = numL n → 60 < w.length := fun e => by
  cases z : decide (w.length ≤ 60) with
  | true => 
    rw [pnum_iff.mpr ⟨e, of_decide_eq_true z⟩] at h
    cases h
  | false =>
    have := of_decide_eq_false z
    omega
def inR (lo hi : Nat) (w : List Nat) : Option Nat := match pnum w with
  | some n => if lo ≤ n ∧ n ≤ hi then some n else none
  | none => none
theorem inR_some {lo hi n : Nat} {w : List Nat} (h : inR lo hi w = some n) : w = numL n ∧ lo ≤ n ∧ n ≤ hi ∧ pnum w = some n := by
  unfold inR at h
  cases e : pnum w with
  | none =>
    rw [e] at h
    cases h
  | some m =>
    rw [e] at h
    dsimp only at h
    split at h
    · rename_i q
      cases h
      exact ⟨(pnum_iff.mp e).1, q.1, q.2, rfl⟩
    · cases h
def psd (w : List Nat) : Option Bool := if w = sd true then some true else if w = sd false then some false else none
def plw (w : List Nat) : Option LW := if w = lw .cut then some .cut else if w = lw .tell then some .tell else if w = lw .drop then some .drop else none
def ptw (w : List Nat) : Option TW := if w = tw .turn then some .turn else if w = tw .keep then some .keep else if w = tw .lose then some .lose else none
theorem psd_some {w : List Nat} {b : Bool} (h : psd w = some b) : w = sd b := by
  unfold psd at h
  split at h
  · cases h; assumption
  · split at h
    · cases h; assumption
    · cases h
theorem plw_some {w : List Nat} {b : LW} (h : plw w = some b) : w = lw b := by
  unfold plw at h
  split at h
  · cases h; assumption
  · split at h
    · cases h; assumption
    · split at h
      · cases h; assumption
      · cases h
theorem ptw_some {w : List Nat} {b : TW} (h : ptw w = some b) : w = tw b := by
  unfold ptw at h
  split at h
  · cases h; assumption
  · split at h
    · cases h; assumption
    · split at h
      · cases h; assumption
      · cases h
def pHead : List (List Nat) → Option Nat
  | [a, b] => if a = cHead then inR 1 40 b else none
  | _ => none
def pRoad (h : Nat) (b c d : List Nat) : Option Step := match inR (h + 1) 1000 b, psd c, plw d with
  | some n, some s, some l => some (.road n s l)
  | _, _, _ => none
def pPlain (h : Nat) : List (List Nat) → Option Step
  | [a, b] => if a = cJoin then (inR 1 1000000000000 b).map .join else none
  | [a, b, c, d] => if a = cRoad then pRoad h b c d else none
  | _ => none
def pTw (b c : List Nat) : Option (Nat × TW) := match inR 1 1000000000000 b, ptw c with
  | some m, some t => some (m, t)
  | _, _ => none
def pTun : List (List Nat) → Option (Nat × TW)
  | [a, b, c] => if a = cTun then pTw b c else none
  | _ => none
theorem pHead_some {ws : List (List Nat)} {h : Nat} (e : pHead ws = some h) : ws = headW h ∧ 1 ≤ h ∧ h ≤ 40 := by
  unfold pHead at e
  split at e
  · split at e
    · rename_i q
      obtain ⟨a, b, c, _⟩ := inR_some e
      exact ⟨by rw [q, a]; rfl, b, c⟩
    · cases e
  · cases e
theorem pRoad_some {h : Nat} {b c d : List Nat} {s : Step} (e : pRoad h b c d = some s) : ∃ n t l, s = .road n t l ∧ inR (h + 1) 1000 b = some n ∧ psd c = some t ∧ plw d = some l := by
  unfold pRoad at e
  split at e
  · cases e
    rename_i h1 h2 h3
    exact ⟨_, _, _, rfl, h1, h2, h3⟩
  · cases e
theorem pPlain_some {h : Nat} {ws : List (List Nat)} {s : Step} (e : pPlain h ws = some s) : ws = plainW s ∧ ¬ isTun s ∧ s.fine h := by
  unfold pPlain at e
  split at e
  · split at e
    · rename_i q
      cases z : inR 1 1000000000000 _ with
      | none =>
        rw [z] at e
        cases e
      | some n =>
        rw [z] at e
        cases e
        obtain ⟨a, b, c, _⟩ := inR_some z
        refine ⟨by rw [q, a]; rfl, fun z => z, ?_⟩
        unfold Step.fine
        exact ⟨b, c⟩
    · cases e
  · split at e
    · rename_i q
      obtain ⟨n, t, l, rfl, h1, h2, h3⟩ := pRoad_some e
      obtain ⟨a, b, c, _⟩ := inR_some h1
      refine ⟨by rw [q, a, psd_some h2, plw_some h3]; rfl, fun z => z, ?_⟩
      unfold Step.fine
      exact ⟨by omega, c⟩
    · cases e
  · cases e
theorem pTw_some {b c : List Nat} {m : Nat} {t : TW} (e : pTw b c = some (m, t)) : inR 1 1000000000000 b = some m ∧ ptw c = some t := by
  unfold pTw at e
  split at e
  · cases e
    rename_i h1 h2
    exact ⟨h1, h2⟩
  · cases e
theorem pTun_some {ws : List (List Nat)} {m : Nat} {t : TW} (e : pTun ws = some (m, t)) : ws = [cTun, numL m, tw t] ∧ 1 ≤ m ∧ m ≤ 1000000000000 := by
  unfold pTun at e
  split at e
  · split at e
    · rename_i q
      obtain ⟨h1, h2⟩ := pTw_some e
      obtain ⟨a, b, c, _⟩ := inR_some h1
      exact ⟨by rw [q, a, ptw_some h2], b, c⟩
    · cases e
  · cases e
/-! ### a line: its indentation and its words -/
structure Cut (l : List Nat) (k : Nat) (ws : List (List Nat)) : Prop where
  eq : l = List.replicate k 32 ++ joinL [32] ws
  ne : ws ≠ []
  sp : ∀ w ∈ ws, (32 : Nat) ∉ w
  st : ∀ d q, joinL [32] ws = d :: q → d ≠ 32
theorem lead : ∀ l : List Nat, ∃ k c, l = List.replicate k 32 ++ c ∧ ∀ d q, c = d :: q → d ≠ 32
  | [] => ⟨0, [], rfl, fun d q e => by cases e⟩
  | x :: l => by
    by_cases hx : x = 32
    · obtain ⟨k, c, e, h⟩ := lead l
      exact ⟨k + 1, c, by rw [hx, e]; rfl, h⟩
    · exact ⟨0, x :: l, rfl, fun d q e => by
        cases e
        exact hx⟩
theorem cut_ex (l : List Nat) : ∃ k ws, Cut l k ws := by
  obtain ⟨k, c, e, h⟩ := lead l
  obtain ⟨ws, n, j, s⟩ := parts 32 c
  exact ⟨k, ws, by rw [j]; exact e, n, s, by rw [j]; exact h⟩
/-- a line is taken -/
inductive One : List Fr × Nat → List Nat → List Fr × Nat → Prop
  | head {f : Fr} {r : List Fr} {n h : Nat} {l : List Nat} {ws : List (List Nat)} : Cut l (2 * r.length) ws → f.head = none → pHead ws = some h → One (f :: r, n) l ({ f with head := some h } :: r, n)
  | plain {st : List Fr} {f : Fr} {r : List Fr} {n h lv : Nat} {l : List Nat} {ws : List (List Nat)} {s : Step} : Cut l (2 * lv) ws → Rdy lv st (f :: r) → f.head = some h → h ≤ 40 → pPlain h ws = some s → f.steps.length < 12 → n < 40 → One (st, n) l ({ f with steps := f.steps ++ [s] } :: r, n + 1)
  | tun {st : List Fr} {f : Fr} {r : List Fr} {n h lv m : Nat} {t : TW} {l : List Nat} {ws : List (List Nat)} : Cut l (2 * lv) ws → Rdy lv st (f :: r) → f.head = some h → h ≤ 40 → pTun ws = some (m, t) → f.steps.length < 12 → n + 1 < 40 → r.length + 2 ≤ 3 → One (st, n) l (⟨some (m, t), none, []⟩ :: f :: r, n + 1)
inductive Bad1 : List Fr × Nat → List Nat → Prop
  | lvl {f : Fr} {r : List Fr} {n k : Nat} {l : List Nat} {ws : List (List Nat)} : Cut l k ws → (k % 2 = 1 ∨ 2 * r.length < k ∨ (k < 2 * r.length ∧ f.steps = [])) → Bad1 (f :: r, n) l
  | head {f : Fr} {r : List Fr} {n : Nat} {l : List Nat} {ws : List (List Nat)} : Cut l (2 * r.length) ws → f.head = none → pHead ws = none → Bad1 (f :: r, n) l
  | step {st : List Fr} {f : Fr} {r : List Fr} {n h lv : Nat} {l : List Nat} {ws : List (List Nat)} : Cut l (2 * lv) ws → Rdy lv st (f :: r) → f.head = some h → h ≤ 40 → f.steps.length ≤ 12 → (f.steps.length = 12 ∨ n = 40 ∨ (pPlain h ws = none ∧ (pTun ws = none ∨ 40 ≤ n + 1 ∨ 3 < r.length + 2))) → Bad1 (st, n) l
/-! ### what holds of the stack -/
def fz (f : Fr) : Nat := f.steps.length + Step.inner f.steps
def totB : List Fr → Nat
  | [] => 0
  | f :: r => fz f + 1 + totB r
theorem totB_cons (f : Fr) (r : List Fr) : totB (f :: r) = fz f + 1 + totB r := by
  conv => lhs; unfold totB
def outOk (f : Fr) (r : List Fr) : Prop := r ≠ [] → ∃ m t, f.out = some (m, t) ∧ 1 ≤ m ∧ m ≤ 1000000000000
def hdOk (f : Fr) : Prop := ∃ h, f.head = some h ∧ 1 ≤ h ∧ h ≤ 40 ∧ Step.fineAll h f.steps
def InvB : List Fr → Prop
  | [] => True
  | f :: r => hdOk f ∧ f.steps.length < 12 ∧ r.length + 1 + Step.deepest f.steps ≤ 3 ∧ outOk f r ∧ InvB r
structure Inv (f : Fr) (r : List Fr) (n : Nat) : Prop where
  hd : (f.head = none ∧ f.steps = []) ∨ hdOk f
  ln : f.steps.length ≤ 12
  dp : r.length + 1 + Step.deepest f.steps ≤ 3
  ot : outOk f r
  bl : InvB r
  sz : n = fz f + totB r
  le : n ≤ 40
theorem deep_app : ∀ (a b : List Step), Step.deepest (a ++ b) = max (Step.deepest a) (Step.deepest b)
  | [], b => by
    show Step.deepest b = max (Step.deepest []) (Step.deepest b)
    rw [show Step.deepest [] = 0 by unfold Step.deepest; rfl, Nat.zero_max]
  | s :: a, b => by
    show Step.deepest (s :: (a ++ b)) = _
    rw [deep_cons, deep_cons, deep_app a b, Nat.max_assoc]
theorem inner_app0 : ∀ (a b : List Step), Step.inner (a ++ b) = Step.inner a + Step.inner b
  | [], b => by
    show Step.inner b = Step.inner [] + Step.inner b
    rw [show Step.inner [] = 0 by unfold Step.inner; rfl, Nat.zero_add]
  | x :: a, b => by
    show Step.inner (x :: (a ++ b)) = _
    rw [inner_cons, inner_cons, inner_app0 a b]
    omega
theorem inner_one0 (s : Step) : Step.inner [s] = isz s := by
  rw [inner_cons, show Step.inner [] = 0 by unfold Step.inner; rfl, Nat.add_zero]
theorem deep_one0 (s : Step) : Step.deepest [s] = Step.dep s := by
  rw [deep_cons, show Step.deepest [] = 0 by unfold Step.deepest; rfl, Nat.max_zero]
theorem all_snoc {h : Nat} : ∀ {a : List Step} {s : Step}, Step.fineAll h a → s.fine h → Step.fineAll h (a ++ [s])
  | [], s, _, y => by
    show Step.fineAll h [s]
    unfold Step.fineAll
    exact ⟨y, by unfold Step.fineAll; trivial⟩
  | x :: a, s, q, y => by
    unfold Step.fineAll at q
    show Step.fineAll h (x :: (a ++ [s]))
    unfold Step.fineAll
    exact ⟨q.1, all_snoc q.2 y⟩
/-- a stack is closed down to a level -/
theorem close_to : ∀ (r : List Fr) (f : Fr) (n lv : Nat), Inv f r n → hdOk f → lv ≤ r.length → (lv < r.length → f.steps ≠ []) → ∃ g q, Closes lv (f :: r) (g :: q) ∧ Inv g q n ∧ hdOk g ∧ q.length = lv
  | [], f, n, lv, I, hh, hl, hs => ⟨f, [], .done (by show 1 = lv + 1; rw [List.length_nil] at hl; omega), I, hh, by rw [List.length_nil] at hl ⊢; omega⟩
  | a :: r, f, n, lv, I, hh, hl, hs => by
    by_cases e : lv = (a :: r).length
    · exact ⟨f, a :: r, .done (by rw [List.length_cons, e]), I, hh, e.symm⟩
    · have lt : lv < (a :: r).length := by omega
      have ns := hs lt
      obtain ⟨h, e1, h1, h2, fa⟩ := hh
      obtain ⟨m, t, e2, m1, m2⟩ := I.ot (by simp)
      have bl := I.bl
      unfold InvB at bl
      obtain ⟨⟨ha, a1, a2, a3, aa⟩, al, ad, ao, ab⟩ := bl
      have dp := I.dp
      have sz := I.sz
      have le := I.le
      have ln := I.ln
      have l1 : 1 ≤ f.steps.length := List.length_pos_iff.mpr ns
      rw [List.length_cons] at dp
      have fw : Way.fine (.mk h f.steps) := by
        unfold Way.fine
        refine ⟨⟨h1, h2⟩, ⟨l1, ln⟩, fa, by omega, ?_⟩
        unfold fz at sz
        omega
      have fs : Step.fine ha (.tunnel (.mk h f.steps) m t) := by
        unfold Step.fine
        exact ⟨fw, m1, m2⟩
      have dt : Step.dep (.tunnel (.mk h f.steps) m t) = 1 + Step.deepest f.steps := by
        show Way.depth (.mk h f.steps) = _
        unfold Way.depth
        rfl
      have zt : isz (.tunnel (.mk h f.steps) m t) = f.steps.length + Step.inner f.steps := by
        show Way.size (.mk h f.steps) = _
        unfold Way.size
        rfl
      have hk : hdOk { a with steps := a.steps ++ [.tunnel (.mk h f.steps) m t] } := ⟨ha, a1, a2, a3, all_snoc aa fs⟩
      have I2 : Inv { a with steps := a.steps ++ [.tunnel (.mk h f.steps) m t] } r n := by
        refine ⟨.inr hk, ?_, ?_, ao, ab, ?_, le⟩
        · show (a.steps ++ _).length ≤ 12
          rw [List.length_append, List.length_singleton]
          omega
        · show r.length + 1 + Step.deepest (a.steps ++ _) ≤ 3
          rw [deep_app, deep_one0, dt]
          omega
        · rw [sz]
          unfold fz
          show f.steps.length + Step.inner f.steps + totB (a :: r) = (a.steps ++ [Step.tunnel (.mk h f.steps) m t]).length + Step.inner (a.steps ++ [.tunnel (.mk h f.steps) m t]) + totB r
          rw [List.length_append, List.length_singleton, inner_app0, inner_one0, zt, totB_cons]
          unfold fz
          omega
      obtain ⟨g, q, c, I3, hg, hq⟩ := close_to r _ n lv I2 hk (by rw [List.length_cons] at lt; omega) (fun _ => by simp)
      exact ⟨g, q, .close (by rw [List.length_cons]; omega) e2 e1 fw c, I3, hg, hq⟩
/-- each line is taken or is none -/
theorem one_or_bad {f : Fr} {r : List Fr} {n : Nat} (I : Inv f r n) (l : List Nat) : (∃ g q m, One (f :: r, n) l (g :: q, m) ∧ Inv g q m) ∨ Bad1 (f :: r, n) l := by
  obtain ⟨k, ws, C⟩ := cut_ex l
  by_cases hA : k % 2 = 1 ∨ 2 * r.length < k ∨ (k < 2 * r.length ∧ f.steps = [])
  · exact .inr (.lvl C hA)
  obtain ⟨lv, rfl⟩ : ∃ lv, k = 2 * lv := ⟨k / 2, by omega⟩
  rcases I.hd with ⟨hn, hs⟩ | hh
  · have e : lv = r.length := by
      by_cases e : lv = r.length
      · exact e
      · exact absurd (.inr (.inr ⟨by omega, hs⟩)) hA
    subst e
    cases z : pHead ws with
    | none => exact .inr (.head C hn z)
    | some h =>
      obtain ⟨_, h1, h2⟩ := pHead_some z
      refine .inl ⟨_, _, _, .head C hn z, .inr ⟨h, rfl, h1, h2, ?_⟩, I.ln, I.dp, I.ot, I.bl, I.sz, I.le⟩
      show Step.fineAll h f.steps
      rw [hs]
      unfold Step.fineAll
      trivial
  · have hh0 := hh
    obtain ⟨h0, e0, _, _, _⟩ := hh0
    obtain ⟨g, q, c, I2, hg, hq⟩ := close_to r f n lv I hh (by omega) (fun lt z => hA (.inr (.inr ⟨by omega, z⟩)))
    obtain ⟨h, e1, h1, h2, fa⟩ := hg
    have rd : Rdy lv (f :: r) (g :: q) := by
      refine ⟨c, f, r, rfl, ⟨h0, e0⟩, ?_⟩
      by_cases e : f.steps = []
      · refine .inr ?_
        rw [List.length_cons]
        by_cases z : lv = r.length
        · omega
        · exact absurd (.inr (.inr ⟨by omega, e⟩)) hA
      · exact .inl e
    have ln := I2.ln
    have le := I2.le
    by_cases b1 : g.steps.length = 12
    · exact .inr (.step C rd e1 h2 ln (.inl b1))
    by_cases b2 : n = 40
    · exact .inr (.step C rd e1 h2 ln (.inr (.inl b2)))
    cases z : pPlain h ws with
    | some s =>
      obtain ⟨_, nt, fs⟩ := pPlain_some z
      have hz : isz s = 0 ∧ Step.dep s = 0 := by
        cases s with
        | road a b c => exact ⟨rfl, rfl⟩
        | join a => exact ⟨rfl, rfl⟩
        | tunnel w m t => exact absurd trivial nt
      refine .inl ⟨_, _, _, .plain C rd e1 h2 z (by omega) (by omega), .inr ⟨h, e1, h1, h2, all_snoc fa fs⟩, ?_, ?_, I2.ot, I2.bl, ?_, by omega⟩
      · show (g.steps ++ [s]).length ≤ 12
        rw [List.length_append, List.length_singleton]
        omega
      · show q.length + 1 + Step.deepest (g.steps ++ [s]) ≤ 3
        rw [deep_app, deep_one0, hz.2]
        have := I2.dp
        omega
      · have := I2.sz
        unfold fz at this ⊢
        show n + 1 = (g.steps ++ [s]).length + Step.inner (g.steps ++ [s]) + totB q
        rw [List.length_append, List.length_singleton, inner_app0, inner_one0, hz.1]
        omega
    | none =>
      by_cases b3 : pTun ws = none ∨ 40 ≤ n + 1 ∨ 3 < q.length + 2
      · exact .inr (.step C rd e1 h2 ln (.inr (.inr ⟨z, b3⟩)))
      cases z2 : pTun ws with
      | none => exact absurd (.inl z2) b3
      | some mt =>
        obtain ⟨m, t⟩ := mt
        obtain ⟨_, m1, m2⟩ := pTun_some z2
        refine .inl ⟨_, _, _, .tun C rd e1 h2 z2 (by omega) (by omega) (by omega), .inl ⟨rfl, rfl⟩, by show ([] : List Step).length ≤ 12; simp, ?_, fun _ => ⟨m, t, rfl, m1, m2⟩, ?_, ?_, by omega⟩
        · show (g :: q).length + 1 + Step.deepest [] ≤ 3
          rw [List.length_cons, show Step.deepest [] = 0 by unfold Step.deepest; rfl]
          omega
        · unfold InvB
          exact ⟨⟨h, e1, h1, h2, fa⟩, by omega, I2.dp, I2.ot, I2.bl⟩
        · have := I2.sz
          show n + 1 = fz ⟨some (m, t), none, []⟩ + totB (g :: q)
          rw [totB_cons]
          rw [show fz ⟨some (m, t), none, []⟩ = 0 by unfold fz; show 0 + Step.inner [] = 0; unfold Step.inner; rfl]
          omega
theorem One.feed {x y : List Fr × Nat} {l : List Nat} (o : One x l y) (hx : x.1.length ≤ 3) : ∃ lv li, l = lineOf (lv, li) ∧ (∀ v ∈ liW li, Wd v) ∧ lv ≤ 3 ∧ Feed x (lv, li) y := by
  cases o with
  | @head f r n h l ws C hn p =>
    obtain ⟨e, h1, h2⟩ := pHead_some p
    rw [List.length_cons] at hx
    exact ⟨r.length, .head h, by rw [C.eq, e]; rfl, headW_wd h2, by omega, .head hn h1 h2⟩
  | @plain st f r n h lv l ws s C rd e1 h2 p l12 n40 =>
    obtain ⟨e, nt, fs⟩ := pPlain_some p
    have le : lv + 1 ≤ st.length := by
      have := rd.cl.len
      obtain ⟨b, q, e, _, _⟩ := rd.top
      have h := rd.cl
      clear rd
      have key : ∀ {a b : List Fr}, Closes lv a b → lv + 1 ≤ a.length := fun {a b} c => by
        induction c with
        | done h => omega
        | close h _ _ _ _ _ => omega
      exact key h
    exact ⟨lv, .plain s, by rw [C.eq, e]; rfl, plainW_wd fs, by have : st.length ≤ 3 := hx; omega, .plain rd e1 nt fs h2 l12 n40⟩
  | @tun st f r n h lv m t l ws C rd e1 h2 p l12 n40 r2 =>
    obtain ⟨e, m1, m2⟩ := pTun_some p
    have le : lv + 1 ≤ st.length := by
      have h := rd.cl
      have key : ∀ {a b : List Fr}, Closes lv a b → lv + 1 ≤ a.length := fun {a b} c => by
        induction c with
        | done h => omega
        | close h _ _ _ _ _ => omega
      exact key h
    refine ⟨lv, .tun m t, by rw [C.eq, e]; rfl, fun v hv => ?_, by have : st.length ≤ 3 := hx; omega, .tun rd m1 m2 l12 n40 r2⟩
    simp only [liW, List.mem_cons, List.mem_nil_iff, or_false] at hv
    rcases hv with rfl | rfl | rfl
    · exact wd_tun
    · exact wd_num (by omega)
    · exact wd_tw _
theorem Inv.len {f : Fr} {r : List Fr} {n : Nat} (I : Inv f r n) : (f :: r).length ≤ 3 := by
  have := I.dp
  rw [List.length_cons]
  omega
/-- the rest of the lines, from a line's index on, with what is told -/
inductive Go : List Fr × Nat → List (List Nat) → Nat → Nat → Prop
  | fin {f : Fr} {r : List Fr} {n i : Nat} : f.steps ≠ [] → Go (f :: r, n) [] i 0
  | short {f : Fr} {r : List Fr} {n i : Nat} : f.steps = [] → Go (f :: r, n) [] i (i + 1)
  | bad {x : List Fr × Nat} {l : List Nat} {ls : List (List Nat)} {i : Nat} : Bad1 x l → Go x (l :: ls) i (i + 1)
  | go {x : List Fr × Nat} {g : Fr} {q : List Fr} {m i k : Nat} {l : List Nat} {ls : List (List Nat)} : One x l (g :: q, m) → Inv g q m → Go (g :: q, m) ls (i + 1) k → Go x (l :: ls) i k
theorem go_ex : ∀ (ls : List (List Nat)) (f : Fr) (r : List Fr) (n i : Nat), Inv f r n → ∃ k, Go (f :: r, n) ls i k
  | [], f, r, n, i, I => by
    by_cases h : f.steps = []
    · exact ⟨_, .short h⟩
    · exact ⟨_, .fin h⟩
  | l :: ls, f, r, n, i, I => by
    rcases one_or_bad I l with ⟨g, q, m, o, I2⟩ | b
    · obtain ⟨k, h⟩ := go_ex ls g q m (i + 1) I2
      exact ⟨k, .go o I2 h⟩
    · exact ⟨_, .bad b⟩
theorem inv0 : Inv ⟨none, none, []⟩ [] 0 := ⟨.inl ⟨rfl, rfl⟩, by simp, by show 0 + 1 + Step.deepest [] ≤ 3; unfold Step.deepest; decide, fun h => absurd rfl h, trivial, by show 0 = 0 + Step.inner [] + 0; unfold Step.inner; rfl, by decide⟩
theorem Go.le {x : List Fr × Nat} {ls : List (List Nat)} {i k : Nat} (g : Go x ls i k) : k ≤ i + ls.length + 1 := by
  induction g with
  | fin => omega
  | short => simp
  | bad => rw [List.length_cons]; omega
  | go _ _ _ ih => rw [List.length_cons]; omega
/-! ### what was taken is the text of the way -/
def outl (f : Fr) (lv : Nat) : List (Nat × Li) := match f.out with
  | some (m, t) => [(lv, .tun m t)]
  | none => []
def hdl (f : Fr) (lv : Nat) : List (Nat × Li) := match f.head with
  | some h => [(lv, .head h)]
  | none => []
def unp : List Fr → List (Nat × Li)
  | [] => []
  | [f] => hdl f 0 ++ sls 0 f.steps
  | f :: g :: r => unp (g :: r) ++ (outl f r.length ++ (hdl f (r.length + 1) ++ sls (r.length + 1) f.steps))
theorem sls_app (lv : Nat) : ∀ a b : List Step, sls lv (a ++ b) = sls lv a ++ sls lv b
  | [], b => by
    rw [show sls lv [] = [] by unfold sls; rfl]
    rfl
  | x :: a, b => by
    have e : ∀ (y : Step) (l : List Step), sls lv (y :: l) = sl lv y ++ sls lv l := fun y l => by
      conv => lhs; unfold sls
    rw [List.cons_append, e, e, sls_app lv a b, List.append_assoc]
theorem sls_one (lv : Nat) (x : Step) : sls lv [x] = sl lv x := by
  have e : sls lv [x] = sl lv x ++ sls lv [] := by conv => lhs; unfold sls
  rw [e, show sls lv [] = [] by unfold sls; rfl, List.append_nil]
theorem unp_put (f : Fr) (r : List Fr) (s : List Step) : unp ({ f with steps := f.steps ++ s } :: r) = unp (f :: r) ++ sls r.length s := by
  cases r with
  | nil =>
    show hdl f 0 ++ sls 0 (f.steps ++ s) = hdl f 0 ++ sls 0 f.steps ++ sls 0 s
    rw [sls_app, List.append_assoc]
  | cons g r =>
    show unp (g :: r) ++ (outl f r.length ++ (hdl f (r.length + 1) ++ sls (r.length + 1) (f.steps ++ s))) = unp (g :: r) ++ (outl f r.length ++ (hdl f (r.length + 1) ++ sls (r.length + 1) f.steps)) ++ sls (r.length + 1) s
    rw [sls_app]
    simp only [List.append_assoc]
theorem unp_close {lv : Nat} {a b : List Fr} (c : Closes lv a b) : unp a = unp b := by
  induction c with
  | done => rfl
  | @close b a r st h m t hl e1 e2 fw c ih =>
    rw [← ih, unp_put a r [.tunnel (.mk h b.steps) m t], sls_one]
    show unp (a :: r) ++ (outl b r.length ++ (hdl b (r.length + 1) ++ sls (r.length + 1) b.steps)) = _
    unfold outl hdl
    rw [e1, e2]
    unfold sl wl
    rfl
theorem feed_unp {x y : List Fr × Nat} {i : Nat × Li} (f : Feed x i y) (hx : ∀ g r, x.1 = g :: r → g.head = none → g.steps = []) : unp y.1 = unp x.1 ++ [i] := by
  cases f with
  | @head f r n h hn h1 h2 =>
    have e := hx f r rfl hn
    show unp ({ f with head := some h } :: r) = unp (f :: r) ++ [(r.length, .head h)]
    cases r with
    | nil =>
      show [(0, Li.head h)] ++ sls 0 f.steps = hdl f 0 ++ sls 0 f.steps ++ [(0, .head h)]
      unfold hdl
      rw [hn, e]
      unfold sls
      rfl
    | cons g r =>
      show unp (g :: r) ++ (outl f r.length ++ ([(r.length + 1, Li.head h)] ++ sls (r.length + 1) f.steps)) = unp (g :: r) ++ (outl f r.length ++ (hdl f (r.length + 1) ++ sls (r.length + 1) f.steps)) ++ [(r.length + 1, .head h)]
      unfold hdl
      rw [hn, e, show sls (r.length + 1) [] = [] by unfold sls; rfl]
      simp only [List.append_assoc, List.nil_append, List.append_nil]
  | @plain st f r n h lv s rd hh nt fs h40 l12 n40 =>
    show unp ({ f with steps := f.steps ++ [s] } :: r) = unp st ++ [(lv, .plain s)]
    have q : r.length = lv := by
      have := rd.cl.len
      rw [List.length_cons] at this
      omega
    rw [unp_put f r [s], sls_one, unp_close rd.cl, q]
    cases s with
    | road a b c => unfold sl; rfl
    | join a => unfold sl; rfl
    | tunnel w m t => exact absurd trivial nt
  | @tun st f r n lv m t rd m1 m2 l12 n40 r2 =>
    show unp (⟨some (m, t), none, []⟩ :: f :: r) = unp st ++ [(lv, .tun m t)]
    have q : r.length = lv := by
      have := rd.cl.len
      rw [List.length_cons] at this
      omega
    rw [unp_close rd.cl]
    show unp (f :: r) ++ (outl ⟨some (m, t), none, []⟩ r.length ++ (hdl ⟨some (m, t), none, []⟩ (r.length + 1) ++ sls (r.length + 1) [])) = _
    rw [show sls (r.length + 1) [] = [] by unfold sls; rfl, q]
    rfl
theorem one_unp {f : Fr} {r : List Fr} {n : Nat} {y : List Fr × Nat} {l : List Nat} (o : One (f :: r, n) l y) (I : Inv f r n) : ((unp y.1).map lineOf) = (unp (f :: r)).map lineOf ++ [l] := by
  obtain ⟨lv, li, e, _, _, fd⟩ := o.feed I.len
  rw [feed_unp fd fun g q e hn => ?_]
  · rw [List.map_append, e]
    rfl
  · cases e
    rcases I.hd with h | ⟨h, e, _⟩
    · exact h.2
    · rw [hn] at e
      cases e
/-- the text of the way that was read -/
theorem text_read {st : List Fr} {f : Fr} {h : Nat} {ls : List (List Nat)} (c : Closes 0 st [f]) (hh : f.head = some h) (e : (unp st).map lineOf = ls) : Way.lines (.mk h f.steps) = ls := by
  rw [text_lines, ← e, unp_close c]
  show (wl 0 (.mk h f.steps)).map lineOf = (hdl f 0 ++ sls 0 f.steps).map lineOf
  unfold hdl wl
  rw [hh]
  rfl
end TX

end
section
set_option autoImplicit false
set_option Elab.async false
set_option linter.all false
set_option maxRecDepth 100000
set_option maxHeartbeats 4000000
/-! ## numbers and words of any text -/
namespace TX
open PySem hiding Step
open TL M
def inO (lo hi : Nat) : Option Nat → Option Nat
  | some n => if lo ≤ n ∧ n ≤ hi then some n else none
  | none => none
theorem inR_eq (lo hi : Nat) (w : List Nat) : inR lo hi w = inO lo hi (pnum w) := by
  unfold inR inO
  cases pnum w <;> rfl
theorem inO_some {lo hi n : Nat} {o : Option Nat} (h : inO lo hi o = some n) : o = some n ∧ lo ≤ n ∧ n ≤ hi := by
  cases o with
  | none => cases h
  | some m =>
    unfold inO at h
    dsimp only at h
    split at h
    · rename_i q
      cases h
      exact ⟨rfl, q⟩
    · cases h
theorem inO_is (lo hi : Nat) (o : Option Nat) : (inO lo hi o).isSome = (match o with | some n => decide (lo ≤ n ∧ n ≤ hi) | none => false) := by
  cases o with
  | none => rfl
  | some n =>
    unfold inO
    dsimp only
    by_cases h : lo ≤ n ∧ n ≤ hi
    · rw [if_pos h, decide_eq_true h]
      rfl
    · rw [if_neg h, decide_eq_false h]
      rfl
theorem pnum_no {w : List Nat} (h : w = [] ∨ 60 < w.length ∨ ¬ NumText.AllDigits w ∨ ∃ r, w = 48 :: r ∧ r ≠ []) : pnum w = none := by
  cases e : pnum w with
  | none => rfl
  | some n =>
    exfalso
    obtain ⟨e1, e2⟩ := pnum_iff.mp e
    rcases h with h | h | h | ⟨r, h, hr⟩
    · exact numL_ne n (e1.symm.trans h)
    · omega
    · exact h (e1 ▸ numL_digits n)
    · rcases num_canon n with c | ⟨c, q, c1, c2⟩
      · rw [← e1, h, List.length_cons] at c
        exact hr (List.length_eq_zero_iff.mp (by omega))
      · rw [← e1, h] at c1
        exact c2 (List.cons.inj c1).1.symm
theorem pnum_yes {w : List Nat} (h1 : w ≠ []) (h2 : w.length ≤ 60) (h3 : NumText.AllDigits w) (h4 : w.length ≤ 1 ∨ ∃ c r, w = c :: r ∧ c ≠ 48) : pnum w = some (NumText.digitsVal w) := pnum_iff.mpr ⟨(canon w h3 h1 h4).symm, h2⟩
theorem S_eq (c : List Nat) (x : Str) : (S c == x) = decide (c = tl x) := by
  by_cases h : c = tl x
  · rw [decide_eq_true h, h, S_tl]
    exact beq_self_eq_true x
  · rw [decide_eq_false h]
    exact beq_eq_false_iff_ne.mpr fun z => h (by rw [← z, tl_S])
theorem psd_is (c : List Nat) : (psd c).isSome = (decide (c = sd true) || decide (c = sd false)) := by
  unfold psd
  by_cases h : c = sd true
  · rw [if_pos h, decide_eq_true h]
    rfl
  · rw [if_neg h, decide_eq_false h]
    by_cases g : c = sd false
    · rw [if_pos g, decide_eq_true g]
      rfl
    · rw [if_neg g, decide_eq_false g]
      rfl
theorem plw_is (c : List Nat) : (plw c).isSome = (decide (c = lw .cut) || (decide (c = lw .tell) || decide (c = lw .drop))) := by
  unfold plw
  by_cases h : c = lw .cut
  · rw [if_pos h, decide_eq_true h]
    rfl
  · rw [if_neg h, decide_eq_false h]
    by_cases g : c = lw .tell
    · rw [if_pos g, decide_eq_true g]
      rfl
    · rw [if_neg g, decide_eq_false g]
      by_cases k : c = lw .drop
      · rw [if_pos k, decide_eq_true k]
        rfl
      · rw [if_neg k, decide_eq_false k]
        rfl
theorem ptw_is (c : List Nat) : (ptw c).isSome = (decide (c = tw .turn) || (decide (c = tw .keep) || decide (c = tw .lose))) := by
  unfold ptw
  by_cases h : c = tw .turn
  · rw [if_pos h, decide_eq_true h]
    rfl
  · rw [if_neg h, decide_eq_false h]
    by_cases g : c = tw .keep
    · rw [if_pos g, decide_eq_true g]
      rfl
    · rw [if_neg g, decide_eq_false g]
      by_cases k : c = tw .lose
      · rw [if_pos k, decide_eq_true k]
        rfl
      · rw [if_neg k, decide_eq_false k]
        rfl
end TX
namespace CP
open PySem L2 G Y
open TL TX
def numV : Option Nat → V
  | none => .non
  | some n => .int (n : Int)
theorem eqS (c : List Nat) (x : Str) : eqV (.str x) (.str (TX.S c)) = decide (c = tl x) := by
  show (x == TX.S c) = _
  rw [← S_eq, Bool.eq_iff_iff]
  exact ⟨fun h => beq_iff_eq.mpr (beq_iff_eq.mp h).symm, fun h => beq_iff_eq.mpr (beq_iff_eq.mp h).symm⟩
theorem in_sd2 (c : List Nat) : inV (.str (TX.S c)) [.str "tell", .str "drop"] = (psd c).isSome := by
  rw [psd_is]
  show (eqV (.str "tell") (.str (TX.S c)) || (eqV (.str "drop") (.str (TX.S c)) || false)) = _
  rw [eqS, eqS, Bool.or_false]
  rfl
theorem in_lw2 (c : List Nat) : inV (.str (TX.S c)) [.str "cut", .str "tell", .str "drop"] = (plw c).isSome := by
  rw [plw_is]
  show (eqV (.str "cut") (.str (TX.S c)) || (eqV (.str "tell") (.str (TX.S c)) || (eqV (.str "drop") (.str (TX.S c)) || false))) = _
  rw [eqS, eqS, eqS, Bool.or_false]
  rfl
theorem in_tw2 (c : List Nat) : inV (.str (TX.S c)) [.str "turn", .str "keep", .str "lose"] = (ptw c).isSome := by
  rw [ptw_is]
  show (eqV (.str "turn") (.str (TX.S c)) || (eqV (.str "keep") (.str (TX.S c)) || (eqV (.str "lose") (.str (TX.S c)) || false))) = _
  rw [eqS, eqS, eqS, Bool.or_false]
  rfl
section
variable {P : Program} {w : World} {K : PySem.W.Frag} {mg : Str → Option Value} {base : Heap} {C CW : Addr}
def spIntN : Sp := fun vs H Q _ => ∃ o, vs = [numV o] ∧ Q (.bl o.isSome) H
theorem ok_intN {f : Addr} {fd : FuncData} (F : Fun K "is_integer" "is_integer" WP.sInteger f fd) (B : Bn mg) : FnOk P w K mg base CX0 1 f fd ["value"] spIntN := by
  refine F.ok WP.scIn (fun vs H Q E h => ?_) (fun cdv A outer s H vs Q E hr h => ?_)
  · obtain ⟨v, rfl, _⟩ := h
    rfl
  · obtain ⟨o, rfl, k⟩ := h
    refine ⟨_, pss_one (ps_ret (pe_and (pe_callB call_isi (by rfl) B.isi (by decide +kernel) (pa_cons (pv 0) (pa_cons (pe_bltn (v := .ty "int") (by rfl) B.int (by decide +kernel) rfl) pa_nil)))
      (pe_one (pe_not (pe_callB call_isi (by rfl) B.isi (by decide +kernel) (pa_cons (pv 0) (pa_cons (pe_bltn (v := .ty "bool") (by rfl) B.bool (by decide +kernel) rfl) pa_nil))))))), ?_⟩
    cases o with
    | some i => exact ⟨_, rfl, _, _, _, _, _, rfl, .ty _, .base (.int _), kit_ty (r := true) (by decide +kernel), _, rfl, iteT ⟨_, rfl, _, _, _, _, _, rfl, .ty _, .base (.int _), kit_ty (r := false) (by decide +kernel), _, rfl, k⟩⟩
    | none => exact ⟨_, rfl, _, _, _, _, _, rfl, .ty _, .base .non, kit_ty (r := false) (by decide +kernel), _, rfl, iteF k⟩
def spWithN : Sp := fun vs H Q _ => ∃ (o : Option Nat) (a b : Nat), vs = [numV o, .int (a : Int), .int (b : Int)] ∧ Q (.bl (inO a b o).isSome) H
theorem ok_withN {f : Addr} {fd : FuncData} (F : Fun K "is_within" "is_within" WP.sWithin f fd) (DI : WP.Df P w K mg base 1 "is_integer" ["value"] spIntN) : FnOk P w K mg base CX0 2 f fd ["value", "least", "greatest"] spWithN := by
  obtain ⟨fI, fdI, GI, gI, kI, bI⟩ := DI.ex
  refine F.ok WP.sc3 (fun vs H Q E h => ?_) (fun cdv A outer s H vs Q E hr h => ?_)
  · obtain ⟨o, a, b, rfl, _⟩ := h
    rfl
  · obtain ⟨o, a, b, rfl, k⟩ := h
    refine ⟨_, pss_one (ps_ret (pe_and (pe_call GI hr rfl gI kI bI .nil pass0 (pa_cons (pv 0) pa_nil)) (pe_one (pe_chain op_le op_le (pv 1) (pv 0) (pv 2))))), ?_⟩
    rw [inO_is] at k
    cases o with
    | none => exact ⟨_, rfl, none, rfl, _, rfl, iteF k⟩
    | some n =>
      dsimp only at k
      refine ⟨_, rfl, some n, rfl, _, rfl, iteT ⟨_, rfl, _, rfl, _, _, rfl, rfl, _, rfl, ?_⟩⟩
      refine ite2 (fun h1 => ⟨_, rfl, _, _, rfl, rfl, ?_⟩) (fun h1 => ?_)
      · have e1 : (a : Int) ≤ (n : Int) := of_decide_eq_true h1
        rw [show decide (a ≤ n ∧ n ≤ b) = decide ((n : Int) ≤ (b : Int)) from decide_eq_decide.mpr ⟨fun z => by omega, fun z => ⟨by omega, by omega⟩⟩] at k
        exact k
      · rw [show decide (a ≤ n ∧ n ≤ b) = false from decide_eq_false fun q => h1 (decide_eq_true (by omega))] at k
        exact k
def spInN (a b : Nat) : Sp := fun vs H Q _ => ∃ o, vs = [numV o] ∧ Q (.bl (inO a b o).isSome) H
theorem ok_mostN {f : Addr} {fd : FuncData} (F : Fun K "is_most" "is_most" WP.sMost f fd) (W : WP.Df P w K mg base 2 "is_within" ["value", "least", "greatest"] spWithN) (T : WP.Wt K mg CW) : FnOk P w K mg base CX0 3 f fd ["value"] (spInN 1 1000000000000) := by
  obtain ⟨fW, fdW, GW, gW, kW, bW⟩ := W.ex
  obtain ⟨t, g⟩ := T.gMost
  refine F.ok WP.scM (fun vs H Q E h => ?_) (fun cdv A outer s H vs Q E hr h => ?_)
  · obtain ⟨o, rfl, _⟩ := h
    rfl
  · obtain ⟨o, rfl, k⟩ := h
    exact ⟨_, pss_one (ps_ret (pe_call GW hr rfl gW kW bW .nil pass0 (pa_cons (pv 0) (pa_cons pe_int (pa_cons (pe_glob (v := .int 1000000000000) rfl g ⟨_, rfl⟩) pa_nil))))), _, rfl, o, 1, 1000000000000, rfl, k⟩
theorem ok_headN {f : Addr} {fd : FuncData} (F : Fun K "is_head" "is_head" WP.sHead f fd) (W : WP.Df P w K mg base 2 "is_within" ["value", "least", "greatest"] spWithN) (T : WP.Wt K mg CW) : FnOk P w K mg base CX0 3 f fd ["value"] (spInN 1 40) := by
  obtain ⟨fW, fdW, GW, gW, kW, bW⟩ := W.ex
  obtain ⟨t, g⟩ := T.gHead
  refine F.ok WP.scHd (fun vs H Q E h => ?_) (fun cdv A outer s H vs Q E hr h => ?_)
  · obtain ⟨o, rfl, _⟩ := h
    rfl
  · obtain ⟨o, rfl, k⟩ := h
    exact ⟨_, pss_one (ps_ret (pe_call GW hr rfl gW kW bW .nil pass0 (pa_cons (pv 0) (pa_cons pe_int (pa_cons (pe_glob (v := .int 40) rfl g ⟨_, rfl⟩) pa_nil))))), _, rfl, o, 1, 40, rfl, k⟩
def spRoadN : Sp := fun vs H Q _ => ∃ (o : Option Nat) (c d : List Nat) (a : Nat), vs = [numV o, .str (TX.S c), .str (TX.S d), .int (a : Int)] ∧ Q (.bl ((inO a 1000 o).isSome && ((psd c).isSome && (plw d).isSome))) H
theorem ok_roadN {f : Addr} {fd : FuncData} (F : Fun K "is_road" "is_road" WP.sRoad f fd) (T : WP.Wt K mg CW) (W : WP.Df P w K mg base 2 "is_within" ["value", "least", "greatest"] spWithN) : FnOk P w K mg base CX0 3 f fd ["size", "sealed", "loose", "least"] spRoadN := by
  obtain ⟨fW, fdW, GW, gW, kW, bW⟩ := W.ex
  obtain ⟨t1, g1⟩ := T.gRoad
  obtain ⟨aS, g2, q2⟩ := T.wS
  obtain ⟨aL, g3, q3⟩ := T.wL
  refine F.ok WP.scR (fun vs H Q E h => ?_) (fun cdv A outer s H vs Q E hr h => ?_)
  · obtain ⟨o, c, d, a, rfl, _⟩ := h
    rfl
  · obtain ⟨o, c, d, a, rfl, k⟩ := h
    refine ⟨_, pss_one (ps_ret (pe_and (pe_call GW hr rfl gW kW bW .nil pass0 (pa_cons (pv 0) (pa_cons (pv 3) (pa_cons (pe_glob (v := .int 1000) rfl g1 ⟨_, rfl⟩) pa_nil)))) (pe_and (pe_cmpR op_in_seq (pv 1) (pe_glob (v := .ref aS) rfl g2 rfl) (by rfl)) (pe_one (pe_cmpR op_in_seq (pv 2) (pe_glob (v := .ref aL) rfl g3 rfl) (by rfl)))))), ?_⟩
    refine ⟨_, rfl, _, rfl, o, a, 1000, rfl, _, rfl, ?_⟩
    cases e1 : (inO a 1000 o).isSome with
    | false =>
      rw [e1, Bool.false_and] at k
      exact iteF k
    | true =>
      rw [e1, Bool.true_and] at k
      refine iteT ⟨_, rfl, aS, _, rfl, .inr (q2 _), rfl, rfl, _, rfl, ?_⟩
      show (if inV (.str (TX.S c)) [.str "tell", .str "drop"] = true then _ else _)
      rw [in_sd2]
      cases e2 : (psd c).isSome with
      | false =>
        rw [e2, Bool.false_and] at k
        exact iteF k
      | true =>
        rw [e2, Bool.true_and] at k
        refine iteT ⟨_, rfl, aL, _, rfl, .inr (q3 _), rfl, rfl, ?_⟩
        show Q (.bl (inV (.str (TX.S d)) [.str "cut", .str "tell", .str "drop"])) H
        rw [in_lw2]
        exact k
def spTellsN : Sp := fun vs H Q _ => ∃ c : List Nat, vs = [.str (TX.S c)] ∧ Q (.bl (ptw c).isSome) H
theorem ok_tellsN {f : Addr} {fd : FuncData} (F : Fun K "is_tells" "is_tells" WP.sTells f fd) (T : WP.Wt K mg CW) : FnOk P w K mg base CX0 1 f fd ["value"] spTellsN := by
  obtain ⟨aT, g2, q2⟩ := T.wT
  refine F.ok WP.scT (fun vs H Q E h => ?_) (fun cdv A outer s H vs Q E hr h => ?_)
  · obtain ⟨c, rfl, _⟩ := h
    rfl
  · obtain ⟨c, rfl, k⟩ := h
    refine ⟨_, pss_one (ps_ret (pe_cmpR op_in_seq (pv 0) (pe_glob (v := .ref aT) rfl g2 rfl) (by rfl))), ?_⟩
    refine ⟨_, rfl, aT, _, rfl, .inr (q2 _), rfl, rfl, ?_⟩
    show Q (.bl (inV (.str (TX.S c)) [.str "turn", .str "keep", .str "lose"])) H
    rw [in_tw2]
    exact k
/-! ### written_integer -/
def isD (c : Nat) : Bool := decide (c ∈ ("0123456789" : Str).cps.toList)
theorem isD_iff {c : Nat} : isD c = true ↔ 48 ≤ c ∧ c ≤ 57 := by
  unfold isD
  rw [decide_eq_true_iff, show ("0123456789" : Str).cps.toList = [48, 49, 50, 51, 52, 53, 54, 55, 56, 57] by decide +kernel]
  simp only [List.mem_cons, List.mem_nil_iff, or_false]
  omega
theorem all_D {w : List Nat} : (w.map isD).all id = true ↔ NumText.AllDigits w := by
  rw [List.all_eq_true]
  constructor
  · intro h c hc
    exact isD_iff.mp (h _ (List.mem_map.mpr ⟨c, hc, rfl⟩))
  · intro h b hb
    obtain ⟨c, hc, rfl⟩ := List.mem_map.mp hb
    exact isD_iff.mpr (h c hc)
def spWrA : Sp := fun vs H Q _ => ∃ (wd : List Nat), vs = [.str (TX.S wd)] ∧ wd.length ≤ 1000000 ∧ ∀ H', Same H H' → Q (numV (pnum wd)) H'
theorem ok_wrA {f : Addr} {fd : FuncData} (F : Fun K "written_integer" "written_integer" sWritten f fd) (B : Bn mg) (hall : mg "all" = none) (gD : ∃ t, mg "DIGITS" = some (.str "0123456789" t)) (gM : ∃ t, mg "MOST_DIGITS" = some (.int 60 t)) : FnOk P w K mg base CX0 1 f fd ["word"] spWrA := by
  obtain ⟨tD, gD⟩ := gD
  obtain ⟨tM, gM⟩ := gM
  refine F.ok scWr (fun vs H Q E h => ?_) (fun cdv A outer s H vs Q E hr h => ?_)
  · obtain ⟨x, rfl, _⟩ := h
    rfl
  · obtain ⟨v, rfl, lv, kk⟩ := h
    refine ⟨_, pss_cons (ps_if (PW.pt (pw_or (pt_not (pt_chain op_le op_le (pe_int) (pe_callB call_len_str (by rfl) B.len PySem.boot_len (pa_cons (pv 0) pa_nil)) (pe_glob (v := .int 60) rfl gM ⟨_, rfl⟩))) (pw_or1 (pt_not (pt_val (pe_callB (cr_all rfl) (by rfl) hall (by decide +kernel) (pa_cons (pe_lc (own := [("digit", 1)]) (g := gName 1) (tt := tYes) (te := tOp rSg (tVar 1) (tC (.str "0123456789"))) rfl scWr.nd (pi_str (pv 0)) (blkOk_by (N := NWr) (sc := defScope sWritten) (by decide +kernel))
          (fun _ _ _ _ _ => by exact pg_name (i := 1) scWr.nd rfl (Or.inl rfl)) (fun _ _ _ _ _ => pts_nil) (fun _ _ _ _ _ => by exact pe_cmpR (op_sg) (pv 1) (pe_glob (v := .str "0123456789") rfl gD ⟨_, rfl⟩) (by rfl))) pa_nil))))))) (pss_one (ps_ret (pe_non))) (pss_nil))
      (pss_cons (ps_if (PW.pt (pw_and (pt_cmpR (op_eq) (pe_ix ix_str (pv 0) (pe_int) (fun _ _ => rfl)) (pe_str) (nomark _)) (pw_and1 (pt_cmpR (op_gt) (pe_callB call_len_str (by rfl) B.len PySem.boot_len (pa_cons (pv 0) pa_nil)) (pe_int) (nomark _))))) (pss_one (ps_ret (pe_non))) (pss_nil))
      (pss_one (ps_ret (pe_callTy call_int_str (by rfl) B.int (by decide +kernel) (pa_cons (pv 0) pa_nil))))), ?_⟩
    have lx : (TX.S v).length = v.length := S_len v
    have bigz : ∀ {n : Nat}, n ≤ 1000000 → n ≤ sizeLine := fun h => Nat.le_trans h (by decide)
    have big : (TX.S v).length ≤ sizeLine := bigz (by omega)
    have no : pnum v = none → Q .non H := fun e => by
      have := kk H (Same.refl H)
      rw [e] at this
      exact this
    refine ⟨_, rfl, _, rfl, big, _, _, rfl, rfl, _, rfl, ?_⟩
    by_cases c1 : v.length = 0
    · rw [decide_eq_false (show ¬ (1 : Int) ≤ (((TX.S v).length : Nat) : Int) by omega)]
      exact iteF ⟨_, rfl, iteT (no (pnum_no (.inl (List.length_eq_zero_iff.mp c1))))⟩
    rw [decide_eq_true (show (1 : Int) ≤ (((TX.S v).length : Nat) : Int) by omega)]
    refine iteT ⟨_, _, rfl, rfl, _, rfl, ?_⟩
    by_cases c2 : 60 < v.length
    · rw [decide_eq_false (show ¬ (((TX.S v).length : Nat) : Int) ≤ 60 by omega)]
      exact iteT (no (pnum_no (.inr (.inl c2))))
    rw [decide_eq_true (show (((TX.S v).length : Nat) : Int) ≤ 60 by omega)]
    refine iteF ?_
    refine ⟨_, rfl, _, rfl, fun D hD => ?_⟩
    have cx : (TX.S v).cps.size = v.length := lx
    have t0 : (TX.S v).cps.toList = v := tl_S v
    refine lc_it walk_str (fun i G => Same H G ∧ G D = some (.lst (((v.take i).map isD).map V.bl))) ⟨of_upd hD, upd_same⟩ (fun i G _ z => trivial) ?_ ?_
    · rintro i x G G' hi ⟨s1, e1⟩ ⟨rfl, c, hc, rfl⟩
      have hv : v[i]? = some c := by
        rw [← t0, Array.getElem?_toList]
        exact hc
      refine ⟨rfl, _, rfl, c, _, rfl, rfl, ?_⟩
      refine ⟨_, e1, small1000 (by rw [List.length_map, List.length_map, List.length_take]; omega), add_upd hD s1, ?_⟩
      rw [upd_same, List.take_succ, hv, List.map_append, List.map_append]
      rfl
    · rintro G ⟨s1, e1⟩
      have no2 : pnum v = none → Q .non G := fun e => by
        have := kk G s1
        rw [e] at this
        exact this
      rw [List.take_of_length_le (by omega)] at e1
      refine ⟨D, _, rfl, SqL.of e1, ?_⟩
      cases ea : (v.map isD).all id with
      | false =>
        refine ⟨_, rfl, iteT (no2 (pnum_no (.inr (.inr (.inl fun z => ?_)))))⟩
        rw [all_D.mpr z] at ea
        cases ea
      | true =>
        have aD := all_D.mp ea
        refine ⟨_, rfl, iteF ?_⟩
        obtain ⟨c0, r0, rfl⟩ : ∃ c0 r0, v = c0 :: r0 := by
          cases v with
          | nil => exact absurd rfl c1
          | cons c r => exact ⟨c, r, rfl⟩
        refine ⟨_, rfl, _, _, c0, rfl, rfl, big, by rw [t0]; exact atI_nat (xs := c0 :: r0) (j := 0) rfl, rfl, _, rfl, ?_⟩
        have fin : ((c0 :: r0).length ≤ 1 ∨ ∃ c r, c0 :: r0 = c :: r ∧ c ≠ 48) → tCB (fun xs H Q => ∃ a n, xs = [V.str a] ∧ PySem.intText? a = some n ∧ a.length ≤ 640 ∧ Q (.int n) H) (tCons (tVar 0) tNil) (L2.start NWr [.str (TX.S (c0 :: r0))]) G Q := fun h => by
          have e := intText_digits (x := TX.S (c0 :: r0)) (by rw [t0]; exact aD) (by rw [t0]; simp) (by rw [lx]; omega)
          rw [t0] at e
          have := kk G s1
          rw [pnum_yes (by simp) (by omega) aD h] at this
          exact ⟨_, rfl, _, _, rfl, e, by rw [lx]; omega, this⟩
        by_cases hz : c0 = 48
        · subst hz
          refine iteP (congrArg V.str (show (⟨#[48]⟩ : Str) = "0" by decide +kernel)) ?_
          refine ⟨_, rfl, _, rfl, big, _, _, rfl, rfl, _, rfl, ?_⟩
          by_cases hr0 : r0 = []
          · subst hr0
            rw [decide_eq_false (by rw [lx]; decide)]
            exact iteF (fin (.inl (by simp)))
          · have : 1 ≤ r0.length := List.length_pos_iff.mpr hr0
            rw [decide_eq_true (by rw [lx, List.length_cons]; omega)]
            exact iteT (no2 (pnum_no (.inr (.inr (.inr ⟨r0, rfl, hr0⟩)))))
        · refine iteN (fun z => hz ?_) (iteF (fin (.inr ⟨c0, r0, rfl, hz⟩)))
          have z := V.str.inj z
          have e : tl (⟨#[c0]⟩ : Str) = tl ("0" : Str) := congrArg tl z
          rw [show tl ("0" : Str) = [48] by decide +kernel] at e
          exact (List.cons.inj e).1
end
end CP

end
section
set_option autoImplicit false
set_option Elab.async false
set_option linter.all false
set_option maxRecDepth 100000
set_option maxHeartbeats 4000000
/-! ## a line that is refused -/
namespace TX
open PySem hiding Step
open TL M
theorem pPlain_join (h : Nat) (b : List Nat) : pPlain h [cJoin, b] = (inO 1 1000000000000 (pnum b)).map .join := by
  show (if cJoin = cJoin then (inR 1 1000000000000 b).map Step.join else none) = _
  rw [if_pos rfl, inR_eq]
theorem pPlain_road (h : Nat) (b c d : List Nat) : pPlain h [cRoad, b, c, d] = pRoad h b c d := by
  show (if cRoad = cRoad then pRoad h b c d else none) = _
  rw [if_pos rfl]
theorem pRoad_is (h : Nat) (b c d : List Nat) : (pRoad h b c d).isSome = ((inO (h + 1) 1000 (pnum b)).isSome && ((psd c).isSome && (plw d).isSome)) := by
  unfold pRoad
  rw [inR_eq]
  cases inO (h + 1) 1000 (pnum b) <;> cases psd c <;> cases plw d <;> rfl
theorem pTw_is (b c : List Nat) : (pTw b c).isSome = ((inO 1 1000000000000 (pnum b)).isSome && (ptw c).isSome) := by
  unfold pTw
  rw [inR_eq]
  cases inO 1 1000000000000 (pnum b) <;> cases ptw c <;> rfl
theorem pHead_head (b : List Nat) : pHead [cHead, b] = inO 1 40 (pnum b) := by
  show (if cHead = cHead then inR 1 40 b else none) = _
  rw [if_pos rfl, inR_eq]
theorem pTun_tun (b c : List Nat) : pTun [cTun, b, c] = pTw b c := by
  show (if cTun = cTun then pTw b c else none) = _
  rw [if_pos rfl]
theorem isSome_false {α : Type} {o : Option α} (h : o = none) : o.isSome = false := by
  rw [h]
  rfl
def WL (ws : List (List Nat)) : Prop := ∀ w ∈ ws, w.length ≤ 1000000
end TX
namespace CP
open PySem L2 G Y
open TL TX
theorem iteNN {c : Prop} [Decidable c] {A B : Prop} (hc : ¬ c) (h : A) : if (!decide c) = true then A else B := by
  rw [decide_eq_false hc]
  exact iteT h
theorem three {α : Type} {l : List α} (h : l.length = 3) : ∃ a b c, l = [a, b, c] := by
  match l, h with
  | [a, b, c], _ => exact ⟨a, b, c, rfl⟩
theorem two {α : Type} {l : List α} (h : l.length = 2) : ∃ a b, l = [a, b] := by
  match l, h with
  | [a, b], _ => exact ⟨a, b, rfl⟩
theorem S_str {a : List Nat} {x : Str} (h : a ≠ tl x) : ¬ V.str (TX.S a) = V.str x := fun z => h (by rw [← V.str.inj z, tl_S])
section
variable {P : Program} {w : World} {K : PySem.W.Frag} {mg : Str → Option Value} {base : Heap} {CR CB CW : Addr}
def spStepB : Sp := fun vs H Q _ => ∃ (l : Addr) (h : Nat) (ws : List (List Nat)), vs = [.ref l, .int (h : Int)] ∧ H l = some (.lst (sv ws)) ∧ ws ≠ [] ∧ WL ws ∧ pPlain h ws = none ∧ ∀ H', Same H H' → Q .non H'
theorem ok_stepB {f : Addr} {fd : FuncData} (F : Fun K "_step" "_step" sTStep f fd) (B : Bn mg) (DW : Df P w K mg base 1 "written_integer" ["word"] spWrA) (DM : Df P w K mg base 3 "is_most" ["value"] (spInN 1 1000000000000)) (DR : Df P w K mg base 3 "is_road" ["size", "sealed", "loose", "least"] spRoadN) : FnOk P w K mg base CX0 4 f fd ["words", "head"] spStepB := by
  obtain ⟨fW, fdW, GW, gW, kW, bW⟩ := DW.ex
  obtain ⟨fM, fdM, GM, gM, kM, bM⟩ := DM.ex
  obtain ⟨fR, fdR, GR, gR, kR, bR⟩ := DR.ex
  refine F.ok scTs (fun vs H Q E h => ?_) (fun cdv A outer s H vs Q E hr h => ?_)
  · obtain ⟨l, h, s, rfl, _⟩ := h
    rfl
  · obtain ⟨l, h, ws, rfl, hl, hne, hw, hp, kk⟩ := h
    refine ⟨_, pss_cons (ps_if (PW.pt (pw_and (pt_cmpR (op_eq) (pe_ix ix_list (pv 0) (pe_int) (fun _ _ => rfl)) (pe_str) (nomark _)) (pw_and1 (pt_cmpR (op_eq) (pe_callB call_len_seq (by rfl) B.len PySem.boot_len (pa_cons (pv 0) pa_nil)) (pe_int) (nomark _))))) (pss_cons (ps_set (i := 2) scTs.nd rfl (Or.inl rfl) (pe_call GW (hr.mono (by omega)) rfl gW kW bW .nil pass0 (pa_cons (pe_ix ix_list (pv 0) (pe_int) (fun _ _ => rfl)) pa_nil)))
      (pss_one (ps_ret (pe_ifExp (pt_val (pe_call GM (hr.mono (by omega)) rfl gM kM bM .nil pass0 (pa_cons (pv 2) pa_nil))) (pe_tup (pa_cons (pe_str) (pa_cons (pv 2) pa_nil))) (pe_non))))) (pss_nil))
      (pss_cons (ps_if (PW.pt (pw_and (pt_cmpR (op_eq) (pe_ix ix_list (pv 0) (pe_int) (fun _ _ => rfl)) (pe_str) (nomark _)) (pw_and1 (pt_cmpR (op_eq) (pe_callB call_len_seq (by rfl) B.len PySem.boot_len (pa_cons (pv 0) pa_nil)) (pe_int) (nomark _))))) (pss_cons (ps_set (i := 3) scTs.nd rfl (Or.inl rfl) (pe_call GW (hr.mono (by omega)) rfl gW kW bW .nil pass0 (pa_cons (pe_ix ix_list (pv 0) (pe_int) (fun _ _ => rfl)) pa_nil)))
      (pss_one (ps_ret (pe_ifExp (pt_val (pe_call GR (hr.mono (by omega)) rfl gR kR bR .nil pass0 (pa_cons (pv 3) (pa_cons (pe_ix ix_list (pv 0) (pe_int) (fun _ _ => rfl)) (pa_cons (pe_ix ix_list (pv 0) (pe_int) (fun _ _ => rfl)) (pa_cons (pe_op (op_add) (pv 1) (pe_int)) pa_nil)))))) (pe_tup (pa_cons (pe_str) (pa_cons (pv 3) (pa_cons (pe_ix ix_list (pv 0) (pe_int) (fun _ _ => rfl)) (pa_cons (pe_ix ix_list (pv 0) (pe_int) (fun _ _ => rfl)) pa_nil))))) (pe_non))))) (pss_nil))
      (pss_one (ps_ret (pe_non)))), ?_⟩
    have hq := SqL.of (K := K) hl
    obtain ⟨w0, rest, rfl⟩ := List.exists_cons_of_ne_nil hne
    have big : ∀ {n : Nat}, n ≤ 1000000 → n ≤ sizeLine := fun h => Nat.le_trans h (by decide)
    have fin : Q .non H := kk H (Same.refl H)
    have e0 : sv (w0 :: rest) = V.str (TX.S w0) :: sv rest := rfl
    have hq0 : SqL K H l (V.str (TX.S w0) :: sv rest) := hq
    have tj : tl ("join" : Str) = cJoin := by rw [k_join, tl_S]
    have tr : tl ("road" : Str) = cRoad := by rw [k_road, tl_S]
    refine ⟨_, rfl, l, _, _, _, rfl, rfl, hq0, at_k0, rfl, _, rfl, ?_⟩
    by_cases hj : w0 = cJoin
    · subst hj
      refine iteP (congrArg V.str k_join.symm) ⟨_, rfl, l, _, rfl, .inl hq, rfl, _, rfl, ?_⟩
      by_cases h1 : rest.length = 1
      · obtain ⟨b, rfl⟩ := List.length_eq_one_iff.mp h1
        refine iteP (congrArg V.int (show (((sv [cJoin, b]).length : Nat) : Int) = 2 from rfl)) ?_
        refine set_then (i := 2) ⟨_, rfl, l, _, _, _, rfl, rfl, hq, at_k1, b, rfl, hw b (by simp), fun H1 s1 => ?_⟩
        refine ⟨_, rfl, pnum b, rfl, _, rfl, ?_⟩
        rw [pPlain_join] at hp
        rw [isSome_false (by cases z : inO 1 1000000000000 (pnum b) with | none => rfl | some n => rw [z] at hp; cases hp)]
        exact iteF (kk H1 s1)
      · refine iteN (fun z => h1 ?_) ?_
        · have z := V.int.inj z
          rw [sv_len, List.length_cons] at z
          omega
        refine ⟨_, rfl, l, _, _, _, rfl, rfl, hq0, at_k0, rfl, _, rfl, iteN (S_str (by rw [tr]; decide)) (iteF fin)⟩
    · refine iteN (S_str (by rw [tj]; exact hj)) (iteF ?_)
      refine ⟨_, rfl, l, _, _, _, rfl, rfl, hq0, at_k0, rfl, _, rfl, ?_⟩
      by_cases hr0 : w0 = cRoad
      · subst hr0
        refine iteP (congrArg V.str k_road.symm) ⟨_, rfl, l, _, rfl, .inl hq, rfl, _, rfl, ?_⟩
        by_cases h3 : rest.length = 3
        · obtain ⟨b, c, d, rfl⟩ := three h3
          refine iteP (congrArg V.int (show (((sv [cRoad, b, c, d]).length : Nat) : Int) = 4 from rfl)) ?_
          refine set_then (i := 3) ⟨_, rfl, l, _, _, _, rfl, rfl, hq, at_k1, b, rfl, hw b (by simp), fun H1 s1 => ?_⟩
          have hq1 := SqL.of (K := K) (s1 _ _ hl)
          refine ⟨_, rfl, _, rfl, l, _, _, _, rfl, rfl, hq1, at_k2, _, rfl, l, _, _, _, rfl, rfl, hq1, at_k3, _, rfl, _, _, rfl, rfl, pnum b, c, d, h + 1, rfl, _, rfl, ?_⟩
          rw [pPlain_road] at hp
          rw [← pRoad_is, isSome_false hp]
          exact iteF (kk H1 s1)
        · refine iteN (fun z => h3 ?_) fin
          have z := V.int.inj z
          rw [sv_len, List.length_cons] at z
          omega
      · exact iteN (S_str (by rw [tr]; exact hr0)) (iteF fin)
def spTHeadB (CR CB CW : Addr) : Sp := fun vs H Q _ => ∃ (x l : Addr) (f : Fr) (r : List Fr) (n : Nat) (H0 : Hp) (ws : List (List Nat)), vs = [.ref x, .ref l] ∧ RdAt CR CB CW H0 H (f :: r) n x ∧ H l = some (.lst (sv ws)) ∧ ws ≠ [] ∧ WL ws ∧ pHead ws = none ∧ ∀ H', Same H0 H' → Q (.bl false) H'
theorem ok_theadB {f : Addr} {fd : FuncData} (F : Fun K "_takes_head" "Reader._takes_head" sRHead f fd) (B : Bn mg) (T : Rt K mg CR) (TB : Bt K mg CB) (DW : Df P w K mg base 1 "written_integer" ["word"] spWrA) (DH : Df P w K mg base 3 "is_head" ["value"] (spInN 1 40)) : FnOk P w K mg base CX0 4 f fd ["self", "words"] (spTHeadB CR CB CW) := by
  obtain ⟨fW, fdW, GW, gW, kW, bW⟩ := DW.ex
  obtain ⟨fH, fdH, GH, gH, kH, bH⟩ := DH.ex
  refine F.ok scRh (fun vs H Q E h => ?_) (fun cdv A outer s H vs Q E hr h => ?_)
  · obtain ⟨x, l, f, r, n, H0, ws, rfl, _⟩ := h
    rfl
  · obtain ⟨x, l, f, r, n, H0, ws, rfl, hR, hl, hne, hw, hp, k⟩ := h
    refine ⟨_, pss_cons (ps_if (PW.pt (pw_or (pt_cmpR (op_ne) (pe_callB call_len_seq (by rfl) B.len PySem.boot_len (pa_cons (pv 1) pa_nil)) (pe_int) (nomark _)) (pw_or (pt_cmpR (op_ne) (pe_ix ix_list (pv 1) (pe_int) (fun _ _ => rfl)) (pe_str) (nomark _)) (pw_or1 (pt_not (pt_val (pe_call GH (hr.mono (by omega)) rfl gH kH bH .nil pass0 (pa_cons (pe_call GW (hr.mono (by omega)) rfl gW kW bW .nil pass0 (pa_cons (pe_ix ix_list (pv 1) (pe_int) (fun _ _ => rfl)) pa_nil)) pa_nil)))))))) (pss_one (ps_ret (pe_bl))) (pss_nil))
      (pss_cons (ps_set (i := 2) scRh.nd rfl (Or.inl rfl) (pe_ix ix_list (pe_fld (pv 0) rfl) (pe_un un_neg (pe_int)) (fun _ _ => rfl)))
      (pss_cons (ps_fld (pv 2) (pe_call GW (hr.mono (by omega)) rfl gW kW bW .nil pass0 (pa_cons (pe_ix ix_list (pv 1) (pe_int) (fun _ _ => rfl)) pa_nil)) rfl)
      (pss_one (ps_ret (pe_bl))))), ?_⟩
    have hq := SqL.of (K := K) hl
    obtain ⟨w0, rest, rfl⟩ := List.exists_cons_of_ne_nil hne
    have hq0 : SqL K H l (V.str (TX.S w0) :: sv rest) := hq
    have fin : Q (.bl false) H := k H hR.sm
    have th : tl ("head" : Str) = cHead := by rw [k_head, tl_S]
    refine ⟨_, rfl, l, _, rfl, .inl hq, rfl, _, rfl, ?_⟩
    by_cases h1 : rest.length = 1
    · obtain ⟨b, rfl⟩ := List.length_eq_one_iff.mp h1
      refine iteNS rfl ⟨_, rfl, l, _, _, _, rfl, rfl, hq, at_k0, rfl, _, rfl, ?_⟩
      by_cases hh : w0 = cHead
      · subst hh
        refine iteNS (congrArg V.str k_head.symm) ⟨_, rfl, l, _, _, _, rfl, rfl, hq, at_k1, b, rfl, hw b (by simp), fun H1 s1 => ?_⟩
        refine ⟨pnum b, rfl, _, rfl, ?_⟩
        rw [pHead_head] at hp
        rw [isSome_false hp]
        exact iteT (k H1 (hR.sm.trans s1))
      · exact iteNN (S_str (by rw [th]; exact hh)) (iteT fin)
    · exact iteNN (fun z => h1 (by
        have z := V.int.inj z
        rw [sv_len, List.length_cons] at z
        omega)) (iteT fin)
def spRTunB (CR CB CW : Addr) : Sp := fun vs H Q _ => ∃ (x l : Addr) (st : List Fr) (n : Nat) (H0 : Hp) (rest : List (List Nat)), vs = [.ref x, .ref l] ∧ RdAt CR CB CW H0 H st n x ∧ H l = some (.lst (sv (cTun :: rest))) ∧ WL rest ∧ st.length ≤ 100 ∧ (pTun (cTun :: rest) = none ∨ 2 < st.length ∨ 40 ≤ n) ∧ ∀ H', Same H0 H' → Q (.bl false) H'
theorem ok_rtunB (n1 : CW ≠ CB) (n2 : CW ≠ CR) {f : Addr} {fd : FuncData} (F : Fun K "_takes_tunnel" "Reader._takes_tunnel" sRTun f fd) (B : Bn mg) (T : Rt K mg CR) (TB : Bt K mg CB) (TW : WP.Wt K mg CW) (DW : Df P w K mg base 1 "written_integer" ["word"] spWrA) (DM : Df P w K mg base 3 "is_most" ["value"] (spInN 1 1000000000000)) (DT : Df P w K mg base 1 "is_tells" ["value"] spTellsN) (MB : Mn P w K mg base CB 1 ["self", "most", "tells"] (spBInit CB CW)) : FnOk P w K mg base CX0 4 f fd ["self", "words"] (spRTunB CR CB CW) := by
  obtain ⟨fW, fdW, GW, gW, kW, bW⟩ := DW.ex
  obtain ⟨fM, fdM, GM, gM, kM, bM⟩ := DM.ex
  obtain ⟨fT, fdT, GT, gT, kT, bT⟩ := DT.ex
  obtain ⟨fB, fdB, GB, MB, bB⟩ := MB.ex
  have gB := TB.g
  obtain ⟨t1, q1⟩ := TW.gDepth
  obtain ⟨t2, q2⟩ := TW.gSize
  refine F.ok scRu (fun vs H Q E h => ?_) (fun cdv A outer s H vs Q E hr h => ?_)
  · obtain ⟨x, l, st, n, H0, rest, rfl, _⟩ := h
    rfl
  · obtain ⟨x, l, st, n, H0, rest, rfl, hR, hl, hw, st100, hp, k⟩ := h
    refine ⟨_, pss_cons (ps_if (PW.pt (pw_or (pt_cmpR (op_ne) (pe_callB call_len_seq (by rfl) B.len PySem.boot_len (pa_cons (pv 1) pa_nil)) (pe_int) (nomark _)) (pw_or (pt_not (pt_val (pe_call GM (hr.mono (by omega)) rfl gM kM bM .nil pass0 (pa_cons (pe_call GW (hr.mono (by omega)) rfl gW kW bW .nil pass0 (pa_cons (pe_ix ix_list (pv 1) (pe_int) (fun _ _ => rfl)) pa_nil)) pa_nil)))) (pw_or1 (pt_not (pt_val (pe_call GT (hr.mono (by omega)) rfl gT kT bT .nil pass0 (pa_cons (pe_ix ix_list (pv 1) (pe_int) (fun _ _ => rfl)) pa_nil)))))))) (pss_one (ps_ret (pe_bl))) (pss_nil))
      (pss_cons (ps_expr (pe_bm PySem.F.plainAttrs_list PySem.F.slot_list_append PySem.F.type_list_append mt_append (pe_fld (pv 0) rfl) (pa_cons (pe_make MB GB (hr.mono (by omega)) rfl gB bB .nil pass0 (pa_cons (pe_call GW (hr.mono (by omega)) rfl gW kW bW .nil pass0 (pa_cons (pe_ix ix_list (pv 1) (pe_int) (fun _ _ => rfl)) pa_nil)) (pa_cons (pe_ix ix_list (pv 1) (pe_int) (fun _ _ => rfl)) pa_nil))) pa_nil)))
      (pss_one (ps_ret (pe_and (pe_cmpR (op_le) (pe_callB call_len_seq (by rfl) B.len PySem.boot_len (pa_cons (pe_fld (pv 0) rfl) pa_nil)) (pe_glob (v := .int 3) rfl q1 ⟨_, rfl⟩) (nomark _)) (pe_one (pe_cmpR (op_lt) (pe_fld (pv 0) rfl) (pe_glob (v := .int 40) rfl q2 ⟨_, rfl⟩) (nomark _))))))), ?_⟩
    have hq := SqL.of (K := K) hl
    refine ⟨_, rfl, l, _, rfl, .inl hq, rfl, _, rfl, ?_⟩
    by_cases h2 : rest.length = 2
    · obtain ⟨b, c, rfl⟩ := two h2
      refine iteNS rfl ⟨_, rfl, l, _, _, _, rfl, rfl, hq, at_k1, b, rfl, hw b (by simp), fun H1 s1 => ?_⟩
      refine ⟨pnum b, rfl, _, rfl, ?_⟩
      cases e1 : inO 1 1000000000000 (pnum b) with
      | none => exact iteT (iteT (k H1 (hR.sm.trans s1)))
      | some m =>
        obtain ⟨e2, m1, m2⟩ := inO_some e1
        refine iteF ⟨_, rfl, l, _, _, _, rfl, rfl, SqL.of (s1 _ _ hl), at_k2, c, rfl, _, rfl, ?_⟩
        cases e3 : ptw c with
        | none => exact iteT (k H1 (hR.sm.trans s1))
        | some t =>
          refine iteF ?_
          have pt : pTun [cTun, b, c] = some (m, t) := by
            rw [pTun_tun]
            unfold pTw
            rw [inR_eq, e1, e3]
          have hb : 2 < st.length ∨ 40 ≤ n := by
            rcases hp with h | h
            · rw [pt] at h
              cases h
            · exact h
          obtain ⟨eb, _, _⟩ := inR_some (inR_eq 1 1000000000000 b ▸ e1)
          have ec := ptw_some e3
          obtain ⟨dx, bb, ps, hR⟩ := hR
          have hR1 := hR.same s1
          refine ⟨_, rfl, x, CR, dx, _, _, rfl, hR1.hx, T.cl, T.nB, rf_look.1, .inl ⟨rfl, _, SqL.of hR1.hb⟩, ?_⟩
          refine ⟨_, rfl, l, _, _, _, rfl, rfl, SqL.of (s1 _ _ hl), at_k1, b, rfl, hw b (by simp), fun H2 s2 => ?_⟩
          rw [e2]
          have s12 := s1.trans s2
          refine ⟨_, rfl, l, _, _, _, rfl, rfl, SqL.of (s12 _ _ hl), at_k2, ?_⟩
          intro a dxa ha hdxa nea
          refine ⟨a, dxa, some (m, t), H2, ?_, upd_same, ha, (of_upd hdxa).trans (of_upd (by rw [upd_ne nea.symm]; exact ha)), fun s1' H3 g1 hs wa => ⟨rfl, ?_⟩⟩
          · show _ = [V.ref a, .int (m : Int), .str (WP.twS t)]
            rw [ec, k_tw]
            rfl
          have hR2 := hR.same s12
          have hR3 := hR2.same g1
          have nin : ∀ {y : Addr}, H2 y = none → ∀ p ∈ ps, p.1 ≠ y ∧ p.2 ≠ y := fun {y} hy p hp => by
            have kd : ∀ {st : List Fr} {ps : List (Addr × Addr)}, StkAt CB CW H2 st ps → ∀ p ∈ ps, p.1 ≠ y ∧ p.2 ≠ y := fun {st} => by
              induction st with
              | nil =>
                intro ps h p hp
                have e : ps = [] := h
                rw [e] at hp
                cases hp
              | cons f r ih =>
                intro ps h p hp
                obtain ⟨q, qs, rfl, h1, h2⟩ := h
                rcases List.mem_cons.mp hp with e | e
                · rw [e]
                  obtain ⟨dx, xs, a1, a2, _⟩ := h1.ex
                  exact ⟨(fun z => by rw [z, hy] at a1; cases a1), (fun z => by rw [z, hy] at a2; cases a2)⟩
                · exact ih h2 p e
            exact kd hR2.stk p hp
          have ll := hR3.stk.len
          refine ⟨bb, _, _, rfl, rfl, hR3.hb, small1000 (by rw [bg_len]; omega), ?_⟩
          have hR4 := rd_push n1 n2 hR3 wa (hR2.sm.free ha) (hR2.sm.free hs) (fun z => by
            obtain ⟨p, hp, e⟩ := List.mem_map.mp z
            exact (nin ha p hp).1 e) (fun z => by
            obtain ⟨p, hp, e⟩ := List.mem_map.mp z
            exact (nin hs p hp).2 e) (fun z => by
            have := hR2.hb
            rw [← z, hs] at this
            cases this) (fun z => by
            have := hR2.hx
            rw [← z, ha] at this
            cases this)
          generalize upd H3 bb (.lst (bgV ps ++ [V.ref a])) = H4 at hR4 ⊢
          refine ⟨_, rfl, x, CR, dx, _, _, rfl, hR4.hx, T.cl, T.nB, rf_look.1, bb, _, rfl, .inl (SqL.of hR4.hb), _, _, rfl, rfl, _, rfl, ?_⟩
          by_cases h3 : 2 < st.length
          · rw [decide_eq_false (show ¬ (((bgV ((a, s1') :: ps)).length : Nat) : Int) ≤ 3 by rw [bg_len, List.length_cons]; omega)]
            exact iteF (k H4 hR4.sm)
          · rw [decide_eq_true (show (((bgV ((a, s1') :: ps)).length : Nat) : Int) ≤ 3 by rw [bg_len, List.length_cons]; omega)]
            refine iteT ⟨_, rfl, x, CR, dx, _, _, rfl, hR4.hx, T.cl, T.nS, rf_look.2, _, _, rfl, rfl, ?_⟩
            show Q (.bl (decide ((n : Int) < 40))) H4
            rw [decide_eq_false (by omega)]
            exact k H4 hR4.sm
    · exact iteNN (fun z => h2 (by
        have z := V.int.inj z
        rw [sv_len, List.length_cons] at z
        omega)) (iteT (k H hR.sm))
def spRStepB (CR CB CW : Addr) : Sp := fun vs H Q _ => ∃ (x l : Addr) (f : Fr) (r : List Fr) (n h : Nat) (H0 : Hp) (ws : List (List Nat)), vs = [.ref x, .ref l] ∧ RdAt CR CB CW H0 H (f :: r) n x ∧ H l = some (.lst (sv ws)) ∧ H0 l = some (.lst (sv ws)) ∧ ws ≠ [] ∧ WL ws ∧ f.head = some h ∧ r.length ≤ 50 ∧
  (f.steps.length = 12 ∨ n = 40 ∨ (pPlain h ws = none ∧ (pTun ws = none ∨ 40 ≤ n + 1 ∨ 3 < r.length + 2))) ∧ ∀ H', Same H0 H' → Q (.bl false) H'
theorem ok_rstepB (n1 : CW ≠ CB) (n2 : CW ≠ CR) {f : Addr} {fd : FuncData} (F : Fun K "_takes_step" "Reader._takes_step" sRStep f fd) (B : Bn mg) (T : Rt K mg CR) (TB : Bt K mg CB) (TW : WP.Wt K mg CW) (DS : Df P w K mg base 4 "_step" ["words", "head"] spStepB) (MU : Mr P w K mg base CR 4 "_takes_tunnel" ["self", "words"] (spRTunB CR CB CW)) : FnOk P w K mg base CX0 5 f fd ["self", "words"] (spRStepB CR CB CW) := by
  obtain ⟨fS, fdS, GS, gS, kS, bS⟩ := DS.ex
  obtain ⟨fU, fdU, GU, mU, bU⟩ := MU.ex
  obtain ⟨t1, q1⟩ := TW.gSteps
  obtain ⟨t2, q2⟩ := TW.gSize
  refine F.ok scRs (fun vs H Q E h => ?_) (fun cdv A outer s H vs Q E hr h => ?_)
  · obtain ⟨x, l, f, r, n, h, H0, ws, rfl, _⟩ := h
    rfl
  · obtain ⟨x, l, f, r, n, h, H0, ws, rfl, ⟨dx, b, ps, hR⟩, hl, hl0, hne, hw, hh, r50, hb, k⟩ := h
    refine ⟨_, pss_cons (ps_set (i := 2) scRs.nd rfl (Or.inl rfl) (pe_ix ix_list (pe_fld (pv 0) rfl) (pe_un un_neg (pe_int)) (fun _ _ => rfl)))
      (pss_cons (ps_if (PW.pt (pw_or (pt_cmpR (op_eq) (pe_callB call_len_seq (by rfl) B.len PySem.boot_len (pa_cons (pe_fld (pv 2) rfl) pa_nil)) (pe_glob (v := .int 12) rfl q1 ⟨_, rfl⟩) (nomark _)) (pw_or1 (pt_cmpR (op_eq) (pe_fld (pv 0) rfl) (pe_glob (v := .int 40) rfl q2 ⟨_, rfl⟩) (nomark _))))) (pss_one (ps_ret (pe_bl))) (pss_nil))
      (pss_cons (ps_fld (pv 0) (pe_op (op_add) (pe_fld (pv 0) rfl) (pe_int)) rfl)
      (pss_cons (ps_if (pt_cmpR (op_eq) (pe_ix ix_list (pv 1) (pe_int) (fun _ _ => rfl)) (pe_str) (nomark _)) (pss_one (ps_ret (pe_meth (pv 0) T.cl mU GU (hr.mono (by omega)) bU .nil pass0 (pa_cons (pv 1) pa_nil)))) (pss_nil))
      (pss_cons (ps_set (i := 3) scRs.nd rfl (Or.inl rfl) (pe_call GS (hr.mono (by omega)) rfl gS kS bS .nil pass0 (pa_cons (pv 1) (pa_cons (pe_fld (pv 2) rfl) pa_nil))))
      (pss_cons (ps_if (pt_cmpR (op_isN) (pv 3) (pe_non) (nomark _)) (pss_one (ps_ret (pe_bl))) (pss_nil))
      (pss_cons (ps_expr (pe_bm PySem.F.plainAttrs_list PySem.F.slot_list_append PySem.F.type_list_append mt_append (pe_fld (pv 2) rfl) (pa_cons (pv 3) pa_nil)))
      (pss_one (ps_ret (pe_bl))))))))), ?_⟩
    obtain ⟨p, qs, rfl, g1, g2⟩ := stk_cons hR.stk
    obtain ⟨dxf, xs, w1, w2, w3⟩ := g1.ex
    refine set_then (i := 2) (rd_top T rfl hR ?_)
    refine ⟨_, rfl, p.1, CB, dxf, _, _, rfl, w1, TB.cl, TB.nS, bf_look.2.2.2, p.2, xs, rfl, .inl (SqL.of w2), rfl, _, rfl, ?_⟩
    by_cases b1 : f.steps.length = 12
    · exact iteP (congrArg V.int (show ((xs.length : Nat) : Int) = 12 by rw [w3.len, b1]; rfl)) (iteT (k H hR.sm))
    refine iteN (fun z => b1 ?_) ?_
    · have z := V.int.inj z
      rw [w3.len] at z
      omega
    refine ⟨_, rfl, x, CR, dx, _, _, rfl, hR.hx, T.cl, T.nS, rf_look.2, rfl, _, rfl, ?_⟩
    by_cases b2 : n = 40
    · exact iteP (congrArg V.int (show ((n : Nat) : Int) = 40 by rw [b2]; rfl)) (k H hR.sm)
    refine iteN (fun z => b2 ?_) ?_
    · have z := V.int.inj z
      omega
    obtain ⟨hp, hb⟩ : pPlain h ws = none ∧ (pTun ws = none ∨ 40 ≤ n + 1 ∨ 3 < r.length + 2) := by
      rcases hb with hb | hb | hb
      · exact absurd hb b1
      · exact absurd hb b2
      · exact hb
    refine ⟨_, rfl, x, CR, dx, _, _, rfl, hR.hx, T.cl, T.nS, rf_look.2, _, _, rfl, rfl, _, rfl, x, CR, dx, _, rfl, hR.hx, T.cl, T.nS, rf_len _ _, ?_⟩
    rw [rf_size]
    have hR2 := rd_size (m := n + 1) n1 n2 hR
    change RdP CR CB CW H0 (upd H x (.ins CR dx (rf b ((n : Int) + 1)))) (f :: r) (n + 1) x dx b (p :: qs) at hR2
    generalize upd H x (.ins CR dx (rf b ((n : Int) + 1))) = H1 at hR2 ⊢
    have hl1 := hR2.sm _ _ hl0
    have hq := SqL.of (K := K) hl1
    obtain ⟨w0, rest, rfl⟩ := List.exists_cons_of_ne_nil hne
    have hq0 : SqL K H1 l (V.str (TX.S w0) :: sv rest) := hq
    have tt : tl ("tunnel" : Str) = cTun := by rw [k_tun, tl_S]
    refine ⟨_, rfl, l, _, _, _, rfl, rfl, hq0, at_k0, rfl, _, rfl, ?_⟩
    by_cases ht : w0 = cTun
    · subst ht
      refine iteP (congrArg V.str k_tun.symm) ?_
      refine ⟨_, rfl, x, dx, _, rfl, hR2.hx, rf_no (by decide +kernel) (by decide +kernel), _, rfl, x, l, f :: r, n + 1, H0, rest, rfl, ⟨dx, b, _, hR2⟩, hl1, fun w hw2 => hw w (List.mem_cons_of_mem _ hw2), by rw [List.length_cons]; omega, ?_, k⟩
      rcases hb with hb | hb | hb
      · exact .inl hb
      · exact .inr (.inr hb)
      · exact .inr (.inl (by rw [List.length_cons]; omega))
    · refine iteN (S_str (by rw [tt]; exact ht)) ?_
      obtain ⟨p', qs', e0, g1', g2'⟩ := stk_cons hR2.stk
      cases e0
      obtain ⟨dxf2, xs2, v1, v2, v3⟩ := g1'.ex
      rw [hh] at v1
      unfold tNext
      dsimp only
      refine set_then (i := 3) ⟨_, rfl, _, rfl, p.1, CB, dxf2, _, _, rfl, v1, TB.cl, TB.nH, bf_look.2.2.1, l, h, w0 :: rest, rfl, hl1, by simp, hw, hp, fun H2 s2 => ?_⟩
      exact ⟨_, rfl, rfl, _, rfl, iteP rfl (k H2 (hR2.sm.trans s2))⟩
/-- Reader._level: nothing -/
def spLevelB (CR CB CW : Addr) : Sp := fun vs H Q _ => ∃ (x : Addr) (l : List Nat) (f : Fr) (r : List Fr) (n k : Nat) (ws : List (List Nat)) (H0 : Hp), vs = [.ref x, .str (TX.S l)] ∧ RdAt CR CB CW H0 H (f :: r) n x ∧ Cut l k ws ∧ l.length ≤ 1000000 ∧ (k % 2 = 1 ∨ 2 * r.length < k ∨ (k < 2 * r.length ∧ f.steps = [])) ∧ Q .non H
theorem ok_levelB {f : Addr} {fd : FuncData} (F : Fun K "_level" "Reader._level" sRLevel f fd) (B : Bn mg) (T : Rt K mg CR) (gI : ∃ t, mg "INDENTATION" = some (.str "  " t)) (MW : Mr P w K mg base CR 1 "is_whole" ["self"] (spWhole CR CB CW)) : FnOk P w K mg base CX0 2 f fd ["self", "line"] (spLevelB CR CB CW) := by
  obtain ⟨fW, fdW, GW, mW, bW⟩ := MW.ex
  obtain ⟨tI, gI⟩ := gI
  refine F.ok scRl (fun vs H Q E h => ?_) (fun cdv A outer s H vs Q E hr h => ?_)
  · obtain ⟨x, l, f, r, n, k, ws, H0, rfl, _⟩ := h
    rfl
  · obtain ⟨x, l, f, r, n, kk, ws, H0, rfl, ⟨dx, b, ps, h⟩, C, l1, hb, k⟩ := h
    refine ⟨_, pss_cons (ps_set (i := 2) scRl.nd rfl (Or.inl rfl) (pe_op (op_sub) (pe_callB call_len_str (by rfl) B.len PySem.boot_len (pa_cons (pv 1) pa_nil)) (pe_callB call_len_str (by rfl) B.len PySem.boot_len (pa_cons (pe_bm PySem.F.plainAttrs_str PySem.F.slot_str_lstrip PySem.F.type_str_lstrip mt_lstripChars (pv 1) (pa_cons (pe_str) pa_nil)) pa_nil))))
      (pss_cons (ps_set (i := 3) scRl.nd rfl (Or.inl rfl) (pe_op (op_fdiv) (pv 2) (pe_callB call_len_str (by rfl) B.len PySem.boot_len (pa_cons (pe_glob (v := .str "  ") rfl gI ⟨_, rfl⟩) pa_nil))))
      (pss_cons (ps_set (i := 4) scRl.nd rfl (Or.inl rfl) (pe_op (op_sub) (pe_callB call_len_seq (by rfl) B.len PySem.boot_len (pa_cons (pe_fld (pv 0) rfl) pa_nil)) (pe_int)))
      (pss_cons (ps_if (PW.pt (pw_or (pt_cmpR (op_ne) (pv 2) (pe_op (op_mul) (pv 3) (pe_callB call_len_str (by rfl) B.len PySem.boot_len (pa_cons (pe_glob (v := .str "  ") rfl gI ⟨_, rfl⟩) pa_nil))) (nomark _)) (pw_or1 (pt_cmpR (op_gt) (pv 3) (pv 4) (nomark _))))) (pss_one (ps_ret (pe_non))) (pss_nil))
      (pss_one (ps_ret (pe_ifExp (PW.pt (pw_or (pt_cmpR (op_eq) (pv 3) (pv 4) (nomark _)) (pw_or1 (pt_val (pe_meth0 (pv 0) T.cl mW GW (hr.mono (by omega)) bW .nil pass0))))) (pv 3) (pe_non))))))), ?_⟩
    have big : ∀ {n : Nat}, n ≤ 1000000 → n ≤ sizeLine := fun h => Nat.le_trans h (by decide)
    have ll : (TX.S l).length = kk + (joinL [32] ws).length := by rw [S_len, C.eq]; simp
    have ls : (TX.S l).length ≤ 1000000 := by rw [S_len]; exact l1
    have lc : (TX.S (joinL [32] ws)).length = (joinL [32] ws).length := S_len _
    have l2 : ("  " : Str).length = 2 := by rw [len_tl, k_ind, tl_S]; rfl
    refine set_then (i := 2) ⟨_, rfl, _, rfl, big ls, _, rfl, rfl, _, _, rfl, rfl, big ls, ?_⟩
    rw [strip_ind (k := kk) (by rw [tl_S]; exact C.eq) C.st]
    refine ⟨_, rfl, by rw [lc]; exact big (by omega), _, _, rfl, rfl, ?_⟩
    dsimp only
    rw [lc, show (((TX.S l).length : Nat) : Int) - (((joinL [32] ws).length : Nat) : Int) = ((kk : Nat) : Int) by omega]
    refine set_then (i := 3) ⟨_, rfl, _, rfl, by decide +kernel, _, _, rfl, rfl, ?_, ?_⟩
    · rw [l2]
      exact ⟨by decide, by decide⟩
    dsimp only
    rw [l2, show ((kk : Nat) : Int) / ((2 : Nat) : Int) = ((kk / 2 : Nat) : Int) by omega]
    have hst := h.stk
    obtain ⟨p, qs, rfl, g1, g2⟩ := stk_cons hst
    refine set_then (i := 4) (rd_len T rfl h ⟨_, _, rfl, rfl, ?_⟩)
    dsimp only
    rw [show (((f :: r).length : Nat) : Int) - 1 = ((r.length : Nat) : Int) by rw [List.length_cons]; omega]
    refine ⟨_, rfl, _, rfl, _, rfl, by decide +kernel, _, _, rfl, rfl, ?_, rfl, _, rfl, ?_⟩
    · exact .inl ⟨by omega, by omega⟩
    rw [l2]
    by_cases c1 : kk % 2 = 1
    · refine iteNN (fun z => ?_) (iteT k)
      have z := V.int.inj z
      omega
    refine iteNS (congrArg V.int (show ((kk : Nat) : Int) = ((kk / 2 : Nat) : Int) * ((2 : Nat) : Int) by omega)) ?_
    refine ⟨_, rfl, _, rfl, _, _, rfl, rfl, _, rfl, ?_⟩
    by_cases c2 : 2 * r.length < kk
    · rw [decide_eq_true (show ((kk / 2 : Nat) : Int) > ((r.length : Nat) : Int) by omega)]
      exact iteT k
    rw [decide_eq_false (show ¬ ((kk / 2 : Nat) : Int) > ((r.length : Nat) : Int) by omega)]
    obtain ⟨c3, c4⟩ : kk < 2 * r.length ∧ f.steps = [] := by
      rcases hb with hb | hb | hb
      · exact absurd hb c1
      · exact absurd hb c2
      · exact hb
    refine iteF ⟨_, rfl, _, rfl, rfl, _, rfl, iteN (fun z => ?_) ?_⟩
    · have z := V.int.inj z
      omega
    refine ⟨_, rfl, x, dx, _, rfl, h.hx, rf_no (by decide +kernel) (by decide +kernel), x, f, r, n, H0, rfl, ⟨dx, b, p :: qs, h⟩, _, rfl, ?_⟩
    rw [decide_eq_false (by rw [c4]; simp)]
    exact iteF k
end
end CP

end
section
set_option autoImplicit false
set_option Elab.async false
set_option linter.all false
set_option maxRecDepth 100000
set_option maxHeartbeats 4000000
/-! ## takes, of any line -/
namespace L2
open PySem PySem.Spec
def orSp (a b : Sp) : Sp := fun vs H Q E => a vs H Q E ∨ b vs H Q E
theorem FnOk.or {P : Program} {w : World} {K : PySem.W.Frag} {mg : Str → Option Value} {base : Heap} {CX : CXT} {k : Nat} {f : Addr} {fd : FuncData} {ps : List Str} {a b : Sp} (F : FnOk P w K mg base CX k f fd ps a) (G : FnOk P w K mg base CX k f fd ps b) : FnOk P w K mg base CX k f fd ps (orSp a b) :=
  ⟨fun vs H Q E h => h.elim (F.len vs H Q E) (G.len vs H Q E), fun A outer s H args us vs Q E hr he hb hv h => h.elim (F.run A outer s H args us vs Q E hr he hb hv) (G.run A outer s H args us vs Q E hr he hb hv)⟩
end L2
namespace TX
open PySem hiding Step
open TL M
theorem split_gen {ws : List (List Nat)} (h : ∀ w ∈ ws, (32 : Nat) ∉ w) (hn : ws ≠ []) : Txt.split (S (joinL [32] ws)) (S [32]) = ws.map S := by
  have e : S (joinL [32] ws) = Txt.join (S [32]) (ws.map S) := by
    rw [join_eq]
    refine ext_tl ?_
    rw [tl_join, tl_S, tl_S, List.map_map]
    have : tl ∘ S = id := funext tl_S
    rw [this, List.map_id]
  rw [e]
  refine split_join (s := 32) (S := []) (tl_S _) (by decide +kernel) (fun z => hn (List.map_eq_nil_iff.mp z)) fun p hp => ?_
  obtain ⟨w, hw, rfl⟩ := List.mem_map.mp hp
  rw [tl_S]
  exact h w hw
theorem join_part {c : Nat} : ∀ {ws : List (List Nat)} {w : List Nat}, w ∈ ws → w.length ≤ (joinL [c] ws).length
  | [], w, h => by cases h
  | [a], w, h => by
    rw [List.mem_singleton.mp h]
    exact Nat.le_refl _
  | a :: b :: r, w, h => by
    have e : joinL [c] (a :: b :: r) = a ++ ([c] ++ joinL [c] (b :: r)) := rfl
    rw [e, List.length_append, List.length_append]
    rcases List.mem_cons.mp h with z | z
    · rw [z]
      omega
    · have := join_part (c := c) z
      omega
theorem join_short {ws : List (List Nat)} (h : (joinL [32] ws).length ≤ 1000000) : WL ws := fun w hw => Nat.le_trans (join_part hw) h
end TX
namespace CP
open PySem L2 G Y
open TL TX
section
variable {P : Program} {w : World} {K : PySem.W.Frag} {mg : Str → Option Value} {base : Heap} {CR CB CW : Addr}
/-- Reader._level -/
def spLevelG (CR CB CW : Addr) : Sp := fun vs H Q _ => ∃ (x : Addr) (l : Str) (f : Fr) (r : List Fr) (n lv : Nat) (c : List Nat) (H0 : Hp), vs = [.ref x, .str l] ∧ RdAt CR CB CW H0 H (f :: r) n x ∧ tl l = indL lv ++ c ∧ (∀ d q, c = d :: q → d ≠ 32) ∧ l.length ≤ 1000000 ∧
  lv ≤ r.length ∧ (lv = r.length ∨ f.steps ≠ []) ∧ Q (.int (lv : Int)) H
theorem ok_levelG {f : Addr} {fd : FuncData} (F : Fun K "_level" "Reader._level" sRLevel f fd) (B : Bn mg) (T : Rt K mg CR) (gI : ∃ t, mg "INDENTATION" = some (.str "  " t)) (MW : Mr P w K mg base CR 1 "is_whole" ["self"] (spWhole CR CB CW)) : FnOk P w K mg base CX0 2 f fd ["self", "line"] (spLevelG CR CB CW) := by
  obtain ⟨fW, fdW, GW, mW, bW⟩ := MW.ex
  obtain ⟨tI, gI⟩ := gI
  refine F.ok scRl (fun vs H Q E h => ?_) (fun cdv A outer s H vs Q E hr h => ?_)
  · obtain ⟨x, l, f, r, n, lv, c, H0, rfl, _⟩ := h
    rfl
  · obtain ⟨x, l, f, r, n, lv, c, H0, rfl, ⟨dx, b, ps, h⟩, hl, hc, l1, v1, v2, k⟩ := h
    refine ⟨_, pss_cons (ps_set (i := 2) scRl.nd rfl (Or.inl rfl) (pe_op (op_sub) (pe_callB call_len_str (by rfl) B.len PySem.boot_len (pa_cons (pv 1) pa_nil)) (pe_callB call_len_str (by rfl) B.len PySem.boot_len (pa_cons (pe_bm PySem.F.plainAttrs_str PySem.F.slot_str_lstrip PySem.F.type_str_lstrip mt_lstripChars (pv 1) (pa_cons (pe_str) pa_nil)) pa_nil))))
      (pss_cons (ps_set (i := 3) scRl.nd rfl (Or.inl rfl) (pe_op (op_fdiv) (pv 2) (pe_callB call_len_str (by rfl) B.len PySem.boot_len (pa_cons (pe_glob (v := .str "  ") rfl gI ⟨_, rfl⟩) pa_nil))))
      (pss_cons (ps_set (i := 4) scRl.nd rfl (Or.inl rfl) (pe_op (op_sub) (pe_callB call_len_seq (by rfl) B.len PySem.boot_len (pa_cons (pe_fld (pv 0) rfl) pa_nil)) (pe_int)))
      (pss_cons (ps_if (PW.pt (pw_or (pt_cmpR (op_ne) (pv 2) (pe_op (op_mul) (pv 3) (pe_callB call_len_str (by rfl) B.len PySem.boot_len (pa_cons (pe_glob (v := .str "  ") rfl gI ⟨_, rfl⟩) pa_nil))) (nomark _)) (pw_or1 (pt_cmpR (op_gt) (pv 3) (pv 4) (nomark _))))) (pss_one (ps_ret (pe_non))) (pss_nil))
      (pss_one (ps_ret (pe_ifExp (PW.pt (pw_or (pt_cmpR (op_eq) (pv 3) (pv 4) (nomark _)) (pw_or1 (pt_val (pe_meth0 (pv 0) T.cl mW GW (hr.mono (by omega)) bW .nil pass0))))) (pv 3) (pe_non))))))), ?_⟩
    have big : ∀ {n : Nat}, n ≤ 1000000 → n ≤ sizeLine := fun h => Nat.le_trans h (by decide)
    have ll : l.length = 2 * lv + c.length := by rw [len_tl, hl]; unfold indL; simp
    have lc : (TX.S c).length = c.length := S_len c
    have l2 : ("  " : Str).length = 2 := by rw [len_tl, k_ind, tl_S]; rfl
    refine set_then (i := 2) ⟨_, rfl, l, rfl, big l1, _, rfl, rfl, l, _, rfl, rfl, big l1, ?_⟩
    rw [strip_ind hl hc]
    refine ⟨_, rfl, by rw [lc]; exact big (by omega), _, _, rfl, rfl, ?_⟩
    dsimp only
    rw [lc, show ((l.length : Nat) : Int) - ((c.length : Nat) : Int) = ((2 * lv : Nat) : Int) by omega]
    refine set_then (i := 3) ⟨_, rfl, _, rfl, by decide +kernel, _, _, rfl, rfl, ?_, ?_⟩
    · rw [l2]
      exact ⟨by decide, by decide⟩
    dsimp only
    rw [l2, show ((2 * lv : Nat) : Int) / ((2 : Nat) : Int) = (lv : Int) by omega]
    have hst := h.stk
    obtain ⟨p, qs, rfl, g1, g2⟩ := stk_cons hst
    refine set_then (i := 4) (rd_len T rfl h ⟨_, _, rfl, rfl, ?_⟩)
    dsimp only
    rw [show (((f :: r).length : Nat) : Int) - 1 = ((r.length : Nat) : Int) by rw [List.length_cons]; omega]
    refine ⟨_, rfl, _, rfl, _, rfl, by decide +kernel, _, _, rfl, rfl, ?_, rfl, _, rfl, ?_⟩
    · exact .inl ⟨by omega, by omega⟩
    rw [l2]
    refine iteNS (congrArg V.int (show ((2 * lv : Nat) : Int) = (lv : Int) * ((2 : Nat) : Int) by omega)) ?_
    refine ⟨_, rfl, _, rfl, _, _, rfl, rfl, _, rfl, ?_⟩
    rw [decide_eq_false (show ¬ (lv : Int) > ((r.length : Nat) : Int) by omega)]
    refine iteF ⟨_, rfl, _, rfl, rfl, _, rfl, ite2 (fun c2 => ⟨_, rfl, k⟩) fun c2 => ?_⟩
    have ne : lv ≠ r.length := fun z => c2 (decide_eq_true (by rw [z]))
    rcases v2 with e | e
    · exact absurd e ne
    refine ⟨_, rfl, x, dx, _, rfl, h.hx, rf_no (by decide +kernel) (by decide +kernel), x, f, r, n, H0, rfl, ⟨dx, b, p :: qs, h⟩, _, rfl, ?_⟩
    rw [decide_eq_true (List.length_pos_iff.mpr e)]
    exact iteT ⟨_, rfl, k⟩
def spTakesB (CR CB CW : Addr) : Sp := fun vs H Q _ => ∃ (x : Addr) (f : Fr) (r : List Fr) (n : Nat) (l : List Nat) (H0 : Hp), vs = [.ref x, .str (TX.S l)] ∧ RdAt CR CB CW H0 H (f :: r) n x ∧ l.length ≤ 1000000 ∧ (f :: r).length ≤ 3 ∧ Bad1 (f :: r, n) l ∧ ∀ H', Same H0 H' → Q (.bl false) H'
theorem ok_takesB (n1 : CW ≠ CB) (n2 : CW ≠ CR) {f : Addr} {fd : FuncData} (F : Fun K "takes" "Reader.takes" sRTakes f fd) (B : Bn mg) (T : Rt K mg CR) (TB : Bt K mg CB) (gI : ∃ t, mg "INDENTATION" = some (.str "  " t)) (ML : Mr P w K mg base CR 2 "_level" ["self", "line"] (orSp (spLevelG CR CB CW) (spLevelB CR CB CW)))
    (MH : Mr P w K mg base CR 4 "_takes_head" ["self", "words"] (spTHeadB CR CB CW)) (ME : Mr P w K mg base CR 8 "_end_inner" ["self"] (spREnd CR CB CW)) (MS : Mr P w K mg base CR 5 "_takes_step" ["self", "words"] (spRStepB CR CB CW)) : FnOk P w K mg base CX0 9 f fd ["self", "line"] (spTakesB CR CB CW) := by
  obtain ⟨fL, fdL, GL, mL, bL⟩ := ML.ex
  obtain ⟨fH, fdH, GH, mH, bH⟩ := MH.ex
  obtain ⟨fE, fdE, GE, mE, bE⟩ := ME.ex
  obtain ⟨fS, fdS, GS, mS, bS⟩ := MS.ex
  obtain ⟨tI, gI⟩ := gI
  refine F.ok scTk (fun vs H Q E h => ?_) (fun cdv A outer s H vs Q E hr h => ?_)
  · obtain ⟨x, f, r, n, l, H0, rfl, _⟩ := h
    rfl
  · obtain ⟨x, b0, q0, n, li, H0, rfl, hR, l1, l3, hB, k⟩ := h
    refine ⟨_, pss_cons (ps_set (i := 2) scTk.nd rfl (Or.inl rfl) (pe_meth (pv 0) T.cl mL GL (hr.mono (by omega)) bL .nil pass0 (pa_cons (pv 1) pa_nil)))
      (pss_cons (ps_if (pt_cmpR (op_isN) (pv 2) (pe_non) (nomark _)) (pss_one (ps_ret (pe_bl))) (pss_nil))
      (pss_cons (ps_set (i := 3) scTk.nd rfl (Or.inl rfl) (pe_split (pe_slice sl_str (pv 1) (po_some (pe_op (op_mul) (pv 2) (pe_callB call_len_str (by rfl) B.len PySem.boot_len (pa_cons (pe_glob (v := .str "  ") rfl gI ⟨_, rfl⟩) pa_nil)))) po_none) (pe_str)))
      (pss_cons (ps_if (pt_cmpR (op_isN) (pe_fld (pe_ix ix_list (pe_fld (pv 0) rfl) (pe_un un_neg (pe_int)) (fun _ _ => rfl)) rfl) (pe_non) (nomark _)) (pss_one (ps_ret (pe_meth (pv 0) T.cl mH GH (hr.mono (by omega)) bH .nil pass0 (pa_cons (pv 3) pa_nil)))) (pss_nil))
      (pss_cons (ps_while PassesOwn.never (pt_cmpR (op_gt) (pe_callB call_len_seq (by rfl) B.len PySem.boot_len (pa_cons (pe_fld (pv 0) rfl) pa_nil)) (pe_op (op_add) (pv 2) (pe_int)) (nomark _)) (pss_one (ps_expr (pe_meth0 (pv 0) T.cl mE GE (hr.mono (by omega)) bE .nil pass0))))
      (pss_one (ps_ret (pe_meth (pv 0) T.cl mS GS (hr.mono (by omega)) bS .nil pass0 (pa_cons (pv 3) pa_nil)))))))), ?_⟩
    have lq : q0.length ≤ 2 := by rw [List.length_cons] at l3; omega
    have big : ∀ {n : Nat}, n ≤ 1000000 → n ≤ sizeLine := fun h => Nat.le_trans h (by decide)
    obtain ⟨dx0, bb0, hx0⟩ := hR.ins
    have l2 : ("  " : Str).length = 2 := by rw [len_tl, k_ind, tl_S]; rfl
    by_cases hlv : ∃ k ws, Cut li k ws ∧ (k % 2 = 1 ∨ 2 * q0.length < k ∨ (k < 2 * q0.length ∧ b0.steps = []))
    · obtain ⟨kk, ws, C, hc⟩ := hlv
      refine set_then (i := 2) ⟨_, rfl, x, dx0, _, rfl, hx0, rf_no (by decide +kernel) (by decide +kernel), _, rfl, .inr ⟨x, li, b0, q0, n, kk, ws, H0, rfl, hR, C, l1, hc, ?_⟩⟩
      exact ⟨_, rfl, rfl, _, rfl, iteP rfl (k H hR.sm)⟩
    -- the level is told
    obtain ⟨lv, ws, C, v1, v2, two⟩ : ∃ lv ws, Cut li (2 * lv) ws ∧ lv ≤ q0.length ∧ (lv = q0.length ∨ b0.steps ≠ []) ∧ ((b0.head = none ∧ pHead ws = none) ∨ ∃ (f : Fr) (r : List Fr) (h : Nat), (∃ h, b0.head = some h) ∧ Closes lv (b0 :: q0) (f :: r) ∧ f.head = some h ∧ f.steps.length ≤ 12 ∧ (f.steps.length = 12 ∨ n = 40 ∨ (pPlain h ws = none ∧ (pTun ws = none ∨ 40 ≤ n + 1 ∨ 3 < r.length + 2)))) := by
      cases hB with
      | lvl C hc => exact absurd ⟨_, _, C, hc⟩ hlv
      | head C hn hp => exact ⟨_, _, C, Nat.le_refl _, .inl rfl, .inl ⟨hn, hp⟩⟩
      | @step _ f r _ h lv _ ws C rd hh h40 l12 hb =>
        obtain ⟨b1, q1, e, ht, h2⟩ := rd.top
        cases e
        have := rd.cl.le
        rw [List.length_cons] at this
        refine ⟨lv, ws, C, by omega, ?_, .inr ⟨f, r, h, ht, rd.cl, hh, l12, hb⟩⟩
        rcases h2 with h2 | h2
        · exact .inr h2
        · rw [List.length_cons] at h2
          exact .inl (by omega)
    refine set_then (i := 2) ⟨_, rfl, x, dx0, _, rfl, hx0, rf_no (by decide +kernel) (by decide +kernel), _, rfl, .inl ⟨x, _, b0, q0, n, lv, joinL [32] ws, H0, rfl, hR, by rw [tl_S]; exact C.eq, C.st, by rw [S_len]; exact l1, v1, v2, ?_⟩⟩
    refine ⟨_, rfl, rfl, _, rfl, iteN (fun z => by cases z) ?_⟩
    unfold tNext
    dsimp only
    refine set_then (i := 3) ⟨_, rfl, _, rfl, _, rfl, by rw [l2]; decide, _, _, rfl, rfl, .inl ⟨by omega, by omega⟩, _, rfl, ?_⟩
    dsimp only [tNoPart]
    have lS : (TX.S li).length ≤ 1000000 := by rw [S_len]; exact l1
    have lj : (joinL [32] ws).length ≤ 1000000 := by
      have := C.eq
      rw [this] at l1
      simp at l1
      omega
    have cut : cutS (TX.S li) (some ((lv : Int) * ((("  " : Str).length : Nat) : Int))) none = TX.S (joinL [32] ws) := by
      rw [l2, show (lv : Int) * ((2 : Nat) : Int) = ((2 * lv : Nat) : Int) by omega]
      exact cut_ind (k := 2 * lv) (by rw [tl_S]; exact C.eq)
    refine ⟨_, rfl, big (by omega), ⟨_, rfl⟩, _, _, rfl, rfl, by decide +kernel, ?_, fun l hl => ?_⟩
    · rw [cut, S_len]
      exact Nat.le_trans (show _ ≤ 1000002 by omega) (by decide)
    rw [cut, k_sp, split_gen C.sp C.ne, ← sv_strs]
    have hRl := hR.more (o := .lst (sv ws)) hl
    have sH0 : Same H0 (upd H0 l (.lst (sv ws))) := of_upd (by
      cases z : H0 l with
      | none => rfl
      | some o =>
        have := hR.sm _ _ z
        rw [hl] at this
        cases this)
    have e0 : upd H0 l (.lst (sv ws)) l = some (.lst (sv ws)) := upd_same
    generalize upd H0 l (.lst (sv ws)) = H2 at hRl sH0 e0
    have el : upd H l (.lst (sv ws)) l = some (.lst (sv ws)) := upd_same
    generalize upd H l (.lst (sv ws)) = H1 at hRl el ⊢
    have kk : ∀ H', Same H2 H' → Q (.bl false) H' := fun H' s => k H' (sH0.trans s)
    have hw : WL ws := join_short lj
    have hRp := hRl
    obtain ⟨dx, b, ps, hP⟩ := hRp
    obtain ⟨p, qs, rfl, g1, g2⟩ := stk_cons hP.stk
    obtain ⟨dxf, xs, w1, w2, w3⟩ := g1.ex
    refine ⟨_, rfl, x, CR, dx, _, _, rfl, hP.hx, T.cl, T.nB, rf_look.1, _, rfl, b, _, _, _, rfl, rfl, SqL.of hP.hb, bg_top p qs, p.1, CB, dxf, _, _, rfl, w1, TB.cl, TB.nH, bf_look.2.2.1, rfl, _, rfl, ?_⟩
    rcases two with ⟨hn, hp⟩ | ⟨f, r, h, ⟨h0, hh0⟩, cl, hh, l12, hb⟩
    · refine iteP (by rw [hn]; rfl) ?_
      exact ⟨_, rfl, x, dx, _, rfl, hP.hx, rf_no (by decide +kernel) (by decide +kernel), _, rfl, x, l, b0, q0, n, H2, ws, rfl, ⟨dx, b, _, hP⟩, el, C.ne, hw, hp, kk⟩
    refine iteN (fun z => by rw [hh0] at z; cases z) ?_
    dsimp only
    refine ⟨fun m σ G => ∃ st, m = st.length ∧ RdAt CR CB CW H2 G st n x ∧ Closes lv st (f :: r) ∧ σ = [some (.ref x), some (.str (TX.S li)), some (.int (lv : Int)), some (.ref l)], ⟨_, b0 :: q0, rfl, hRl, cl, rfl⟩, ?_⟩
    rintro m σ G ⟨st, rfl, ⟨dx, b, ps, hP⟩, cl, rfl⟩
    refine ⟨_, rfl, x, CR, dx, _, _, rfl, hP.hx, T.cl, T.nB, rf_look.1, b, _, rfl, .inl (SqL.of hP.hb), _, rfl, _, _, rfl, rfl, _, _, rfl, rfl, _, rfl, ?_⟩
    rw [bg_len, hP.stk.len]
    cases cl with
    | done hl =>
      have hl2 : r.length = lv := by
        rw [List.length_cons] at hl
        omega
      rw [decide_eq_false (by rw [List.length_cons, hl2]; omega)]
      refine iteF ?_
      rw [List.length_cons] at l3
      exact ⟨_, rfl, x, dx, _, rfl, hP.hx, rf_no (by decide +kernel) (by decide +kernel), _, rfl, x, l, f, r, n, h, H2, ws, rfl, ⟨dx, b, _, hP⟩, hP.sm _ _ e0, e0, C.ne, hw, hh, by omega, hb, kk⟩
    | @close c a r2 st2 h m t hl o1 o2 o3 cl =>
      rw [decide_eq_true (by omega)]
      refine iteT ⟨fun σ' G' => (∃ st, st.length = (a :: r2).length ∧ RdAt CR CB CW H2 G' st n x ∧ Closes lv st (f :: r)) ∧ σ' = [some (.ref x), some (.str (TX.S li)), some (.int (lv : Int)), some (.ref l)], fun σ' G' ⟨⟨st, e, h1, h2⟩, h3⟩ => ⟨_, by rw [List.length_cons]; exact Nat.lt_succ_self _, st, e.symm, h1, h2, h3⟩, ?_⟩
      refine ⟨_, rfl, x, dx, _, rfl, hP.hx, rf_no (by decide +kernel) (by decide +kernel), x, c, a, r2, n, h, m, t, H2, rfl, ⟨dx, b, _, hP⟩, o1, o2, o3, ?_, fun G' hR' => ⟨⟨{ a with steps := a.steps ++ [.tunnel (.mk h c.steps) m t] } :: r2, rfl, hR', cl⟩, rfl⟩⟩
      have := cl.few l12
      rw [List.length_append] at this
      omega
end
end CP

end
section
set_option Elab.async false
set_option linter.all false
set_option maxRecDepth 100000
set_option maxHeartbeats 4000000
/-! ## an own error as a plain value: made by place or by name, its field read, isinstance of it -/
namespace PySem.W
open PySem PySem.Spec PySem.Calls PyProof.Rows
section
variable {prog : Program} {w : World} {A : Around} {E : Value → Shared → Prop} {s : Shared} {K : Frag} {x D : Addr} {ox : Obj} {od : Option Obj}
theorem g_findData {name : Str} {a g : Value} (hc : (clsIn K D).isSome = true) (ha : findIn K (.ref D) name = some (some a)) (hg : specialIn K a "__get__" = some (some g)) (ht : takesIn K a = some true) : findObj K D od name = some (.bind g a) := by
  cases e : clsIn K D with
  | none => rw [e] at hc; cases hc
  | some cd => unfold findObj; rw [e, Option.bind_some, ha, Option.bind_some]; simp [hg, ht]
/-- x.__class__, x an error that may have a dict of its own -/
theorem g_class {Q : Option Value → Shared → Prop} (F : L2.ExcC K D) (X : K.In s.heap) (I : InstAt s.heap x ox D od) (h : Q (some (.ref D)) { s with toks := s.toks + 1 }) : wpAny (model prog w) A (getAttr? (.ref x) "__class__") Q E s := by
  have cls : (clsIn K D).isSome = true := by obtain ⟨cd, hc, _⟩ := any_some F.hd; rw [hc]; rfl
  have found := g_findData (od := od) cls F.ha F.hn F.ht
  obtain ⟨hp, g, d, t, os⟩ := s
  have ty := I.type (M := model prog w)
  have look := looks_find (M := model prog w) X I found
  have base : Looks (model prog w) hp (isInstance (.ref x) (.type "BaseException")) true := ty.andThen (looks_subIn X F.hs)
  have other : (Value.builtin "BaseException.__getattribute__" == Value.builtin "object.__getattribute__") = false := by decide +kernel
  unfold getAttr? getAttrBy? getAttrBy
  refine wpAny_bind (wpAny_mkText (wpAny_bind (wpAny_attempt (wpAny_holding (wpAny_bind (ty.at (wpAny_bind ((looks_findIn (M := model prog w) X F.hg).at ?_))))))))
  show wpAny _ _ (if (true && Value.builtin "BaseException.__getattribute__" == Value.builtin "object.__getattribute__") = true then _ else _) _ _ _
  rw [other, Bool.and_false, if_neg Bool.false_ne_true]
  unfold getAttrByItsOwn hookBefore
  refine wpAny_bind (?_ : wpAny _ _ _ _ _ _); rw [if_pos (show onTheHeap (Value.ref D) = true from rfl)]
  refine (looks_findIn (M := model prog w) X F.hk).at (wpAny_bind (wpAny_attempt (wpAny_holding ?_)))
  unfold callGetattribute; rw [if_neg (show ¬ (false && onTheHeap (Value.builtin "BaseException.__getattribute__")) = true from Bool.false_ne_true)]
  unfold boundAndCalled; rw [PySem.F.excAttr_ValueError.ga.bind (.ref x)]
  refine wpAny_bind (wpAny_pure (?_ : wpAny _ _ (call (.builtin "BaseException.__getattribute__") [.ref x, .str "__class__" t]) _ _ _))
  refine wpAny_call (codeAny_call_builtin PySem.F.excAttr_ValueError.ga.plain PySem.F.entry_bexc_ga (@check_slot (model prog w) _ _ ⟨hp, g, d, t + 1, os⟩ "BaseException.__getattribute__" "BaseException" "__getattribute__" (.ref x) [.str "__class__" t] [] _ (by decide +kernel) (by decide +kernel) base (PySem.F.args_bexc_ga (.ref x) (.str "__class__" t)) ?_))
  unfold Builtin.«object.__getattribute__»
  refine wpAny_bind (wpAny_of_eq (a := ((Value.ref x : Value), [Value.str "__class__" t])) (by first | rfl | (simp only [slotArgs]; rfl)) (wpAny_bind (wpAny_pure (wpAny_bind (ty.at (wpAny_bind (look.at ?_)))))))
  refine (?_ : wpAny _ _ (holding [Value.builtin "object.__class__"] (call (.builtin "getset_descriptor.__get__") [.builtin "object.__class__", .ref x, .ref D]) >>= ret) _ _ _)
  refine wpAny_bind (wpAny_holding (wpAny_call (class_get (s := ⟨hp, g, d, t + 1, os⟩) (ox := ox) (od := od) X I F.hm (wpAny_pure (?_ : wpAny _ _ (handedOut (.ref D)) _ _ _)))))
  rw [handedOut_of (v := .ref D) rfl]
  first | exact wpAny_pure (wpAny_pure h) | exact wpAny_pure h | exact wpAny_pure (wpAny_bind (wpAny_pure (wpAny_pure h)))
theorem g_kit (F : L2.ExcC K D) : KitX K (.ref x) (.ref D) (fun h => InstAt h x ox D od) := by
  have there : ∃ o, K.lookup D = some o ∧ ∃ cd, o.data = .cls cd := by
    obtain ⟨cd, hc, _⟩ := any_some F.hd
    unfold clsIn at hc
    split at hc
    · rename_i o; exact ⟨_, o, _, rfl⟩
    · cases hc
  obtain ⟨⟨oc, odd, odata, osl⟩, hk, cd, hcd⟩ := there
  cases (hcd : odata = _)
  refine { ty := fun _ _ _ I => I.type, it := ?_, ne := ?_, ca := fun X I k => g_class F X I k }
  · intro M h X _ A' Q' E' s' k q
    unfold isType loadHead
    exact wpAny_bind (wpAny_loadPart (k _ _ (X _ _ hk)) (wpAny_pure q))
  · intro h tp dd its n sl X htp
    refine Bool.eq_false_iff.mpr fun q => ?_
    have e : D = tp := Value.ref.inj (beq_iff_eq.mp q)
    rw [← e, X _ _ hk] at htp
    cases htp
end
end PySem.W
namespace G
open PySem PySem.Spec PyProof.Rows L2
/-- at e: an error of the class at C whose field f is v -/
def Er (H : Hp) (e C : Addr) (f : Str) (v : V) : Prop := ∃ dx, H e = some (exo e C (some dx)) ∧ H dx = some (exd dx [(f, v)])
/-- what the written part tells of such a class -/
structure Cl (K : PySem.W.Frag) (C : Addr) (f : Str) : Prop where
  T : OexC K C
  F : ExcC K C
  no : PySem.W.findIn K (.ref C) f = some none
section
variable {X : Cx} {C D e : Addr} {f : Str} {v : V} {te : TE} {ex : Expr} {pos : Pos}
theorem er_inst {pins : List (Addr × Obj)} {σ : L2.St} {H : Hp} {s : Shared} (I : Inv X pins σ H s) (h : Er H e C f v) : ∃ (oe : Obj) (od : Obj) (u : Value), PySem.W.InstAt s.heap e oe C (some od) ∧ RelV v u ∧ PySem.W.lookIn f od = some (some u) := by
  obtain ⟨dx, h1, h2⟩ := h
  obtain ⟨t1, ho⟩ := exo_at I.hok h1
  obtain ⟨mA, hns, rel⟩ := exd_at I.hok h2
  obtain ⟨od, hod, hl⟩ := lookIn_ns hns
  have l : List.lookup f [(f, v)] = some v := by simp [List.lookup]
  obtain ⟨u, hu, ru⟩ := RelO.some_of (v := v) (o := mA f) (by rw [← l]; exact rel f)
  exact ⟨_, od, u, ⟨ho, rfl, by unfold PySem.W.notCls; rfl, hod⟩, ru, by rw [hl, hu]⟩
/-- isinstance(e, c) -/
def rIsEr (K : PySem.W.Frag) : List V → Hp → VK → Prop := fun xs H Q => ∃ (e C : Addr) (f : Str) (v c : V) (u : Value) (b : Bool), xs = [.ref e, c] ∧ Er H e C f v ∧ ExcC K C ∧ ClsV c u ∧ PySem.W.kitOne K (.ref C) u = some b ∧ Q (.bl b) H
theorem call_isEr : CallR X (.builtin "isinstance") (rIsEr X.K) := by
  intro pins s σ H xs us Q I r h
  obtain ⟨e, C, f, v, c, u, b, rfl, he, F, k, hb, q⟩ := h
  cases r with
  | cons rx rr =>
    cases rr with
    | cons rt rr =>
      cases rr
      cases rx
      cases k.eq rt
      obtain ⟨oe, od, _, J, _, _⟩ := er_inst I he
      exact PySem.W.kia_one (PySem.W.g_kit F) I.kIn J hb (fun z => nomatch z) fun tk => ⟨.bl b, H, I.tok tk, rfl, q⟩
/-- e.f -/
def tErF (K : PySem.W.Frag) (f : Str) (te : TE) : TE := fun σ H Q => te σ H fun x H1 => ∃ (e C : Addr) (v : V), x = .ref e ∧ Er H1 e C f v ∧ Cl K C f ∧ Q v H1
theorem pe_erF (he : PE X ex te) (hb : attributeBase ex f X.env (eval ex X.env) = eval ex X.env := by rfl) : PE X (.Attribute ex f pos) (tErF X.K f te) := by
  refine ⟨fun pins s σ H Q I h => attr_of hb (thn (he.run pins s σ H _ I h) fun u s1 hh => ?_)⟩
  obtain ⟨x, H1, I1, rx, e, C, v, rfl, hE, L, q⟩ := hh
  cases rx
  obtain ⟨oe, od, u, J, ru, lk⟩ := er_inst I1 hE
  exact HandSPX.exc_get I1.kIn J L.F.hg L.F.hk L.F.hs (PySem.W.findObj_own L.F.hd L.no rfl lk) (handed_of ru) ⟨v, H1, I1.tok _, ru, q⟩
end
end G

end
section
set_option Elab.async false
set_option linter.all false
set_option maxRecDepth 100000
set_option maxHeartbeats 4000000
/-! ## an own error made by a call with any arguments: its own __init__ is called with the same ones -/
namespace PySem.HandSPX
open PySem PySem.Spec PySem.Calls PyProof.Rows PySem.W
section
variable {prog : Program} {w : World} {A : Around} {E : Value → Shared → Prop} {R : Result → Shared → Prop} {h : Heap} {g : Array GenState} {d : Drawn} {t : Nat} {os : OsState}
variable {nm q : Str} {C N fI : Addr} {bs bm : List Value} {hdct : Bool} {sn : List Str} {sub : List Value} {ab : Bool} {col : Option Bool} {dd : Option Addr} {k0 k1 k2 k3 k5 : Option Value} {rest : List Value} {kw : List (Str × Value)}
/-- the class, made by ValueError's __new__ -/
abbrev veC (nm q : Str) (C N : Addr) (bs bm : List Value) (hdct : Bool) (sn : List Str) (sub : List Value) (ab : Bool) (col : Option Bool) (dd : Option Addr) (k0 k1 k2 k3 k5 : Option Value) : Obj := excClassObj nm q C N bs bm hdct sn sub ab col dd k0 k1 k2 k3 k5 "ValueError.__new__"
theorem g_has (hm : refsVE bm = true) (B : String) : (Value.ref C :: bm).contains (.type B) = veTail.contains (.type B) := by
  rw [List.contains_cons, refsVE_contains B bm hm]
  rfl
theorem g_check_new {M : Model} {Q : Unit → Shared → Prop} (hm : refsVE bm = true) (hC : h.get? C = some (veC nm q C N bs bm hdct sn sub ab col dd k0 k1 k2 k3 k5)) (hq : Q () ⟨h, g, d, t, os⟩) :
    wpAny M A (checkBuiltinCall "ValueError.__new__" ⟨.ref C :: rest, kw⟩) Q E ⟨h, g, d, t, os⟩ := by
  have F := PySem.F.excBase_ValueError
  have mine : (Value.ref C :: bm).contains (.type "ValueError") = true := (g_has hm _).trans (by decide +kernel)
  have star := F.noStar
  simp only [checkBuiltinCall, F.newKind, F.newSplit, F.newRow]
  repeat (first
    | (refine wpAny_loadPart_at hC ?_)
    | (refine wpAny_isSubtype_exc hC ?_; rw [mine])
    | (refine wpAny_staticBase_exc hC ?_)
    | (refine wpAny_madeBy_exc hC ?_)
    | (simp only [bne_self_eq_false, Bool.false_eq_true, if_false])
    | wp_step)
  all_goals first | exact hq | trace_state
theorem g_new (hm : refsVE bm = true) (hC : h.get? C = some (veC nm q C N bs bm hdct sn sub ab col dd k0 k1 k2 k3 k5)) (hz : rest.length ≤ sizeLine)
    (hq : R (.ok (.ret (.ref (h.objs.size + 1)))) ⟨(h.push (W.kdv_tup rest)).push (excO C h.objs.size), g, d, t, os⟩) : codeAny (model prog w) A (.builtin "ValueError.__new__" ⟨.ref C :: rest, kw⟩) R ⟨h, g, d, t, os⟩ := by
  have F := PySem.F.excBase_ValueError
  have ends := F.ends
  have mine : (Value.ref C :: bm).contains (.type "ValueError") = true := (g_has hm _).trans (by decide +kernel)
  have noA : (Value.ref C :: bm).contains (.type "AttributeError") = false := (g_has hm _).trans (by decide +kernel)
  have noN : (Value.ref C :: bm).contains (.type "NameError") = false := (g_has hm _).trans (by decide +kernel)
  refine codeAny_builtinAt F.entry ?_
  unfold Builtin.«BaseException.__new__»
  refine wpAt_bind (?_ : wpAt _ _ _ (stack >>= _) _ _ _)
  refine wpAt_bind (wpAt_stack fun p below => wpAt_of_wpAny ?_)
  wp_walk
  refine wpAt_of_wpAny ?_
  rw [F.owner]
  repeat (first
    | (with_reducible refine wpAny_madeHere_exc F.canon hC ?_)
    | (with_reducible refine wpAny_loadPart_at hC ?_)
    | (with_reducible refine wpAny_isSubtype_exc hC ?_; first | rw [mine] | rw [noA] | rw [noN])
    | wp_step)
  refine (?_ : R _ _)
  rw [Heap.size_push]
  exact hq
theorem g_type_call {Q : Fin → Shared → Prop} (hm : refsVE bm = true) (hC : h.get? C = some (veC nm q C N bs bm hdct sn sub ab col dd k0 k1 k2 k3 k5)) (hi : W.Looks (model prog w) h (typeLookup (.ref C) "__init__") (some (.ref fI)))
    (hb : ∀ self, W.Looks (model prog w) h (bindSpecial (.ref fI) self) (.ref fI, [self])) (hz : rest.length ≤ sizeLine)
    (hq : codeAny (model prog w) A (.call (.ref fI) ⟨.ref (h.objs.size + 1) :: rest, kw⟩) (fun r s' => match r with | .ok (.ret v) => v = .none ∧ Q (.done (.ret (.ref (h.objs.size + 1)))) s' | .ok _ => False | .error e => E e s')
      ⟨(h.push (W.kdv_tup rest)).push (excO C h.objs.size), g, d, t, os⟩) : wpAny (model prog w) A (Builtin.«type.__call__» ⟨.ref C :: rest, kw⟩) Q E ⟨h, g, d, t, os⟩ := by
  have F := PySem.F.excBase_ValueError
  repeat (first
    | (with_reducible refine wpAny_loadPart_at hC ?_)
    | (with_reducible refine wpAny_madeBy_exc hC ?_)
    | wp_step)
  refine codeAny_call_builtin_code (Code.quiet_builtin _ F.quiet) (g_check_new hm hC (g_new hm hC hz ?_))
  refine (?_ : wpAny _ _ _ _ _ _)
  have keep : ∀ b o, h.get? b = some o → ((h.push (W.kdv_tup rest)).push (excO C h.objs.size)).get? b = some o := fun b o e => Heap.get?_push_of_some _ (Heap.get?_push_of_some _ e)
  have hC₁ := keep _ _ hC
  have new : ((h.push (W.kdv_tup rest)).push (excO C h.objs.size)).get? (h.objs.size + 1) = some (excO C h.objs.size) := by heap_get
  have self : (Value.ref C :: bm).contains (.ref C) = true := by simp
  unfold isInstance
  repeat (first
    | (with_reducible refine wpAny_loadPart_at new ?_)
    | (with_reducible refine wpAny_isSubtype_exc hC₁ ?_; rw [self])
    | wp_step)
  refine (?_ : wpAny _ _ (typeLookup (.ref C) _) _ _ _)
  refine (hi.keeps keep).at (wpAny_holding (wpAny_bind (((hb (.ref (h.objs.size + 1))).keeps keep).at ?_)))
  refine wpAny_bind (wpAny_call (codeAny_mono hq ?_))
  intro r s' z
  rcases r with e | fl
  · exact z
  · cases fl with
    | ret v =>
      obtain ⟨ev, z'⟩ := z
      subst ev
      first | exact wpAny_pure (wpAny_pure z') | (wp_walk; exact z')
    | next => exact z.elim
    | brk => exact z.elim
    | cont => exact z.elim
theorem g_check_type {M : Model} {Q : Unit → Shared → Prop} (hC : h.get? C = some (veC nm q C N bs bm hdct sn sub ab col dd k0 k1 k2 k3 k5)) (hq : Q () ⟨h, g, d, t, os⟩) : wpAny M A (checkBuiltinCall "type.__call__" ⟨.ref C :: rest, kw⟩) Q E ⟨h, g, d, t, os⟩ := by
  have f3 := tc_sub
  have isT : (⟨h, g, d, t, os⟩ : Shared).TypeIs (.ref C) "type" := ⟨_, hC, rfl⟩
  simp only [checkBuiltinCall, tc_kind, tc_split]
  repeat (any_goals (first
    | assumption
    | (with_reducible refine wpAny_loadPart_at hC ?_)
    | (with_reducible refine wpAny_onRaise ?_)
    | (with_reducible refine wpAny_map ?_)
    | wp_step))
theorem g_call (hm : refsVE bm = true) (hC : h.get? C = some (veC nm q C N bs bm hdct sn sub ab col dd k0 k1 k2 k3 k5)) (hi : W.Looks (model prog w) h (typeLookup (.ref C) "__init__") (some (.ref fI)))
    (hb : ∀ self, W.Looks (model prog w) h (bindSpecial (.ref fI) self) (.ref fI, [self])) (hz : rest.length ≤ sizeLine)
    (hq : codeAny (model prog w) (A.under (.builtin "type.__call__" ⟨.ref C :: rest, kw⟩)) (.call (.ref fI) ⟨.ref (h.objs.size + 1) :: rest, kw⟩) (W.InitBack (h.objs.size + 1) R) ⟨(h.push (W.kdv_tup rest)).push (excO C h.objs.size), g, d, t, os⟩) :
    codeAny (model prog w) A (.call (.ref C) ⟨rest, kw⟩) R ⟨h, g, d, t, os⟩ := by
  have f1 := tc_lookup
  have f2 := tc_bind (.ref C)
  have isT : (⟨h, g, d, t, os⟩ : Shared).TypeIs (.ref C) "type" := ⟨_, hC, rfl⟩
  refine codeAny_of_tree (?_ : wpAny _ _ (callAny (.ref C) _) _ _ _)
  repeat (any_goals (first
    | assumption
    | (with_reducible refine wpAny_loadPart_at hC ?_)
    | wp_step))
  refine ⟨rfl, codeAny_call_builtin_at (Code.quiet_builtin _ (by decide +kernel)) entry_typeCall (g_check_type hC (g_type_call hm hC hi hb hz (codeAny_mono hq ?_)))⟩
  rintro (e | (v | _ | _ | _)) s' z <;> exact z
end
end PySem.HandSPX

end
section
set_option Elab.async false
set_option linter.all false
set_option maxRecDepth 100000
set_option maxHeartbeats 4000000
/-! ## C(v) and C(f=v) as values -/
namespace G
open PySem PySem.Spec PyProof.Rows L2
theorem Er.mono {H H' : Hp} {e C : Addr} {f : Str} {v : V} (s : Same H H') (h : Er H e C f v) : Er H' e C f v := by
  obtain ⟨dx, a, b⟩ := h
  exact ⟨dx, s _ _ a, s _ _ b⟩
/-- self.f = v -/
def spIni (C : Addr) (f : Str) : Sp := fun vs H Q _ => ∃ (a : Addr) (v : V), vs = [.ref a, v] ∧ H a = some (exo a C none) ∧ ∀ dx, H dx = none → dx ≠ a → Q .non (upd (upd H dx (exd dx [(f, v)])) a (exo a C (some dx)))
/-- a class with such an __init__: its def at fI -/
structure Mk (P : Program) (w : World) (K : PySem.W.Frag) (mg : Str → Option Value) (base : Heap) (C : Addr) (f : Str) : Prop where
  L : Cl K C f
  ex : ∃ (fI : Addr) (fd : FuncData) (ps : List Str), PySem.W.findIn K (.ref C) "__init__" = some (some (.ref fI)) ∧ PySem.W.typeIn K (.ref fI) = some (.type "function") ∧ FnOk P w K mg base CX0 1 fI fd ps (spIni C f) ∧
    ps.length = 2 ∧ (∀ (s : Shared) (u v : Value), BindsTo s fd ⟨[u, v], []⟩ (ps.zip [u, v])) ∧ ∀ (s : Shared) (u v : Value), BindsTo s fd ⟨[u], [(f, v)]⟩ (ps.zip [u, v])
section
variable {X : Cx} {C : Addr} {f x : Str} {e : Expr} {ta tk : TA} {p pos : Pos} {kws : List Keyword}
theorem made {pins : List (Addr × Obj)} {σ : L2.St} {H : Hp} {s : Shared} {Q : VK} {v : V} {u : Value} (M : Mk X.prog X.w X.K X.mg X.base C f) (hr : Room 2 X.A) (I : Inv X pins σ H s) (r : RelV v u) (us : List Value) (kw : List (Str × Value)) (hz : us.length ≤ 1)
    (how : (us = [u] ∧ kw = []) ∨ (us = [] ∧ kw = [(f, u)])) (hq : ∀ (e : Addr) (H' : Hp), H e = none → Same H H' → Er H' e C f v → Q (.ref e) H') : wpAny (model X.prog X.w) X.A (call (.ref C) us kw) (EP X pins σ Q) X.xe s := by
  obtain ⟨⟨T, F, no⟩, fI, fd, ps, iC, tI, G1, hl, b1, b2⟩ := M
  obtain ⟨nm, q, N, bs, bm, sn, sub, ab, col, dd, k0, k1, k2, k3, k5, hC, hbm⟩ := T.cls
  obtain ⟨hp, g, dr, tok, os⟩ := s
  have big : hp.objs.size ≤ hp.objs.size + 1 := Nat.le_succ _
  have free : H (hp.objs.size + 1) = none := I.hok.fresh big
  have keep : ∀ b o, hp.get? b = some o → ((hp.push (PySem.W.kdv_tup us)).push (PySem.HandSPX.excO C hp.objs.size)).get? b = some o := fun b o e => Heap.get?_push_of_some _ (Heap.get?_push_of_some _ e)
  have new : ((hp.push (PySem.W.kdv_tup us)).push (PySem.HandSPX.excO C hp.objs.size)).get? (hp.objs.size + 1) = some (PySem.HandSPX.excO C hp.objs.size) := by heap_get
  have J : Inv X pins σ (upd H (hp.objs.size + 1) (exo (hp.objs.size + 1) C none)) ⟨(hp.push (PySem.W.kdv_tup us)).push (PySem.HandSPX.excO C hp.objs.size), g, dr, tok, os⟩ := I.laid (t' := tok) keep big (exo_ok new)
  have bind : BindsTo ⟨(hp.push (PySem.W.kdv_tup us)).push (PySem.HandSPX.excO C hp.objs.size), g, dr, tok, os⟩ fd ⟨Value.ref (hp.objs.size + 1) :: us, kw⟩ (ps.zip [Value.ref (hp.objs.size + 1), u]) := by
    rcases how with ⟨rfl, rfl⟩ | ⟨rfl, rfl⟩
    · exact b1 _ _ _
    · exact b2 _ _ _
  have wish : spIni C f [.ref (hp.objs.size + 1), v] (upd H (hp.objs.size + 1) (exo (hp.objs.size + 1) C none)) (fun z H' => z = .non ∧ Q (.ref (hp.objs.size + 1)) H') E0 := by
    refine ⟨_, _, rfl, upd_same, fun dx h1 h2 => ⟨rfl, hq _ _ free (fun b o q => ?_) ⟨dx, upd_same, ?_⟩⟩⟩
    · have n1 : b ≠ hp.objs.size + 1 := ne_of_none q free
      rw [upd_ne n1, upd_ne (fun z => ?_), upd_ne n1]
      · exact q
      · rw [← z, upd_ne n1, q] at h1
        cases h1
    · rw [upd_ne h2, upd_same]
  refine wpAny_call (PySem.HandSPX.g_call hbm (I.kIn _ _ hC) (PySem.W.looks_findIn I.kIn iC) (fun self => PySem.W.bind_fn I.kIn self tI) (Nat.le_trans hz (by decide))
    (codeAny_mono (G1.run _ X.stack _ _ _ [Value.ref (hp.objs.size + 1), u] [.ref (hp.objs.size + 1), v] _ E0 (hr.make C us kw) (J.env0.make C us kw) bind (.cons (show RelV (.ref _) (.ref _) from rfl) (.cons r .nil)) wish) fun rr s' hh => ?_))
  rcases rr with er | fl
  · exact (hh : False).elim
  · cases fl with
    | ret u' =>
      obtain ⟨z, H', J', rz, ez, q'⟩ := J.after hh
      subst ez
      exact ⟨rz, ⟨.ref (hp.objs.size + 1), H', J', rfl, q'⟩⟩
    | next => exact hh.elim
    | brk => exact hh.elim
    | cont => exact hh.elim
/-- C(v), C(f=v) -/
def tMkE (C : Addr) (f : Str) (t : TA) : TE := fun σ H Q => t σ H fun vs H1 => ∃ v, vs = [v] ∧ ∀ (e : Addr) (H' : Hp), H1 e = none → Same H1 H' → Er H' e C f v → Q (.ref e) H'
theorem pe_mkE (M : Mk X.prog X.w X.K X.mg X.base C f) (hr : Room 2 X.A) (hg : Gl X x) (hm : X.mg x = some (.ref C)) (ha : PA X [e] ta) (hdb : (x == ("__debug__" : Str)) = false := by decide)
    (he : starEach [e] X.env = (false, eval e X.env) :: starEach [] X.env := by rfl) (hpl : (backTo pos (starEach [] X.env)).any (·.1) = false := by rfl) : PE X (.Call (.Name x p) [e] [] pos) (tMkE C f ta) := by
  refine ⟨fun pins s σ H Q I h => wpAny_Call_Name_kw (ld_glob I hg hm ?_ hdb)⟩
  refine PySem.W.callWith_K (h₀ := X.base) I.ok.mod.kin M.L.T.kC (thn (ha.run pos pins s σ H _ I h) fun us s1 hh => ?_) he hpl
  obtain ⟨vs, H1, I1, r1, v, rfl, q⟩ := hh
  cases r1 with
  | cons rv rn =>
    cases rn
    exact ⟨I1.kIn, made M hr I1 rv _ [] (Nat.le_refl _) (.inl ⟨rfl, rfl⟩) q⟩
theorem pe_mkEk (M : Mk X.prog X.w X.K X.mg X.base C f) (hr : Room 2 X.A) (hg : Gl X x) (hm : X.mg x = some (.ref C)) (hkw : PK X kws tk) (hks : (backToKw pos (keywordEach kws X.env)).filterMap (·.1) = [f] := by rfl) (hall : (backToKw pos (keywordEach kws X.env)).all (·.1.isSome) = true := by rfl)
    (hdb : (x == ("__debug__" : Str)) = false := by decide) (hpl : ((backTo pos (starEach [] X.env)).any (·.1) || (backToKw pos (keywordEach kws X.env)).any (·.1.isNone)) = false := by rfl) : PE X (.Call (.Name x p) [] kws pos) (tMkE C f tk) := by
  refine ⟨fun pins s σ H Q I h => wpAny_Call_Name_kw (ld_glob I hg hm ?_ hdb)⟩
  refine PySem.W.callWith_KW0 (h₀ := X.base) I.ok.mod.kin M.L.T.kC hall (thn (hkw.run pos pins s σ H _ I h) fun ws s2 hh => ?_) hpl
  obtain ⟨vs, H1, I1, r1, v, rfl, q⟩ := hh
  cases r1 with
  | cons rv rn =>
    cases rn
    refine ⟨I1.kIn, ?_⟩
    rw [hks]
    exact made M hr I1 rv [] _ (Nat.zero_le _) (.inr ⟨rfl, rfl⟩) q
end
end G

end
section
set_option autoImplicit false
set_option Elab.async false
set_option linter.all false
set_option maxRecDepth 100000
set_option maxHeartbeats 4000000
/-! ## an own error raised and caught: raise C(e); e.f of the error that a suite holds; a call by keyword that may raise -/
namespace G
open PySem PySem.Spec PyProof.Rows L2
section
variable {X : Cx} {C : Addr} {f x : Str} {e : Expr} {ta : TA} {p pos pos2 : Pos}
theorem mk_binds {P : Program} {w : World} {K : PySem.W.Frag} {fd : FuncData} {ps : List Str} (hl : ps.length = 2) (b : ∀ (s : Shared) (u v : Value), BindsTo s fd ⟨[u, v], []⟩ (ps.zip [u, v])) : Binds K fd ps [] := fun s us hk hn => by
  rw [List.append_nil] at hn ⊢
  rw [hl] at hn
  match us, hn with
  | [u, v], _ => exact b s u v
theorem pmk_er (M : Mk X.prog X.w X.K X.mg X.base C f) (hr : Room 2 X.A) (hg : Gl X x) (hm : X.mg x = some (.ref C)) (ha : PA X [e] ta) (hdb : (x == ("__debug__" : Str)) = false := by decide)
    (he : starEach [e] X.env = (false, eval e X.env) :: starEach [] X.env := by rfl) (hpl : (backTo pos (starEach [] X.env)).any (·.1) = false := by rfl) : PMk X (.Call (.Name x p) [e] [] pos) (tMkO C (spIni C f) [] ta) := by
  obtain ⟨L, fI, fd, ps, iC, tI, G1, hl, b1, b2⟩ := M
  exact pmk_oex L.T iC tI G1 hr (mk_binds (P := X.prog) (w := X.w) hl b1) .nil pass0 hg hm ha hdb he hpl
/-- raise C(e) -/
def tRaiseE (C : Addr) (f : Str) (W : WX) (ta : TA) : TS := fun _ σ H => tMkO C (spIni C f) [] ta σ H fun cls d H' => W cls d σ H'
theorem ps_raiseE {W : WX} (hc : X.calm = true) (M : Mk X.prog X.w X.K X.mg X.base C f) (hr : Room 2 X.A) (tk : Takes X W) (hg : Gl X x) (hm : X.mg x = some (.ref C)) (ha : PA X [e] ta) (hdb : (x == ("__debug__" : Str)) = false := by decide)
    (he : starEach [e] X.env = (false, eval e X.env) :: starEach [] X.env := by rfl) (hpl : (backTo pos (starEach [] X.env)).any (·.1) = false := by rfl) : PS X (.Raise (some (.Call (.Name x p) [e] [] pos)) none pos2) (tRaiseE C f W ta) :=
  ps_raise hc tk (pmk_er M hr hg hm ha hdb he hpl)
theorem mkO_of {v : V} {H : Hp} {Q : XK} (k : ∀ d, H d = none → Q (.ref C) (some d) (upd H d (.xd [(f, v)]))) : [v].length ≤ 1000 ∧ ∀ a, H a = none → spIni C f (.ref a :: ([v] ++ [])) (upd H a (exo a C none))
    (fun u H2 => u = .non ∧ ∃ (d : Addr) (fs : List (Str × V)), H2 a = some (exo a C (some d)) ∧ H2 d = some (exd d fs) ∧ H d = none ∧ Q (.ref C) (some d) (upd (del H2 a) d (.xd fs))) (fun _ _ _ => False) := by
  refine ⟨by show 1 ≤ 1000; decide, fun a ha => ⟨a, v, rfl, upd_same, fun dx h1 h2 => ⟨rfl, dx, [(f, v)], upd_same, ?_, ?_, ?_⟩⟩⟩
  · rw [upd_ne h2, upd_same]
  · rw [upd_ne h2] at h1
    exact h1
  · have hd : H dx = none := by
      rw [upd_ne h2] at h1
      exact h1
    have e : upd (del (upd (upd (upd H a (exo a C none)) dx (exd dx [(f, v)])) a (exo a C (some dx))) a) dx (.xd [(f, v)]) = upd H dx (.xd [(f, v)]) := by
      funext b
      by_cases hb : b = dx
      · subst hb
        rw [upd_same, upd_same]
      · rw [upd_ne hb, upd_ne hb]
        by_cases ha2 : b = a
        · subst ha2
          rw [del_same, ha]
        · rw [del_ne ha2, upd_ne ha2, upd_ne hb, upd_ne ha2]
    rw [e]
    exact k dx hd
end
theorem xf_of {K : PySem.W.Frag} {C : Addr} {f : Str} (L : Cl K C f) : XfC K C := ⟨L.F.hg, L.F.hk, L.F.hs, L.F.hd⟩
theorem look_one {f : Str} {v : V} : ([(f, v)] : List (Str × V)).lookup f = some v := by simp [List.lookup]
section
variable {X : Cx} {CX : CXT} {k : Nat} {f : Addr} {fd : FuncData} {ps ks : List Str} {sp : Sp} {E : L2.St → XK} {x : Str} {p pos : Pos} {e : Expr} {es : List Expr} {kws : List Keyword} {t tk : TA} {g : List Value → List Value → List Value} {gV : List V → List V → List V}
def tCallKS (sp : Sp) (gV : List V → List V → List V) (E : L2.St → XK) (t tk : TA) : TE := fun σ H Q => t σ H fun vs H1 => tk σ H1 fun zs H2 => sp (gV vs zs) H2 Q (E σ)
theorem run_fnKS {pins : List (Addr × Obj)} {σ : L2.St} {H : Hp} {s : Shared} {Q : VK} {us ws : List Value} {vs zs : List V} (F : FnOk X.prog X.w X.K X.mg X.base CX k f fd ps sp) (hr : Room k X.A) (hb : KBinds X.K fd ps ks g gV) (hx : PassesAt CX X σ (E σ))
    (I : Inv X pins σ H s) (r : Vals vs us) (rz : Vals zs ws) (h : sp (gV vs zs) H Q (E σ)) : wpAny (model X.prog X.w) X.A (call (.ref f) us (ks.zip ws)) (EP X pins σ Q) X.xe s := by
  have r2 := hb.rel r rz
  have hl : (g us ws).length = ps.length := by rw [← r2.length]; exact F.len _ _ _ _ h
  refine wpAny_call (codeAny_mono (F.run X.A X.stack s H ⟨us, ks.zip ws⟩ (g us ws) (gV vs zs) Q (E σ) hr I.env0 (hb.to s us ws I.kIn hl) r2 h) fun r s' hq => ?_)
  match r, hq with
  | .error er, z => exact hx pins H s er s' I z
  | .ok (.ret u), z => exact I.after z
  | .ok .next, z => exact z.elim
  | .ok .brk, z => exact z.elim
  | .ok .cont, z => exact z.elim
theorem pe_callKS (F : FnOk X.prog X.w X.K X.mg X.base CX k f fd ps sp) (hr : Room k X.A) (hg : Gl X x) (hm : X.mg x = some (.ref f)) (hk : PySem.W.keepIn X.K (.ref f) = true) (hb : KBinds X.K fd ps ks g gV) (hx : ∀ σ, PassesAt CX X σ (E σ))
    (ha : PA X (e :: es) t) (hkw : PK X kws tk) (hall : (backToKw pos (keywordEach kws X.env)).all (·.1.isSome) = true := by rfl) (hks : (backToKw pos (keywordEach kws X.env)).filterMap (·.1) = ks := by rfl)
    (hdb : (x == ("__debug__" : Str)) = false := by decide) (he : starEach (e :: es) X.env = (false, eval e X.env) :: starEach es X.env := by rfl)
    (hpl : ((backTo pos (starEach (e :: es) X.env)).any (·.1) || (backToKw pos (keywordEach kws X.env)).any (·.1.isNone)) = false := by rfl) :
    PE X (.Call (.Name x p) (e :: es) kws pos) (tCallKS sp gV E t tk) := by
  refine ⟨fun pins s σ H Q I h => ?_⟩
  refine wpAny_Call_Name_kw (ld_glob I hg hm ?_ hdb)
  refine PySem.W.callWith_KW (h₀ := X.base) I.ok.mod.kin hk hall (thn (ha.run pos pins s σ H _ I h) fun us s1 hh => ?_) hpl he
  obtain ⟨vs, H1, I1, r, q⟩ := hh
  refine thn (hkw.run pos pins s1 σ H1 _ I1 q) fun ws s2 hh => ?_
  obtain ⟨zs, H2, I2, rz, q2⟩ := hh
  refine ⟨I2.kIn, ?_⟩
  rw [hks]
  exact run_fnKS F hr hb (hx σ) I2 r rz q2
end
/-- «except C» takes an error of the class at C -/
theorem exm_own {K : PySem.W.Frag} {C : Addr} (isC : PySem.W.isClsIn K C = true) (ty : PySem.W.typeIn K (.ref C) = some (.type "type")) (up : PySem.W.subIn K (.ref C) (.type "BaseException") = some true) (self : PySem.W.subIn K (.ref C) (.ref C) = some true) : PySem.W.exmOne K (.ref C) (.ref C) = some true := by
  have c : (PySem.W.clsIn K C).isSome = true := isC
  have k : PySem.W.kitCls K (.ref C) (.ref C) = some true := by
    unfold PySem.W.kitCls
    dsimp only
    rw [c, ty, self]
    rfl
  unfold PySem.W.exmOne
  rw [up, k]
  rfl
end G

end
section
set_option autoImplicit false
set_option Elab.async false
set_option linter.all false
set_option maxRecDepth 100000
set_option maxHeartbeats 4000000
/-! ## read_way of any value -/
namespace TX
open PySem hiding Step
open TL M
theorem closes_ne {lv : Nat} {a b : List Fr} (c : Closes lv a b) : (∃ f r, a = f :: r ∧ f.steps ≠ []) → ∃ f r, b = f :: r ∧ f.steps ≠ [] := by
  induction c with
  | done => exact fun h => h
  | close _ _ _ _ _ ih => exact fun _ => ih ⟨_, _, rfl, by simp⟩
theorem join_many {c : Nat} : ∀ ws : List (List Nat), ws.length ≤ (joinL [c] ws).length + 1
  | [] => by simp
  | [a] => by simp
  | a :: b :: r => by
    have ih := join_many (c := c) (b :: r)
    have e : joinL [c] (a :: b :: r) = a ++ ([c] ++ joinL [c] (b :: r)) := rfl
    rw [e, List.length_append, List.length_append, List.length_cons, List.length_singleton]
    omega
/-- what is told of a text -/
structure Told (x : List Nat) (k : Nat) : Prop where
  ex : ∃ ls : List (List Nat), ls ≠ [] ∧ (∀ l ∈ ls, (10 : Nat) ∉ l) ∧ joinL [10] ls = x ∧ Go ([⟨none, none, []⟩], 0) ls 0 k
theorem told_ex (x : List Nat) : ∃ k, Told x k := by
  obtain ⟨ls, n, e, h⟩ := parts 10 x
  obtain ⟨k, g⟩ := go_ex ls _ [] 0 0 inv0
  exact ⟨k, ls, n, h, e, g⟩
end TX
namespace CP
open PySem L2 G Y
open TL TX
/-- a value that is no text -/
def NS (K : PySem.W.Frag) (H : Hp) (v : V) : Prop := ∃ t, TyX K H v t ∧ PySem.W.kitOne K t (.type "str") = some false
section
variable {P : Program} {w : World} {K : PySem.W.Frag} {mg : Str → Option Value} {base : Heap} {CR CB CW CE : Addr}
def spReadA (K : PySem.W.Frag) (CW CE : Addr) : Sp := fun vs H Q E => ∃ v, vs = [v] ∧
  ((∃ (x : List Nat) (k : Nat), v = .str (TX.S x) ∧ x.length ≤ 900000 ∧ Told x k ∧ (k = 0 → ∀ a wy H', Same H H' → WP.WayAt CW H' wy a → wy.fine → text wy = x → Q (.ref a) H') ∧ (k ≠ 0 → ∀ H1, Same H H1 → ∀ d, H1 d = none → E (.ref CE) (some d) (upd H1 d (.xd [("line", .int (k : Int))])))) ∨
   (NS K H v ∧ ∀ d, H d = none → E (.ref CE) (some d) (upd H d (.xd [("line", .int 1)]))))
theorem ok_readA {f : Addr} {fd : FuncData} (F : Fun K "read_way" "read_way" sRead f fd) (B : Bn mg) (hstr : mg "str" = none) (T : Rt K mg CR) (ME : G.Mk P w K mg base CE "line") (gE : mg "BadText" = some (.ref CE)) (MN : Mn P w K mg base CR 3 ["self"] (spRInit CR CB CW)) (MT : Mr P w K mg base CR 9 "takes" ["self", "line"] (orSp (spTakes CR CB CW) (spTakesB CR CB CW))) (MI : Mr P w K mg base CR 1 "is_whole" ["self"] (spWhole CR CB CW))
    (MY : Mr P w K mg base CR 9 "way" ["self"] (spRWay CR CB CW)) : FnOk P w K mg base (L2.CX P w) 10 f fd ["text"] (spReadA K CW CE) := by
  obtain ⟨fN, fdN, GN, mN, bN⟩ := MN.ex
  obtain ⟨fT, fdT, GT, mT, bT⟩ := MT.ex
  obtain ⟨fI, fdI, GI, mI, bI⟩ := MI.ex
  obtain ⟨fY, fdY, GY, mY, bY⟩ := MY.ex
  have gN := T.g
  refine F.okX scRd (fun vs H Q E h => ?_) (fun cdv A outer s H vs Q E hr h => ?_)
  · obtain ⟨v, rfl, _⟩ := h
    rfl
  · obtain ⟨v, rfl, hh⟩ := h
    refine ⟨_, pss_cons (ps_if (pt_not (pt_val (pe_callB call_isi (by rfl) B.isi (by decide +kernel) (pa_cons (pv 0) (pa_cons (pe_bltn (v := .ty "str") (by rfl) hstr (by decide +kernel) rfl) pa_nil))))) (pss_one (ps_raiseE rfl ME (hr.mono (by omega)) (takes_of rfl rfl rfl rfl) rfl gE (pa_cons (pe_int) pa_nil))) (pss_nil))
      (pss_cons (ps_set (i := 1) scRd.nd rfl (Or.inl rfl) (pe_split (pv 0) (pe_str)))
      (pss_cons (ps_set (i := 2) scRd.nd rfl (Or.inl rfl) (pe_make0 mN GN (hr.mono (by omega)) rfl gN bN .nil pass0))
      (pss_cons (ps_for (passes_of rfl) rfl (pi_enum (by rfl) B.enum (pa_cons (pv 1) pa_nil)) (pg_tup (by rfl) (pgs_cons (pg_name (i := 3) scRd.nd rfl (Or.inl rfl)) (pgs_cons (pg_name (i := 4) scRd.nd rfl (Or.inl rfl)) pgs_nil))) (pss_one (ps_if (pt_not (pt_val (pe_meth (pv 2) T.cl mT GT (hr.mono (by omega)) bT .nil pass0 (pa_cons (pv 4) pa_nil)))) (pss_one (ps_raiseE rfl ME (hr.mono (by omega)) (takes_of rfl rfl rfl rfl) rfl gE (pa_cons (pe_op op_add (pv 3) (pe_int)) pa_nil))) (pss_nil))))
      (pss_cons (ps_if (pt_not (pt_val (pe_meth0 (pv 2) T.cl mI GI (hr.mono (by omega)) bI .nil pass0))) (pss_one (ps_raiseE rfl ME (hr.mono (by omega)) (takes_of rfl rfl rfl rfl) rfl gE (pa_cons (pe_op op_add (pe_callB call_len_seq (by rfl) B.len PySem.boot_len (pa_cons (pv 1) pa_nil)) (pe_int)) pa_nil))) (pss_nil))
      (pss_one (ps_ret (pe_meth0 (pv 2) T.cl mY GY (hr.mono (by omega)) bY .nil pass0))))))), ?_⟩
    rcases hh with ⟨v, k, rfl, lv, ⟨ls, lne, l10, lj, hgo⟩, k0, k1⟩ | ⟨⟨t, ty, ne⟩, ke⟩
    · have big : ∀ {n : Nat}, n ≤ 1000000 → n ≤ sizeLine := fun h => Nat.le_trans h (by decide)
      have lt : (TX.S v).length ≤ 900000 := by rw [S_len]; exact lv
      refine ⟨_, rfl, _, _, _, _, true, rfl, .ty _, .base (.str _), kit_ty (by decide +kernel), _, rfl, iteF ?_⟩
      try unfold tNext
      dsimp only
      refine set_then (i := 1) ⟨_, rfl, ⟨_, rfl⟩, _, _, rfl, rfl, by decide +kernel, big (by omega), fun l hl => ?_⟩
      have e1 : Txt.split (TX.S v) ("\n" : Str) = ls.map TX.S := by
        rw [k_nl, ← lj]
        exact split_lines l10 lne
      have lle : ∀ l ∈ ls, l.length ≤ 900000 := fun l hl => Nat.le_trans (join_part (c := 10) hl) (by rw [lj]; exact lv)
      have llen : ls.length ≤ 900001 := by
        have := join_many (c := 10) ls
        rw [lj] at this
        omega
      rw [e1, ← sv_strs]
      have s0 := of_upd (o := .lst (sv ls)) hl
      have el : upd H l (.lst (sv ls)) l = some (.lst (sv ls)) := upd_same
      generalize upd H l (.lst (sv ls)) = H0 at s0 el ⊢
      dsimp only
      refine set_then (i := 2) ?_
      intro x dx hx hdx ne
      refine ⟨x, dx, H0, rfl, upd_same, hx, (of_upd hdx).trans (of_upd (by rw [upd_ne ne.symm]; exact hx)), fun H1 hR => ⟨rfl, ?_⟩⟩
      refine ⟨_, rfl, l, _, rfl, SqL.of (hR.sm _ _ el), ?_⟩
      refine for_it walk_enum (fun i σ G => ∃ f r n q3 q4, RdAt CR CB CW H0 G (f :: r) n x ∧ TX.Inv f r n ∧ Go (f :: r, n) (ls.drop i) i k ∧ (unp (f :: r)).map lineOf = ls.take i ∧ σ = [some (.str (TX.S v)), some (.ref l), some (.ref x), q3, q4])
        ⟨_, [], 0, _, _, hR, inv0, by rw [List.drop_zero]; exact hgo, rfl, rfl⟩ (fun i σ G _ z => by obtain ⟨f, r, n, q3, q4, hR, _⟩ := z; exact SqL.of (hR.sm _ _ el)) ?_ ?_
      · rintro i y σ G G' hi ⟨f, r, n, q3, q4, hR, I, go, tk, rfl⟩ ⟨T0, a, b, rfl, nT, rfl, ha, hb⟩
        have ha : V.int (i : Nat) = a := Option.some.inj ha
        subst ha
        obtain ⟨ln, hln, rfl⟩ := sv_get hb
        rw [drop_at hln] at go
        have hR1 := hR.same (of_upd (o := .tup [.int (i : Nat), .str (TX.S ln)]) nT)
        refine ⟨T0, _, rfl, SqT.of upd_same, rfl, _, _, rfl, _, _, rfl, rfl, ?_⟩
        generalize upd G T0 (.tup [.int (i : Nat), .str (TX.S ln)]) = G1 at hR1 ⊢
        obtain ⟨dx1, b1', hx1⟩ := hR1.ins
        have tk2 : ls.take (i + 1) = ls.take i ++ [ln] := by rw [List.take_succ, hln]; rfl
        generalize hz : ls.drop (i + 1) = rest at go
        have l3 := I.len
        cases go with
        | bad bd =>
          refine ⟨_, rfl, x, dx1, _, rfl, hx1, rf_no (by decide +kernel) (by decide +kernel), _, rfl, .inr ⟨x, f, r, n, ln, H0, rfl, hR1, Nat.le_trans (lle ln (List.mem_of_getElem? hln)) (by decide), l3, bd, fun H2 s2 => ⟨_, rfl, iteT ?_⟩⟩⟩
          exact ⟨_, rfl, _, _, rfl, rfl, mkO_of fun d hd => k1 (by omega) H2 (s0.trans s2) d hd⟩
        | go o I2 g2 =>
          obtain ⟨lv1, li, e, hw, lv3, fd⟩ := o.feed l3
          have u := one_unp o I
          subst e
          exact ⟨_, rfl, x, dx1, _, rfl, hx1, rf_no (by decide +kernel) (by decide +kernel), _, rfl, .inl ⟨x, f :: r, _, n, _, lv1, li, H0, rfl, hR1, fd, hw, lv3, fun H' hR' => ⟨_, rfl, iteF ⟨_, _, _, _, _, hR', I2, g2, by rw [u, tk, tk2], rfl⟩⟩⟩⟩
      · rintro σ G ⟨f, r, n, q3, q4, hR, I, go, tk, rfl⟩
        have ll : (sv ls).length = ls.length := sv_len ls
        rw [ll, List.drop_length] at go
        rw [ll, List.take_length] at tk
        obtain ⟨dx1, b1', hx1⟩ := hR.ins
        dsimp only
        refine ⟨_, rfl, x, dx1, _, rfl, hx1, rf_no (by decide +kernel) (by decide +kernel), x, f, r, n, H0, rfl, hR, _, rfl, ?_⟩
        cases go with
        | short e =>
          rw [decide_eq_false (by rw [e]; simp)]
          refine iteT ?_
          refine ⟨_, rfl, l, _, rfl, .inl (SqL.of (hR.sm _ _ el)), _, _, rfl, rfl, ?_⟩
          rw [ll]
          exact mkO_of fun d hd => k1 (by omega) G (s0.trans hR.sm) d hd
        | fin e =>
          rw [decide_eq_true (List.length_pos_iff.mpr e)]
          refine iteF ?_
          have hk : hdOk f := by
            rcases I.hd with h | h
            · exact absurd h.2 e
            · exact h
          obtain ⟨g, q, cl, I2, ⟨h, g1, g2, g3, g4⟩, hq⟩ := close_to r f n 0 I hk (Nat.zero_le _) fun _ => e
          have hq0 : q = [] := List.length_eq_zero_iff.mp hq
          subst hq0
          obtain ⟨g', q', e', gn⟩ := closes_ne cl ⟨f, r, rfl, e⟩
          cases e'
          have fw : M.Way.fine (.mk h g.steps) := by
            have d := I2.dp
            have z := I2.sz
            have le := I2.le
            have ln := I2.ln
            have l1 : 1 ≤ g.steps.length := List.length_pos_iff.mpr gn
            unfold M.Way.fine
            rw [List.length_nil] at d
            refine ⟨⟨g2, g3⟩, ⟨l1, ln⟩, g4, by omega, ?_⟩
            have z : n = fz g + 0 := z
            unfold fz at z
            omega
          have tx : text (.mk h g.steps) = v := by
            unfold text
            rw [text_read cl g1 tk]
            exact lj
          exact ⟨_, rfl, x, dx1, _, rfl, hx1, rf_no (by decide +kernel) (by decide +kernel), x, f :: r, g, n, h, H0, rfl, hR, cl, g1, fw, fun a H' s wa => k0 rfl a _ H' (s0.trans s) wa fw tx⟩
    · exact ⟨_, rfl, _, _, _, _, _, rfl, .ty _, ty, ne, _, rfl, iteT (mkO_of fun d hd => ke d hd)⟩
end
end CP

end
section
set_option autoImplicit false
set_option Elab.async false
set_option linter.all false
set_option maxRecDepth 100000
set_option maxHeartbeats 4000000
/-! ## the law's own reader: its words and lines -/
namespace LN
open PySem PySem.Spec PyProof.Rows L2
def rNeNil (K : PySem.W.Frag) : R2 := fun x y H Q => ∃ (a b : Addr) (xs : List V), x = .ref a ∧ y = .ref b ∧ SqL K H a xs ∧ SqL K H b [] ∧ Q (.bl (!xs.isEmpty)) H
theorem op_neNil {X : Cx} (hu : X.A.units + 64 < cLine) : OpR X (compareOp .NotEq) (rNeNil X.K) := by
  intro pins s σ H x y v u Q I rx ry h
  obtain ⟨a, b, xs, rfl, rfl, ha, hb, q⟩ := h
  cases (show v = Value.ref a from rx)
  cases (show u = Value.ref b from ry)
  obtain ⟨ia, ra, la, _⟩ := I.list ha
  obtain ⟨ib, rb, lb, _⟩ := I.list hb
  cases rb
  have pa := la.isList
  have pb := lb.isList
  cases ra with
  | nil => exact SeqAt.RcNeAt.lists (e := fun _ => true) pa pb rfl (by omega) (fun j h1 => absurd h1 (by simp)) _ _ _ _ ⟨.bl false, H, I, rfl, q⟩
  | cons r rr => exact SeqAt.RcNeAt.lists_lengths pa pb (by simp) (by omega) _ _ _ _ ⟨.bl true, H, I, rfl, q⟩
def rEqNil (K : PySem.W.Frag) : R2 := fun x y H Q => ∃ (a b : Addr) (v : V) (xs : List V), x = .ref a ∧ y = .ref b ∧ SqL K H a (v :: xs) ∧ SqL K H b [] ∧ Q (.bl false) H
theorem op_eqNil {X : Cx} (hu : X.A.units + 64 < cLine) : OpR X (compareOp .Eq) (rEqNil X.K) := by
  intro pins s σ H x y v u Q I rx ry h
  obtain ⟨a, b, w, xs, rfl, rfl, ha, hb, q⟩ := h
  cases (show v = Value.ref a from rx)
  cases (show u = Value.ref b from ry)
  obtain ⟨ia, ra, la, _⟩ := I.list ha
  obtain ⟨ib, rb, lb, _⟩ := I.list hb
  cases rb
  cases ra with
  | cons r rr => exact SeqAt.RcAt.lists_lengths la.isList lb.isList (by simp) (by omega) _ _ _ _ ⟨.bl false, H, I, rfl, q⟩
/-- a text, so many times -/
def rep (k : Nat) (a : List Nat) : List Nat := (List.replicate k a).flatten
theorem fold_arr : ∀ (l : List (Array Nat)) (b : Array Nat), (l.foldl (· ++ ·) b).toList = b.toList ++ (l.map Array.toList).flatten
  | [], b => by simp
  | a :: l, b => by
    rw [List.foldl_cons, fold_arr l (b ++ a)]
    simp
def rMulS : R2 := fun x y H Q => ∃ (a : List Nat) (k : Nat), x = .str (TX.S a) ∧ y = .int (k : Int) ∧ a.length ≤ 1000 ∧ k ≤ 10000 ∧ Q (.str (TX.S (rep k a))) H
theorem op_mulS {X : Cx} : OpR X (binaryOp .Mult) rMulS := by
  intro pins s σ H x y v u Q I rx ry h
  obtain ⟨a, k, rfl, rfl, ha, hk, q⟩ := h
  obtain ⟨t, rfl⟩ := rx
  obtain ⟨t', rfl⟩ := ry
  have la : (TX.S a).length = a.length := TX.S_len a
  have le : a.length * k ≤ 1000 * 10000 := Nat.mul_le_mul ha hk
  refine P.mul_str ?_ (fun h1 _ => ?_) (fun h1 _ => ?_) ?_
  · rw [decide_eq_false (by omega), decide_eq_false (by omega)]
    rfl
  · have h2 : (1 : Int) ≤ (k : Int) := by omega
    have h3 : (k : Int) * ((2 ^ 63 - 1) / (k : Int)) + (2 ^ 63 - 1) % (k : Int) = 2 ^ 63 - 1 := Int.mul_ediv_add_emod _ _
    have h4 : (2 ^ 63 - 1) % (k : Int) < (k : Int) := Int.emod_lt_of_pos _ (by omega)
    intro hc
    have h5 : (2 ^ 63 - 1) / (k : Int) ≤ 999 := by omega
    have h6 : (k : Int) * ((2 ^ 63 - 1) / (k : Int)) ≤ (k : Int) * 999 := Int.mul_le_mul_of_nonneg_left h5 (by omega)
    omega
  · unfold Builtin.Str.tooLong
    refine decide_eq_false ?_
    rw [la, Int.toNat_natCast]
    exact Nat.not_lt.mpr (Nat.le_trans le (by decide))
  · have e1 : k = 1 → rep k a = a := fun e => by
      rw [e]
      show ([a] : List (List Nat)).flatten = a
      simp
    have e0 : k = 0 → rep k a = [] := fun e => by
      rw [e]
      rfl
    have en : a = [] → rep k a = [] := fun e => by
      rw [e]
      unfold rep
      simp
    have eS : ∀ m : Nat, (⟨(List.replicate m (TX.S a).cps).foldl (· ++ ·) #[]⟩ : Str) = TX.S (rep m a) := fun m => by
      refine TL.ext_tl ?_
      rw [TX.tl_S]
      show ((List.replicate m (TX.S a).cps).foldl (· ++ ·) #[]).toList = _
      rw [fold_arr, List.map_replicate]
      have e : (TX.S a).cps.toList = a := TX.tl_S a
      rw [e]
      show ([] : List Nat) ++ _ = _
      rw [List.nil_append]
      rfl
    have lr : (rep (Int.toNat (k : Int)) a).length ≤ 1000 * 10000 := by
      rw [Int.toNat_natCast]
      unfold rep
      rw [List.length_flatten, List.map_replicate, List.sum_replicate_nat]
      rw [Nat.mul_comm]
      exact le
    split
    · rename_i h
      have hk0 : k = 0 := by omega
      refine ⟨by decide, .str (TX.S (rep k a)), H, I.tok _, ⟨s.toks, ?_⟩, q⟩
      rw [e0 hk0]
      rfl
    · split
      · rename_i h1 h
        refine ⟨.str (TX.S (rep k a)), H, I, ⟨t, ?_⟩, q⟩
        rcases Bool.or_eq_true_iff.mp h with h | h
        · have := eq_of_beq h
          rw [e1 (by omega)]
        · have := eq_of_beq h
          rw [la] at this
          have := List.length_eq_zero_iff.mp this
          rw [en this, this]
      · refine ⟨?_, .str (TX.S (rep k a)), H, I.tok _, ⟨s.toks, ?_⟩, q⟩
        · rw [eS]
          rw [TX.S_len]
          exact Nat.le_trans lr (by decide)
        · rw [eS, Int.toNat_natCast]
end LN
namespace TX
open PySem hiding Step
open TL M
def isLine (h d room : Nat) (ws : List (List Nat)) : Bool := decide (1 ≤ room) && ((pPlain h ws).isSome || ((pTun ws).isSome && (decide (d ≠ 3) && decide (2 ≤ room))))
theorem dv_lt : ∀ (v : List Nat), NumText.AllDigits v → v.length ≤ 20 → NumText.digitsVal v < 10 ^ 20 := fun v h hl => by
  have key : NumText.digitsVal v < 10 ^ v.length := by
    refine rev_ind (P := fun v => NumText.AllDigits v → NumText.digitsVal v < 10 ^ v.length) ?_ (fun u d ih => ?_) v h
    · intro _
      decide
    · intro hd
      have a := ih fun x hx => hd x (List.mem_append_left _ hx)
      have b := hd d (by simp)
      rw [dv_snoc, List.length_append, List.length_singleton, Nat.pow_succ]
      omega
  exact Nat.lt_of_lt_of_le key (Nat.pow_le_pow_right (by decide) hl)
theorem inR_is {lo hi : Nat} {w : List Nat} (hhi : hi ≤ 1000000000000) (hw : w.length ≤ 20) (hd : NumText.AllDigits w) (hn : w ≠ []) : (inR lo hi w).isSome = (decide (numL (NumText.digitsVal w) = w) && decide (lo ≤ NumText.digitsVal w ∧ NumText.digitsVal w ≤ hi)) := by
  rw [inR_eq, inO_is]
  by_cases e : numL (NumText.digitsVal w) = w
  · rw [pnum_iff.mpr ⟨e.symm, by omega⟩, decide_eq_true e]
    rfl
  · rw [decide_eq_false e]
    cases z : pnum w with
    | none => rfl
    | some n =>
      obtain ⟨a, _⟩ := pnum_iff.mp z
      exact absurd (by rw [a, numL_val]) e
theorem inR_no {lo hi : Nat} {w : List Nat} (hhi : hi ≤ 1000000000000) (h : w = [] ∨ 20 < w.length ∨ ¬ NumText.AllDigits w) : inR lo hi w = none := by
  cases e : inR lo hi w with
  | none => rfl
  | some n =>
    exfalso
    obtain ⟨a, b, c, d⟩ := inR_some e
    rcases h with h | h | h
    · rw [a] at h
      exact numL_ne n h
    · have := numL_len (n := n) (k := 13) (by decide) (Nat.lt_of_le_of_lt (Nat.le_trans c hhi) (by decide))
      rw [← a] at this
      omega
    · exact h (a ▸ numL_digits n)
end TX
namespace CP
open PySem L2 G Y
open TL TX
theorem small1000000 {n : Nat} (h : n ≤ 1000000) : n < sizeLine := Nat.lt_of_le_of_lt h (by decide)
abbrev sCnt : Stmt := S.top 51
abbrev sLin : Stmt := S.top 52
def rSgN : R2 := fun x y H Q => ∃ (c : Nat) (z : Str), x = .str ⟨#[c]⟩ ∧ y = .str z ∧ Q (.bl (!decide (c ∈ z.cps.toList))) H
theorem op_sgn {X : Cx} : OpR X (compareOp .NotIn) rSgN := op_notIn_sign
section
variable {P : Program} {w : World} {K : PySem.W.Frag} {mg : Str → Option Value} {base : Heap} {CR CB CW : Addr}
abbrev NCnt : List Str := ["word", "low", "high", "sign"]
theorem scCnt : FnScope NCnt ["word", "low", "high"] (defScope sCnt) := ⟨rfl, rfl, rfl, by decide +kernel, rfl, by decide +kernel, by decide +kernel⟩
theorem scLin : FnScope ["words", "head", "depth", "room"] ["words", "head", "depth", "room"] (defScope sLin) := ⟨rfl, rfl, rfl, by decide +kernel, rfl, by decide +kernel, by decide +kernel⟩
def spCnt : Sp := fun vs H Q _ => ∃ (v : List Nat) (lo hi : Nat), vs = [.str (TX.S v), .int (lo : Int), .int (hi : Int)] ∧ v.length ≤ 1000000 ∧ hi ≤ 1000000000000 ∧ ∀ H', Same H H' → Q (.bl (inR lo hi v).isSome) H'
theorem ok_cnt {f : Addr} {fd : FuncData} (F : Fun K "_law_is_count" "_law_is_count" sCnt f fd) (B : Bn mg) (hstr : mg "str" = none) : FnOk P w K mg base CX0 1 f fd ["word", "low", "high"] spCnt := by
  refine F.ok scCnt (fun vs H Q E h => ?_) (fun cdv A outer s H vs Q E hr h => ?_)
  · obtain ⟨v, lo, hi, rfl, _⟩ := h
    rfl
  · obtain ⟨v, lo, hi, rfl, lv, hhi, kk⟩ := h
    refine ⟨_, pss_cons (ps_if (PW.pt (pw_or (pt_cmpR (op_eq) (pv 0) (pe_str) (nomark _)) (pw_or (pt_cmpR (op_gt) (pe_callB call_len_str (by rfl) B.len PySem.boot_len (pa_cons (pv 0) pa_nil)) (pe_int) (nomark _)) (pw_or1 (pt_cmpR (LN.op_neNil hr.units) (pe_lc (own := [("sign", 3)]) (g := gName 3) (tt := tTest (tOp rSgN (tVar 3) (tC (.str "0123456789")))) (te := tVar 3) rfl scCnt.nd (pi_str (pv 0)) (blkOk_by (N := NCnt) (sc := defScope sCnt) (by decide +kernel))
          (fun _ _ _ _ _ => by exact pg_name (i := 3) scCnt.nd rfl (Or.inl rfl)) (fun _ _ _ _ _ => pts_one (by exact pt_cmpR (op_sgn) (pv 3) (pe_str) (by rfl))) (fun _ _ _ _ _ => by exact pv 3)) (pe_lst pa_nil) (nomark _)))))) (pss_one (ps_ret (pe_bl))) (pss_nil))
      (pss_one (ps_ret (pe_and (pe_cmpR (op_eq) (pe_callTy cr_str (by rfl) hstr (by decide +kernel) (pa_cons (pe_callTy call_int_str (by rfl) B.int (by decide +kernel) (pa_cons (pv 0) pa_nil)) pa_nil)) (pv 0) (nomark _)) (pe_one (pe_chain op_le op_le (pv 1) (pe_callTy call_int_str (by rfl) B.int (by decide +kernel) (pa_cons (pv 0) pa_nil)) (pv 2)))))), ?_⟩
    have lx : (TX.S v).length = v.length := S_len v
    have big : (TX.S v).length ≤ sizeLine := Nat.le_trans (show _ ≤ 1000000 by omega) (by decide)
    have t0 : (TX.S v).cps.toList = v := tl_S v
    have cx : (TX.S v).cps.size = v.length := lx
    have no : ∀ {G : Hp}, Same H G → inR lo hi v = none → Q (.bl false) G := fun {G} s e => by
      have := kk G s
      rw [e] at this
      exact this
    refine ⟨_, rfl, rfl, _, rfl, ?_⟩
    by_cases c0 : v = []
    · exact iteP (by rw [c0]; rfl) (iteT (no (Same.refl H) (inR_no hhi (.inl c0))))
    refine iteN (fun z => c0 ?_) ⟨_, rfl, _, rfl, big, _, _, rfl, rfl, _, rfl, ?_⟩
    · have z := V.str.inj z
      rw [← tl_S v, z]
      rfl
    by_cases c1 : 20 < v.length
    · rw [decide_eq_true (show (((TX.S v).length : Nat) : Int) > 20 by omega)]
      exact iteT (no (Same.refl H) (inR_no hhi (.inr (.inl c1))))
    rw [decide_eq_false (show ¬ (((TX.S v).length : Nat) : Int) > 20 by omega)]
    refine iteF ⟨_, rfl, _, rfl, fun D hD => ?_⟩
    refine lc_it walk_str (fun i G => Same H G ∧ ∃ xs : List V, G D = some (.lst xs) ∧ xs.length ≤ i ∧ (xs = [] ↔ ∀ c ∈ v.take i, isD c = true)) ⟨of_upd hD, [], upd_same, by simp, by simp⟩ (fun i G _ z => trivial) ?_ ?_
    · rintro i x G G' hi2 ⟨s1, xs, e1, lxs, iff⟩ ⟨rfl, c, hc, rfl⟩
      have hv : v[i]? = some c := by
        rw [← t0, Array.getElem?_toList]
        exact hc
      have tk : v.take (i + 1) = v.take i ++ [c] := by rw [List.take_succ, hv]; rfl
      have iff2 : ∀ b : Bool, isD c = b → ((∀ d ∈ v.take (i + 1), isD d = true) ↔ (xs = [] ∧ b = true)) := fun b hb => by
        rw [tk, iff]
        constructor
        · exact fun h => ⟨fun d hd => h d (List.mem_append_left _ hd), hb ▸ h c (List.mem_append_right _ List.mem_cons_self)⟩
        · rintro ⟨h1, h2⟩ d hd
          rcases List.mem_append.mp hd with z | z
          · exact h1 d z
          · rw [List.mem_singleton.mp z, hb, h2]
      refine ⟨rfl, _, rfl, c, _, rfl, rfl, _, rfl, ?_⟩
      show (if (!isD c) = true then _ else _)
      cases e : isD c with
      | true => exact iteF ⟨s1, xs, e1, by omega, (by rw [iff2 true e]; simp)⟩
      | false =>
        refine iteT ⟨_, rfl, xs, e1, small1000000 (by omega), add_upd hD s1, xs ++ [.str ⟨#[c]⟩], upd_same, by rw [List.length_append, List.length_singleton]; omega, ?_⟩
        rw [iff2 false e]
        simp
    · rintro G ⟨s1, xs, e1, lxs, iff⟩
      rw [List.take_of_length_le (by omega)] at iff
      refine ⟨line2.2.2.2, fun D2 hD2 => ?_⟩
      have s2 := of_upd (o := .lst []) hD2
      refine ⟨D, D2, xs, rfl, rfl, SqL.of (s2 _ _ e1), SqL.of upd_same, _, rfl, ?_⟩
      have s12 := s1.trans s2
      generalize upd G D2 (.lst []) = G2 at s12 ⊢
      cases xs with
      | cons y ys =>
        refine iteT (no s12 (inR_no hhi (.inr (.inr fun z => ?_))))
        have := iff.mpr fun c hc => isD_iff.mpr (z c hc)
        cases this
      | nil =>
        have aD : NumText.AllDigits v := fun c hc => isD_iff.mp (iff.mp rfl c hc)
        refine iteF ?_
        have e := intText_digits (x := TX.S v) (by rw [t0]; exact aD) (by rw [t0]; exact c0) (by rw [lx]; omega)
        rw [t0] at e
        have dl : NumText.digitsVal v < 10 ^ 20 := dv_lt v aD (by omega)
        have l20 : (TX.S v).length ≤ 640 := by rw [lx]; omega
        have lg : ((NumText.digitsVal v : Nat) : Int).natAbs.log2 < 1920 := PySem.Flt.log2_lt_of (k := 1920) (by decide) (Nat.lt_of_lt_of_le (by omega : _ < 10 ^ 20) (Nat.le_trans (show 10 ^ 20 ≤ 2 ^ 70 by decide) (Nat.pow_le_pow_right (by decide) (by decide))))
        have fin := kk G2 s12
        rw [inR_is hhi (by omega) aD c0] at fin
        refine ⟨_, rfl, _, _, rfl, e, l20, .inr ⟨_, rfl, lg, _, rfl, rfl, _, rfl, ?_⟩⟩
        have eq : decide (V.str (toString ((NumText.digitsVal v : Nat) : Int)) = V.str (TX.S v)) = decide (numL (NumText.digitsVal v) = v) := by
          show decide (V.str (Str.ofString (toString ((NumText.digitsVal v : Nat) : Int))) = V.str (TX.S v)) = _
          rw [num_S]
          by_cases z : numL (NumText.digitsVal v) = v
          · rw [decide_eq_true z, decide_eq_true (by rw [z])]
          · rw [decide_eq_false z, decide_eq_false fun q => z (S_inj (V.str.inj q))]
        rw [eq]
        cases z : decide (numL (NumText.digitsVal v) = v) with
        | false =>
          rw [z, Bool.false_and] at fin
          exact iteF fin
        | true =>
          rw [z, Bool.true_and] at fin
          refine iteT ⟨_, rfl, _, rfl, _, _, rfl, e, l20, _, _, rfl, rfl, _, rfl, ?_⟩
          refine ite2 (fun h1 => ⟨_, rfl, _, _, rfl, rfl, ?_⟩) (fun h1 => ?_)
          · have e1 : (lo : Int) ≤ ((NumText.digitsVal v : Nat) : Int) := of_decide_eq_true h1
            rw [show decide (lo ≤ NumText.digitsVal v ∧ NumText.digitsVal v ≤ hi) = decide (((NumText.digitsVal v : Nat) : Int) ≤ (hi : Int)) from decide_eq_decide.mpr ⟨fun z => by omega, fun z => ⟨by omega, by omega⟩⟩] at fin
            exact fin
          · rw [show decide (lo ≤ NumText.digitsVal v ∧ NumText.digitsVal v ≤ hi) = false from decide_eq_false fun q => h1 (decide_eq_true (by omega))] at fin
            exact fin
/-! ### _law_is_line -/
theorem pTun_no0 {w0 : List Nat} {rest : List (List Nat)} (h : w0 ≠ cTun) : pTun (w0 :: rest) = none := by
  unfold pTun
  split
  · rename_i e
    cases e
    rw [if_neg h]
  · rfl
theorem pPlain_no0 {h : Nat} {w0 : List Nat} {rest : List (List Nat)} (h1 : w0 ≠ cJoin) (h2 : w0 ≠ cRoad) : pPlain h (w0 :: rest) = none := by
  unfold pPlain
  split
  · rename_i e
    cases e
    rw [if_neg h1]
  · rename_i e
    cases e
    rw [if_neg h2]
  · rfl
theorem pPlain_j {h : Nat} {rest : List (List Nat)} (h1 : rest.length ≠ 1) : pPlain h (cJoin :: rest) = none := by
  unfold pPlain
  split
  · rename_i e
    cases e
    exact absurd rfl h1
  · rename_i e
    cases e
    rw [if_neg (by decide)]
  · rfl
theorem pPlain_r {h : Nat} {rest : List (List Nat)} (h1 : rest.length ≠ 3) : pPlain h (cRoad :: rest) = none := by
  unfold pPlain
  split
  · rename_i e
    cases e
    rw [if_neg (by decide)]
  · rename_i e
    cases e
    exact absurd rfl h1
  · rfl
theorem pTun_t {rest : List (List Nat)} (h1 : rest.length ≠ 2) : pTun (cTun :: rest) = none := by
  unfold pTun
  split
  · rename_i e
    cases e
    exact absurd rfl h1
  · rfl
def spLine : Sp := fun vs H Q _ => ∃ (l : Addr) (h d room : Nat) (ws : List (List Nat)), vs = [.ref l, .int (h : Int), .int (d : Int), .int (room : Int)] ∧ H l = some (.lst (sv ws)) ∧ ws ≠ [] ∧ WL ws ∧ ∀ H', Same H H' → Q (.bl (isLine h d room ws)) H'
theorem ok_line {f : Addr} {fd : FuncData} (F : Fun K "_law_is_line" "_law_is_line" sLin f fd) (B : Bn mg) (DC : Df P w K mg base 1 "_law_is_count" ["word", "low", "high"] spCnt) : FnOk P w K mg base CX0 2 f fd ["words", "head", "depth", "room"] spLine := by
  obtain ⟨fC, fdC, GC, gC, kC, bC⟩ := DC.ex
  refine F.ok scLin (fun vs H Q E h => ?_) (fun cdv A outer s H vs Q E hr h => ?_)
  · obtain ⟨l, h, d, room, ws, rfl, _⟩ := h
    rfl
  · obtain ⟨l, h, d, room, ws, rfl, hl, hne, hw, kk⟩ := h
    refine ⟨_, pss_cons (ps_if (PW.pt (pw_or (pt_cmpR (op_lt) (pv 3) (pe_int) (nomark _)) (pw_or1 (pt_cmpR (LN.op_eqNil hr.units) (pv 0) (pe_lst pa_nil) (nomark _))))) (pss_one (ps_ret (pe_bl))) (pss_nil))
      (pss_cons (ps_if (pt_cmpR (op_eq) (pe_ix ix_list (pv 0) (pe_int) (fun _ _ => rfl)) (pe_str) (nomark _)) (pss_one (ps_ret (pe_and (pe_cmpR (op_eq) (pe_callB call_len_seq (by rfl) B.len PySem.boot_len (pa_cons (pv 0) pa_nil)) (pe_int) (nomark _)) (pe_one (pe_call GC (hr.mono (by omega)) rfl gC kC bC .nil pass0 (pa_cons (pe_ix ix_list (pv 0) (pe_int) (fun _ _ => rfl)) (pa_cons (pe_int) (pa_cons (pe_op (op_powN) (pe_int) (pe_int)) pa_nil)))))))) (pss_nil))
      (pss_cons (ps_if (pt_cmpR (op_eq) (pe_ix ix_list (pv 0) (pe_int) (fun _ _ => rfl)) (pe_str) (nomark _)) (pss_cons (ps_if (PW.pt (pw_or (pt_cmpR (op_ne) (pe_callB call_len_seq (by rfl) B.len PySem.boot_len (pa_cons (pv 0) pa_nil)) (pe_int) (nomark _)) (pw_or1 (pt_not (pt_val (pe_call GC (hr.mono (by omega)) rfl gC kC bC .nil pass0 (pa_cons (pe_ix ix_list (pv 0) (pe_int) (fun _ _ => rfl)) (pa_cons (pe_op (op_add) (pv 1) (pe_int)) (pa_cons (pe_int) pa_nil))))))))) (pss_one (ps_ret (pe_bl))) (pss_nil))
      (pss_one (ps_ret (pe_and (pe_cmpR (op_in_seq) (pe_ix ix_list (pv 0) (pe_int) (fun _ _ => rfl)) (pe_tup (pa_cons (pe_str) (pa_cons (pe_str) pa_nil))) (by rfl)) (pe_one (pe_cmpR (op_in_seq) (pe_ix ix_list (pv 0) (pe_int) (fun _ _ => rfl)) (pe_tup (pa_cons (pe_str) (pa_cons (pe_str) (pa_cons (pe_str) pa_nil)))) (by rfl))))))) (pss_nil))
      (pss_cons (ps_if (PW.pt (pw_or (pt_cmpR (op_ne) (pe_ix ix_list (pv 0) (pe_int) (fun _ _ => rfl)) (pe_str) (nomark _)) (pw_or (pt_cmpR (op_ne) (pe_callB call_len_seq (by rfl) B.len PySem.boot_len (pa_cons (pv 0) pa_nil)) (pe_int) (nomark _)) (pw_or (pt_cmpR (op_eq) (pv 2) (pe_int) (nomark _)) (pw_or1 (pt_cmpR (op_lt) (pv 3) (pe_int) (nomark _))))))) (pss_one (ps_ret (pe_bl))) (pss_nil))
      (pss_one (ps_ret (pe_and (pe_call GC (hr.mono (by omega)) rfl gC kC bC .nil pass0 (pa_cons (pe_ix ix_list (pv 0) (pe_int) (fun _ _ => rfl)) (pa_cons (pe_int) (pa_cons (pe_op (op_powN) (pe_int) (pe_int)) pa_nil)))) (pe_one (pe_cmpR (op_in_seq) (pe_ix ix_list (pv 0) (pe_int) (fun _ _ => rfl)) (pe_tup (pa_cons (pe_str) (pa_cons (pe_str) (pa_cons (pe_str) pa_nil)))) (by rfl))))))))), ?_⟩
    have hq := SqL.of (K := K) hl
    obtain ⟨w0, rest, rfl⟩ := List.exists_cons_of_ne_nil hne
    have hq0 : SqL K H l (V.str (TX.S w0) :: sv rest) := hq
    have tj : tl ("join" : Str) = cJoin := by rw [k_join, tl_S]
    have tr : tl ("road" : Str) = cRoad := by rw [k_road, tl_S]
    have tt : tl ("tunnel" : Str) = cTun := by rw [k_tun, tl_S]
    have val : ∀ {b : Bool}, isLine h d room (w0 :: rest) = b → ∀ H', Same H H' → Q (.bl b) H' := fun {b} e H' s => by
      have := kk H' s
      rw [e] at this
      exact this
    refine ⟨_, rfl, _, _, rfl, rfl, _, rfl, ?_⟩
    by_cases r1 : room < 1
    · rw [decide_eq_true (show (room : Int) < 1 by omega)]
      refine iteT (val ?_ H (Same.refl H))
      unfold isLine
      rw [decide_eq_false (by omega), Bool.false_and]
    rw [decide_eq_false (show ¬ (room : Int) < 1 by omega)]
    have val2 : ∀ {b : Bool}, ((pPlain h (w0 :: rest)).isSome || ((pTun (w0 :: rest)).isSome && (decide (d ≠ 3) && decide (2 ≤ room)))) = b → ∀ H', Same H H' → Q (.bl b) H' := fun {b} e => val (by
      unfold isLine
      rw [decide_eq_true (by omega), Bool.true_and]
      exact e)
    refine iteF ⟨_, rfl, line2.2.2.2, fun D hD => ?_⟩
    have s1 := of_upd (o := .lst []) hD
    refine ⟨l, D, _, _, rfl, rfl, SqL.of (s1 _ _ hl), SqL.of upd_same, _, rfl, iteF ?_⟩
    have hl1 := s1 _ _ hl
    generalize upd H D (.lst []) = H1 at s1 hl1 ⊢
    clear hq hq0
    have hq : SqL K H1 l (sv (w0 :: rest)) := SqL.of hl1
    have hq0 : SqL K H1 l (V.str (TX.S w0) :: sv rest) := hq
    refine ⟨_, rfl, l, _, _, _, rfl, rfl, hq0, at_k0, rfl, _, rfl, ?_⟩
    by_cases hj : w0 = cJoin
    · subst hj
      refine iteP (congrArg V.str k_join.symm) ⟨_, rfl, l, _, rfl, .inl hq, rfl, _, rfl, ?_⟩
      have pt : (pTun (cJoin :: rest)).isSome = false := isSome_false (pTun_no0 (by decide))
      by_cases h1 : rest.length = 1
      · obtain ⟨b, rfl⟩ := List.length_eq_one_iff.mp h1
        refine iteP (congrArg V.int (show (((sv [cJoin, b]).length : Nat) : Int) = 2 from rfl)) ?_
        refine ⟨_, rfl, l, _, _, _, rfl, rfl, hq, at_k1, ?_⟩
        refine ⟨_, _, rfl, rfl, ⟨by decide, by decide⟩, ?_⟩
        refine ⟨b, 1, 1000000000000, rfl, hw b (by simp), Nat.le_refl _, fun H2 s2 => val2 ?_ H2 (s1.trans s2)⟩
        rw [pPlain_join, pt, inR_eq]
        cases inO 1 1000000000000 (pnum b) <;> rfl
      · refine iteN (fun z => h1 ?_) (val2 (by rw [pPlain_j h1, pt]; rfl) H1 s1)
        have z := V.int.inj z
        rw [sv_len, List.length_cons] at z
        omega
    · refine iteN (S_str (by rw [tj]; exact hj)) ?_
      refine ⟨_, rfl, l, _, _, _, rfl, rfl, hq0, at_k0, rfl, _, rfl, ?_⟩
      by_cases hr0 : w0 = cRoad
      · subst hr0
        refine iteP (congrArg V.str k_road.symm) ⟨_, rfl, l, _, rfl, .inl hq, rfl, _, rfl, ?_⟩
        have pt : (pTun (cRoad :: rest)).isSome = false := isSome_false (pTun_no0 (by decide))
        by_cases h3 : rest.length = 3
        · obtain ⟨b, c, e, rfl⟩ := three h3
          refine iteNS (congrArg V.int (show (((sv [cRoad, b, c, e]).length : Nat) : Int) = 4 from rfl)) ?_
          refine ⟨_, rfl, l, _, _, _, rfl, rfl, hq, at_k1, _, rfl, _, _, rfl, rfl, b, h + 1, 1000, rfl, hw b (by simp), by decide, fun H2 s2 => ⟨_, rfl, ?_⟩⟩
          rw [pPlain_road, pRoad_is, pt] at val2
          rw [inR_eq]
          have s12 := s1.trans s2
          have hl2 := s2 _ _ hl1
          have hq2 : SqL K H2 l (sv [cRoad, b, c, e]) := SqL.of hl2
          cases e1 : (inO (h + 1) 1000 (pnum b)).isSome with
          | false =>
            rw [e1] at val2
            exact iteT (val2 rfl H2 s12)
          | true =>
            rw [e1] at val2
            refine iteF ?_
            refine ⟨_, rfl, l, _, _, _, rfl, rfl, hq2, at_k2, line2.1, fun t1 ht1 => ?_⟩
            have s3 := of_upd (o := .tup [V.str "tell", V.str "drop"]) ht1
            refine ⟨t1, _, rfl, .inr (SqT.of upd_same), rfl, rfl, _, rfl, ?_⟩
            show (if inV (.str (TX.S c)) [.str "tell", .str "drop"] = true then _ else _)
            rw [in_sd2]
            cases e2 : (psd c).isSome with
            | false =>
              rw [e2] at val2
              exact iteF (val2 rfl _ (s12.trans s3))
            | true =>
              rw [e2] at val2
              refine iteT ⟨_, rfl, l, _, _, _, rfl, rfl, SqL.of (s3 _ _ hl2), at_k3, line2.2.1, fun t2 ht2 => ?_⟩
              have s4 := of_upd (o := .tup [V.str "cut", V.str "tell", V.str "drop"]) ht2
              refine ⟨t2, _, rfl, .inr (SqT.of upd_same), rfl, rfl, ?_⟩
              show Q (.bl (inV (.str (TX.S e)) [.str "cut", .str "tell", .str "drop"])) _
              rw [in_lw2]
              exact val2 (by simp) _ ((s12.trans s3).trans s4)
        · refine iteNN (fun z => h3 ?_) (iteT (val2 (by rw [pPlain_r h3, pt]; rfl) H1 s1))
          have z := V.int.inj z
          rw [sv_len, List.length_cons] at z
          omega
      · refine iteN (S_str (by rw [tr]; exact hr0)) ?_
        have pp : (pPlain h (w0 :: rest)).isSome = false := isSome_false (pPlain_no0 hj hr0)
        refine ⟨_, rfl, l, _, _, _, rfl, rfl, hq0, at_k0, rfl, _, rfl, ?_⟩
        by_cases ht : w0 = cTun
        · subst ht
          refine iteNS (congrArg V.str k_tun.symm) ⟨_, rfl, l, _, rfl, .inl hq, rfl, _, rfl, ?_⟩
          by_cases h2 : rest.length = 2
          · obtain ⟨b, c, rfl⟩ := two h2
            refine iteNS (congrArg V.int (show (((sv [cTun, b, c]).length : Nat) : Int) = 3 from rfl)) ⟨_, rfl, rfl, _, rfl, ?_⟩
            rw [pp, pTun_tun, pTw_is] at val2
            by_cases d3 : d = 3
            · exact iteP (congrArg V.int (show (d : Int) = 3 by rw [d3]; rfl)) (iteT (val2 (by rw [d3]; simp) H1 s1))
            refine iteN (fun z => d3 (by have z := V.int.inj z; omega)) ⟨_, rfl, _, _, rfl, rfl, _, rfl, ?_⟩
            by_cases r2 : room < 2
            · rw [decide_eq_true (show (room : Int) < 2 by omega)]
              exact iteT (val2 (by rw [decide_eq_false (show ¬ 2 ≤ room by omega)]; simp) H1 s1)
            rw [decide_eq_false (show ¬ (room : Int) < 2 by omega)]
            refine iteF ⟨_, rfl, l, _, _, _, rfl, rfl, hq, at_k1, _, _, rfl, rfl, ⟨by decide, by decide⟩, b, 1, 1000000000000, rfl, hw b (by simp), Nat.le_refl _, fun H2 s2 => ⟨_, rfl, ?_⟩⟩
            rw [inR_eq]
            have s12 := s1.trans s2
            rw [decide_eq_true (show d ≠ 3 from d3), decide_eq_true (show 2 ≤ room by omega)] at val2
            cases e1 : (inO 1 1000000000000 (pnum b)).isSome with
            | false =>
              rw [e1] at val2
              exact iteF (val2 rfl H2 s12)
            | true =>
              rw [e1] at val2
              refine iteT ⟨_, rfl, l, _, _, _, rfl, rfl, SqL.of (s2 _ _ hl1), at_k2, line2.2.1, fun t2 ht2 => ?_⟩
              have s4 := of_upd (o := .tup [V.str "turn", V.str "keep", V.str "lose"]) ht2
              refine ⟨t2, _, rfl, .inr (SqT.of upd_same), rfl, rfl, ?_⟩
              show Q (.bl (inV (.str (TX.S c)) [.str "turn", .str "keep", .str "lose"])) _
              rw [in_tw2]
              exact val2 (by simp) _ (s12.trans s4)
          · refine iteNN (fun z => h2 ?_) (iteT (val2 (by rw [pp, pTun_t h2]; rfl) H1 s1))
            have z := V.int.inj z
            rw [sv_len, List.length_cons] at z
            omega
        · exact iteNN (S_str (by rw [tt]; exact ht)) (iteT (val2 (by rw [pp, pTun_no0 ht]; rfl) H1 s1))
end
end CP

end
section
set_option autoImplicit false
set_option Elab.async false
set_option linter.all false
set_option maxRecDepth 100000
set_option maxHeartbeats 4000000
/-! ## the law's own reader -/
namespace TX
open PySem hiding Step
open TL M
theorem lead_take {l : List Nat} {k m : Nat} {ws : List (List Nat)} (C : Cut l k ws) (h : l.take m = List.replicate m 32) : m ≤ k := by
  by_cases z : m ≤ k
  · exact z
  exfalso
  have hl : (l.take m).length = m := by rw [h, List.length_replicate]
  rw [List.length_take] at hl
  have e := C.eq
  cases c : joinL [32] ws with
  | nil =>
    rw [e, c] at hl
    simp at hl
    omega
  | cons d q =>
    have hd := C.st d q c
    have g1 : (l.take m)[k]? = some 32 := by
      rw [h, List.getElem?_replicate, if_pos (by omega)]
    rw [List.getElem?_take, if_pos (by omega), e, c, List.getElem?_append_right (by rw [List.length_replicate]; exact Nat.le_refl _), List.length_replicate, Nat.sub_self] at g1
    exact hd (Option.some.inj g1)
theorem cut_take {l : List Nat} {k : Nat} {ws : List (List Nat)} (C : Cut l k ws) : l.take k = List.replicate k 32 := by
  rw [C.eq, List.take_left' (List.length_replicate ..)]
theorem map_S_inj : ∀ {a b : List (List Nat)}, a.map S = b.map S → a = b
  | [], [], _ => rfl
  | [], _ :: _, h => by cases h
  | _ :: _, [], h => by cases h
  | x :: a, y :: b, h => by
    rw [List.map_cons, List.map_cons, List.cons.injEq] at h
    rw [S_inj h.1, map_S_inj h.2]
theorem parts_uniq {a b : List (List Nat)} (ha : ∀ w ∈ a, (32 : Nat) ∉ w) (hb : ∀ w ∈ b, (32 : Nat) ∉ w) (na : a ≠ []) (nb : b ≠ []) (h : joinL [32] a = joinL [32] b) : a = b := by
  have x := split_gen ha na
  rw [h, split_gen hb nb] at x
  exact (map_S_inj x).symm
theorem cut_uniq {l : List Nat} {k m : Nat} {a b : List (List Nat)} (C : Cut l k a) (D : Cut l m b) : k = m ∧ a = b := by
  have h1 := lead_take D (cut_take C)
  have h2 := lead_take C (cut_take D)
  have e : k = m := by omega
  subst e
  refine ⟨rfl, parts_uniq C.sp D.sp C.ne D.ne ?_⟩
  have := C.eq.symm.trans D.eq
  exact List.append_cancel_left this
theorem rep_two : ∀ m : Nat, LN.rep m [32, 32] = List.replicate (2 * m) 32
  | 0 => rfl
  | m + 1 => by
    have ih := rep_two m
    unfold LN.rep at ih ⊢
    rw [List.replicate_succ, List.flatten_cons, ih, show 2 * (m + 1) = 2 * m + 1 + 1 by omega, List.replicate_succ, List.replicate_succ]
    rfl
theorem cut_lo2 (l : List Nat) (m : Nat) : L2.cutS (S l) (some (m : Int)) none = S (l.drop m) := by
  refine S_of ?_
  have hl : (S l).length = l.length := S_len l
  have ht : (S l).cps.toList = l := tl_S l
  show ((S l).cps.toList.drop (HT.sIx (S l).length 0 (some (m : Int)))).take (HT.sIx (S l).length (S l).length none - HT.sIx (S l).length 0 (some (m : Int))) = _
  rw [HT.sIx_nat, HT.sIx_none, ht, hl]
  by_cases h : m ≤ l.length
  · rw [Nat.min_eq_left h]
    exact List.take_of_length_le (by rw [List.length_drop]; exact Nat.le_refl _)
  · rw [Nat.min_eq_right (by omega), List.drop_of_length_le (Nat.le_refl _), List.drop_of_length_le (by omega)]
    simp
theorem cut_hi2 (l : List Nat) (m : Nat) : L2.cutS (S l) none (some (m : Int)) = S (l.take m) := by
  refine S_of ?_
  have hl : (S l).length = l.length := S_len l
  have ht : (S l).cps.toList = l := tl_S l
  show ((S l).cps.toList.drop (HT.sIx (S l).length 0 none)).take (HT.sIx (S l).length (S l).length (some (m : Int)) - HT.sIx (S l).length 0 none) = _
  rw [HT.sIx_nat, HT.sIx_none, ht, hl, List.drop_zero, Nat.sub_zero]
  by_cases h : m ≤ l.length
  · rw [Nat.min_eq_left h]
  · rw [Nat.min_eq_right (by omega), List.take_of_length_le (Nat.le_refl _), List.take_of_length_le (by omega)]
def hd0 (f : Fr) : Nat := f.head.getD 0
def cntO (r : List Fr) : List (Nat × Nat) := r.map fun f => (hd0 f, f.steps.length + 1)
def rowsT (f : Fr) (r : List Fr) : List (Nat × Nat) := (hd0 f, f.steps.length) :: cntO r
def opn (f : Fr) (r : List Fr) : List (Nat × Nat) := match f.head with
  | none => (cntO r).reverse
  | some _ => (rowsT f r).reverse
theorem rows_len (f : Fr) (r : List Fr) : (rowsT f r).length = r.length + 1 := by
  unfold rowsT cntO
  rw [List.length_cons, List.length_map]
theorem close_rows {lv : Nat} : ∀ {a b : List Fr}, Closes lv a b → ∀ {f g : Fr} {r q : List Fr}, a = f :: r → b = g :: q → ∃ pre, rowsT f r = pre ++ rowsT g q := by
  intro a b c
  induction c with
  | done h =>
    intro f g r q e1 e2
    rw [e1] at e2
    cases e2
    exact ⟨[], rfl⟩
  | @close b a r st h m t hl e1 e2 fw c ih =>
    intro f g r' q z1 z2
    cases z1
    obtain ⟨pre, e⟩ := ih rfl z2
    refine ⟨(hd0 b, b.steps.length) :: pre, ?_⟩
    rw [List.cons_append, ← e]
    show (hd0 b, b.steps.length) :: ((hd0 a, a.steps.length + 1) :: cntO r) = (hd0 b, b.steps.length) :: ((hd0 a, (a.steps ++ [_]).length) :: cntO r)
    rw [List.length_append, List.length_singleton]
theorem rows_take {lv : Nat} {f g : Fr} {r q : List Fr} (c : Closes lv (f :: r) (g :: q)) : ((rowsT f r).reverse).take (lv + 1) = (rowsT g q).reverse := by
  obtain ⟨pre, e⟩ := close_rows c rfl rfl
  have l := c.len
  rw [List.length_cons] at l
  rw [e, List.reverse_append]
  have e2 : lv + 1 = (rowsT g q).reverse.length := by rw [List.length_reverse, rows_len, l]
  rw [e2, List.take_left]
theorem rows_snoc (f : Fr) (r : List Fr) : (rowsT f r).reverse = (cntO r).reverse ++ [(hd0 f, f.steps.length)] := by
  unfold rowsT
  rw [List.reverse_cons]
end TX
namespace CP
open PySem L2 G Y
open TL TX
abbrev sFb : Stmt := S.top 53
/-- rows of two numbers, as lists -/
inductive RwA (H : Hp) : List (Nat × Nat) → List V → Prop
  | nil : RwA H [] []
  | cons {p : Nat × Nat} {a : Addr} {l : List (Nat × Nat)} {vs : List V} : H a = some (.lst [.int (p.1 : Int), .int (p.2 : Int)]) → RwA H l vs → RwA H (p :: l) (.ref a :: vs)
theorem RwA.mono {H H' : Hp} (s : Same H H') {l : List (Nat × Nat)} {vs : List V} (h : RwA H l vs) : RwA H' l vs := by
  induction h with
  | nil => exact .nil
  | cons e _ ih => exact .cons (s _ _ e) ih
theorem RwA.len {H : Hp} {l : List (Nat × Nat)} {vs : List V} (h : RwA H l vs) : vs.length = l.length := by
  induction h with
  | nil => rfl
  | cons e _ ih => rw [List.length_cons, List.length_cons, ih]
theorem RwA.app {H : Hp} {l m : List (Nat × Nat)} {vs us : List V} (h : RwA H l vs) (g : RwA H m us) : RwA H (l ++ m) (vs ++ us) := by
  induction h with
  | nil => exact g
  | cons e _ ih => exact .cons e ih
theorem RwA.take {H : Hp} {l : List (Nat × Nat)} {vs : List V} (h : RwA H l vs) : ∀ k : Nat, RwA H (l.take k) (vs.take k) := by
  induction h with
  | nil =>
    intro k
    rw [List.take_nil, List.take_nil]
    exact .nil
  | cons e _ ih =>
    intro k
    cases k with
    | zero => exact .nil
    | succ k => exact .cons e (ih k)
theorem RwA.snoc_inv {H : Hp} {l : List (Nat × Nat)} {p : Nat × Nat} {vs : List V} (h : RwA H (l ++ [p]) vs) : ∃ us a, vs = us ++ [.ref a] ∧ RwA H l us ∧ H a = some (.lst [.int (p.1 : Int), .int (p.2 : Int)]) := by
  induction l generalizing vs with
  | nil =>
    cases h with
    | cons e t =>
      cases t
      exact ⟨[], _, rfl, .nil, e⟩
  | cons q l ih =>
    cases h with
    | cons e t =>
      obtain ⟨us, a, e1, e2, e3⟩ := ih t
      exact ⟨_ :: us, a, by rw [e1]; rfl, .cons e e2, e3⟩
def OpA (H : Hp) (O : Addr) (l : List (Nat × Nat)) : Prop := ∃ vs, H O = some (.lst vs) ∧ RwA H l vs
theorem OpA.mono {H H' : Hp} (s : Same H H') {O : Addr} {l : List (Nat × Nat)} (h : OpA H O l) : OpA H' O l := by
  obtain ⟨vs, e, r⟩ := h
  exact ⟨vs, s _ _ e, r.mono s⟩
theorem cut_hiV (xs : List V) (k : Nat) : cutV xs none (some (k : Int)) = xs.take k := by
  unfold cutV
  rw [HT.sIx_nat, HT.sIx_none, List.drop_zero, Nat.sub_zero]
  by_cases h : k ≤ xs.length
  · rw [Nat.min_eq_left h]
  · rw [Nat.min_eq_right (by omega), List.take_of_length_le (Nat.le_refl _), List.take_of_length_le (by omega)]
theorem cut_last (xs : List V) (y : V) : cutV (xs ++ [y]) none (some (-1)) = xs := by
  unfold cutV
  rw [HT.sIx_none, List.drop_zero, Nat.sub_zero]
  have e : HT.sIx (xs ++ [y]).length (xs ++ [y]).length (some (-1)) = xs.length := by
    show (if (-1 : Int) < 0 then ((-1 : Int) + ((xs ++ [y]).length : Int)).toNat else min (-1 : Int).toNat (xs ++ [y]).length) = _
    rw [if_pos (by decide), List.length_append, List.length_singleton]
    omega
  rw [e, List.take_left]
theorem share {c : Prop} [Decidable c] {A Z : Prop} (k : c → Z → A) (h : Z) : if decide c = true then A else Z := by
  by_cases e : c
  · rw [decide_eq_true e]
    exact iteT (k e h)
  · rw [decide_eq_false e]
    exact iteF h
section
variable {P : Program} {w : World} {K : PySem.W.Frag} {mg : Str → Option Value} {base : Heap} {CR CB CW : Addr}
theorem scFb : FnScope ["text", "lines", "opened", "room", "is_head_v", "nth", "line", "lead", "words", "deep", "most"] ["text"] (defScope sFb) := ⟨rfl, rfl, rfl, by decide +kernel, rfl, by decide +kernel, by decide +kernel⟩
def spFb : Sp := fun vs H Q _ => ∃ (x : List Nat) (k : Nat), vs = [.str (TX.S x)] ∧ x.length ≤ 900000 ∧ Told x k ∧ ∀ H', Same H H' → Q (.int (k : Int)) H'
theorem ok_fb {f : Addr} {fd : FuncData} (F : Fun K "_law_first_bad" "_law_first_bad" sFb f fd) (B : Bn mg) (DC : Df P w K mg base 1 "_law_is_count" ["word", "low", "high"] spCnt) (DL : Df P w K mg base 2 "_law_is_line" ["words", "head", "depth", "room"] spLine) : FnOk P w K mg base CX0 3 f fd ["text"] spFb := by
  obtain ⟨fC, fdC, GC, gC, kC, bC⟩ := DC.ex
  obtain ⟨fL, fdL, GL, gL, kL, bL⟩ := DL.ex
  refine F.ok scFb (fun vs H Q E h => ?_) (fun cdv A outer s H vs Q E hr h => ?_)
  · obtain ⟨x, k, rfl, _⟩ := h
    rfl
  · obtain ⟨v, k, rfl, lv, ⟨ls, lne, l10, lj, hgo⟩, kk⟩ := h
    refine ⟨_, pss_cons (ps_asg (pe_tup (pa_cons (pe_split (pv 0) (pe_str)) (pa_cons (pe_lst pa_nil) (pa_cons (pe_int) (pa_cons (pe_bl) pa_nil))))) (pg_tup (by rfl) (pgs_cons (pg_name (i := 1) scFb.nd rfl (Or.inl rfl)) (pgs_cons (pg_name (i := 2) scFb.nd rfl (Or.inl rfl)) (pgs_cons (pg_name (i := 3) scFb.nd rfl (Or.inl rfl)) (pgs_cons (pg_name (i := 4) scFb.nd rfl (Or.inl rfl)) pgs_nil))))))
      (pss_cons (ps_for PassesOwn.never rfl (pi_enum (by rfl) B.enum (pa_cons (pv 1) pa_nil)) (pg_tup (by rfl) (pgs_cons (pg_name (i := 5) scFb.nd rfl (Or.inl rfl)) (pgs_cons (pg_name (i := 6) scFb.nd rfl (Or.inl rfl)) pgs_nil))) (pss_cons (ps_if (pt_val (pv 4)) (pss_cons (ps_set (i := 7) scFb.nd rfl (Or.inl rfl) (pe_op (LN.op_mulS) (pe_str) (pe_callB call_len_seq (by rfl) B.len PySem.boot_len (pa_cons (pv 2) pa_nil))))
      (pss_cons (ps_set (i := 8) scFb.nd rfl (Or.inl rfl) (pe_split (pe_slice sl_str (pv 6) (po_some (pe_callB call_len_str (by rfl) B.len PySem.boot_len (pa_cons (pv 7) pa_nil))) po_none) (pe_str)))
      (pss_cons (ps_if (PW.pt (pw_or (pt_cmpR (op_ne) (pe_slice sl_str (pv 6) po_none (po_some (pe_callB call_len_str (by rfl) B.len PySem.boot_len (pa_cons (pv 7) pa_nil)))) (pv 7) (nomark _)) (pw_or (pt_cmpR (op_ne) (pe_ix ix_list (pv 8) (pe_int) (fun _ _ => rfl)) (pe_str) (nomark _)) (pw_or1 (pt_cmpR (op_ne) (pe_callB call_len_seq (by rfl) B.len PySem.boot_len (pa_cons (pv 8) pa_nil)) (pe_int) (nomark _)))))) (pss_one (ps_ret (pe_op (op_add) (pv 5) (pe_int)))) (pss_nil))
      (pss_cons (ps_if (pt_not (pt_val (pe_call GC (hr.mono (by omega)) rfl gC kC bC .nil pass0 (pa_cons (pe_ix ix_list (pv 8) (pe_int) (fun _ _ => rfl)) (pa_cons (pe_int) (pa_cons (pe_int) pa_nil)))))) (pss_one (ps_ret (pe_op (op_add) (pv 5) (pe_int)))) (pss_nil))
      (pss_cons (ps_par (i := 2) (j := 4) (by rfl) scFb.nd rfl rfl (by decide) rfl rfl (pa_cons (pe_op (op_cat) (pv 2) (pe_lst (pa_cons (pe_lst (pa_cons (pe_callTy call_int_str (by rfl) B.int (by decide +kernel) (pa_cons (pe_ix ix_list (pv 8) (pe_int) (fun _ _ => rfl)) pa_nil)) (pa_cons (pe_int) pa_nil))) pa_nil))) (pa_cons (pe_bl) pa_nil)) (by rfl))
      (pss_one (ps_continue))))))) (pss_nil))
      (pss_cons (ps_set (i := 9) scFb.nd rfl (Or.inl rfl) (pe_op (op_sub) (pe_callB call_len_str (by rfl) B.len PySem.boot_len (pa_cons (pv 6) pa_nil)) (pe_callB call_len_str (by rfl) B.len PySem.boot_len (pa_cons (pe_bm PySem.F.plainAttrs_str PySem.F.slot_str_lstrip PySem.F.type_str_lstrip mt_lstripChars (pv 6) (pa_cons (pe_str) pa_nil)) pa_nil))))
      (pss_cons (ps_set (i := 10) scFb.nd rfl (Or.inl rfl) (pe_op (op_sub) (pe_op (op_mul) (pe_int) (pe_callB call_len_seq (by rfl) B.len PySem.boot_len (pa_cons (pv 2) pa_nil))) (pe_int)))
      (pss_cons (ps_if (PW.pt (pw_or (pt_cmpR (op_gt) (pv 9) (pv 10) (nomark _)) (pw_or (pt_cmpR (op_eq) (pe_op (op_sub) (pv 9) (pe_op (op_mul) (pe_op (op_fdiv) (pv 9) (pe_int)) (pe_int))) (pe_int) (nomark _)) (pw_or1 (PW.pt (pw_and (pt_cmpR (op_eq) (pe_ix ix_list (pe_ix ix_list (pv 2) (pe_un un_neg (pe_int)) (fun _ _ => rfl)) (pe_int) (fun _ _ => rfl)) (pe_int) (nomark _)) (pw_and1 (pt_cmpR (op_lt) (pv 9) (pv 10) (nomark _))))))))) (pss_one (ps_ret (pe_op (op_add) (pv 5) (pe_int)))) (pss_nil))
      (pss_cons (ps_set (i := 2) scFb.nd rfl (Or.inl rfl) (pe_slice sl_list (pv 2) po_none (po_some (pe_op (op_add) (pe_op (op_fdiv) (pv 9) (pe_int)) (pe_int)))))
      (pss_cons (ps_set (i := 8) scFb.nd rfl (Or.inl rfl) (pe_split (pe_slice sl_str (pv 6) (po_some (pv 9)) po_none) (pe_str)))
      (pss_cons (ps_if (PW.pt (pw_or (pt_cmpR (op_eq) (pe_ix ix_list (pe_ix ix_list (pv 2) (pe_un un_neg (pe_int)) (fun _ _ => rfl)) (pe_int) (fun _ _ => rfl)) (pe_int) (nomark _)) (pw_or1 (pt_not (pt_val (pe_call GL (hr.mono (by omega)) rfl gL kL bL .nil pass0 (pa_cons (pv 8) (pa_cons (pe_ix ix_list (pe_ix ix_list (pv 2) (pe_un un_neg (pe_int)) (fun _ _ => rfl)) (pe_int) (fun _ _ => rfl)) (pa_cons (pe_callB call_len_seq (by rfl) B.len PySem.boot_len (pa_cons (pv 2) pa_nil)) (pa_cons (pv 3) pa_nil)))))))))) (pss_one (ps_ret (pe_op (op_add) (pv 5) (pe_int)))) (pss_nil))
      (pss_cons (ps_set (i := 2) scFb.nd rfl (Or.inl rfl) (pe_op (op_cat) (pe_slice sl_list (pv 2) po_none (po_some (pe_un un_neg (pe_int)))) (pe_lst (pa_cons (pe_lst (pa_cons (pe_ix ix_list (pe_ix ix_list (pv 2) (pe_un un_neg (pe_int)) (fun _ _ => rfl)) (pe_int) (fun _ _ => rfl)) (pa_cons (pe_op (op_add) (pe_ix ix_list (pe_ix ix_list (pv 2) (pe_un un_neg (pe_int)) (fun _ _ => rfl)) (pe_int) (fun _ _ => rfl)) (pe_int)) pa_nil))) pa_nil))))
      (pss_one (ps_par (i := 3) (j := 4) (by rfl) scFb.nd rfl rfl (by decide) rfl rfl (pa_cons (pe_op (op_sub) (pv 3) (pe_int)) (pa_cons (pe_cmpR (op_eq) (pe_ix ix_list (pv 8) (pe_int) (fun _ _ => rfl)) (pe_str) (nomark _)) pa_nil)) (by rfl))))))))))))
      (pss_one (ps_ret (pe_ifExp (PW.pt (pw_or (pt_val (pv 4)) (pw_or1 (pt_cmpR (op_eq) (pe_ix ix_list (pe_ix ix_list (pv 2) (pe_un un_neg (pe_int)) (fun _ _ => rfl)) (pe_int) (fun _ _ => rfl)) (pe_int) (nomark _))))) (pe_op (op_add) (pe_callB call_len_seq (by rfl) B.len PySem.boot_len (pa_cons (pv 1) pa_nil)) (pe_int)) (pe_int))))), ?_⟩
    have big : ∀ {n : Nat}, n ≤ 1000000 → n ≤ sizeLine := fun h => Nat.le_trans h (by decide)
    have lt : (TX.S v).length ≤ 900000 := by rw [S_len]; exact lv
    have e1 : Txt.split (TX.S v) ("\n" : Str) = ls.map TX.S := by
      rw [k_nl, ← lj]
      exact split_lines l10 lne
    have lle : ∀ l ∈ ls, l.length ≤ 900000 := fun l hl => Nat.le_trans (join_part (c := 10) hl) (by rw [lj]; exact lv)
    have llen : ls.length ≤ 900001 := by
      have := join_many (c := 10) ls
      rw [lj] at this
      omega
    refine ⟨_, rfl, ⟨_, rfl⟩, _, _, rfl, rfl, by decide +kernel, big (by omega), fun D hD => ⟨line2.2.2.2, fun O hO => ⟨by show 4 ≤ sizeLine; decide, fun T hT => ⟨T, _, rfl, SqT.of upd_same, rfl, ?_⟩⟩⟩⟩
    rw [e1, ← sv_strs] at hO hT ⊢
    have s1 := of_upd (o := .lst (sv ls)) hD
    have eD : upd H D (.lst (sv ls)) D = some (.lst (sv ls)) := upd_same
    generalize upd H D (.lst (sv ls)) = H1 at s1 eD hO hT ⊢
    have s2 := of_upd (o := .lst []) hO
    have eO : upd H1 O (.lst []) O = some (.lst []) := upd_same
    generalize upd H1 O (.lst []) = H2 at s2 eO hT ⊢
    have s3 := of_upd (o := .tup [V.ref D, V.ref O, V.int 40, V.bl true]) hT
    have s03 := (s1.trans s2).trans s3
    have eD3 := s3 _ _ (s2 _ _ eD)
    have eO3 := s3 _ _ eO
    generalize upd H2 T (.tup [V.ref D, V.ref O, V.int 40, V.bl true]) = H3 at s03 eD3 eO3 ⊢
    clear s1 s2 s3 hD hO hT eD eO
    refine ⟨_, _, rfl, _, _, rfl, _, _, rfl, _, _, rfl, rfl, ?_⟩
    dsimp only
    have l2 : ("  " : Str) = TX.S [32, 32] := k_ind
    refine ⟨_, rfl, D, _, rfl, SqL.of eD3, ?_⟩
    refine for_it walk_enum (fun i σ G => ∃ (f : Fr) (r : List Fr) (n : Nat) (O : Addr) (q5 q6 q7 q8 q9 q10 : Option V), Same H3 G ∧ TX.Inv f r n ∧ Go (f :: r, n) (ls.drop i) i k ∧ OpA G O (opn f r) ∧ σ = [some (.str (TX.S v)), some (.ref D), some (.ref O), some (.int ((40 - n : Nat) : Int)), some (.bl f.head.isNone), q5, q6, q7, q8, q9, q10])
      ⟨⟨none, none, []⟩, [], 0, O, _, _, _, _, _, _, Same.refl _, inv0, by rw [List.drop_zero]; exact hgo, ⟨[], eO3, .nil⟩, rfl⟩ (fun i σ G _ z => by obtain ⟨f, r, n, O, q5, q6, q7, q8, q9, q10, s4, _⟩ := z; exact SqL.of (s4 _ _ eD3)) ?_ ?_
    · rintro i y σ G G' hi ⟨f, r, n, O, q5, q6, q7, q8, q9, q10, s4, I, go, op, rfl⟩ ⟨T0, a, b, rfl, nT, rfl, ha, hb⟩
      have ha : V.int (i : Nat) = a := Option.some.inj ha
      subst ha
      obtain ⟨ln, hln, rfl⟩ := sv_get hb
      rw [drop_at hln] at go
      have l1 : ln.length ≤ 900000 := lle ln (List.mem_of_getElem? hln)
      have g0 := of_upd (o := .tup [.int (i : Nat), .str (TX.S ln)]) nT
      refine ⟨T0, _, rfl, SqT.of upd_same, rfl, _, _, rfl, _, _, rfl, rfl, ?_⟩
      have s5 := s4.trans g0
      have op1 := op.mono g0
      generalize upd G T0 (.tup [.int (i : Nat), .str (TX.S ln)]) = G1 at s5 op1 ⊢
      clear s4 op g0 nT hb
      generalize hz : ls.drop (i + 1) = rest at go
      have ret : ∀ {G2 : Hp}, Same G1 G2 → k = i + 1 → Q (.int ((i : Int) + 1)) G2 := fun {G2} s e => by
        have := kk G2 ((s03.trans s5).trans s)
        rw [e] at this
        exact this
      have lS : (TX.S ln).length = ln.length := S_len ln
      obtain ⟨fo, fh, fs⟩ := f
      dsimp only
      cases fh with
      | none =>
        have ih := I.hd
        have fs0 : fs = [] := by
          rcases I.hd with h | ⟨h, e, _⟩
          · exact h.2
          · cases e
        subst fs0
        obtain ⟨vs, eO, rw1⟩ := op1
        have lvs : vs.length = r.length := by
          rw [rw1.len]
          show ((cntO r).reverse).length = _
          rw [List.length_reverse]
          unfold cntO
          rw [List.length_map]
        have r3 : r.length ≤ 2 := by
          have := I.len
          rw [List.length_cons] at this
          omega
        refine ⟨_, rfl, _, rfl, iteT ?_⟩
        refine set_then (i := 7) ⟨_, rfl, O, _, rfl, .inl (SqL.of eO), [32, 32], vs.length, congrArg V.str l2, rfl, by decide, by omega, ?_⟩
        rw [show LN.rep vs.length [32, 32] = List.replicate (2 * r.length) 32 by rw [lvs]; exact rep_two _]
        dsimp only
        have ll : (TX.S (List.replicate (2 * r.length) 32)).length = 2 * r.length := by rw [S_len, List.length_replicate]
        refine set_then (i := 8) ⟨_, rfl, _, rfl, _, rfl, big (by rw [ll]; omega), _, rfl, ?_⟩
        dsimp only [tNoPart]
        obtain ⟨ps, pne, pj, psp⟩ := parts 32 (ln.drop (2 * r.length))
        have lps : (joinL [32] ps).length ≤ 900000 := by rw [pj, List.length_drop]; omega
        rw [ll]
        refine ⟨_, rfl, big (by omega), ⟨_, rfl⟩, _, _, rfl, rfl, by decide +kernel, ?_, fun W hW => ?_⟩
        · rw [cut_lo2, S_len, ← pj]
          exact big (by omega)
        rw [cut_lo2, ← pj, k_sp, split_gen psp pne, ← sv_strs]
        have sW := of_upd (o := .lst (sv ps)) hW
        have eW : upd G1 W (.lst (sv ps)) W = some (.lst (sv ps)) := upd_same
        have eO2 := sW _ _ eO
        have rw2 := rw1.mono sW
        generalize upd G1 W (.lst (sv ps)) = G2 at sW eW eO2 rw2 ⊢
        clear hW eO rw1
        have hq := SqL.of (K := K) eW
        obtain ⟨p0, prest, rfl⟩ := List.exists_cons_of_ne_nil pne
        have hq0 : SqL K G2 W (V.str (TX.S p0) :: sv prest) := hq
        have th : tl ("head" : Str) = cHead := by rw [k_head, tl_S]
        have hw : WL (p0 :: prest) := join_short (by omega)
        dsimp only
        refine ⟨_, rfl, _, rfl, _, rfl, big (by rw [ll]; omega), _, rfl, ?_⟩
        dsimp only [tNoPart]
        rw [ll]
        refine ⟨_, rfl, big (by omega), _, rfl, rfl, _, rfl, ?_⟩
        rw [cut_hi2]
        have notop : ∀ {lv : Nat} {g : Fr} {q : List Fr}, Rdy lv (⟨fo, none, []⟩ :: r) (g :: q) → False := fun rd => by
          obtain ⟨b, q, e, ⟨h, eh⟩, _⟩ := rd.top
          cases e
          cases eh
        cases go with
        | bad bd =>
          cases bd with
          | step _ rd _ _ _ _ => exact (notop rd).elim
          | @lvl _ _ _ kc _ ws C hc =>
            by_cases klt : kc < 2 * r.length
            · refine iteNN (fun z => ?_) ?_
              · have := lead_take C (S_inj (V.str.inj z))
                omega
              · refine iteT ?_
                exact ⟨_, rfl, _, _, rfl, rfl, ret sW rfl⟩
            · have kgt : 2 * r.length < kc := by
                rcases hc with h | h | h
                · omega
                · exact h
                · omega
              obtain ⟨j, ej⟩ : ∃ j, kc = 2 * r.length + (j + 1) := ⟨kc - 2 * r.length - 1, by omega⟩
              have ern : List.replicate kc 32 = List.replicate (2 * r.length) 32 ++ (32 :: List.replicate j 32) := by
                rw [ej, ← List.replicate_append_replicate, List.replicate_succ]
              have et : ln.take (2 * r.length) = List.replicate (2 * r.length) 32 := by rw [C.eq, ern, List.append_assoc, List.take_left' (List.length_replicate ..)]
              have ed : ln.drop (2 * r.length) = 32 :: (List.replicate j 32 ++ joinL [32] ws) := by rw [C.eq, ern, List.append_assoc, List.drop_left' (List.length_replicate ..)]; rfl
              have e0 : p0 = [] := by
                rw [ed] at pj
                cases p0 with
                | nil => rfl
                | cons x p0 =>
                  have hx : x = 32 := by
                    cases prest with
                    | nil => exact (List.cons.inj pj).1
                    | cons q prest => exact (List.cons.inj pj).1
                  exact absurd (by rw [hx]; exact List.mem_cons_self) (psp _ List.mem_cons_self)
              refine iteNS (congrArg V.str (congrArg TX.S et)) ?_
              exact ⟨_, rfl, W, _, _, _, rfl, rfl, hq0, at_k0, rfl, _, rfl, iteNN (S_str (by rw [th, e0]; decide)) (iteT ⟨_, rfl, _, _, rfl, rfl, ret sW rfl⟩)⟩
          | @head _ _ _ _ ws C hn hp =>
            have et : ln.take (2 * r.length) = List.replicate (2 * r.length) 32 := by rw [C.eq, List.take_left' (List.length_replicate ..)]
            have ed : ln.drop (2 * r.length) = joinL [32] ws := by rw [C.eq, List.drop_left' (List.length_replicate ..)]
            have ep : p0 :: prest = ws := parts_uniq psp C.sp pne C.ne (pj.trans ed)
            rw [← ep] at hp
            refine iteNS (congrArg V.str (congrArg TX.S et)) ?_
            refine ⟨_, rfl, W, _, _, _, rfl, rfl, hq0, at_k0, rfl, _, rfl, ?_⟩
            by_cases c1 : p0 = cHead
            · subst c1
              refine iteNS (congrArg V.str k_head.symm) ⟨_, rfl, W, _, rfl, .inl hq, rfl, _, rfl, ?_⟩
              by_cases c2 : prest.length = 1
              · obtain ⟨b, rfl⟩ := List.length_eq_one_iff.mp c2
                refine iteNS rfl ?_
                try unfold tNext
                dsimp only
                refine ⟨_, rfl, W, _, _, _, rfl, rfl, hq, at_k1, b, 1, 40, rfl, hw _ (by simp), by decide, fun G3 s3 => ⟨_, rfl, ?_⟩⟩
                rw [pHead_head] at hp
                rw [inR_eq, isSome_false hp]
                exact iteT ⟨_, rfl, _, _, rfl, rfl, ret (sW.trans s3) rfl⟩
              · refine iteNN (fun z => c2 ?_) ⟨_, rfl, _, _, rfl, rfl, ret sW rfl⟩
                have z := V.int.inj z
                rw [sv_len, List.length_cons] at z
                omega
            · exact iteNN (S_str (by rw [th]; exact c1)) (iteT ⟨_, rfl, _, _, rfl, rfl, ret sW rfl⟩)
        | go o I2 g2 =>
          cases o with
          | plain _ rd _ _ _ _ _ => exact (notop rd).elim
          | tun _ rd _ _ _ _ _ _ => exact (notop rd).elim
          | @head _ _ _ h _ ws C hn hp =>
            obtain ⟨ew, h1, h2⟩ := pHead_some hp
            have et : ln.take (2 * r.length) = List.replicate (2 * r.length) 32 := by rw [C.eq, List.take_left' (List.length_replicate ..)]
            have ed : ln.drop (2 * r.length) = joinL [32] ws := by rw [C.eq, List.drop_left' (List.length_replicate ..)]
            have ep : p0 :: prest = ws := parts_uniq psp C.sp pne C.ne (pj.trans ed)
            rw [ew] at ep
            cases ep
            refine iteNS (congrArg V.str (congrArg TX.S et)) ?_
            refine ⟨_, rfl, W, _, _, _, rfl, rfl, hq, at_k0, rfl, _, rfl, iteNS (congrArg V.str k_head.symm) ?_⟩
            refine ⟨_, rfl, W, _, rfl, .inl hq, rfl, _, rfl, iteNS rfl ?_⟩
            try unfold tNext
            dsimp only
            refine ⟨_, rfl, W, _, _, _, rfl, rfl, hq, at_k1, numL h, 1, 40, rfl, hw _ (by simp), by decide, fun G3 s3 => ⟨_, rfl, ?_⟩⟩
            have hin : inO 1 40 (pnum (numL h)) = some h := by
              rw [ew] at hp
              rw [← pHead_head]
              exact hp
            rw [inR_eq, hin]
            refine iteF ?_
            try unfold tNext
            dsimp only
            have l13 : (numL h).length ≤ 13 := (wd_num (n := h) (by omega)).len
            have ei : PySem.intText? (TX.S (numL h)) = some (h : Int) := by
              rw [← num_S]
              exact int_num (by omega)
            have eO3' := s3 _ _ eO2
            have rw3 := rw2.mono s3
            refine ⟨_, rfl, _, rfl, W, _, _, _, rfl, rfl, SqL.of (s3 _ _ eW), at_k1, _, _, rfl, ei, by rw [S_len]; omega, line2.1, fun A hA => ⟨line2.2.2.1, fun B2 hB2 => ?_⟩⟩
            have g1 := of_upd (o := .lst [V.int (h : Int), V.int 0]) hA
            have eA : upd G3 A (.lst [V.int (h : Int), V.int 0]) A = some (.lst [V.int (h : Int), V.int 0]) := upd_same
            generalize upd G3 A (.lst [V.int (h : Int), V.int 0]) = G4 at g1 eA hB2 ⊢
            have g2' := of_upd (o := .lst [V.ref A]) hB2
            have eB2 : upd G4 B2 (.lst [V.ref A]) B2 = some (.lst [V.ref A]) := upd_same
            generalize upd G4 B2 (.lst [V.ref A]) = G5 at g2' eB2 ⊢
            have g12 := g1.trans g2'
            refine ⟨O, B2, vs, _, rfl, rfl, g12 _ _ eO3', eB2, big (by show vs.length + 1 ≤ _; omega), fun O2 hO2 => ⟨_, _, rfl, ?_⟩⟩
            have g3 := of_upd (o := .lst (vs ++ [V.ref A])) hO2
            have g123 := g12.trans g3
            have r4 : RwA (upd G5 O2 (.lst (vs ++ [V.ref A]))) ((cntO r).reverse ++ [(h, 0)]) (vs ++ [V.ref A]) := (rw3.mono g123).app (.cons (g3 _ _ (g2' _ _ eA)) .nil)
            refine ⟨{ out := fo, head := some h, steps := [] }, r, n, O2, _, _, _, _, _, _, ((s5.trans sW).trans s3).trans g123, I2, g2, ⟨_, upd_same, ?_⟩, rfl⟩
            show RwA _ ((rowsT ⟨fo, some h, []⟩ r).reverse) _
            rw [rows_snoc]
            exact r4
      | some h0 =>
        have hk : hdOk ⟨fo, some h0, fs⟩ := by
          rcases I.hd with h | h
          · cases h.1
          · exact h
        obtain ⟨vs, eO, rw1⟩ := op1
        have rw1 : RwA G1 ((rowsT ⟨fo, some h0, fs⟩ r).reverse) vs := rw1
        have lvs : vs.length = r.length + 1 := by rw [rw1.len, List.length_reverse, rows_len]
        have r3 : r.length ≤ 2 := by
          have := I.len
          rw [List.length_cons] at this
          omega
        obtain ⟨kc, ws, C⟩ : ∃ kc ws, Cut ln kc ws := cut_ex ln
        refine ⟨_, rfl, _, rfl, iteF ?_⟩
        try unfold tNext
        dsimp only
        have lc : (TX.S (joinL [32] ws)).length = (joinL [32] ws).length := S_len _
        have ll : (TX.S ln).length = kc + (joinL [32] ws).length := by rw [S_len, C.eq]; simp
        refine set_then (i := 9) ⟨_, rfl, _, rfl, big (by omega), _, rfl, rfl, _, _, rfl, rfl, big (by omega), ?_⟩
        rw [strip_ind (k := kc) (by rw [tl_S]; exact C.eq) C.st]
        refine ⟨_, rfl, by rw [lc]; exact big (by omega), _, _, rfl, rfl, ?_⟩
        dsimp only
        rw [lc, show (((TX.S ln).length : Nat) : Int) - (((joinL [32] ws).length : Nat) : Int) = ((kc : Nat) : Int) by omega]
        have lj2 : (joinL [32] ws).length ≤ 900000 := by omega
        refine set_then (i := 10) ⟨_, rfl, O, _, rfl, .inl (SqL.of eO), _, _, rfl, rfl, .inl ⟨by omega, by omega⟩, _, _, rfl, rfl, ?_⟩
        dsimp only
        rw [lvs, show (2 : Int) * ((r.length + 1 : Nat) : Int) - 2 = ((2 * r.length : Nat) : Int) by omega]
        -- the last row
        have rs : RwA G1 ((cntO r).reverse ++ [(hd0 ⟨fo, some h0, fs⟩, fs.length)]) vs := by
          rw [rows_snoc] at rw1
          exact rw1
        obtain ⟨us, A0, ev, rus, eA⟩ := rs.snoc_inv
        have eA : G1 A0 = some (.lst [.int (h0 : Int), .int ((fs.length : Nat) : Int)]) := eA
        refine ⟨_, rfl, _, rfl, _, _, rfl, rfl, _, rfl, ?_⟩
        by_cases hA : kc % 2 = 1 ∨ 2 * r.length < kc ∨ (kc < 2 * r.length ∧ fs = [])
        · have notA : ∀ {lv : Nat} {g : Fr} {q : List Fr} {l2 : List (List Nat)}, Cut ln (2 * lv) l2 → Rdy lv (⟨fo, some h0, fs⟩ :: r) (g :: q) → False := fun C2 rd => by
            obtain ⟨rfl, _⟩ := cut_uniq C C2
            obtain ⟨b, q1, e, _, h2⟩ := rd.top
            cases e
            have := rd.cl.le
            rw [List.length_cons] at this
            rcases h2 with h2 | h2
            · rcases hA with h | h | h
              · omega
              · omega
              · exact h2 h.2
            · rw [List.length_cons] at h2
              rcases hA with h | h | h <;> omega
          have hk1 : k = i + 1 := by
            cases go with
            | bad _ => rfl
            | go o _ _ =>
              cases o with
              | head _ hn _ => cases hn
              | plain C2 rd _ _ _ _ _ => exact (notA C2 rd).elim
              | tun C2 rd _ _ _ _ _ _ => exact (notA C2 rd).elim
          by_cases a1 : 2 * r.length < kc
          · rw [decide_eq_true (show ((kc : Nat) : Int) > ((2 * r.length : Nat) : Int) by omega)]
            refine iteT ?_
            refine iteT ?_
            exact ⟨_, rfl, _, _, rfl, rfl, ret (Same.refl _) hk1⟩
          rw [decide_eq_false (show ¬ ((kc : Nat) : Int) > ((2 * r.length : Nat) : Int) by omega)]
          refine iteF ?_
          refine ⟨_, rfl, _, rfl, _, _, rfl, rfl, ⟨by decide, by decide⟩, _, _, rfl, rfl, .inl ⟨by omega, by omega⟩, _, _, rfl, rfl, rfl, _, rfl, ?_⟩
          by_cases a2 : kc % 2 = 1
          · refine iteP (congrArg V.int (show ((kc : Nat) : Int) - ((kc : Nat) : Int) / 2 * 2 = 1 by omega)) ?_
            refine iteT ?_
            exact ⟨_, rfl, _, _, rfl, rfl, ret (Same.refl _) hk1⟩
          refine iteN (fun z => a2 (by have z := V.int.inj z; omega)) ?_
          obtain ⟨a3, a4⟩ : kc < 2 * r.length ∧ fs = [] := by
            rcases hA with h | h | h
            · exact absurd h a2
            · exact absurd h a1
            · exact h
          subst ev
          refine ⟨_, rfl, _, rfl, O, _, _, _, rfl, rfl, SqL.of eO, atI_last _ _, A0, _, _, _, rfl, rfl, SqL.of eA, at_k1, rfl, _, rfl, ?_⟩
          refine iteP (congrArg V.int (show ((fs.length : Nat) : Int) = 0 by rw [a4]; rfl)) ⟨_, rfl, _, rfl, _, _, rfl, rfl, _, rfl, ?_⟩
          rw [decide_eq_true (show ((kc : Nat) : Int) < ((2 * r.length : Nat) : Int) by omega)]
          refine iteT ?_
          exact ⟨_, rfl, _, _, rfl, rfl, ret (Same.refl _) hk1⟩
        · obtain ⟨lv, rfl⟩ : ∃ lv, kc = 2 * lv := ⟨kc / 2, by omega⟩
          have a1 : lv ≤ r.length := by omega
          have a2 : lv = r.length ∨ fs ≠ [] := by
            by_cases e : lv = r.length
            · exact .inl e
            · exact .inr fun z => hA (.inr (.inr ⟨by omega, z⟩))
          rw [decide_eq_false (show ¬ ((2 * lv : Nat) : Int) > ((2 * r.length : Nat) : Int) by omega)]
          refine iteF ?_
          refine ⟨_, rfl, _, rfl, _, _, rfl, rfl, ⟨by decide, by decide⟩, _, _, rfl, rfl, .inl ⟨by omega, by omega⟩, _, _, rfl, rfl, rfl, _, rfl, ?_⟩
          refine iteN (fun z => by have z := V.int.inj z; omega) ?_
          subst ev
          refine ⟨_, rfl, _, rfl, O, _, _, _, rfl, rfl, SqL.of eO, atI_last _ _, A0, _, _, _, rfl, rfl, SqL.of eA, at_k1, rfl, _, rfl, ?_⟩
          show (if _ then _ else _)
          refine share (fun z0 zz => ?_) ?_
          · have z0 := V.int.inj z0
            have e0 : fs = [] := List.length_eq_zero_iff.mp (by omega)
            have e1 : lv = r.length := by
              rcases a2 with h | h
              · exact h
              · exact absurd e0 h
            refine ⟨_, rfl, _, rfl, _, _, rfl, rfl, _, rfl, ?_⟩
            rw [decide_eq_false (show ¬ ((2 * lv : Nat) : Int) < ((2 * r.length : Nat) : Int) by omega)]
            exact zz
          try unfold tNext
          dsimp only
          refine iteF ?_
          obtain ⟨g, q, hg, cl, e1, gl, cs⟩ : ∃ (g : Fr) (q : List Fr) (hg : Nat), Closes lv (⟨fo, some h0, fs⟩ :: r) (g :: q) ∧ g.head = some hg ∧ g.steps.length ≤ 12 ∧ ((k = i + 1 ∧ (g.steps.length = 12 ∨ n = 40 ∨ (pPlain hg ws = none ∧ (pTun ws = none ∨ 40 ≤ n + 1 ∨ 3 < q.length + 2)))) ∨
              (∃ s, pPlain hg ws = some s ∧ g.steps.length < 12 ∧ n < 40 ∧ TX.Inv { g with steps := g.steps ++ [s] } q (n + 1) ∧ Go ({ g with steps := g.steps ++ [s] } :: q, n + 1) rest (i + 1) k) ∨
              (∃ m t, pTun ws = some (m, t) ∧ g.steps.length < 12 ∧ n + 1 < 40 ∧ q.length + 2 ≤ 3 ∧ TX.Inv ⟨some (m, t), none, []⟩ (g :: q) (n + 1) ∧ Go (⟨some (m, t), none, []⟩ :: g :: q, n + 1) rest (i + 1) k)) := by
            cases go with
            | bad bd =>
              cases bd with
              | lvl C2 hc =>
                obtain ⟨rfl, rfl⟩ := cut_uniq C C2
                exact absurd hc hA
              | head _ hn _ => cases hn
              | step C2 rd eh h40 l12 hb =>
                obtain ⟨e, rfl⟩ := cut_uniq C C2
                have e := Nat.eq_of_mul_eq_mul_left (by decide : 0 < 2) e
                subst e
                exact ⟨_, _, _, rd.cl, eh, l12, .inl ⟨rfl, hb⟩⟩
            | go o I2 g2 =>
              cases o with
              | head _ hn _ => cases hn
              | plain C2 rd eh h40 hp l12 n40 =>
                obtain ⟨e, rfl⟩ := cut_uniq C C2
                have e := Nat.eq_of_mul_eq_mul_left (by decide : 0 < 2) e
                subst e
                exact ⟨_, _, _, rd.cl, eh, Nat.le_of_lt l12, .inr (.inl ⟨_, hp, l12, n40, I2, g2⟩)⟩
              | tun C2 rd eh h40 hp l12 n40 r2 =>
                obtain ⟨e, rfl⟩ := cut_uniq C C2
                have e := Nat.eq_of_mul_eq_mul_left (by decide : 0 < 2) e
                subst e
                exact ⟨_, _, _, rd.cl, eh, Nat.le_of_lt l12, .inr (.inr ⟨_, _, hp, l12, n40, r2, I2, g2⟩)⟩
          have ql : q.length = lv := by
            have := cl.len
            rw [List.length_cons] at this
            omega
          have n40 : n ≤ 40 := I.le
          have hgv : hd0 g = hg := by
            unfold hd0
            rw [e1]
            rfl
          refine set_then (i := 2) ⟨_, rfl, ?_⟩
          dsimp only [tNoPart]
          refine ⟨_, rfl, _, _, rfl, rfl, ⟨by decide, by decide⟩, _, _, rfl, rfl, _, rfl, ?_⟩
          refine ⟨O, _, rfl, SqL.of eO, fun O2 hO2 => ?_⟩
          rw [show ((2 * lv : Nat) : Int) / 2 + 1 = ((lv + 1 : Nat) : Int) by omega, cut_hiV]
          have rw1' := rw1.take (lv + 1)
          rw [rows_take cl, rows_snoc, hgv] at rw1'
          have sO := of_upd (o := .lst ((us ++ [V.ref A0]).take (lv + 1))) hO2
          have eO2 : upd G1 O2 (.lst ((us ++ [V.ref A0]).take (lv + 1))) O2 = some (.lst ((us ++ [V.ref A0]).take (lv + 1))) := upd_same
          generalize (us ++ [V.ref A0]).take (lv + 1) = vs2 at rw1' sO eO2 ⊢
          generalize upd G1 O2 (.lst vs2) = G2 at sO eO2 ⊢
          have rw2 := rw1'.mono sO
          obtain ⟨us2, A2, rfl, rus2, eA2⟩ := rw2.snoc_inv
          have eA2 : G2 A2 = some (.lst [.int (hg : Int), .int ((g.steps.length : Nat) : Int)]) := eA2
          have lus2 : us2.length = q.length := by
            rw [rus2.len, List.length_reverse]
            unfold cntO
            rw [List.length_map]
          dsimp only
          have ed : ln.drop (2 * lv) = joinL [32] ws := by rw [C.eq, List.drop_left' (List.length_replicate ..)]
          refine set_then (i := 8) ⟨_, rfl, _, rfl, _, rfl, ?_⟩
          dsimp only [tNoPart]
          refine ⟨_, rfl, big (by omega), ⟨_, rfl⟩, _, _, rfl, rfl, by decide +kernel, ?_, fun W hW => ?_⟩
          · rw [cut_lo2, S_len, ed]
            exact big (by omega)
          rw [cut_lo2, ed, k_sp, split_gen C.sp C.ne, ← sv_strs]
          have sW := of_upd (o := .lst (sv ws)) hW
          have eW : upd G2 W (.lst (sv ws)) W = some (.lst (sv ws)) := upd_same
          have eO3' := sW _ _ eO2
          have eA3 := sW _ _ eA2
          have rus3 := rus2.mono sW
          have s6 := sO.trans sW
          generalize upd G2 W (.lst (sv ws)) = G3 at sW eW eO3' eA3 rus3 s6 ⊢
          clear hW hO2 eO2 rw2 rw1' eA2
          have hw : WL ws := join_short (by omega)
          dsimp only
          refine ⟨_, rfl, _, rfl, O2, _, _, _, rfl, rfl, SqL.of eO3', atI_last _ _, A2, _, _, _, rfl, rfl, SqL.of eA3, at_k1, rfl, _, rfl, ?_⟩
          have ret2 : k = i + 1 → ∀ {G : Hp}, Same G3 G → Q (.int ((i : Int) + 1)) G := fun e {G} s => ret (s6.trans s) e
          by_cases b1 : g.steps.length = 12
          · have hk1 : k = i + 1 := by
              rcases cs with h | ⟨s, _, h, _⟩ | ⟨m, t, _, h, _⟩
              · exact h.1
              · omega
              · omega
            refine iteP (congrArg V.int (show ((g.steps.length : Nat) : Int) = 12 by rw [b1]; rfl)) ?_
            refine iteT ?_
            exact ⟨_, rfl, _, _, rfl, rfl, ret2 hk1 (Same.refl _)⟩
          refine iteN (fun z => b1 (by have z := V.int.inj z; omega)) ?_
          refine ⟨_, rfl, _, rfl, _, rfl, O2, _, _, _, rfl, rfl, SqL.of eO3', atI_last _ _, A2, _, _, _, rfl, rfl, SqL.of eA3, at_k0, _, rfl, O2, _, rfl, .inl (SqL.of eO3'), _, rfl, W, hg, (us2 ++ [V.ref A2]).length, 40 - n, ws, rfl, eW, C.ne, hw, fun G4 s7 => ⟨_, rfl, ?_⟩⟩
          have lq : (us2 ++ [V.ref A2]).length = q.length + 1 := by rw [List.length_append, List.length_singleton, lus2]
          rw [lq]
          have q2 : q.length ≤ 2 := by omega
          rcases cs with ⟨hk1, hb⟩ | good
          · have e : isLine hg (q.length + 1) (40 - n) ws = false := by
              unfold isLine
              rcases hb with hb | hb | ⟨hp, hb⟩
              · exact absurd hb b1
              · rw [decide_eq_false (by omega), Bool.false_and]
              · rw [hp]
                rcases hb with hb | hb | hb
                · rw [hb]
                  simp
                · rw [decide_eq_false (show ¬ 2 ≤ 40 - n by omega)]
                  simp
                · rw [decide_eq_false (show ¬ q.length + 1 ≠ 3 by omega)]
                  simp
            rw [e]
            refine iteT ?_
            exact ⟨_, rfl, _, _, rfl, rfl, ret2 hk1 s7⟩
          have e : isLine hg (q.length + 1) (40 - n) ws = true := by
            unfold isLine
            rcases good with ⟨s, hp, _, h40, _⟩ | ⟨m, t, hp, _, h40, hq2, _⟩
            · rw [decide_eq_true (by omega), hp]
              rfl
            · rw [decide_eq_true (by omega), hp, decide_eq_true (show q.length + 1 ≠ 3 by omega), decide_eq_true (show 2 ≤ 40 - n by omega)]
              simp
          rw [e]
          refine iteF ?_
          try unfold tNext
          dsimp only
          have eO4 := s7 _ _ eO3'
          have eA4 := s7 _ _ eA3
          have rus4 := rus3.mono s7
          have eW4 := s7 _ _ eW
          refine set_then (i := 2) ⟨_, rfl, ?_⟩
          dsimp only [tNoPart]
          refine ⟨_, rfl, _, rfl, O2, _, rfl, SqL.of eO4, fun P1 hP1 => ?_⟩
          rw [show (-1 : Int) = -1 from rfl, cut_last]
          have t1 := of_upd (o := .lst us2) hP1
          have eP1 : upd G4 P1 (.lst us2) P1 = some (.lst us2) := upd_same
          have eO5 := t1 _ _ eO4
          have eA5 := t1 _ _ eA4
          generalize upd G4 P1 (.lst us2) = G5 at t1 eP1 eO5 eA5 ⊢
          refine ⟨_, rfl, _, rfl, O2, _, _, _, rfl, rfl, SqL.of eO5, atI_last _ _, A2, _, _, _, rfl, rfl, SqL.of eA5, at_k0, _, rfl, _, rfl, O2, _, _, _, rfl, rfl, SqL.of eO5, atI_last _ _, A2, _, _, _, rfl, rfl, SqL.of eA5, at_k1, _, _, rfl, rfl, line2.1, fun B1 hB1 => ⟨line2.2.2.1, fun B2 hB2 => ?_⟩⟩
          have t2 := of_upd (o := .lst [V.int (hg : Int), V.int (((g.steps.length : Nat) : Int) + 1)]) hB1
          have eB1 : upd G5 B1 (.lst [V.int (hg : Int), V.int (((g.steps.length : Nat) : Int) + 1)]) B1 = some (.lst [V.int (hg : Int), V.int (((g.steps.length : Nat) : Int) + 1)]) := upd_same
          generalize upd G5 B1 (.lst [V.int (hg : Int), V.int (((g.steps.length : Nat) : Int) + 1)]) = G6 at t2 eB1 hB2 ⊢
          have t3 := of_upd (o := .lst [V.ref B1]) hB2
          have eB2 : upd G6 B2 (.lst [V.ref B1]) B2 = some (.lst [V.ref B1]) := upd_same
          generalize upd G6 B2 (.lst [V.ref B1]) = G7 at t3 eB2 ⊢
          have t23 := t2.trans t3
          refine ⟨P1, B2, _, _, rfl, rfl, t23 _ _ eP1, eB2, big (by show us2.length + 1 ≤ _; omega), fun O3 hO3 => ?_⟩
          have t4 := of_upd (o := .lst (us2 ++ [V.ref B1])) hO3
          have s8 := (t1.trans t23).trans t4
          have eO6 : upd G7 O3 (.lst (us2 ++ [V.ref B1])) O3 = some (.lst (us2 ++ [V.ref B1])) := upd_same
          have rw6 : RwA (upd G7 O3 (.lst (us2 ++ [V.ref B1]))) ((cntO q).reverse ++ [(hg, g.steps.length + 1)]) (us2 ++ [V.ref B1]) := (rus4.mono s8).app (.cons (t4 _ _ (t3 _ _ eB1)) .nil)
          have eW6 := s8 _ _ eW4
          generalize upd G7 O3 (.lst (us2 ++ [V.ref B1])) = G8 at eO6 rw6 eW6 s8 ⊢
          have s9 := ((s5.trans s6).trans s7).trans s8
          dsimp only
          obtain ⟨w0, wr, rfl⟩ := List.exists_cons_of_ne_nil C.ne
          have hq0 : SqL K G8 W (V.str (TX.S w0) :: sv wr) := SqL.of eW6
          refine ⟨_, rfl, _, _, rfl, rfl, _, rfl, W, _, _, _, rfl, rfl, hq0, at_k0, rfl, _, _, rfl, ?_⟩
          have tt : tl ("tunnel" : Str) = cTun := by rw [k_tun, tl_S]
          dsimp only
          rw [show ((40 - n : Nat) : Int) - 1 = ((40 - (n + 1) : Nat) : Int) by
            rcases good with ⟨_, _, _, h, _⟩ | ⟨_, _, _, _, h, _⟩ <;> omega]
          obtain ⟨gout, ghd, gst⟩ := g
          have e1 : ghd = some hg := e1
          subst e1
          rcases good with ⟨s, hp, _, h40, I2, g2⟩ | ⟨m, t, hp, _, h40, hq2, I2, g2⟩
          · obtain ⟨ew, nt, _⟩ := pPlain_some hp
            have w0n : w0 ≠ cTun := by
              cases s with
              | road _ _ _ =>
                have := (List.cons.inj ew).1
                rw [this]
                decide
              | join _ =>
                have := (List.cons.inj ew).1
                rw [this]
                decide
              | tunnel _ _ _ => exact absurd trivial nt
            rw [decide_eq_false (S_str (by rw [tt]; exact w0n))]
            refine ⟨⟨gout, some hg, gst ++ [s]⟩, q, n + 1, O3, _, _, _, _, _, _, s9, I2, g2, ⟨_, eO6, ?_⟩, rfl⟩
            show RwA _ ((rowsT ⟨gout, some hg, gst ++ [s]⟩ q).reverse) _
            rw [rows_snoc]
            show RwA _ ((cntO q).reverse ++ [(hg, (gst ++ [s]).length)]) _
            rw [List.length_append, List.length_singleton]
            exact rw6
          · obtain ⟨ew, _, _⟩ := pTun_some hp
            have w0n : w0 = cTun := (List.cons.inj ew).1
            rw [decide_eq_true (show V.str (TX.S w0) = V.str ("tunnel" : Str) by rw [w0n]; exact congrArg V.str k_tun.symm)]
            refine ⟨⟨some (m, t), none, []⟩, ⟨gout, some hg, gst⟩ :: q, n + 1, O3, _, _, _, _, _, _, s9, I2, g2, ⟨_, eO6, ?_⟩, rfl⟩
            show RwA _ ((cntO (⟨gout, some hg, gst⟩ :: q)).reverse) _
            unfold cntO
            rw [List.map_cons, List.reverse_cons]
            exact rw6
    · rintro σ G ⟨f, r, n, O, q5, q6, q7, q8, q9, q10, s4, I, go, op, rfl⟩
      have ll : (sv ls).length = ls.length := sv_len ls
      rw [ll, List.drop_length] at go
      have fin : Q (.int (k : Int)) G := kk G (s03.trans s4)
      obtain ⟨fo, fh, fs⟩ := f
      dsimp only
      refine ⟨_, rfl, _, rfl, ?_⟩
      cases fh with
      | none =>
        have fs0 : fs = [] := by
          rcases I.hd with h | ⟨h, e, _⟩
          · exact h.2
          · cases e
        refine iteT ?_
        refine iteT ?_
        refine ⟨_, rfl, D, _, rfl, .inl (SqL.of (s4 _ _ eD3)), _, _, rfl, rfl, ?_⟩
        rw [ll]
        cases go with
        | fin e => exact absurd fs0 e
        | short e => exact fin
      | some h0 =>
        obtain ⟨vs, eO, rw1⟩ := op
        have rw1 : RwA G ((rowsT ⟨fo, some h0, fs⟩ r).reverse) vs := rw1
        rw [rows_snoc] at rw1
        obtain ⟨us, A0, rfl, rus, eA⟩ := rw1.snoc_inv
        have eA : G A0 = some (.lst [.int (h0 : Int), .int ((fs.length : Nat) : Int)]) := eA
        refine iteF ?_
        refine ⟨_, rfl, _, rfl, O, _, _, _, rfl, rfl, SqL.of eO, atI_last _ _, A0, _, _, _, rfl, rfl, SqL.of eA, at_k1, rfl, _, rfl, ?_⟩
        cases go with
        | fin e =>
          refine iteN (fun z => e ?_) fin
          have z : ((fs.length : Nat) : Int) = 0 := V.int.inj z
          have z2 : fs = [] := List.length_eq_zero_iff.mp (by omega)
          exact z2
        | short e =>
          have e : fs = [] := e
          refine iteP (congrArg V.int (show ((fs.length : Nat) : Int) = 0 by rw [e]; rfl)) ?_
          refine ⟨_, rfl, D, _, rfl, .inl (SqL.of (s4 _ _ eD3)), _, _, rfl, rfl, ?_⟩
          rw [ll]
          exact fin
end
end CP

end
section
set_option autoImplicit false
set_option Elab.async false
set_option linter.all false
set_option maxRecDepth 100000
set_option maxHeartbeats 4000000
/-! ## what the law tries; its texts -/
namespace CP
open PySem L2 G Y
open TL TX
abbrev sRef81 : Stmt := S.top 57
abbrev sOdd : Stmt := S.top 54
abbrev sNumL : Stmt := S.top 55
section
variable {P : Program} {w : World} {K : PySem.W.Frag} {mg : Str → Option Value} {base : Heap} {CR CB CW CE : Addr}
theorem scRf8 : FnScope ["value", "told", "error"] ["value"] (defScope sRef81) := ⟨rfl, rfl, rfl, by decide +kernel, rfl, by decide +kernel, by decide +kernel⟩
theorem scOdd : FnScope ["some"] [] (defScope sOdd) := ⟨rfl, rfl, rfl, by decide +kernel, rfl, by decide +kernel, by decide +kernel⟩
theorem scNum : FnScope ["found", "some", "word"] [] (defScope sNumL) := ⟨rfl, rfl, rfl, by decide +kernel, rfl, by decide +kernel, by decide +kernel⟩
structure DRd (P : Program) (w : World) (K : PySem.W.Frag) (mg : Str → Option Value) (base : Heap) (k : Nat) (sp : Sp) : Prop where
  ex : ∃ (f : Addr) (fd : FuncData), FnOk P w K mg base (L2.CX P w) k f fd ["text"] sp ∧ mg "read_way" = some (.ref f) ∧ PySem.W.keepIn K (.ref f) = true ∧ Binds K fd ["text"] []
def spRef81 (K : PySem.W.Frag) : Sp := fun vs H Q _ => ∃ v, vs = [v] ∧ ((∃ (x : List Nat) (k : Nat), v = .str (TX.S x) ∧ x.length ≤ 900000 ∧ Told x k ∧ ∀ H', Same H H' → Q (.int (k : Int)) H') ∨ (NS K H v ∧ ∀ H', Same H H' → Q (.int 1) H'))
theorem ok_ref81 {f : Addr} {fd : FuncData} (F : Fun K "_law_refused" "_law_refused" sRef81 f fd) (B : Bn mg) (TW : WP.Wt K mg CW) (L : G.Cl K CE "line") (hE : mg "BadText" = some (.ref CE)) (hex : PySem.W.exmOne K (.ref CE) (.ref CE) = some true) (DR : DRd P w K mg base 10 (spReadA K CW CE)) (DT : Df P w K mg base 5 "way_text" ["way"] (spWText CW)) : FnOk P w K mg base CX0 11 f fd ["value"] (spRef81 K) := by
  obtain ⟨fR, fdR, GR, gR, kR, bR⟩ := DR.ex
  obtain ⟨fT, fdT, GT, gT, kT, bT⟩ := DT.ex
  refine F.ok scRf8 (fun vs H Q E h => ?_) (fun cdv A outer s H vs Q E hr h => ?_)
  · obtain ⟨v, rfl, _⟩ := h
    rfl
  · obtain ⟨v, rfl, hh⟩ := h
    refine ⟨_, pss_cons (ps_try_as (i := 2) (tb := fun W => tAsg (tCallS (spReadA K CW CE) (WE W) (tCons (tVar 0) tNil)) (gName 1)) (ts := fun a cls d => tRet (tXf a cls d CE "line" (tVar 2))) (Wout := fun _ _ _ _ => False) rfl rfl scRf8.nd rfl rfl ⟨rfl, by decide, Or.inl hE⟩ takes0
          (fun W pn xe tk _ => pss_one (ps_set (i := 1) scRf8.nd rfl (Or.inl rfl) (pe_callS GR (hr.mono (by decide)) rfl gR kR bR (fun σ => passAt tk σ) (by exact (pa_cons (pv 0) pa_nil)))))
          (fun a oe cls d pn hz hf => pss_one (ps_ret (pe_xf (xf_of L) L.no hz hf (pv 2)))))
      (pss_one (ps_ret (pe_ifExp (PW.pt (pw_and (pt_val (pe_callB call_isi (by rfl) B.isi (by decide +kernel) (pa_cons (pv 1) (pa_cons (pe_glob (v := .ref CW) rfl TW.g rfl) pa_nil)))) (pw_and1 (pt_cmpR op_eq (pe_call GT (hr.mono (by omega)) rfl gT kT bT .nil pass0 (pa_cons (pv 1) pa_nil)) (pv 0) (nomark _))))) (pe_int) (pe_non)))), ?_⟩
    have kit : PySem.W.kitOne K (.ref CW) (.ref CW) = some true := by
      unfold PySem.W.kitOne
      rw [if_pos (by simp)]
    rcases hh with ⟨x, k, rfl, lx, tk, kk⟩ | ⟨ns, kk⟩
    · refine ⟨_, rfl, _, rfl, .inl ⟨x, k, rfl, lx, tk, fun k0 a wy H1 s1 wa fw tx => ⟨_, rfl, ?_⟩, fun k0 H1 s1 d hd => ⟨true, hex, fun _ a0 _ => ?_, fun q => Bool.noConfusion q⟩⟩⟩
      · obtain ⟨dz, fz, hz, _⟩ := WP.head_fld wa
        refine ⟨_, _, _, _, true, rfl, .own CW, .base (.ins hz TW.cl TW.iA TW.iN TW.iT TW.iM), kit, _, rfl, iteT ⟨_, rfl, a, wy, rfl, wa, fw, fun H2 s2 => ⟨_, rfl, rfl, _, rfl, iteP (congrArg V.str (congrArg TX.S tx)) ?_⟩⟩⟩
        have := kk H2 (s1.trans s2)
        rw [k0] at this
        exact this
      · refine ⟨_, rfl, rfl, rfl, d, _, _, rfl, upd_same, look_one, ?_⟩
        exact kk _ (s1.trans (of_upd hd))
    · refine ⟨_, rfl, _, rfl, .inr ⟨ns, fun d hd => ⟨true, hex, fun _ a0 _ => ?_, fun q => Bool.noConfusion q⟩⟩⟩
      refine ⟨_, rfl, rfl, rfl, d, _, _, rfl, upd_same, look_one, ?_⟩
      exact kk _ (of_upd hd)
/-! ### lists of texts -/
structure Sml (b n : Nat) (ls : List (List Nat)) : Prop where
  el : ∀ l ∈ ls, l.length ≤ b
  ln : ls.length ≤ n
theorem sv_tl (xs : List Str) : xs.map V.str = sv (xs.map tl) := by
  unfold sv
  rw [List.map_map]
  exact List.map_congr_left fun x _ => by
    show V.str x = V.str (TX.S (tl x))
    rw [S_tl]
def isS (b : Nat) : V → Bool
  | .str x => decide (x.length ≤ b)
  | _ => false
theorem sv_of {b : Nat} : ∀ {vs : List V}, vs.all (isS b) = true → ∃ ls, vs = sv ls ∧ (∀ l ∈ ls, l.length ≤ b) ∧ ls.length = vs.length
  | [], _ => ⟨[], rfl, (fun l h => by cases h), rfl⟩
  | v :: vs, h => by
    rw [List.all_cons, Bool.and_eq_true] at h
    obtain ⟨ls, e, h1, h2⟩ := sv_of h.2
    cases v with
    | str x =>
      refine ⟨tl x :: ls, ?_, fun l hl => ?_, by rw [List.length_cons, List.length_cons, h2]⟩
      · show V.str x :: vs = V.str (TX.S (tl x)) :: sv ls
        rw [S_tl, e]
      · rcases List.mem_cons.mp hl with z | z
        · have := of_decide_eq_true (p := x.length ≤ b) h.1
          rw [z, ← len_tl]
          exact this
        · exact h1 l z
    | _ => cases h.1
theorem kk_of {b n : Nat} {vs : List V} {Z : Prop} (h : vs.all (isS b) = true) (h2 : vs.length ≤ n) (h3 : 1 ≤ vs.length) (k : ∀ ls, vs = sv ls → Sml b n ls → 1 ≤ ls.length → Z) : Z := by
  obtain ⟨ls, e, h4, h5⟩ := sv_of h
  exact k ls e ⟨h4, by omega⟩ (by omega)
theorem fin_of {b n : Nat} {vs : List V} {Q : VK} {D : Addr} {G0 : Hp} (k : ∀ ls, upd G0 D (.lst vs) D = some (.lst (sv ls)) → Sml b n ls → 1 ≤ ls.length → Q (.ref D) (upd G0 D (.lst vs))) (h : vs.all (isS b) = true) (h2 : vs.length ≤ n) (h3 : 1 ≤ vs.length) : Q (.ref D) (upd G0 D (.lst vs)) := by
  obtain ⟨ls, e, h4, h5⟩ := sv_of h
  exact k ls (by rw [upd_same, e]) ⟨h4, by omega⟩ (by omega)
def spOdd : Sp := fun vs H Q _ => vs = [] ∧ ∀ D H' ls, Same H H' → H D = none → H' D = some (.lst (sv ls)) → Sml 40 40 ls → 1 ≤ ls.length → Q (.ref D) H'
theorem ok_odd {f : Addr} {fd : FuncData} (F : Fun K "_law_odd_lines" "_law_odd_lines" sOdd f fd) : FnOk P w K mg base CX0 1 f fd [] spOdd := by
  refine F.ok scOdd (fun vs H Q E h => ?_) (fun cdv A outer s H vs Q E hr h => ?_)
  · obtain ⟨rfl, _⟩ := h
    rfl
  · obtain ⟨rfl, kk⟩ := h
    refine ⟨_, pss_cons (ps_set (i := 0) scOdd.nd rfl (Or.inl rfl) (pe_lst (pa_cons (pe_str) (pa_cons (pe_str) (pa_cons (pe_str) (pa_cons (pe_str) (pa_cons (pe_str) (pa_cons (pe_str) (pa_cons (pe_str) (pa_cons (pe_str) (pa_cons (pe_str) pa_nil)))))))))))
      (pss_cons (ps_set (i := 0) scOdd.nd rfl (Or.inl rfl) (pe_op (op_cat) (pv 0) (pe_lst (pa_cons (pe_str) (pa_cons (pe_str) (pa_cons (pe_str) (pa_cons (pe_str) (pa_cons (pe_str) (pa_cons (pe_str) pa_nil)))))))))
      (pss_cons (ps_set (i := 0) scOdd.nd rfl (Or.inl rfl) (pe_op (op_cat) (pv 0) (pe_lst (pa_cons (pe_str) (pa_cons (pe_str) (pa_cons (pe_str) (pa_cons (pe_str) (pa_cons (pe_str) (pa_cons (pe_str) (pa_cons (pe_str) pa_nil))))))))))
      (pss_cons (ps_set (i := 0) scOdd.nd rfl (Or.inl rfl) (pe_op (op_cat) (pv 0) (pe_lst (pa_cons (pe_str) (pa_cons (pe_str) (pa_cons (pe_str) (pa_cons (pe_str) (pa_cons (pe_str) (pa_cons (pe_str) (pa_cons (pe_str) pa_nil))))))))))
      (pss_one (ps_ret (pe_op (op_cat) (pv 0) (pe_lst (pa_cons (pe_str) (pa_cons (pe_str) (pa_cons (pe_str) (pa_cons (pe_str) (pa_cons (pe_str) pa_nil)))))))))))), ?_⟩
    have ten : ∀ {n : Nat}, n ≤ 100 → n ≤ sizeLine := fun h => Nat.le_trans h (by decide)
    refine set_then (i := 0) ⟨ten (by decide), fun D1 h1 => ?_⟩
    dsimp only
    refine set_then (i := 0) ⟨_, rfl, ten (by decide), fun D2 h2 => ⟨D1, D2, _, _, rfl, rfl, of_upd h2 _ _ upd_same, upd_same, ten (by decide), fun D3 h3 => ?_⟩⟩
    dsimp only
    refine set_then (i := 0) ⟨_, rfl, ten (by decide), fun D4 h4 => ⟨D3, D4, _, _, rfl, rfl, of_upd h4 _ _ upd_same, upd_same, ten (by decide), fun D5 h5 => ?_⟩⟩
    dsimp only
    refine set_then (i := 0) ⟨_, rfl, ten (by decide), fun D6 h6 => ⟨D5, D6, _, _, rfl, rfl, of_upd h6 _ _ upd_same, upd_same, ten (by decide), fun D7 h7 => ?_⟩⟩
    dsimp only
    refine ⟨_, rfl, ten (by decide), fun D8 h8 => ⟨D7, D8, _, _, rfl, rfl, of_upd h8 _ _ upd_same, upd_same, ten (by decide), fun D9 h9 => ?_⟩⟩
    exact fin_of (b := 40) (n := 40) (fun ls e sm l1 => kk D9 _ ls (by exact ((((((((of_upd h1).trans (of_upd h2)).trans (of_upd h3)).trans (of_upd h4)).trans (of_upd h5)).trans (of_upd h6)).trans (of_upd h7)).trans (of_upd h8)).trans (of_upd h9)) (Same.free (by exact (((((((of_upd h1).trans (of_upd h2)).trans (of_upd h3)).trans (of_upd h4)).trans (of_upd h5)).trans (of_upd h6)).trans (of_upd h7)).trans (of_upd h8)) h9) e sm l1) (by decide +kernel) (by decide) (by decide)
theorem mem_str {b : Nat} {vs : List V} {v : V} (h : v ∈ vs) (k : vs.all (isS b) = true) : ∃ l, v = .str (TX.S l) ∧ l.length ≤ b := by
  have := List.all_eq_true.mp k v h
  cases v with
  | str x =>
    have := of_decide_eq_true (p := x.length ≤ b) this
    exact ⟨tl x, congrArg V.str (S_tl x).symm, by rw [← len_tl]; exact this⟩
  | _ => cases this
theorem rep_len (k : Nat) (a : List Nat) : (LN.rep k a).length = k * a.length := by
  unfold LN.rep
  rw [List.length_flatten, List.map_replicate, List.sum_replicate_nat]
theorem len_ap (a b : Str) : (a ++ b).length = a.length + b.length := by rw [len_tl, tl_append, List.length_append, ← len_tl, ← len_tl]
theorem Sml.app {b c n m : Nat} {l k : List (List Nat)} (h : Sml b n l) (g : Sml c m k) : Sml (max b c) (n + m) (l ++ k) := by
  have h1 := h.ln
  have h2 := g.ln
  refine ⟨fun x hx => ?_, by rw [List.length_append]; omega⟩
  rcases List.mem_append.mp hx with z | z
  · have := h.el x z
    omega
  · have := g.el x z
    omega
theorem Sml.up {b c n m : Nat} {l : List (List Nat)} (h : Sml b n l) (h1 : b ≤ c) (h2 : n ≤ m) : Sml c m l := ⟨fun x hx => Nat.le_trans (h.el x hx) h1, Nat.le_trans h.ln h2⟩
theorem Sml.one {b : Nat} {l : List Nat} (h : l.length ≤ b) : Sml b 1 [l] := ⟨fun x hx => by rw [List.mem_singleton.mp hx]; exact h, by simp⟩
def spNum : Sp := fun vs H Q _ => vs = [] ∧ ∀ D H' ls, Same H H' → H' D = some (.lst (sv ls)) → Sml 5020 80 ls → Q (.ref D) H'
theorem ok_num {f : Addr} {fd : FuncData} (F : Fun K "_law_number_lines" "_law_number_lines" sNumL f fd) : FnOk P w K mg base CX0 1 f fd [] spNum := by
  refine F.ok scNum (fun vs H Q E h => ?_) (fun cdv A outer s H vs Q E hr h => ?_)
  · obtain ⟨rfl, _⟩ := h
    rfl
  · obtain ⟨rfl, kk⟩ := h
    refine ⟨_, pss_cons (ps_set (i := 0) scNum.nd rfl (Or.inl rfl) (pe_lst pa_nil))
      (pss_cons (ps_set (i := 1) scNum.nd rfl (Or.inl rfl) (pe_lst (pa_cons (pe_str) (pa_cons (pe_str) (pa_cons (pe_str) (pa_cons (pe_str) (pa_cons (pe_str) (pa_cons (pe_str) (pa_cons (pe_str) (pa_cons (pe_str) (pa_cons (pe_str) (pa_cons (pe_str) (pa_cons (pe_str) (pa_cons (pe_str) (pa_cons (pe_str) (pa_cons (pe_str) pa_nil))))))))))))))))
      (pss_cons (ps_for PassesOwn.never rfl (pi_list (pe_op (op_cat) (pv 1) (pe_lst (pa_cons (pe_op (LN.op_mulS) (pe_str) (pe_int)) (pa_cons (pe_op (LN.op_mulS) (pe_str) (pe_int)) (pa_cons (pe_str) pa_nil)))))) (pg_name (i := 2) scNum.nd rfl (Or.inl rfl)) (pss_one (ps_set (i := 0) scNum.nd rfl (Or.inl rfl) (pe_op (op_cat) (pv 0) (pe_lst (pa_cons (pe_op (op_adS) (pe_str) (pv 2)) (pa_cons (pe_op (op_adS) (pe_str) (pv 2)) (pa_cons (pe_op (op_adS) (pe_op (op_adS) (pe_str) (pv 2)) (pe_str)) (pa_cons (pe_op (op_adS) (pe_op (op_adS) (pe_str) (pv 2)) (pe_str)) pa_nil)))))))))
      (pss_one (ps_ret (pv 0))))), ?_⟩
    have ten : ∀ {n : Nat}, n ≤ 100000 → n ≤ sizeLine := fun h => Nat.le_trans h (by decide)
    refine set_then (i := 0) ⟨ten (by decide), fun F1 h1 => ?_⟩
    have g1 := of_upd (o := .lst []) h1
    have eF : upd H F1 (.lst []) F1 = some (.lst []) := upd_same
    generalize upd H F1 (.lst []) = G1 at g1 eF ⊢
    dsimp only
    refine set_then (i := 1) ⟨ten (by decide), fun S1 h2 => ?_⟩
    have g2 := of_upd (o := .lst [V.str "0", V.str "00", V.str "05", V.str "+5", V.str "-1", V.str "-0", V.str "1_0", V.str "", V.str " 5", V.str "5 ", V.str "5.0", V.str "41", V.str "1001", V.str "1000000000001"]) h2
    have eS : upd G1 S1 (.lst [V.str "0", V.str "00", V.str "05", V.str "+5", V.str "-1", V.str "-0", V.str "1_0", V.str "", V.str " 5", V.str "5 ", V.str "5.0", V.str "41", V.str "1001", V.str "1000000000001"]) S1 = some (.lst [V.str "0", V.str "00", V.str "05", V.str "+5", V.str "-1", V.str "-0", V.str "1_0", V.str "", V.str " 5", V.str "5 ", V.str "5.0", V.str "41", V.str "1001", V.str "1000000000001"]) := upd_same
    generalize upd G1 S1 (.lst [V.str "0", V.str "00", V.str "05", V.str "+5", V.str "-1", V.str "-0", V.str "1_0", V.str "", V.str " 5", V.str "5 ", V.str "5.0", V.str "41", V.str "1001", V.str "1000000000001"]) = G2 at g2 eS ⊢
    dsimp only
    have k9 : ("9" : Str) = TX.S [57] := S_of (by decide +kernel)
    refine ⟨_, rfl, [57], 61, congrArg V.str k9, rfl, by decide, by decide, [57], 5000, congrArg V.str k9, rfl, by decide, by decide, ten (by decide), fun D2 h3 => ?_⟩
    have g3 := of_upd (o := .lst [V.str (TX.S (LN.rep 61 [57])), V.str (TX.S (LN.rep 5000 [57])), V.str "five"]) h3
    have e3 : upd G2 D2 (.lst [V.str (TX.S (LN.rep 61 [57])), V.str (TX.S (LN.rep 5000 [57])), V.str "five"]) D2 = some (.lst [V.str (TX.S (LN.rep 61 [57])), V.str (TX.S (LN.rep 5000 [57])), V.str "five"]) := upd_same
    generalize upd G2 D2 (.lst [V.str (TX.S (LN.rep 61 [57])), V.str (TX.S (LN.rep 5000 [57])), V.str "five"]) = G3 at g3 e3 ⊢
    refine ⟨S1, D2, _, _, rfl, rfl, g3 _ _ eS, e3, ten (by decide), fun D3 h4 => ?_⟩
    have g4 := of_upd (o := .lst ([V.str "0", V.str "00", V.str "05", V.str "+5", V.str "-1", V.str "-0", V.str "1_0", V.str "", V.str " 5", V.str "5 ", V.str "5.0", V.str "41", V.str "1001", V.str "1000000000001"] ++ [V.str (TX.S (LN.rep 61 [57])), V.str (TX.S (LN.rep 5000 [57])), V.str "five"])) h4
    have e4 : upd G3 D3 (.lst ([V.str "0", V.str "00", V.str "05", V.str "+5", V.str "-1", V.str "-0", V.str "1_0", V.str "", V.str " 5", V.str "5 ", V.str "5.0", V.str "41", V.str "1001", V.str "1000000000001"] ++ [V.str (TX.S (LN.rep 61 [57])), V.str (TX.S (LN.rep 5000 [57])), V.str "five"])) D3 = some (.lst ([V.str "0", V.str "00", V.str "05", V.str "+5", V.str "-1", V.str "-0", V.str "1_0", V.str "", V.str " 5", V.str "5 ", V.str "5.0", V.str "41", V.str "1001", V.str "1000000000001"] ++ [V.str (TX.S (LN.rep 61 [57])), V.str (TX.S (LN.rep 5000 [57])), V.str "five"])) := upd_same
    generalize upd G3 D3 (.lst ([V.str "0", V.str "00", V.str "05", V.str "+5", V.str "-1", V.str "-0", V.str "1_0", V.str "", V.str " 5", V.str "5 ", V.str "5.0", V.str "41", V.str "1001", V.str "1000000000001"] ++ [V.str (TX.S (LN.rep 61 [57])), V.str (TX.S (LN.rep 5000 [57])), V.str "five"])) = G4 at g4 e4 ⊢
    have words : ∀ v ∈ ([V.str "0", V.str "00", V.str "05", V.str "+5", V.str "-1", V.str "-0", V.str "1_0", V.str "", V.str " 5", V.str "5 ", V.str "5.0", V.str "41", V.str "1001", V.str "1000000000001"] ++ [V.str (TX.S (LN.rep 61 [57])), V.str (TX.S (LN.rep 5000 [57])), V.str "five"]), ∃ l, v = .str (TX.S l) ∧ l.length ≤ 5000 := fun v hv => by
      rcases List.mem_append.mp hv with z | z
      · obtain ⟨l, e, h⟩ := mem_str (b := 20) z (by decide +kernel)
        exact ⟨l, e, by omega⟩
      · simp only [List.mem_cons, List.mem_nil_iff, or_false] at z
        rcases z with rfl | rfl | rfl
        · exact ⟨_, rfl, by rw [rep_len]; decide⟩
        · exact ⟨_, rfl, by rw [rep_len]; decide⟩
        · exact ⟨tl "five", congrArg V.str (S_tl _).symm, by decide +kernel⟩
    have lw : ([V.str "0", V.str "00", V.str "05", V.str "+5", V.str "-1", V.str "-0", V.str "1_0", V.str "", V.str " 5", V.str "5 ", V.str "5.0", V.str "41", V.str "1001", V.str "1000000000001"] ++ [V.str (TX.S (LN.rep 61 [57])), V.str (TX.S (LN.rep 5000 [57])), V.str "five"]).length ≤ 17 := by decide
    generalize ([V.str "0", V.str "00", V.str "05", V.str "+5", V.str "-1", V.str "-0", V.str "1_0", V.str "", V.str " 5", V.str "5 ", V.str "5.0", V.str "41", V.str "1001", V.str "1000000000001"] ++ [V.str (TX.S (LN.rep 61 [57])), V.str (TX.S (LN.rep 5000 [57])), V.str "five"]) = vw at e4 words lw
    have gH := ((g1.trans g2).trans g3).trans g4
    have eF4 := g4 _ _ (g3 _ _ (g2 _ _ eF))
    clear g1 g2 g3 g4 eF eS e3 h1 h2 h3 h4
    refine ⟨D3, rfl, ⟨_, SqL.of e4⟩, ?_⟩
    refine for_it walk_list (fun i σ G => Same G4 G ∧ ∃ F ls q2, G F = some (.lst (sv ls)) ∧ Sml 5020 (4 * i) ls ∧ σ = [some (.ref F), some (.ref S1), q2]) ⟨Same.refl _, F1, [], _, eF4, ⟨(fun l h => by cases h), by simp⟩, rfl⟩ (fun i σ G _ z => SqL.of (z.1 _ _ e4)) ?_ ?_
    · rintro i v σ G G' hi ⟨s1, F, ls, q2, eF, sm, rfl⟩ ⟨rfl, hv⟩
      obtain ⟨l, rfl, ll⟩ := words v (List.mem_of_getElem? hv)
      have lS : (TX.S l).length = l.length := S_len l
      have k1 : ("head " : Str).length = 5 := by decide +kernel
      have k2 : ("join " : Str).length = 5 := by decide +kernel
      have k3 : ("road " : Str).length = 5 := by decide +kernel
      have k4 : (" tell cut" : Str).length = 9 := by decide +kernel
      have k5 : ("tunnel " : Str).length = 7 := by decide +kernel
      have k6 : (" turn" : Str).length = 5 := by decide +kernel
      have l1 := len_ap "head " (TX.S l)
      have l2 := len_ap "join " (TX.S l)
      have l3 := len_ap "road " (TX.S l)
      have l4 := len_ap ("road " ++ TX.S l) " tell cut"
      have l5 := len_ap "tunnel " (TX.S l)
      have l6 := len_ap ("tunnel " ++ TX.S l) " turn"
      have lln := sm.ln
      dsimp only
      refine ⟨_, rfl, _, rfl, _, _, rfl, rfl, ten (by omega), _, rfl, _, _, rfl, rfl, ten (by omega), _, rfl, _, _, rfl, rfl, ten (by omega), _, _, rfl, rfl, ten (by omega), _, rfl, _, _, rfl, rfl, ten (by omega), _, _, rfl, rfl, ten (by omega), ten (by show 4 ≤ _; decide), fun D5 h5 => ?_⟩
      have s2 := of_upd (o := .lst [V.str ("head " ++ TX.S l), V.str ("join " ++ TX.S l), V.str ("road " ++ TX.S l ++ " tell cut"), V.str ("tunnel " ++ TX.S l ++ " turn")]) h5
      refine ⟨F, D5, _, _, rfl, rfl, s2 _ _ eF, upd_same, ten (by rw [sv_len]; show ls.length + 4 ≤ _; omega), fun D6 h6 => ?_⟩
      have s3 := s2.trans (of_upd (o := .lst (sv ls ++ [V.str ("head " ++ TX.S l), V.str ("join " ++ TX.S l), V.str ("road " ++ TX.S l ++ " tell cut"), V.str ("tunnel " ++ TX.S l ++ " turn")])) h6)
      have e6 : sv ls ++ [V.str ("head " ++ TX.S l), V.str ("join " ++ TX.S l), V.str ("road " ++ TX.S l ++ " tell cut"), V.str ("tunnel " ++ TX.S l ++ " turn")] = sv (ls ++ [tl ("head " ++ TX.S l), tl ("join " ++ TX.S l), tl ("road " ++ TX.S l ++ " tell cut"), tl ("tunnel " ++ TX.S l ++ " turn")]) := by
        rw [sv_app]
        exact congrArg _ (sv_tl [("head " ++ TX.S l), ("join " ++ TX.S l), ("road " ++ TX.S l ++ " tell cut"), ("tunnel " ++ TX.S l ++ " turn")])
      refine ⟨s1.trans s3, D6, _, _, by rw [upd_same, e6], ⟨fun x hx => ?_, by rw [List.length_append]; show ls.length + 4 ≤ _; omega⟩, rfl⟩
      rcases List.mem_append.mp hx with z | z
      · exact sm.el x z
      · simp only [List.mem_cons, List.mem_nil_iff, or_false] at z
        rcases z with rfl | rfl | rfl | rfl <;> rw [← len_tl] <;> omega
    · rintro σ G ⟨s1, F, ls, q2, eF, sm, rfl⟩
      exact ⟨_, rfl, kk F G ls (gH.trans s1) eF (sm.up (Nat.le_refl _) (by omega))⟩
end
end CP

end
section
set_option autoImplicit false
set_option Elab.async false
set_option linter.all false
set_option maxRecDepth 100000
set_option maxHeartbeats 4000000
/-! ## lines a little changed -/
namespace CP
open PySem L2 G Y
open TL TX
abbrev sBentL : Stmt := S.top 56
abbrev sGreat : Stmt := S.top 58
theorem sv_take (ls : List (List Nat)) (n : Nat) : (sv ls).take n = sv (ls.take n) := by
  unfold sv
  rw [List.map_take]
theorem sv_drop (ls : List (List Nat)) (n : Nat) : (sv ls).drop n = sv (ls.drop n) := by
  unfold sv
  rw [List.map_drop]
theorem sl_take {K : PySem.W.Frag} {H : Hp} {Q : VK} {D : Addr} {ls : List (List Nat)} {z : Int} (n : Nat) (ez : z = (n : Int)) (e : H D = some (.lst (sv ls))) (k : ∀ D1 G, Same H G → H D1 = none → G D1 = some (.lst (sv (ls.take n))) → Q (.ref D1) G) : rSlL K (.ref D) none (some z) H Q :=
  ⟨D, _, rfl, SqL.of e, fun D1 h => k D1 _ (of_upd h) h (by rw [upd_same, ez, cut_hiV, sv_take])⟩
theorem sl_drop {K : PySem.W.Frag} {H : Hp} {Q : VK} {D : Addr} {ls : List (List Nat)} {z : Int} (n : Nat) (ez : z = (n : Int)) (e : H D = some (.lst (sv ls))) (k : ∀ D1 G, Same H G → H D1 = none → G D1 = some (.lst (sv (ls.drop n))) → Q (.ref D1) G) : rSlL K (.ref D) (some z) none H Q :=
  ⟨D, _, rfl, SqL.of e, fun D1 h => k D1 _ (of_upd h) h (by rw [upd_same, ez, Y.cut_from, sv_drop])⟩
theorem sl_one {K : PySem.W.Frag} {H : Hp} {Q : VK} {D : Addr} {ls : List (List Nat)} {z y : Int} (n : Nat) (ez : z = (n : Int)) (ey : y = ((n + 1 : Nat) : Int)) (hn : n < ls.length) (e : H D = some (.lst (sv ls))) (k : ∀ D1 G, Same H G → H D1 = none → G D1 = some (.lst (sv ((ls.drop n).take 1))) → Q (.ref D1) G) : rSlL K (.ref D) (some z) (some y) H Q :=
  ⟨D, _, rfl, SqL.of e, fun D1 h => k D1 _ (of_upd h) h (by
    rw [upd_same, ez, ey]
    unfold cutV
    rw [HT.sIx_nat, HT.sIx_nat, sv_len, Nat.min_eq_left (by omega), Nat.min_eq_left (by omega), show n + 1 - n = 1 by omega, sv_drop, sv_take])⟩
theorem catL {H : Hp} {Q : VK} {a b : Addr} {l m : List (List Nat)} (ea : H a = some (.lst (sv l))) (eb : H b = some (.lst (sv m))) (h : l.length + m.length ≤ 100000) (k : ∀ D1 G, Same H G → H D1 = none → G D1 = some (.lst (sv (l ++ m))) → Q (.ref D1) G) : rCat (.ref a) (.ref b) H Q :=
  ⟨a, b, _, _, rfl, rfl, ea, eb, by rw [sv_len, sv_len]; exact Nat.le_trans h (by decide), fun D1 h1 => k D1 _ (of_upd h1) h1 (by rw [upd_same, sv_app])⟩
theorem sml_take {b n : Nat} {l : List (List Nat)} (h : Sml b n l) (i : Nat) : Sml b n (l.take i) := ⟨fun x hx => h.el x (List.mem_of_mem_take hx), Nat.le_trans (by rw [List.length_take]; omega) h.ln⟩
theorem sml_drop {b n : Nat} {l : List (List Nat)} (h : Sml b n l) (i : Nat) : Sml b n (l.drop i) := ⟨fun x hx => h.el x (List.mem_of_mem_drop hx), Nat.le_trans (by rw [List.length_drop]; omega) h.ln⟩
theorem sml_of {b n : Nat} {l m : List (List Nat)} (h : ∀ x ∈ l, x.length ≤ b) (g : ∀ x ∈ m, x.length ≤ b) (hl : l.length + m.length ≤ n) : Sml b n (l ++ m) := ⟨fun x hx => (List.mem_append.mp hx).elim (h x) (g x), by rw [List.length_append]; exact hl⟩
section
variable {P : Program} {w : World} {K : PySem.W.Frag} {mg : Str → Option Value} {base : Heap} {CR CB CW CE : Addr}
theorem scBl : FnScope ["stream", "lines", "at", "kind", "line", "some"] ["stream", "lines"] (defScope sBentL) := ⟨rfl, rfl, rfl, by decide +kernel, rfl, by decide +kernel, by decide +kernel⟩
abbrev NGr : List Str := ["stream", "inner", "found", "turn", "deep", "line"]
theorem scGr : FnScope NGr ["stream"] (defScope sGreat) := ⟨rfl, rfl, rfl, by decide +kernel, rfl, by decide +kernel, by decide +kernel⟩
structure D0 (P : Program) (w : World) (K : PySem.W.Frag) (mg : Str → Option Value) (base : Heap) (k : Nat) (x : Str) (sp : Sp) : Prop where
  ex : ∃ (f : Addr) (fd : FuncData), FnOk P w K mg base CX0 k f fd [] sp ∧ mg x = some (.ref f) ∧ PySem.W.keepIn K (.ref f) = true ∧ Binds K fd [] []
theorem log300 {n : Int} (h1 : 1 ≤ n) (h2 : n ≤ 1000) : n.natAbs.log2 < 9000 := PySem.Flt.log2_lt_of (k := 9000) (by decide) (Nat.lt_of_lt_of_le (by omega : _ < 1001) (Nat.le_trans (by decide : 1001 ≤ 2 ^ 10) (Nat.pow_le_pow_right (by decide) (by decide))))
theorem bt_none {p D : Addr} {H G : Hp} (b : Y.Bt p H G) (ne : D ≠ p) (h : G D = none) : H D = none := by
  cases e : H D with
  | none => rfl
  | some o =>
    rw [bt_lst b ne e] at h
    cases h
def spBl : Sp := fun vs H Q _ => ∃ (p D : Addr) (ls : List (List Nat)) (b n : Nat), vs = [.ref p, .ref D] ∧ S.At H p ∧ D ≠ p ∧ H D = some (.lst (sv ls)) ∧ 1 ≤ ls.length ∧ Sml b n ls ∧ 40 ≤ b ∧ b ≤ 100 ∧ n ≤ 200 ∧
  ∀ D2 H' l2, Y.Bt p H H' → D2 ≠ p → H D2 = none → H' D2 = some (.lst (sv l2)) → (2 ≤ ls.length → 1 ≤ l2.length) → Sml (b + 2) (n + 13) l2 → Q (.ref D2) H'
theorem ok_bl {f : Addr} {fd : FuncData} (F : Fun K "_law_bent_lines" "_law_bent_lines" sBentL f fd) (B : Bn mg) (DD : Df P w K mg base 1 "_law_draw" ["stream", "size"] S.spDraw) (DC : Df P w K mg base 2 "_law_choose" ["stream", "items"] (S.spChoose K)) (DO : D0 P w K mg base 1 "_law_odd_lines" spOdd) : FnOk P w K mg base CX0 3 f fd ["stream", "lines"] spBl := by
  obtain ⟨fD, fdD, GD, gD, kD, bD⟩ := DD.ex
  obtain ⟨fC, fdC, GC, gC, kC, bC⟩ := DC.ex
  obtain ⟨fO, fdO, GO, gO, kO, bO⟩ := DO.ex
  refine F.ok scBl (fun vs H Q E h => ?_) (fun cdv A outer s H vs Q E hr h => ?_)
  · obtain ⟨p, D, ls, b, n, rfl, _⟩ := h
    rfl
  · obtain ⟨p, D, ls, b, n, rfl, hp, neD, eD, l1, sm, b40, b100, n200, kk⟩ := h
    refine ⟨_, pss_cons (ps_par (i := 2) (j := 3) (by rfl) scBl.nd rfl rfl (by decide) rfl rfl (pa_cons (pe_call GD (hr.mono (by omega)) rfl gD kD bD .nil pass0 (pa_cons (pv 0) (pa_cons (pe_callB call_len_seq (by rfl) B.len PySem.boot_len (pa_cons (pv 1) pa_nil)) pa_nil))) (pa_cons (pe_call GD (hr.mono (by omega)) rfl gD kD bD .nil pass0 (pa_cons (pv 0) (pa_cons (pe_int) pa_nil))) pa_nil)) (by rfl))
      (pss_cons (ps_set (i := 4) scBl.nd rfl (Or.inl rfl) (pe_ix ix_list (pv 1) (pv 2) (fun _ _ => rfl)))
      (pss_cons (ps_set (i := 5) scBl.nd rfl (Or.inl rfl) (pe_call0 GO (hr.mono (by omega)) rfl gO kO bO .nil pass0))
      (pss_cons (ps_if (pt_cmpR (op_eq) (pv 3) (pe_int) (nomark _)) (pss_one (ps_ret (pe_op (op_cat) (pe_slice sl_list (pv 1) po_none (po_some (pv 2))) (pe_slice sl_list (pv 1) (po_some (pe_op (op_add) (pv 2) (pe_int))) po_none)))) (pss_nil))
      (pss_cons (ps_if (pt_cmpR (op_eq) (pv 3) (pe_int) (nomark _)) (pss_one (ps_ret (pe_op (op_cat) (pe_op (op_cat) (pe_slice sl_list (pv 1) po_none (po_some (pv 2))) (pe_lst (pa_cons (pv 4) pa_nil))) (pe_slice sl_list (pv 1) (po_some (pv 2)) po_none)))) (pss_nil))
      (pss_cons (ps_if (pt_cmpR (op_eq) (pv 3) (pe_int) (nomark _)) (pss_one (ps_ret (pe_slice sl_list (pv 1) po_none (po_some (pe_op (op_add) (pv 2) (pe_int)))))) (pss_nil))
      (pss_cons (ps_if (pt_cmpR (op_eq) (pv 3) (pe_int) (nomark _)) (pss_one (ps_ret (pe_op (op_cat) (pe_slice sl_list (pv 1) po_none (po_some (pv 2))) (pe_lst (pa_cons (pe_slice sl_str (pv 4) po_none (po_some (pe_call GD (hr.mono (by omega)) rfl gD kD bD .nil pass0 (pa_cons (pv 0) (pa_cons (pe_op (op_add) (pe_callB call_len_str (by rfl) B.len PySem.boot_len (pa_cons (pv 4) pa_nil)) (pe_int)) pa_nil))))) pa_nil))))) (pss_nil))
      (pss_cons (ps_if (pt_cmpR (op_eq) (pv 3) (pe_int) (nomark _)) (pss_one (ps_ret (pe_op (op_cat) (pe_op (op_cat) (pe_slice sl_list (pv 1) po_none (po_some (pv 2))) (pe_lst (pa_cons (pe_call GC (hr.mono (by omega)) rfl gC kC bC .nil pass0 (pa_cons (pv 0) (pa_cons (pe_lst (pa_cons (pe_op (op_adS) (pe_str) (pv 4)) (pa_cons (pe_op (op_adS) (pe_str) (pv 4)) (pa_cons (pe_slice sl_str (pv 4) (po_some (pe_int)) po_none) (pa_cons (pe_op (op_adS) (pv 4) (pe_str)) pa_nil))))) pa_nil))) pa_nil))) (pe_slice sl_list (pv 1) (po_some (pe_op (op_add) (pv 2) (pe_int))) po_none)))) (pss_nil))
      (pss_cons (ps_if (pt_cmpR (op_lt) (pv 3) (pe_int) (nomark _)) (pss_one (ps_ret (pe_op (op_cat) (pe_op (op_cat) (pe_slice sl_list (pv 1) po_none (po_some (pv 2))) (pe_lst (pa_cons (pe_call GC (hr.mono (by omega)) rfl gC kC bC .nil pass0 (pa_cons (pv 0) (pa_cons (pv 5) pa_nil))) pa_nil))) (pe_slice sl_list (pv 1) (po_some (pe_op (op_add) (pv 2) (pe_callTy call_int1 (by rfl) B.int (by decide +kernel) (pa_cons (pe_cmpR op_eq (pv 3) pe_int (nomark _)) pa_nil)))) po_none)))) (pss_nil))
      (pss_one (ps_ret (pe_op (op_cat) (pe_op (op_cat) (pe_slice sl_list (pv 1) po_none (po_some (pe_op (op_add) (pv 2) (pe_int)))) (pe_op (op_rep) (pe_slice sl_list (pv 1) (po_some (pv 2)) (po_some (pe_op (op_add) (pv 2) (pe_int)))) (pe_op (op_add) (pe_int) (pe_call GD (hr.mono (by omega)) rfl gD kD bD .nil pass0 (pa_cons (pv 0) (pa_cons (pe_int) pa_nil)))))) (pe_slice sl_list (pv 1) (po_some (pe_op (op_add) (pv 2) (pe_int))) po_none)))))))))))), ?_⟩
    have lln := sm.ln
    have ten : ∀ {n : Nat}, n ≤ 100000 → n ≤ sizeLine := fun h => Nat.le_trans h (by decide)
    refine ⟨_, rfl, _, rfl, D, _, rfl, .inl (SqL.of eD), ?_⟩
    try dsimp only [tNil, List.cons_append, List.nil_append]
    rw [sv_len]
    refine draw_at hp (by omega) (log300 (by omega) (by omega)) fun j H1 j0 j1 b1 => ?_
    obtain ⟨i0, rfl⟩ := Int.eq_ofNat_of_zero_le j0
    have hi0 : i0 < ls.length := by omega
    refine draw_vv rfl b1.2 (by decide) (by decide +kernel) fun kd H2 kd0 kd1 b2 => ⟨_, _, rfl, ?_⟩
    have b12 := b1.trans b2
    have eD2 := bt_lst b12 neD eD
    try dsimp only
    obtain ⟨ln, hln⟩ : ∃ ln, ls[i0]? = some ln := ⟨_, List.getElem?_eq_getElem hi0⟩
    have hv : (sv ls)[i0]? = some (.str (TX.S ln)) := by
      unfold sv
      rw [List.getElem?_map, hln]
      rfl
    have lb : ln.length ≤ b := sm.el ln (List.mem_of_getElem? hln)
    have lS : (TX.S ln).length = ln.length := S_len ln
    refine set_then (i := 4) ⟨_, rfl, _, rfl, D, _, _, _, rfl, rfl, SqL.of eD2, atI_nat hv, ?_⟩
    dsimp only
    refine set_then (i := 5) ⟨rfl, fun O G lo sO nO eO smO lo1 => ?_⟩
    have hpG := sameAt sO b2.2
    have neO : O ≠ p := at_ne b2.2 nO
    have bG : Y.Bt p H G := b12.trans (Bt.same sO b2.2)
    have eDG := sO _ _ eD2
    dsimp only
    have ln1 := List.length_take (i := i0) (l := ls)
    have ln2 := List.length_drop (i := i0 + 1) (l := ls)
    have ln3 := List.length_drop (i := i0) (l := ls)
    have ln4 := List.length_take (i := i0 + 1) (l := ls)
    have fin : ∀ {D2 : Addr} {G2 Gx : Hp} {l2 : List (List Nat)}, Y.Bt p G G2 → Y.Bt p G Gx → Gx D2 = none → G2 D2 = some (.lst (sv l2)) → (2 ≤ ls.length → 1 ≤ l2.length) → (∀ x ∈ l2, x.length ≤ b + 2) → l2.length ≤ n + 13 → Q (.ref D2) G2 := fun bb bx nx e h1 h2 h3 => kk _ _ _ (bG.trans bb) (at_ne bx.2 nx) (bt_none (bG.trans bx) (at_ne bx.2 nx) nx) e h1 ⟨h2, h3⟩
    have elb : ∀ x ∈ ls, x.length ≤ b + 2 := fun x hx => Nat.le_trans (sm.el x hx) (by omega)
    have et : ∀ i, ∀ x ∈ ls.take i, x.length ≤ b + 2 := fun i x hx => elb x (List.mem_of_mem_take hx)
    have ed : ∀ i, ∀ x ∈ ls.drop i, x.length ≤ b + 2 := fun i x hx => elb x (List.mem_of_mem_drop hx)
    refine ⟨_, rfl, rfl, _, rfl, ite2 (fun c0 => ?_) (fun c0 => ?_)⟩
    · refine ⟨_, rfl, ?_⟩
      dsimp only [tNoPart]
      refine ⟨_, rfl, _, rfl, sl_take i0 rfl eDG fun A1 G1 s1 n1 e1 => ?_⟩
      refine ⟨_, rfl, _, rfl, _, _, rfl, rfl, _, rfl, ?_⟩
      dsimp only [tNoPart]
      refine sl_drop (i0 + 1) rfl (s1 _ _ eDG) fun A2 G2 s2 n2 e2 => ?_
      refine catL (s2 _ _ e1) e2 (by omega) fun A3 G3 s3 n3 e3 => ?_
      exact fin (Bt.same ((s1.trans s2).trans s3) hpG) (Bt.same (s1.trans s2) hpG) n3 e3 (by intro _; rw [List.length_append]; omega) (fun x hx => (List.mem_append.mp hx).elim (et _ x) (ed _ x)) (by rw [List.length_append]; omega)
    dsimp only
    refine ⟨_, rfl, rfl, _, rfl, ite2 (fun c1 => ?_) (fun c1 => ?_)⟩
    · refine ⟨_, rfl, ?_⟩
      dsimp only [tNoPart]
      refine ⟨_, rfl, _, rfl, sl_take i0 rfl eDG fun A1 G1 s1 n1 e1 => ?_⟩
      refine ⟨_, rfl, ten (by show 1 ≤ _; decide), fun A2 h2 => ?_⟩
      have s2 := of_upd (o := .lst [V.str (TX.S ln)]) h2
      have e2 : upd G1 A2 (.lst [V.str (TX.S ln)]) A2 = some (.lst (sv [ln])) := upd_same
      generalize upd G1 A2 (.lst [V.str (TX.S ln)]) = G2 at s2 e2 ⊢
      refine catL (s2 _ _ e1) e2 (by show _ + 1 ≤ _; omega) fun A3 G3 s3 n3 e3 => ?_
      have s123 := (s1.trans s2).trans s3
      refine ⟨_, rfl, _, rfl, _, rfl, ?_⟩
      dsimp only [tNoPart]
      refine sl_drop i0 rfl (s123 _ _ eDG) fun A4 G4 s4 n4 e4 => ?_
      refine catL (s4 _ _ e3) e4 (by rw [List.length_append]; show _ + 1 + _ ≤ _; omega) fun A5 G5 s5 n5 e5 => ?_
      exact fin (Bt.same ((s123.trans s4).trans s5) hpG) (Bt.same (s123.trans s4) hpG) n5 e5 (by intro _; rw [List.length_append, List.length_append]; show 1 ≤ _ + 1 + _; omega)
        (fun x hx => (List.mem_append.mp hx).elim (fun h => (List.mem_append.mp h).elim (et _ x) fun h => by rw [List.mem_singleton.mp h]; omega) (ed _ x)) (by rw [List.length_append, List.length_append]; show _ + 1 + _ ≤ _; omega)
    dsimp only
    refine ⟨_, rfl, rfl, _, rfl, ite2 (fun c2 => ?_) (fun c2 => ?_)⟩
    · refine ⟨_, rfl, ?_⟩
      dsimp only [tNoPart]
      refine ⟨_, rfl, _, _, rfl, rfl, _, rfl, sl_take (i0 + 1) rfl eDG fun A1 G1 s1 n1 e1 => ?_⟩
      exact fin (Bt.same s1 hpG) (Bt.same (Same.refl _) hpG) n1 e1 (by intro _; rw [ln4]; omega) (et _) (by omega)
    dsimp only
    refine ⟨_, rfl, rfl, _, rfl, ite2 (fun c3 => ?_) (fun c3 => ?_)⟩
    · refine ⟨_, rfl, ?_⟩
      dsimp only [tNoPart]
      refine ⟨_, rfl, _, rfl, sl_take i0 rfl eDG fun A1 G1 s1 n1 e1 => ?_⟩
      refine ⟨_, rfl, ?_⟩
      dsimp only [tNoPart]
      refine ⟨_, rfl, _, rfl, _, rfl, ten (by omega), _, _, rfl, rfl, ?_⟩
      try dsimp only [tNil, List.cons_append, List.nil_append]
      refine draw_at (sameAt s1 hpG) (by omega) (log300 (by omega) (by omega)) fun j G2 j0 j1 b2 => ?_
      obtain ⟨m, rfl⟩ := Int.eq_ofNat_of_zero_le j0
      have ne1 := at_ne hpG n1
      have e1' := bt_lst b2 ne1 e1
      refine ⟨_, rfl, _, rfl, ten (by omega), ten (by show 1 ≤ _; decide), fun A2 h2 => ?_⟩
      rw [cut_hi2]
      have s2 := of_upd (o := .lst [V.str (TX.S (ln.take m))]) h2
      have e2 : upd G2 A2 (.lst [V.str (TX.S (ln.take m))]) A2 = some (.lst (sv [ln.take m])) := upd_same
      generalize upd G2 A2 (.lst [V.str (TX.S (ln.take m))]) = G3 at s2 e2 ⊢
      refine catL (s2 _ _ e1') e2 (by show _ + 1 ≤ _; omega) fun A3 G4 s3 n3 e3 => ?_
      have ltk : (ln.take m).length ≤ ln.length := by rw [List.length_take]; omega
      exact fin ((Bt.same s1 hpG).trans (b2.trans (Bt.same (s2.trans s3) b2.2))) ((Bt.same s1 hpG).trans (b2.trans (Bt.same s2 b2.2))) n3 e3 (by intro _; rw [List.length_append]; show 1 ≤ _ + 1; omega) (fun x hx => (List.mem_append.mp hx).elim (et _ x) fun h => by rw [List.mem_singleton.mp h]; omega) (by rw [List.length_append]; show _ + 1 ≤ _; omega)
    dsimp only
    refine ⟨_, rfl, rfl, _, rfl, ite2 (fun c4 => ?_) (fun c4 => ?_)⟩
    · have q1 := len_ap "  " (TX.S ln)
      have q2 := len_ap " " (TX.S ln)
      have q3 := len_ap (TX.S ln) " "
      have q4 : ("  " : Str).length = 2 := by decide +kernel
      have q5 : (" " : Str).length = 1 := by decide +kernel
      refine ⟨_, rfl, ?_⟩
      dsimp only [tNoPart]
      refine ⟨_, rfl, _, rfl, sl_take i0 rfl eDG fun A1 G1 s1 n1 e1 => ?_⟩
      refine ⟨_, rfl, _, rfl, _, _, rfl, rfl, ten (by omega), _, rfl, _, _, rfl, rfl, ten (by omega), _, rfl, _, rfl, ?_⟩
      dsimp only [tNoPart]
      refine ⟨_, rfl, ten (by omega), _, rfl, _, _, rfl, rfl, ten (by omega), ten (by show 4 ≤ _; decide), fun L hL => ?_⟩
      rw [show (2 : Int) = ((2 : Nat) : Int) from rfl, cut_lo2]
      have hp1 := sameAt s1 hpG
      dsimp only [tNil, List.cons_append, List.nil_append]
      refine choose_new (E := E0) (xs := [V.str ("  " ++ TX.S ln), V.str (" " ++ TX.S ln), V.str (TX.S (ln.drop 2)), V.str (TX.S ln ++ " ")]) hp1 hL (by show 1 ≤ 4; decide) (by show 4 ≤ 1000; decide) fun x G2 hx b2 => ?_
      have ne1 := at_ne hpG n1
      have e1' := bt_lst b2 ne1 e1
      obtain ⟨lx, rfl, llx⟩ : ∃ l, x = .str (TX.S l) ∧ l.length ≤ b + 2 := by
        simp only [List.mem_cons, List.mem_nil_iff, or_false] at hx
        rcases hx with rfl | rfl | rfl | rfl
        · exact ⟨tl ("  " ++ TX.S ln), congrArg V.str (S_tl _).symm, by rw [← len_tl]; omega⟩
        · exact ⟨tl (" " ++ TX.S ln), congrArg V.str (S_tl _).symm, by rw [← len_tl]; omega⟩
        · exact ⟨_, rfl, by rw [List.length_drop]; omega⟩
        · exact ⟨tl (TX.S ln ++ " "), congrArg V.str (S_tl _).symm, by rw [← len_tl]; omega⟩
      refine ⟨ten (by show 1 ≤ _; decide), fun A2 h2 => ?_⟩
      have s2 := of_upd (o := .lst [V.str (TX.S lx)]) h2
      have e2 : upd G2 A2 (.lst [V.str (TX.S lx)]) A2 = some (.lst (sv [lx])) := upd_same
      generalize upd G2 A2 (.lst [V.str (TX.S lx)]) = G3 at s2 e2 ⊢
      refine catL (s2 _ _ e1') e2 (by show _ + 1 ≤ _; omega) fun A3 G4 s3 n3 e3 => ?_
      have bb := (Bt.same s1 hpG).trans (b2.trans (Bt.same (s2.trans s3) b2.2))
      have eD4 := bt_lst bb neD eDG
      refine ⟨_, rfl, _, rfl, _, _, rfl, rfl, _, rfl, ?_⟩
      dsimp only [tNoPart]
      refine sl_drop (i0 + 1) rfl eD4 fun A4 G5 s4 n4 e4 => ?_
      refine catL (s4 _ _ e3) e4 (by rw [List.length_append]; show _ + 1 + _ ≤ _; omega) fun A5 G6 s5 n5 e5 => ?_
      exact fin (bb.trans (Bt.same (s4.trans s5) bb.2)) (bb.trans (Bt.same s4 bb.2)) n5 e5 (by intro _; rw [List.length_append, List.length_append]; show 1 ≤ _ + 1 + _; omega)
        (fun x hx => (List.mem_append.mp hx).elim (fun h => (List.mem_append.mp h).elim (et _ x) fun h => by rw [List.mem_singleton.mp h]; exact llx) (ed _ x)) (by rw [List.length_append, List.length_append]; show _ + 1 + _ ≤ _; omega)
    dsimp only
    refine ⟨_, rfl, _, _, rfl, rfl, _, rfl, ite2 (fun c5 => ?_) (fun c5 => ?_)⟩
    · refine ⟨_, rfl, ?_⟩
      dsimp only [tNoPart]
      refine ⟨_, rfl, _, rfl, sl_take i0 rfl eDG fun A1 G1 s1 n1 e1 => ?_⟩
      have hp1 := sameAt s1 hpG
      refine ⟨_, rfl, _, rfl, ?_⟩
      try dsimp only [tNil, List.cons_append, List.nil_append]
      refine choose_at (E := E0) hp1 neO (.inl (SqL.of (s1 _ _ eO))) (by rw [sv_len]; exact lo1) (by rw [sv_len]; have := smO.ln; omega) fun x G2 hx b2 => ?_
      have ne1 := at_ne hpG n1
      have e1' := bt_lst b2 ne1 e1
      obtain ⟨lx, rfl, llx⟩ : ∃ l, x = .str (TX.S l) ∧ l.length ≤ b + 2 := by
        unfold sv at hx
        obtain ⟨l, hl, rfl⟩ := List.mem_map.mp hx
        exact ⟨l, rfl, Nat.le_trans (smO.el l hl) (by omega)⟩
      refine ⟨ten (by show 1 ≤ _; decide), fun A2 h2 => ?_⟩
      have s2 := of_upd (o := .lst [V.str (TX.S lx)]) h2
      have e2 : upd G2 A2 (.lst [V.str (TX.S lx)]) A2 = some (.lst (sv [lx])) := upd_same
      generalize upd G2 A2 (.lst [V.str (TX.S lx)]) = G3 at s2 e2 ⊢
      refine catL (s2 _ _ e1') e2 (by show _ + 1 ≤ _; omega) fun A3 G4 s3 n3 e3 => ?_
      have bb := (Bt.same s1 hpG).trans (b2.trans (Bt.same (s2.trans s3) b2.2))
      have eD4 := bt_lst bb neD eDG
      refine ⟨_, rfl, _, rfl, _, rfl, rfl, .inr ⟨_, rfl, _, _, rfl, rfl, _, rfl, ?_⟩⟩
      dsimp only [tNoPart]
      obtain ⟨c, hc, c1⟩ : ∃ c : Nat, ((i0 : Int) + (if decide (V.int kd = V.int 5) = true then 1 else 0)) = ((i0 + c : Nat) : Int) ∧ c ≤ 1 := by
        by_cases z : V.int kd = V.int 5
        · exact ⟨1, by rw [decide_eq_true z, if_pos rfl]; omega, Nat.le_refl _⟩
        · exact ⟨0, by rw [decide_eq_false z, if_neg Bool.false_ne_true]; omega, by omega⟩
      have lnc := List.length_drop (i := i0 + c) (l := ls)
      refine sl_drop (i0 + c) hc eD4 fun A4 G5 s4 n4 e4 => ?_
      refine catL (s4 _ _ e3) e4 (by rw [List.length_append]; show _ + 1 + _ ≤ _; omega) fun A5 G6 s5 n5 e5 => ?_
      exact fin (bb.trans (Bt.same (s4.trans s5) bb.2)) (bb.trans (Bt.same s4 bb.2)) n5 e5 (by intro _; rw [List.length_append, List.length_append]; show 1 ≤ _ + 1 + _; omega)
        (fun x hx => (List.mem_append.mp hx).elim (fun h => (List.mem_append.mp h).elim (et _ x) fun h => by rw [List.mem_singleton.mp h]; exact llx) (ed _ x)) (by rw [List.length_append, List.length_append]; show _ + 1 + _ ≤ _; omega)
    dsimp only
    refine ⟨_, rfl, ?_⟩
    dsimp only [tNoPart]
    refine ⟨_, rfl, _, _, rfl, rfl, _, rfl, sl_take (i0 + 1) rfl eDG fun A1 G1 s1 n1 e1 => ?_⟩
    refine ⟨_, rfl, _, rfl, _, rfl, _, rfl, _, _, rfl, rfl, _, rfl, sl_one i0 rfl rfl hi0 (s1 _ _ eDG) fun A2 G2 s2 n2 e2 => ?_⟩
    have s12 := s1.trans s2
    refine draw_of rfl (sameAt s12 hpG) (by decide) (by decide +kernel) fun j G3 j0 j1 b3 => ?_
    obtain ⟨m, rfl⟩ := Int.eq_ofNat_of_zero_le j0
    have ne1 := at_ne hpG n1
    have ne2 := at_ne (sameAt s1 hpG) n2
    have eone : (ls.drop i0).take 1 = [ln] := by
      rw [List.drop_eq_getElem_cons hi0]
      have := (List.getElem?_eq_some_iff.mp hln).2
      rw [this]
      rfl
    rw [eone] at e2
    refine ⟨A2, _, _, rfl, rfl, bt_lst b3 ne2 e2, by omega, by omega, ten (by show 1 * _ ≤ _; omega), fun A3 h3 => ?_⟩
    have s3 := of_upd (o := .lst (List.replicate (10 + (m : Int)).toNat (sv [ln])).flatten) h3
    have e3 : upd G3 A3 (.lst (List.replicate (10 + (m : Int)).toNat (sv [ln])).flatten) A3 = some (.lst (sv (List.replicate (10 + m) ln))) := by
      rw [upd_same, show (10 + (m : Int)).toNat = 10 + m by omega]
      unfold sv
      rw [List.map_replicate]
      simp
    have bb := (Bt.same s12 hpG).trans (b3.trans (Bt.same s3 b3.2))
    have e1' := s3 _ _ (bt_lst b3 ne1 (s2 _ _ e1))
    have e3' := e3
    generalize upd G3 A3 (.lst (List.replicate (10 + (m : Int)).toNat (sv [ln])).flatten) = G4 at s3 e3 bb e1' ⊢
    have lrep : (List.replicate (10 + m) ln).length = 10 + m := List.length_replicate ..
    refine catL e1' e3 (by omega) fun A4 G5 s4 n4 e4 => ?_
    have b5 := bb.trans (Bt.same s4 bb.2)
    have eD5 := bt_lst b5 neD eDG
    refine ⟨_, rfl, _, rfl, _, _, rfl, rfl, _, rfl, ?_⟩
    dsimp only [tNoPart]
    refine sl_drop (i0 + 1) rfl eD5 fun A5 G6 s5 n5 e5 => ?_
    refine catL (s5 _ _ e4) e5 (by rw [List.length_append]; omega) fun A6 G7 s6 n6 e6 => ?_
    exact fin (b5.trans (Bt.same (s5.trans s6) b5.2)) (b5.trans (Bt.same s5 b5.2)) n6 e6 (by intro _; rw [List.length_append, List.length_append]; omega)
      (fun x hx => (List.mem_append.mp hx).elim (fun h => (List.mem_append.mp h).elim (et _ x) fun h => by rw [List.eq_of_mem_replicate h]; omega) (ed _ x)) (by rw [List.length_append, List.length_append]; omega)
end
end CP

end
section
set_option autoImplicit false
set_option Elab.async false
set_option linter.all false
set_option maxRecDepth 100000
set_option maxHeartbeats 4000000
/-! ## great texts -/
namespace CP
open PySem L2 G Y
open TL TX
/-- lists of texts, none of them the stream -/
inductive RfA (H : Hp) (p : Addr) : List V → Prop
  | nil : RfA H p []
  | cons {a : Addr} {ls : List (List Nat)} {vs : List V} : a ≠ p → H a = some (.lst (sv ls)) → Sml 200 300 ls → RfA H p vs → RfA H p (.ref a :: vs)
theorem RfA.bt {H H' : Hp} {p : Addr} (b : Y.Bt p H H') {vs : List V} (h : RfA H p vs) : RfA H' p vs := by
  induction h with
  | nil => exact .nil
  | cons n e s _ ih => exact .cons n (bt_lst b n e) s ih
theorem RfA.app {H : Hp} {p : Addr} {vs us : List V} (h : RfA H p vs) (g : RfA H p us) : RfA H p (vs ++ us) := by
  induction h with
  | nil => exact g
  | cons n e s _ ih => exact .cons n e s ih
theorem RfA.get {H : Hp} {p : Addr} {vs : List V} (h : RfA H p vs) : ∀ {v : V}, v ∈ vs → ∃ a ls, v = .ref a ∧ a ≠ p ∧ H a = some (.lst (sv ls)) ∧ Sml 200 300 ls := by
  induction h with
  | nil => intro v hv; cases hv
  | cons n e s _ ih =>
    intro v hv
    rcases List.mem_cons.mp hv with z | z
    · exact ⟨_, _, z, n, e, s⟩
    · exact ih z
section
variable {P : Program} {w : World} {K : PySem.W.Frag} {mg : Str → Option Value} {base : Heap} {CR CB CW CE : Addr}
def spGreat : Sp := fun vs H Q _ => ∃ p, vs = [.ref p] ∧ S.At H p ∧ ∀ D H' us, Y.Bt p H H' → D ≠ p → H' D = some (.lst us) → RfA H' p us → us.length = 3 → Q (.ref D) H'
theorem newS {G : Hp} {A : Addr} (xs : List Str) : upd G A (.lst (xs.map V.str)) A = some (.lst (sv (xs.map tl))) := by
  rw [upd_same, sv_tl]
theorem lit {b n : Nat} (xs : List Str) (h : (xs.map tl).all (fun l => decide (l.length ≤ b)) = true) (h2 : xs.length ≤ n) : Sml b n (xs.map tl) := ⟨fun l hl => of_decide_eq_true (List.all_eq_true.mp h l hl), by rw [List.length_map]; exact h2⟩
theorem ok_great {f : Addr} {fd : FuncData} (F : Fun K "_law_great" "_law_great" sGreat f fd) (B : Bn mg) (DD : Df P w K mg base 1 "_law_draw" ["stream", "size"] S.spDraw) (DC : Df P w K mg base 2 "_law_choose" ["stream", "items"] (S.spChoose K)) : FnOk P w K mg base CX0 3 f fd ["stream"] spGreat := by
  obtain ⟨fD, fdD, GD, gD, kD, bD⟩ := DD.ex
  obtain ⟨fC, fdC, GC, gC, kC, bC⟩ := DC.ex
  refine F.ok scGr (fun vs H Q E h => ?_) (fun cdv A outer s H vs Q E hr h => ?_)
  · obtain ⟨p, rfl, _⟩ := h
    rfl
  · obtain ⟨p, rfl, hp, kk⟩ := h
    refine ⟨_, pss_cons (ps_set (i := 1) scGr.nd rfl (Or.inl rfl) (pe_op (op_cat) (pe_lst (pa_cons (pe_str) pa_nil)) (pe_op (op_rep) (pe_lst (pa_cons (pe_str) pa_nil)) (pe_op (op_add) (pe_int) (pe_call GD (hr.mono (by omega)) rfl gD kD bD .nil pass0 (pa_cons (pv 0) (pa_cons (pe_int) pa_nil)))))))
      (pss_cons (ps_set (i := 2) scGr.nd rfl (Or.inl rfl) (pe_lst (pa_cons (pe_str) pa_nil)))
      (pss_cons (ps_for PassesOwn.never rfl (pi_range1 (by rfl) B.range (pa_cons (pe_int) pa_nil)) (pg_name (i := 3) scGr.nd rfl (Or.inl rfl)) (pss_one (ps_set (i := 2) scGr.nd rfl (Or.inl rfl) (pe_op (op_cat) (pe_op (op_cat) (pv 2) (pe_lst (pa_cons (pe_str) pa_nil))) (pe_lc (own := [("line", 5)]) (g := gName 5) (tt := tYes) (te := tOp rAdS (tC (.str "  ")) (tVar 5)) rfl scGr.nd (pi_list (pv 1)) (blkOk_by (N := NGr) (sc := defScope sGreat) (by decide +kernel))
          (fun _ _ _ _ _ => by exact pg_name (i := 5) scGr.nd rfl (Or.inl rfl)) (fun _ _ _ _ _ => pts_nil) (fun _ _ _ _ _ => by exact pe_op (op_adS) (pe_str) (pv 5)))))))
      (pss_cons (ps_set (i := 4) scGr.nd rfl (Or.inl rfl) (pe_lst (pa_cons (pe_str) (pa_cons (pe_str) (pa_cons (pe_str) (pa_cons (pe_str) (pa_cons (pe_str) pa_nil)))))))
      (pss_cons (ps_set (i := 4) scGr.nd rfl (Or.inl rfl) (pe_op (op_cat) (pv 4) (pe_call GC (hr.mono (by omega)) rfl gC kC bC .nil pass0 (pa_cons (pv 0) (pa_cons (pe_lst (pa_cons (pe_lst (pa_cons (pe_str) pa_nil)) (pa_cons (pe_lst (pa_cons (pe_str) pa_nil)) (pa_cons (pe_lst (pa_cons (pe_str) (pa_cons (pe_str) pa_nil))) pa_nil)))) pa_nil)))))
      (pss_one (ps_ret (pe_lst (pa_cons (pe_op (op_cat) (pv 2) (pe_lst (pa_cons (pe_str) pa_nil))) (pa_cons (pe_op (op_cat) (pv 2) (pe_lst (pa_cons (pe_str) (pa_cons (pe_str) (pa_cons (pe_str) pa_nil))))) (pa_cons (pe_op (op_cat) (pv 4) (pe_lst (pa_cons (pe_str) (pa_cons (pe_str) pa_nil)))) pa_nil)))))))))), ?_⟩
    have ten : ∀ {n : Nat}, n ≤ 100000 → n ≤ sizeLine := fun h => Nat.le_trans h (by decide)
    refine set_then (i := 1) ⟨ten (by decide), fun D1 h1 => ⟨ten (by decide), fun D2 h2 => ?_⟩⟩
    have s1 := of_upd (o := .lst [V.str "head 3"]) h1
    have e1 : upd H D1 (.lst [V.str "head 3"]) D1 = some (.lst [V.str "head 3"]) := upd_same
    have ne1 := at_ne hp h1
    generalize upd H D1 (.lst [V.str "head 3"]) = G1 at s1 e1 h2 ⊢
    have s2 := of_upd (o := .lst [V.str "join 2"]) h2
    have e2 : upd G1 D2 (.lst [V.str "join 2"]) D2 = some (.lst [V.str "join 2"]) := upd_same
    have ne2 := at_ne (sameAt s1 hp) h2
    have e1' := s2 _ _ e1
    generalize upd G1 D2 (.lst [V.str "join 2"]) = G2 at s2 e2 e1' ⊢
    have s12 := s1.trans s2
    refine draw_of rfl (sameAt s12 hp) (by decide) (by decide +kernel) fun j G3 j0 j1 b3 => ?_
    obtain ⟨m, rfl⟩ := Int.eq_ofNat_of_zero_le j0
    refine ⟨D2, _, _, rfl, rfl, bt_lst b3 ne2 e2, by omega, by omega, ten (by show 1 * _ ≤ _; omega), fun D3 h3 => ?_⟩
    have s3 := of_upd (o := .lst (List.replicate (11 + (m : Int)).toNat [V.str "join 2"]).flatten) h3
    have e3 : upd G3 D3 (.lst (List.replicate (11 + (m : Int)).toNat [V.str "join 2"]).flatten) D3 = some (.lst (sv (List.replicate (11 + m) (tl "join 2")))) := by
      rw [upd_same, show (11 + (m : Int)).toNat = 11 + m by omega]
      unfold sv
      rw [List.map_replicate, S_tl]
      simp
    have b4 := (Bt.same s12 hp).trans (b3.trans (Bt.same s3 b3.2))
    have e1'' : upd G3 D3 (.lst (List.replicate (11 + (m : Int)).toNat [V.str "join 2"]).flatten) D1 = some (.lst (sv [tl "head 3"])) := by
      rw [s3 _ _ (bt_lst b3 ne1 e1')]
      show _ = some (HO.lst [V.str (TX.S (tl "head 3"))])
      rw [S_tl]
    generalize upd G3 D3 (.lst (List.replicate (11 + (m : Int)).toNat [V.str "join 2"]).flatten) = G4 at s3 e3 b4 e1'' ⊢
    refine catL e1'' e3 (by rw [List.length_replicate]; show 1 + _ ≤ _; omega) fun I G5 s5 n5 e5 => ?_
    have b5 := b4.trans (Bt.same s5 b4.2)
    have neI := at_ne b4.2 n5
    have smI : Sml 6 14 ([tl "head 3"] ++ List.replicate (11 + m) (tl "join 2")) := by
      refine sml_of (fun x hx => ?_) (fun x hx => ?_) (by rw [List.length_replicate]; show 1 + _ ≤ _; omega)
      · rw [List.mem_singleton.mp hx]
        decide +kernel
      · rw [List.eq_of_mem_replicate hx]
        decide +kernel
    generalize [tl "head 3"] ++ List.replicate (11 + m) (tl "join 2") = li at e5 smI
    have lI := smI.ln
    clear s3 e3 e1'' s1 s2 s12 b3 e1 e2 e1' h1 h2 h3 b4 n5 s5
    dsimp only
    refine set_then (i := 2) ⟨ten (by decide), fun F1 h6 => ?_⟩
    have s6 := of_upd (o := .lst [V.str "head 5"]) h6
    have e6 : upd G5 F1 (.lst [V.str "head 5"]) F1 = some (.lst (sv [tl "head 5"])) := by
      rw [upd_same]
      show _ = some (HO.lst [V.str (TX.S (tl "head 5"))])
      rw [S_tl]
    have b6 := b5.trans (Bt.same s6 b5.2)
    have eI6 := s6 _ _ e5
    have hp6 := sameAt s6 b5.2
    have ne6 := at_ne b5.2 h6
    generalize upd G5 F1 (.lst [V.str "head 5"]) = G6 at s6 e6 b6 eI6 hp6 ⊢
    dsimp only
    refine ⟨3, rfl, by decide, by decide, for_range (n := 3) (fun i σ G => Same G6 G ∧ ∃ Fa lf q3 q4 q5, G Fa = some (.lst (sv lf)) ∧ Fa ≠ p ∧ Sml 14 (1 + 15 * i) lf ∧ σ = [some (.ref p), some (.ref I), some (.ref Fa), q3, q4, q5])
      ⟨Same.refl _, F1, _, _, _, _, e6, ne6, ⟨(fun x hx => by rw [List.mem_singleton.mp hx]; decide +kernel), by simp⟩, rfl⟩ ?_ ?_⟩
    · rintro i σ G hi ⟨s7, Fa, lf, q3, q4, q5, eF, neF, smF, rfl⟩
      dsimp only
      have hpG := sameAt s7 hp6
      have lF := smF.ln
      refine ⟨_, rfl, ten (by decide), fun A1 h1 => ?_⟩
      have t1 := of_upd (o := .lst [V.str "tunnel 4 turn"]) h1
      have f1 : upd G A1 (.lst [V.str "tunnel 4 turn"]) A1 = some (.lst (sv [tl "tunnel 4 turn"])) := by
        rw [upd_same]
        show _ = some (HO.lst [V.str (TX.S (tl "tunnel 4 turn"))])
        rw [S_tl]
      generalize upd G A1 (.lst [V.str "tunnel 4 turn"]) = H1 at t1 f1 ⊢
      refine catL (t1 _ _ eF) f1 (by show _ + 1 ≤ _; omega) fun A2 H2 t2 n2 f2 => ?_
      have t12 := t1.trans t2
      have fI := t12 _ _ (s7 _ _ eI6)
      refine ⟨_, rfl, I, rfl, ⟨_, SqL.of fI⟩, fun A3 h3 => ?_⟩
      refine lc_it walk_list (fun i G => Same H2 G ∧ ∃ lx, G A3 = some (.lst (sv lx)) ∧ Sml 8 i lx) ⟨of_upd h3, [], upd_same, ⟨(fun l h => by cases h), by simp⟩⟩ (fun i G _ z => SqL.of (z.1 _ _ fI)) ?_ ?_
      · rintro i2 x G3 G4 hi2 ⟨u1, lx, g1, sx⟩ ⟨rfl, hx⟩
        obtain ⟨l, hl, rfl⟩ := sv_get hx
        have ll := smI.el l (List.mem_of_getElem? hl)
        have lS : (TX.S l).length = l.length := S_len l
        have q4 : ("  " : Str).length = 2 := by decide +kernel
        have q1 := len_ap "  " (TX.S l)
        have lxn := sx.ln
        have hi3 : i2 < li.length := by rw [← sv_len]; exact hi2
        refine ⟨rfl, _, rfl, _, _, rfl, rfl, ten (by omega), ?_⟩
        refine ⟨_, g1, small1000000 (by rw [sv_len]; omega), add_upd h3 u1, lx ++ [tl ("  " ++ TX.S l)], ?_, sml_of (fun x hx => sx.el x hx) (fun x hx => by rw [List.mem_singleton.mp hx, ← len_tl]; omega) (by show _ + 1 ≤ _; omega)⟩
        rw [upd_same, sv_app]
        show some (HO.lst (sv lx ++ [V.str ("  " ++ TX.S l)])) = some (HO.lst (sv lx ++ [V.str (TX.S (tl ("  " ++ TX.S l)))]))
        rw [S_tl]
      · rintro G3 ⟨u1, lx, g1, sx⟩
        have lxn := sx.ln
        rw [sv_len] at lxn
        have hp2 := sameAt (t12.trans u1) hpG
        refine catL (u1 _ _ f2) g1 (by rw [List.length_append]; show _ + 1 + _ ≤ _; omega) fun A4 G4 t4 n4 f4 => ?_
        refine ⟨s7.trans ((t12.trans u1).trans t4), A4, _, _, _, _, f4, at_ne hp2 n4, ?_, rfl⟩
        refine sml_of (fun x hx => (List.mem_append.mp hx).elim (smF.el x) fun h => by rw [List.mem_singleton.mp h]; decide +kernel) (fun x hx => Nat.le_trans (sx.el x hx) (by decide)) (by rw [List.length_append]; show _ + 1 + _ ≤ _; omega)
    · rintro σ G ⟨s7, Fa, lf, q3, q4, q5, eF, neF, smF, rfl⟩
      have hp7 := sameAt s7 hp6
      have b7 := b6.trans (Bt.same s7 b6.2)
      have lF := smF.ln
      dsimp only
      refine set_then (i := 4) ⟨ten (by decide), fun A1 h1 => ?_⟩
      have t1 := of_upd (o := .lst [V.str "head 1", V.str "tunnel 1 keep", V.str "  head 2", V.str "  tunnel 2 lose", V.str "    head 3"]) h1
      have f1 : upd G A1 (.lst [V.str "head 1", V.str "tunnel 1 keep", V.str "  head 2", V.str "  tunnel 2 lose", V.str "    head 3"]) A1 = some (.lst (sv ((["head 1", "tunnel 1 keep", "  head 2", "  tunnel 2 lose", "    head 3"] : List Str).map tl))) := newS ["head 1", "tunnel 1 keep", "  head 2", "  tunnel 2 lose", "    head 3"]
      generalize upd G A1 (.lst [V.str "head 1", V.str "tunnel 1 keep", V.str "  head 2", V.str "  tunnel 2 lose", V.str "    head 3"]) = K1 at t1 f1 ⊢
      have eF1 := t1 _ _ eF
      dsimp only
      refine set_then (i := 4) ⟨_, rfl, _, rfl, ten (by decide), fun A2 h2 => ⟨ten (by decide), fun A3 h3 => ⟨ten (by decide), fun A4 h4 => ⟨ten (by show 3 ≤ _; decide), fun L hL => ?_⟩⟩⟩⟩
      have t2 := of_upd (o := .lst [V.str "    join 1"]) h2
      have f2 : upd K1 A2 (.lst [V.str "    join 1"]) A2 = some (.lst (sv ((["    join 1"] : List Str).map tl))) := newS ["    join 1"]
      generalize upd K1 A2 (.lst [V.str "    join 1"]) = K2 at t2 f2 h3 h4 hL ⊢
      have t3 := of_upd (o := .lst [V.str "    tunnel 1 turn"]) h3
      have f3 : upd K2 A3 (.lst [V.str "    tunnel 1 turn"]) A3 = some (.lst (sv ((["    tunnel 1 turn"] : List Str).map tl))) := newS ["    tunnel 1 turn"]
      generalize upd K2 A3 (.lst [V.str "    tunnel 1 turn"]) = K3 at t3 f3 h4 hL ⊢
      have t4 := of_upd (o := .lst [V.str "    join 1", V.str "    tunnel 1 turn"]) h4
      have f4 : upd K3 A4 (.lst [V.str "    join 1", V.str "    tunnel 1 turn"]) A4 = some (.lst (sv ((["    join 1", "    tunnel 1 turn"] : List Str).map tl))) := newS ["    join 1", "    tunnel 1 turn"]
      generalize upd K3 A4 (.lst [V.str "    join 1", V.str "    tunnel 1 turn"]) = K4 at t4 f4 hL ⊢
      have hp1 := sameAt t1 hp7
      have hp2 := sameAt t2 hp1
      have hp3 := sameAt t3 hp2
      have hp4 := sameAt t4 hp3
      have m2 := at_ne hp1 h2
      have m3 := at_ne hp2 h3
      have m4 := at_ne hp3 h4
      have m1 := at_ne hp7 h1
      have t234 := (t2.trans t3).trans t4
      dsimp only [tNil, List.cons_append, List.nil_append]
      refine choose_new (E := E0) (xs := [V.ref A2, V.ref A3, V.ref A4]) hp4 hL (by show 1 ≤ 3; decide) (by show 3 ≤ 1000; decide) fun x K5 hx c5 => ?_
      obtain ⟨X, lx, rfl, eX, smX⟩ : ∃ X lx, x = .ref X ∧ K5 X = some (.lst (sv lx)) ∧ Sml 20 2 lx := by
        simp only [List.mem_cons, List.mem_nil_iff, or_false] at hx
        rcases hx with rfl | rfl | rfl
        · exact ⟨A2, _, rfl, bt_lst c5 m2 (t4 _ _ (t3 _ _ f2)), lit _ (by decide +kernel) (by decide)⟩
        · exact ⟨A3, _, rfl, bt_lst c5 m3 (t4 _ _ f3), lit _ (by decide +kernel) (by decide)⟩
        · exact ⟨A4, _, rfl, bt_lst c5 m4 f4, lit _ (by decide +kernel) (by decide)⟩
      have eF5 := bt_lst c5 neF (t234 _ _ eF1)
      have eD5 := bt_lst c5 m1 (t234 _ _ f1)
      have b8 := (b7.trans (Bt.same (t1.trans t234) hp7)).trans c5
      have smD : Sml 20 5 ((["head 1", "tunnel 1 keep", "  head 2", "  tunnel 2 lose", "    head 3"] : List Str).map tl) := lit _ (by decide +kernel) (by decide)
      have lD := smD.ln
      have lX := smX.ln
      generalize (["head 1", "tunnel 1 keep", "  head 2", "  tunnel 2 lose", "    head 3"] : List Str).map tl = ld at eD5 smD lD
      refine catL eD5 eX (by omega) fun Y1 K6 t6 n6 f6 => ?_
      have smY : Sml 20 7 (ld ++ lx) := sml_of smD.el smX.el (by omega)
      generalize ld ++ lx = ly at f6 smY
      have lY := smY.ln
      have eF6 := t6 _ _ eF5
      have b9 := b8.trans (Bt.same t6 b8.2)
      clear f1 f2 f3 f4 t1 t2 t3 t4 t234 eF1 h1 h2 h3 h4 hL c5
      try dsimp only
      -- the three texts
      refine ⟨_, rfl, ten (by decide), fun A1 h1 => ?_⟩
      have t1 := of_upd (o := .lst [V.str "join 1"]) h1
      have f1 : upd K6 A1 (.lst [V.str "join 1"]) A1 = some (.lst (sv ((["join 1"] : List Str).map tl))) := newS ["join 1"]
      generalize upd K6 A1 (.lst [V.str "join 1"]) = K7 at t1 f1 ⊢
      refine catL (t1 _ _ eF6) f1 (by show _ + 1 ≤ _; omega) fun B1 K8 t8 n8 f8 => ?_
      have u1 := t1.trans t8
      refine ⟨_, rfl, ten (by decide), fun A2 h2 => ?_⟩
      have t2 := of_upd (o := .lst [V.str "tunnel 1 turn", V.str "  head 1", V.str "  join 1"]) h2
      have f2 : upd K8 A2 (.lst [V.str "tunnel 1 turn", V.str "  head 1", V.str "  join 1"]) A2 = some (.lst (sv ((["tunnel 1 turn", "  head 1", "  join 1"] : List Str).map tl))) := newS ["tunnel 1 turn", "  head 1", "  join 1"]
      generalize upd K8 A2 (.lst [V.str "tunnel 1 turn", V.str "  head 1", V.str "  join 1"]) = K9 at t2 f2 ⊢
      refine catL (t2 _ _ (u1 _ _ eF6)) f2 (by show _ + 3 ≤ _; omega) fun B2 K10 t10 n10 f10 => ?_
      have u2 := t2.trans t10
      refine ⟨_, rfl, ten (by decide), fun A3 h3 => ?_⟩
      have t3 := of_upd (o := .lst [V.str "  join 1", V.str "join 1"]) h3
      have f3 : upd K10 A3 (.lst [V.str "  join 1", V.str "join 1"]) A3 = some (.lst (sv ((["  join 1", "join 1"] : List Str).map tl))) := newS ["  join 1", "join 1"]
      generalize upd K10 A3 (.lst [V.str "  join 1", V.str "join 1"]) = K11 at t3 f3 ⊢
      have u12 := u1.trans u2
      refine catL (t3 _ _ (u12 _ _ f6)) f3 (by show _ + 2 ≤ _; omega) fun B3 K12 t12 n12 f12 => ?_
      have u3 := t3.trans t12
      refine ⟨ten (by show 3 ≤ _; decide), fun R hR => ?_⟩
      have t13 := of_upd (o := .lst [V.ref B1, V.ref B2, V.ref B3]) hR
      have q9 := b9.2
      have q1 := sameAt t1 q9
      have q2 := sameAt u1 q9
      have q3' := sameAt (u1.trans t2) q9
      have q4' := sameAt u12 q9
      have q5' := sameAt (u12.trans t3) q9
      have q6' := sameAt (u12.trans u3) q9
      have up : ∀ {l : List (List Nat)} {xs : List Str}, Sml 20 60 l → ((xs.map tl).all (fun l => decide (l.length ≤ 200)) = true) → xs.length ≤ 10 → Sml 200 300 (l ++ xs.map tl) := fun h g k => sml_of (fun x hx => Nat.le_trans (h.el x hx) (by decide)) (fun x hx => of_decide_eq_true (List.all_eq_true.mp g x hx)) (by have := h.ln; rw [List.length_map]; omega)
      refine kk R _ _ (b9.trans (Bt.same ((u12.trans u3).trans t13) q9)) (at_ne q6' hR) upd_same ?_ rfl
      refine .cons (at_ne q1 n8) (t13 _ _ (u3 _ _ (u2 _ _ f8))) (up (smF.up (by decide) (by omega)) (by decide +kernel) (by decide)) ?_
      refine .cons (at_ne q3' n10) (t13 _ _ (u3 _ _ f10)) (up (smF.up (by decide) (by omega)) (by decide +kernel) (by decide)) ?_
      exact .cons (at_ne q5' n12) (t13 _ _ f12) (up (smY.up (by decide) (by omega)) (by decide +kernel) (by decide)) .nil
end
end CP

end
section
set_option autoImplicit false
set_option Elab.async false
set_option linter.all false
set_option maxRecDepth 100000
set_option maxHeartbeats 4000000
/-! ## the law -/
namespace G
open PySem PySem.Spec PyProof.Rows L2
section
variable {X : Cx} {CX : CXT} {k : Nat} {f : Addr} {fd : FuncData} {ps : List Str} {sp : Sp} {E : XK} {x : Str} {p pos : Pos} {e : Expr} {es : List Expr} {t : TA}
theorem go_fn {pins : List (Addr × Obj)} {σ : L2.St} {H : Hp} {s : Shared} {Q : VK} {us : List Value} {vs : List V} (hg : X.A.guards = some []) (F : Ok X.prog X.w X.K X.mg X.base CX k f fd ps sp) (hr : Room k X.A) (hb : Binds X.K fd ps [])
    (hx : Passes CX X E) (I : Inv X pins σ H s) (rv : Vals vs us) (h : sp vs H Q E) : wpAny (model X.prog X.w) X.A (call (.ref f) us) (EP X pins σ Q) X.xe s := by
  have b := hb s us I.kIn (by rw [List.append_nil, ← rv.length]; exact F.len _ _ _ _ h)
  rw [List.append_nil] at b
  refine wpAny_call (codeAny_mono (F.go X.A hg X.stack s H ⟨us, []⟩ us vs Q E hr I.env0 b rv h) ?_)
  intro r s' z
  match r, z with
  | .error e, z => exact hx pins σ H s e s' I z
  | .ok (.ret u), z => exact I.after z
  | .ok .next, z => exact z.elim
  | .ok .brk, z => exact z.elim
  | .ok .cont, z => exact z.elim
theorem pe_callG (hgu : X.A.guards = some []) (F : Ok X.prog X.w X.K X.mg X.base CX k f fd ps sp) (hr : Room k X.A) (hl : Gl X x) (hm : X.mg x = some (.ref f)) (hk : PySem.W.keepIn X.K (.ref f) = true) (hb : Binds X.K fd ps []) (hx : Passes CX X E)
    (ha : PA X (e :: es) t) (hdb : (x == ("__debug__" : Str)) = false := by decide) (he : starEach (e :: es) X.env = (false, eval e X.env) :: starEach es X.env := by rfl) (hpl : (backTo pos (starEach es X.env)).any (·.1) = false := by rfl) :
    PE X (.Call (.Name x p) (e :: es) [] pos) (tCall sp [] E t) := ⟨fun pins s σ H Q I h =>
  wpAny_Call_Name_kw (ld_glob I hl hm (PySem.W.callWith_K (h₀ := X.base) I.ok.mod.kin hk (thn (ha.run pos pins s σ H _ I h) fun us s1 ⟨vs, H1, I1, r, q⟩ => ⟨I1.kIn,
    go_fn hgu F hr hb hx I1 r ((congrArg (fun z => sp z H1 Q E) (List.append_nil vs)).mp q)⟩) he hpl) hdb)⟩
end
structure Du (P : Program) (w : World) (K : PySem.W.Frag) (mg : Str → Option Value) (base : Heap) (k : Nat) (x : Str) (ps : List Str) (sp : Sp) : Prop where
  ex : ∃ (f : Addr) (fd : FuncData), Ok P w K mg base CX0 k f fd ps sp ∧ mg x = some (.ref f) ∧ PySem.W.keepIn K (.ref f) = true ∧ Binds K fd ps []
end G
namespace CP
open PySem L2 G Y QR
open TL TX
abbrev sLaw : Stmt := S.top 59
theorem tyX_mono {K : PySem.W.Frag} {H H' : Hp} (s : Same H H') {v : V} {t : Value} (h : TyX K H v t) : TyX K H' v t := by
  cases h with
  | base b =>
    refine .base ?_
    cases b with
    | non => exact .non
    | bl x => exact .bl x
    | int i => exact .int i
    | str x => exact .str x
    | flt x => exact .flt x
    | lst e => exact .lst (s _ _ e)
    | frz e => exact .frz (s _ _ e)
    | tup e => exact .tup (s _ _ e)
    | dK e => exact .dK (s _ _ e)
    | dT e => exact .dT (s _ _ e)
    | ins e cl ha hn htk hm => exact .ins (s _ _ e) cl ha hn htk hm
  | byt b => exact .byt b
  | set e => exact .set (s _ _ e)
  | kList e c => exact .kList e c
  | kTuple e c => exact .kTuple e c
  | kDict e c => exact .kDict e c
  | fTuple e => exact .fTuple (s _ _ e)
  | fDict e => exact .fDict (s _ _ e)
theorem NS.mono {K : PySem.W.Frag} {H H' : Hp} (s : Same H H') {v : V} (h : NS K H v) : NS K H' v := by
  obtain ⟨t, a, b⟩ := h
  exact ⟨t, tyX_mono s a, b⟩
theorem lines_pos : ∀ s : List M.Step, 1 ≤ s.length → 1 ≤ (Step.linesAll s).length
  | [], h => absurd h (by decide)
  | y :: r, _ => by
    have e : Step.linesAll (y :: r) = Step.lines y ++ Step.linesAll r := by conv => lhs; unfold Step.linesAll
    rw [e, List.length_append]
    cases y <;> (unfold Step.lines; rw [List.length_cons]; omega)
/-- none of these is the list at D -/ 
def Av (D : Addr) (us : List V) : Prop := ∀ v ∈ us, v ≠ .ref D
theorem RfA.av {H : Hp} {p D : Addr} {us : List V} (h : RfA H p us) (hD : H D = none) : Av D us := by
  intro v hv e
  obtain ⟨a, ls, e2, _, e3, _⟩ := h.get hv
  rw [e2] at e
  cases e
  rw [hD] at e3
  cases e3
theorem RfA.upd {H : Hp} {p D : Addr} {o : HO} {us : List V} (h : RfA H p us) (a : Av D us) : RfA (L2.upd H D o) p us := by
  induction h with
  | nil => exact .nil
  | @cons b ls vs n e s _ ih =>
    have nb : b ≠ D := fun z => a _ List.mem_cons_self (by rw [z])
    exact .cons n (by rw [upd_ne nb]; exact e) s (ih fun v hv => a v (List.mem_cons_of_mem _ hv))
section
variable {P : Program} {w : World} {K : PySem.W.Frag} {mg : Str → Option Value} {base : Heap} {CR CB CW CE : Addr}
abbrev NLa : List Str := ["script", "start", "stream", "plan", "lines", "some", "bent", "text", "value", "line", "turn"]
theorem scLa : FnScope NLa ["script"] (defScope sLaw) := ⟨rfl, rfl, rfl, by decide +kernel, rfl, by decide +kernel, by decide +kernel⟩
def spLaw (K : PySem.W.Frag) : Sp := fun vs H Q _ => ∃ (a : Addr) (ns : List Int), vs = [.ref a] ∧ SqL K H a (ns.map V.int) ∧ ns.length ≤ 63 ∧ (∀ z ∈ ns, Builtin.Int.intBits z ≤ 1048576) ∧ ∀ H', Q (.bl true) H'
theorem joinL_small (ls : List (List Nat)) (h : Sml 200 300 ls) : (joinL [10] ls).length ≤ 60300 := by
  have := join_len (S := [10]) 200 1 (by decide) (ps := ls) h.el
  have := h.ln
  omega
theorem log_k {k : Nat} (h : k ≤ 10000000) : ((k : Nat) : Int).natAbs.log2 < 1920 := PySem.Flt.log2_lt_of (k := 1920) (by decide) (Nat.lt_of_lt_of_le (by omega : _ < 2 ^ 60) (Nat.pow_le_pow_right (by decide) (by decide)))
theorem told_le {x : List Nat} {k : Nat} (t : Told x k) (h : x.length ≤ 900000) : k ≤ 10000000 := by
  obtain ⟨ls, _, _, e, g⟩ := t.ex
  have a := g.le
  have b := join_many (c := 10) ls
  rw [e] at b
  omega
theorem ok_law {f : Addr} {fd : FuncData} (F : Fun K "law" "law" sLaw f fd) (B : Bn mg) (TW : WP.Wt K mg CW) (kW : PySem.W.kitOne K (.ref CW) (.type "str") = some false) (DU : Df P w K mg base 1 "_law_stream" ["script", "start"] (S.spSource K)) (DP : Df P w K mg base 10 "_law_plan" ["stream", "depth", "base"] (spLPlan 3)) (DY : Df P w K mg base 11 "_law_way" ["plan"] (spLWay CW 3))
    (DLl : Df P w K mg base 4 "_law_lines" ["plan", "lead"] (spLLines 3)) (DS : G.Du P w K mg base 1 "_law_same" ["one", "two"] (S.spSame K)) (DBl : Df P w K mg base 3 "_law_bent_lines" ["stream", "lines"] spBl) (DGr : Df P w K mg base 3 "_law_great" ["stream"] spGreat) (DRf : Df P w K mg base 11 "_law_refused" ["value"] (spRef81 K)) (DFb : Df P w K mg base 3 "_law_first_bad" ["text"] spFb)
    (DO : D0 P w K mg base 1 "_law_odd_lines" spOdd) (DN : D0 P w K mg base 1 "_law_number_lines" spNum) : G.Ok P w K mg base CX0 13 f fd ["script"] (spLaw K) := by
  obtain ⟨fU, fdU, GU, gU, kU, bU⟩ := DU.ex
  obtain ⟨fP, fdP, GP, gP, kP, bP⟩ := DP.ex
  obtain ⟨fY, fdY, GY, gY, kY, bY⟩ := DY.ex
  obtain ⟨fLl, fdLl, GLl, gLl, kLl, bLl⟩ := DLl.ex
  obtain ⟨fS, fdS, GS, gS, kS, bS⟩ := DS.ex
  obtain ⟨fBl, fdBl, GBl, gBl, kBl, bBl⟩ := DBl.ex
  obtain ⟨fGr, fdGr, GGr, gGr, kGr, bGr⟩ := DGr.ex
  obtain ⟨fRf, fdRf, GRf, gRf, kRf, bRf⟩ := DRf.ex
  obtain ⟨fFb, fdFb, GFb, gFb, kFb, bFb⟩ := DFb.ex
  obtain ⟨fO, fdO, GO, gO, kO, bO⟩ := DO.ex
  obtain ⟨fN, fdN, GN, gN, kN, bN⟩ := DN.ex
  refine G.mk F scLa (fun vs H Q E h => ?_) (fun cdv A outer s H vs Q E hg hr h => ?_)
  · obtain ⟨a, ns, rfl, _⟩ := h
    rfl
  · obtain ⟨a, ns, rfl, hS, hl, hb, k⟩ := h
    refine ⟨_, pss_cons (ps_for PassesOwn.never rfl (pi_range1 (by rfl) B.range (pa_cons (pe_callB (call_max2 rfl) (by rfl) B.max (by decide +kernel) (pa_cons (pe_int) (pa_cons (pe_callB (call_min2 rfl) (by rfl) B.min (by decide +kernel) (pa_cons (pe_int) (pa_cons (pe_callB call_len_seq (by rfl) B.len PySem.boot_len (pa_cons (pv 0) pa_nil)) pa_nil))) pa_nil))) pa_nil)) (pg_name (i := 1) scLa.nd rfl (Or.inl rfl)) (pss_cons (ps_set (i := 2) scLa.nd rfl (Or.inr rfl) (pe_call GU (hr.mono (by omega)) rfl gU kU bU .nil pass0 (pa_cons (pv 0) (pa_cons (pv 1) pa_nil))))
      (pss_cons (ps_set (i := 3) scLa.nd rfl (Or.inl rfl) (pe_call GP (hr.mono (by omega)) rfl gP kP bP .nil pass0 (pa_cons (pv 2) (pa_cons (pe_int) (pa_cons (pe_int) pa_nil)))))
      (pss_cons (ps_set (i := 4) scLa.nd rfl (Or.inr rfl) (pe_call GLl (hr.mono (by omega)) rfl gLl kLl bLl .nil pass0 (pa_cons (pv 3) (pa_cons (pe_str) pa_nil))))
      (pss_cons (ps_set (i := 5) scLa.nd rfl (Or.inl rfl) (pe_op (op_cat) (pe_lc (own := [("turn", 10)]) (g := gName 10) (tt := tYes) (te := tCall spBl [] E0 (tCons (tVar 2) (tCons (tVar 4) tNil))) rfl scLa.nd (pi_range1 (by rfl) B.range (pa_cons (pe_int) pa_nil)) (blkOk_by (N := NLa) (sc := defScope sLaw) (by decide +kernel))
          (fun _ _ _ _ _ => by exact pg_name (i := 10) scLa.nd rfl (Or.inl rfl)) (fun _ _ _ _ _ => pts_nil) (fun _ _ _ _ _ => by exact pe_call GBl (hr.mono (by omega)) rfl gBl kBl bBl .nil pass0 (pa_cons (pv 2) (pa_cons (pv 4) pa_nil)))) (pe_call GGr (hr.mono (by omega)) rfl gGr kGr bGr .nil pass0 (pa_cons (pv 2) pa_nil))))
      (pss_cons (ps_expr (pe_bm PySem.F.plainAttrs_list PySem.F.slot_list_append PySem.F.type_list_append mt_append (pv 5) (pa_cons (pe_call GBl (hr.mono (by omega)) rfl gBl kBl bBl .nil pass0 (pa_cons (pv 2) (pa_cons (pe_call GBl (hr.mono (by omega)) rfl gBl kBl bBl .nil pass0 (pa_cons (pv 2) (pa_cons (pv 4) pa_nil))) pa_nil))) pa_nil)))
      (pss_cons (ps_for PassesOwn.never rfl (pi_list (pv 5)) (pg_name (i := 6) scLa.nd rfl (Or.inl rfl)) (pss_cons (ps_set (i := 7) scLa.nd rfl (Or.inl rfl) (pe_join (pe_str) (pv 6)))
      (pss_one (ps_if (pt_not (pt_val (pe_callG hg GS (hr.mono (by omega)) rfl gS kS bS pass0 (pa_cons (pe_call GRf (hr.mono (by omega)) rfl gRf kRf bRf .nil pass0 (pa_cons (pv 7) pa_nil)) (pa_cons (pe_call GFb (hr.mono (by omega)) rfl gFb kFb bFb .nil pass0 (pa_cons (pv 7) pa_nil)) pa_nil))))) (pss_one (ps_ret (pe_bl))) (pss_nil)))))
      (pss_one (ps_for PassesOwn.never rfl (pi_list (pe_lst (pa_cons (pe_non) (pa_cons (pe_int) (pa_cons (pe_bl) (pa_cons (pe_lst pa_nil) (pa_cons (pv 4) (pa_cons (pe_tup (pa_cons (pe_str) (pa_cons (pe_str) pa_nil))) (pa_cons (pe_dnewK) (pa_cons (pe_tup pa_nil) (pa_cons (pe_lst (pa_cons (pe_str) pa_nil)) (pa_cons (pe_call GY (hr.mono (by omega)) rfl gY kY bY .nil pass0 (pa_cons (pv 3) pa_nil)) pa_nil)))))))))))) (pg_name (i := 8) scLa.nd rfl (Or.inl rfl)) (pss_one (ps_if (pt_cmpR (op_ne) (pe_call GRf (hr.mono (by omega)) rfl gRf kRf bRf .nil pass0 (pa_cons (pv 8) pa_nil)) (pe_int) (nomark _)) (pss_one (ps_ret (pe_bl))) (pss_nil))))))))))))
      (pss_cons (ps_set (i := 5) scLa.nd rfl (Or.inl rfl) (pe_lst (pa_cons (pe_str) (pa_cons (pe_str) (pa_cons (pe_str) pa_nil)))))
      (pss_cons (ps_for PassesOwn.never rfl (pi_list (pe_op (op_cat) (pe_call0 GO (hr.mono (by omega)) rfl gO kO bO .nil pass0) (pe_call0 GN (hr.mono (by omega)) rfl gN kN bN .nil pass0))) (pg_name (i := 9) scLa.nd rfl (Or.inl rfl)) (pss_cons (ps_set (i := 5) scLa.nd rfl (Or.inl rfl) (pe_op (op_cat) (pv 5) (pe_lst (pa_cons (pv 9) (pa_cons (pe_op (op_adS) (pv 9) (pe_str)) (pa_cons (pe_op (op_adS) (pe_str) (pv 9)) (pa_cons (pe_op (op_adS) (pe_str) (pv 9)) pa_nil)))))))
      (pss_cons (ps_expr (pe_bm PySem.F.plainAttrs_list PySem.F.slot_list_append PySem.F.type_list_append mt_append (pv 5) (pa_cons (pe_op (op_adS) (pe_op (op_adS) (pe_str) (pv 9)) (pe_str)) pa_nil)))
      (pss_one (ps_expr (pe_bm PySem.F.plainAttrs_list PySem.F.slot_list_append PySem.F.type_list_append mt_append (pv 5) (pa_cons (pe_op (op_adS) (pe_op (op_adS) (pe_str) (pv 9)) (pe_str)) pa_nil)))))))
      (pss_one (ps_ret (pe_notT (pe_lc (own := [("text", 7)]) (g := gName 7) (tt := tTest (tOp rNe (tCall (spRef81 K) [] E0 (tCons (tVar 7) tNil)) (tCall spFb [] E0 (tCons (tVar 7) tNil)))) (te := tVar 7) rfl scLa.nd (pi_list (pv 5)) (blkOk_by (N := NLa) (sc := defScope sLaw) (by decide +kernel))
          (fun _ _ _ _ _ => by exact pg_name (i := 7) scLa.nd rfl (Or.inl rfl)) (fun _ _ _ _ _ => pts_one (by exact pt_cmpR (op_ne) (pe_call GRf (hr.mono (by omega)) rfl gRf kRf bRf .nil pass0 (pa_cons (pv 7) pa_nil)) (pe_call GFb (hr.mono (by omega)) rfl gFb kFb bFb .nil pass0 (pa_cons (pv 7) pa_nil)) (nomark _))) (fun _ _ _ _ _ => by exact pv 7))))))), ?_⟩
    have ten : ∀ {n : Nat}, n ≤ 1000000 → n ≤ sizeLine := fun h => Nat.le_trans h (by decide)
    refine ⟨_, rfl, a, _, rfl, .inl hS, _, _, rfl, _, _, rfl, _, rfl, by split <;> omega, by split <;> (try split) <;> omega, for_range (n := Int.toNat _) (fun i σ G => Same H G ∧ ∃ q1 q2 q3 q4 q5 q6 q7 q8 q9 q10, σ = [some (.ref a), q1, q2, q3, q4, q5, q6, q7, q8, q9, q10])
      ⟨Same.refl H, _, _, _, _, _, _, _, _, _, _, rfl⟩ ?_ ?_⟩
    · rintro i σ G hi ⟨s0, q1, q2, q3, q4, q5, q6, q7, q8, q9, q10, rfl⟩
      dsimp only
      refine set_then (i := 2) ⟨_, rfl, _, rfl, a, ns, i, by show [V.ref a, V.int (0 + (i : Int))] = _; rw [Int.zero_add], ?_, s0.seq hS, hl, hb, fun p r m hp hf => ?_⟩
      · split at hi <;> (try split at hi) <;> omega
      have hp0 : H p = none := s0.free hp
      have s1 : Same H (L2.upd G p (.lst (S.Two r m))) := s0.trans (of_upd hp)
      have at1 : S.At (L2.upd G p (.lst (S.Two r m))) p := ⟨r, m, upd_same, hf⟩
      generalize L2.upd G p (.lst (S.Two r m)) = G1 at s1 at1 ⊢
      clear hp hf
      dsimp only
      refine set_then (i := 3) ⟨_, rfl, p, 2, 0, rfl, at1, by decide, by decide, by decide, fun wy v G3 b3 pl sm => ?_⟩
      have s3 := sameBt s1 hp0 b3
      have a3 := b3.2
      have hf := sm.fine
      have hd : wy.depth ≤ 3 := sm.dp
      clear b3 at1 s1
      dsimp only
      refine set_then (i := 4) ⟨_, rfl, v, wy, ("" : Str), rfl, pl, hf, hd, by decide +kernel, fun D G5 s5 n5 e5 => ?_⟩
      have e0 : (Way.lines wy).map (tl ("" : Str) ++ ·) = Way.lines wy := by
        rw [show tl ("" : Str) = [] by decide +kernel]
        show (Way.lines wy).map (fun l => [] ++ l) = _
        simp
      rw [e0] at e5
      obtain ⟨len1, len2⟩ := lines_len hf
      have two : 2 ≤ (Way.lines wy).length := by
        obtain ⟨wh, ws⟩ := wy
        have f := hf
        unfold M.Way.fine at f
        unfold Way.lines
        rw [List.length_cons]
        have := lines_pos ws (by omega)
        omega
      have neD := at_ne a3 n5
      have a5 := sameAt s5 a3
      have s5' := s3.trans s5
      have pl5 := pl.keep (same_keepT s5)
      have sm5 : Sml 60 81 (Way.lines wy) := ⟨len1, len2⟩
      generalize Way.lines wy = lw at e5 two sm5
      clear e0 len1 len2 n5 s5 s3 a3 pl
      dsimp only
      refine set_then (i := 5) ⟨8, rfl, by decide, by decide, fun C1 nC => ?_⟩
      have neC := at_ne a5 nC
      refine lc_range (lo := 0) (n := 8) (fun i G => Y.Bt p G5 G ∧ ∃ us, G C1 = some (.lst us) ∧ RfA G p us ∧ us.length = i ∧ Av C1 us) ⟨Bt.new (.lst []) a5 nC, [], upd_same, .nil, rfl, fun v hv => by cases hv⟩ ?_ ?_
      · rintro i4 G hi4 ⟨bG, us, e, rf, l4, av⟩
        refine ⟨rfl, _, rfl, _, rfl, p, D, lw, 60, 81, rfl, bG.2, neD, bt_lst bG neD e5, by omega, sm5, by decide, by decide, by decide, fun D2 G' l2 b ne fr e2 _ sm2 => ⟨_, bt_lst b neC e, small1000000 (by omega), ⟨fun x o nx ex => ?_, ?_⟩, us ++ [.ref D2], upd_same, ?_, by rw [List.length_append, List.length_singleton, l4], ?_⟩⟩
        · rw [upd_ne (fun z => by rw [z, nC] at ex; cases ex)]
          exact (bG.trans b).1 x o nx ex
        · obtain ⟨r, m, e1, f1⟩ := b.2
          exact ⟨r, m, by rw [upd_ne neC.symm]; exact e1, f1⟩
        · have d2 : D2 ≠ C1 := fun z => by rw [z, e] at fr; cases fr
          exact ((rf.bt b).upd av).app (.cons ne (by rw [upd_ne d2]; exact e2) (sm2.up (by decide) (by decide)) .nil)
        · intro v hv
          rcases List.mem_append.mp hv with z | z
          · exact av v z
          · rw [List.mem_singleton.mp z]
            intro h
            cases h
            rw [e] at fr
            cases fr
      rintro G6 ⟨b6, us, eC, rfC, lC, avC⟩
      refine ⟨_, rfl, p, rfl, b6.2, fun R G7 us2 b7 neR eR rfR lR => ?_⟩
      have eC7 := bt_lst b7 neC eC
      refine ⟨C1, R, _, _, rfl, rfl, eC7, eR, ten (by omega), fun S1 hS1 => ?_⟩
      have g8 := of_upd (o := .lst (us ++ us2)) hS1
      have e8 : L2.upd G7 S1 (.lst (us ++ us2)) S1 = some (.lst (us ++ us2)) := upd_same
      have hS0 : ¬ G5 S1 = some (.lst (sv lw)) := fun z => by
        by_cases e : S1 = p
        · exact at_ne b7.2 hS1 e
        · rw [bt_lst (b6.trans b7) e z] at hS1
          cases hS1
      have hS5 : G5 S1 = none := bt_none (b6.trans b7) (at_ne b7.2 hS1) hS1
      have av8 := ((rfC.bt b7).app rfR).av hS1
      have rf8 := ((rfC.bt b7).app rfR).bt (Bt.same g8 b7.2)
      have ne8 := at_ne b7.2 hS1
      have b8 := (b6.trans b7).trans (Bt.same g8 b7.2)
      generalize L2.upd G7 S1 (.lst (us ++ us2)) = G8 at g8 e8 rf8 b8 ⊢
      have l8 : (us ++ us2).length ≤ 11 := by rw [List.length_append]; omega
      generalize us ++ us2 = u8 at e8 rf8 av8 l8
      clear b6 b7 eC rfC eR rfR eC7 avC g8 hS1
      dsimp only
      refine ⟨_, rfl, .inl ⟨rfl, _, SqL.of e8⟩, ?_⟩
      refine ⟨_, rfl, _, rfl, _, rfl, p, D, lw, 60, 81, rfl, b8.2, neD, bt_lst b8 neD e5, by omega, sm5, by decide, by decide, by decide, fun D2 G9 l2 b9 ne2 fr2 e2 h2 sm2 => ?_⟩
      refine ⟨p, D2, l2, 62, 94, rfl, b9.2, ne2, e2, h2 two, sm2, by decide, by decide, by decide, fun D3 G10 l3 b10 ne3 fr3 e3 _ sm3 => ?_⟩
      have b910 := b9.trans b10
      have e10 := bt_lst b910 ne8 e8
      refine ⟨S1, u8, _, rfl, rfl, e10, small1000000 (by omega), ?_⟩
      have d3 : D3 ≠ S1 := fun z => by
        rw [z, bt_lst b9 ne8 e8] at fr3
        cases fr3
      have e11 : L2.upd G10 S1 (.lst (u8 ++ [V.ref D3])) S1 = some (.lst (u8 ++ [V.ref D3])) := upd_same
      have rf11 : RfA (L2.upd G10 S1 (.lst (u8 ++ [V.ref D3]))) p (u8 ++ [V.ref D3]) := ((rf8.bt b910).upd av8).app (.cons ne3 (by rw [upd_ne d3]; exact e3) (sm3.up (by decide) (by decide)) .nil)
      have at11 : S.At (L2.upd G10 S1 (.lst (u8 ++ [V.ref D3]))) p := by
        obtain ⟨r, m, e1, f1⟩ := b910.2
        exact ⟨r, m, by rw [upd_ne ne8.symm]; exact e1, f1⟩
      have kt : KeepT G5 (L2.upd G10 S1 (.lst (u8 ++ [V.ref D3]))) := fun x o n ex => by
        have := bt_keepT (b8.trans b910) a5 x o n ex
        rw [upd_ne (fun z => by rw [z, e10] at this; cases this; exact n _ rfl)]
        exact this
      have sH11 : Same H (L2.upd G10 S1 (.lst (u8 ++ [V.ref D3]))) := fun x o ex => by
        have h8 : H S1 = none := s5'.free hS5
        have := sameBt s5' hp0 (b8.trans b910) x o ex
        rw [upd_ne (fun z => by rw [z, h8] at ex; cases ex)]
        exact this
      have eD11 : L2.upd G10 S1 (.lst (u8 ++ [V.ref D3])) D = some (.lst (sv lw)) := by
        rw [upd_ne (fun z => hS0 (by rw [← z]; exact e5))]
        exact bt_lst (b8.trans b910) neD e5
      have pl11 := pl5.keep kt
      generalize L2.upd G10 S1 (.lst (u8 ++ [V.ref D3])) = GA at e11 rf11 at11 sH11 eD11 pl11 ⊢
      generalize u8 ++ [V.ref D3] = ua at e11 rf11
      clear kt e10 b910 b9 b10 e2 e3 rf8 av8 e8 b8 pl5 e5 s5' a5
      dsimp only
      refine ⟨_, rfl, S1, rfl, ⟨_, SqL.of e11⟩, ?_⟩
      refine for_it walk_list (fun i5 σ G => Same GA G ∧ ∃ q6 q7, σ = [some (.ref a), some (.int (0 + (i : Int))), some (.ref p), some v, some (.ref D), some (.ref S1), q6, q7, q8, q9, q10]) ⟨Same.refl _, _, _, rfl⟩ (fun i5 σ G _ z => SqL.of (z.1 _ _ e11)) ?_ ?_
      · rintro i5 y σ G G' hi5 ⟨sG, q6, q7, rfl⟩ ⟨rfl, hy⟩
        obtain ⟨b0, ls, rfl, _, eb, smb⟩ := rf11.get (List.mem_of_getElem? hy)
        have lb := smb.ln
        dsimp only
        have ej := joinL_small ls smb
        refine set_then (i := 7) ⟨⟨_, rfl⟩, _, rfl, _, b0, ls.map TX.S, rfl, rfl, .inl (SqL.of (by rw [sG _ _ eb, sv_strs])), ?_, ?_⟩
        · have := sum_len (k := 200) (ws := ls) smb.el
          rw [List.length_map, show ("\n" : Str).length = 1 from by rw [len_tl, k_nl, tl_S]; rfl]
          exact ten (by omega)
        rw [k_nl, join_lines]
        obtain ⟨kb, tb⟩ := told_ex (joinL [10] ls)
        have lk := log_k (told_le tb (by omega))
        try dsimp only
        refine ⟨_, rfl, _, rfl, .inl ⟨joinL [10] ls, kb, rfl, by omega, tb, fun H1 s1 => ⟨_, rfl, joinL [10] ls, kb, rfl, by omega, tb, fun H2 s2 => ?_⟩⟩⟩
        exact ⟨_, _, _, rfl, .int _ lk, .int _ lk, _, rfl, iteF ⟨sG.trans (s1.trans s2), _, _, rfl⟩⟩
      rintro σ G ⟨sG, q6, q7, rfl⟩
      dsimp only
      have g0 := sH11.trans sG
      have eDG := sG _ _ eD11
      have plG := pl11.keep (same_keepT sG)
      clear rf11 e11 sG sH11 eD11 pl11 at11
      refine ⟨ten (by decide), fun E1 h1 => ⟨_, rfl, ten (by decide), fun T1 h2 => ?_⟩⟩
      have s1 := of_upd (o := .lst []) h1
      have e1 : L2.upd G E1 (.lst []) E1 = some (.lst []) := upd_same
      generalize L2.upd G E1 (.lst []) = A1 at s1 e1 h2 ⊢
      have s2 := of_upd (o := .tup [V.str "head 4", V.str "join 1"]) h2
      have e2 : L2.upd A1 T1 (.tup [V.str "head 4", V.str "join 1"]) T1 = some (.tup [V.str "head 4", V.str "join 1"]) := upd_same
      generalize L2.upd A1 T1 (.tup [V.str "head 4", V.str "join 1"]) = A2 at s2 e2 ⊢
      intro M1 h3
      have s3 := of_upd (o := .dK []) h3
      have e3 : L2.upd A2 M1 (.dK []) M1 = some (.dK []) := upd_same
      generalize L2.upd A2 M1 (.dK []) = A3 at s3 e3 ⊢
      refine ⟨ten (by decide), fun T2 h4 => ⟨ten (by decide), fun E2 h5 => ?_⟩⟩
      have s4 := of_upd (o := .tup []) h4
      have e4 : L2.upd A3 T2 (.tup []) T2 = some (.tup []) := upd_same
      generalize L2.upd A3 T2 (.tup []) = A4 at s4 e4 h5 ⊢
      have s5 := of_upd (o := .lst [V.str "head 4\njoin 1"]) h5
      have e5 : L2.upd A4 E2 (.lst [V.str "head 4\njoin 1"]) E2 = some (.lst [V.str "head 4\njoin 1"]) := upd_same
      generalize L2.upd A4 E2 (.lst [V.str "head 4\njoin 1"]) = A5 at s5 e5 ⊢
      have s15 := (((s1.trans s2).trans s3).trans s4).trans s5
      refine ⟨_, rfl, v, wy, rfl, plG.keep (same_keepT s15), hf, hd, fun x A6 s6 wx => ⟨ten (by show 10 ≤ _; decide), fun VL hVL => ?_⟩⟩
      have s7 := of_upd (o := .lst [V.non, V.int 5, V.bl true, V.ref E1, V.ref D, V.ref T1, V.ref M1, V.ref T2, V.ref E2, V.ref x]) hVL
      have e7 : L2.upd A6 VL (.lst [V.non, V.int 5, V.bl true, V.ref E1, V.ref D, V.ref T1, V.ref M1, V.ref T2, V.ref E2, V.ref x]) VL = some (.lst [V.non, V.int 5, V.bl true, V.ref E1, V.ref D, V.ref T1, V.ref M1, V.ref T2, V.ref E2, V.ref x]) := upd_same
      generalize L2.upd A6 VL (.lst [V.non, V.int 5, V.bl true, V.ref E1, V.ref D, V.ref T1, V.ref M1, V.ref T2, V.ref E2, V.ref x]) = A7 at s7 e7 ⊢
      have s67 := s6.trans s7
      obtain ⟨dz, fz, hz, _⟩ := WP.head_fld (wx.mono s7)
      have ns : ∀ y ∈ [V.non, V.int 5, V.bl true, V.ref E1, V.ref D, V.ref T1, V.ref M1, V.ref T2, V.ref E2, V.ref x], NS K A7 y := fun y hy => by
        simp only [List.mem_cons, List.mem_nil_iff, or_false] at hy
        rcases hy with rfl | rfl | rfl | rfl | rfl | rfl | rfl | rfl | rfl | rfl
        · exact ⟨_, .base .non, kit_ty (r := false) (by decide +kernel)⟩
        · exact ⟨_, .base (.int _), kit_ty (r := false) (by decide +kernel)⟩
        · exact ⟨_, .base (.bl _), kit_ty (r := false) (by decide +kernel)⟩
        · exact ⟨_, .base (.lst (s67 _ _ (s5 _ _ (s4 _ _ (s3 _ _ (s2 _ _ e1)))))), kit_ty (r := false) (by decide +kernel)⟩
        · exact ⟨_, .base (.lst (s67 _ _ (s15 _ _ eDG))), kit_ty (r := false) (by decide +kernel)⟩
        · exact ⟨_, .base (.tup (s67 _ _ (s5 _ _ (s4 _ _ (s3 _ _ e2))))), kit_ty (r := false) (by decide +kernel)⟩
        · exact ⟨_, .base (.dK (s67 _ _ (s5 _ _ (s4 _ _ e3)))), kit_ty (r := false) (by decide +kernel)⟩
        · exact ⟨_, .base (.tup (s67 _ _ (s5 _ _ e4))), kit_ty (r := false) (by decide +kernel)⟩
        · exact ⟨_, .base (.lst (s67 _ _ e5)), kit_ty (r := false) (by decide +kernel)⟩
        · exact ⟨_, .base (.ins hz TW.cl TW.iA TW.iN TW.iT TW.iM), kW⟩
      have gA := (g0.trans s15).trans s67
      generalize [V.non, V.int 5, V.bl true, V.ref E1, V.ref D, V.ref T1, V.ref M1, V.ref T2, V.ref E2, V.ref x] = vals at e7 ns
      clear s1 s2 s3 s4 s5 e1 e2 e3 e4 e5 s15 s6 s7 s67 wx hz g0 eDG plG
      refine ⟨VL, rfl, ⟨_, SqL.of e7⟩, ?_⟩
      refine for_it walk_list (fun i5 σ G => Same A7 G ∧ ∃ q8, σ = [some (.ref a), some (.int (0 + (i : Int))), some (.ref p), some v, some (.ref D), some (.ref S1), q6, q7, q8, q9, q10]) ⟨Same.refl _, _, rfl⟩ (fun i5 σ G _ z => SqL.of (z.1 _ _ e7)) ?_ ?_
      · rintro i5 y σ G2 G3 hi5 ⟨s8, q8, rfl⟩ ⟨rfl, hy⟩
        have n1 := (ns y (List.mem_of_getElem? hy)).mono s8
        try dsimp only
        exact ⟨_, rfl, y, rfl, .inr ⟨n1, fun H1 t1 => ⟨rfl, _, rfl, iteNS rfl ⟨s8.trans t1, _, rfl⟩⟩⟩⟩
      · rintro σ G2 ⟨s8, q8, rfl⟩
        exact ⟨gA.trans s8, _, _, _, _, _, _, _, _, _, _, rfl⟩
    · rintro σ G ⟨s0, q1, q2, q3, q4, q5, q6, q7, q8, q9, q10, rfl⟩
      dsimp only
      refine set_then (i := 5) ⟨ten (by decide), fun S1 h1 => ?_⟩
      have f1 : L2.upd G S1 (.lst [V.str "", V.str "head 4", V.str "head 4\njoin 1\n"]) S1 = some (.lst (sv ((["", "head 4", "head 4\njoin 1\n"] : List Str).map tl))) := newS ["", "head 4", "head 4\njoin 1\n"]
      have sm1 : Sml 5100 3 ((["", "head 4", "head 4\njoin 1\n"] : List Str).map tl) := lit _ (by decide +kernel) (by decide)
      generalize L2.upd G S1 (.lst [V.str "", V.str "head 4", V.str "head 4\njoin 1\n"]) = A1 at f1 ⊢
      generalize (["", "head 4", "head 4\njoin 1\n"] : List Str).map tl = l0 at f1 sm1
      dsimp only
      refine ⟨rfl, fun D1 A2 lo s2 n2 e2 smo lo1 => ⟨rfl, fun D2 A3 ln s3 e3 smn => ?_⟩⟩
      have k1 := smo.ln
      have k2 := smn.ln
      refine catL (s3 _ _ e2) e3 (by omega) fun D3 A4 s4 n4 e4 => ?_
      have el : ∀ x ∈ lo ++ ln, x.length ≤ 5020 := fun x hx => (List.mem_append.mp hx).elim (fun h => Nat.le_trans (smo.el x h) (by decide)) (smn.el x)
      have ll : (lo ++ ln).length ≤ 120 := by rw [List.length_append]; omega
      have fS := s4 _ _ (s3 _ _ (s2 _ _ f1))
      have neS : S1 ≠ D3 := fun z => by rw [← z, s3 _ _ (s2 _ _ f1)] at n4; cases n4
      generalize lo ++ ln = lw at e4 el ll
      clear s2 s3 s4 e2 e3 f1 n2 n4
      refine ⟨D3, rfl, ⟨_, SqL.of e4⟩, ?_⟩
      refine for_it walk_list (fun i5 σ G => G D3 = some (.lst (sv lw)) ∧ ∃ S2 ls q9, S2 ≠ D3 ∧ G S2 = some (.lst (sv ls)) ∧ Sml 5100 (3 + 6 * i5) ls ∧ σ = [some (.ref a), q1, q2, q3, q4, some (.ref S2), q6, q7, q8, q9, q10]) ⟨e4, S1, l0, _, neS, fS, sm1, rfl⟩ (fun i5 σ G _ z => SqL.of z.1) ?_ ?_
      · rintro i5 y σ G2 G3 hi5 ⟨eD, S2, ls, q9', ne2, eS, sm, rfl⟩ ⟨rfl, hy⟩
        obtain ⟨l, hl, rfl⟩ := sv_get hy
        have l5 := el l (List.mem_of_getElem? hl)
        have hi6 : i5 < lw.length := by rw [← sv_len]; exact hi5
        have lls := sm.ln
        have lS : (TX.S l).length = l.length := S_len l
        have z1 : ("\njoin 1" : Str).length = 7 := by decide +kernel
        have z2 : ("head 10\n" : Str).length = 8 := by decide +kernel
        have z3 : ("head 10\njoin 3\n" : Str).length = 15 := by decide +kernel
        have z4 : ("head 10\ntunnel 1 turn\n" : Str).length = 22 := by decide +kernel
        have z5 : ("\n  join 1" : Str).length = 9 := by decide +kernel
        have z6 : ("head 10\ntunnel 1 turn\n  " : Str).length = 24 := by decide +kernel
        have w1 := len_ap (TX.S l) "\njoin 1"
        have w2 := len_ap "head 10\n" (TX.S l)
        have w3 := len_ap "head 10\njoin 3\n" (TX.S l)
        have w4 := len_ap "head 10\ntunnel 1 turn\n" (TX.S l)
        have w5 := len_ap ("head 10\ntunnel 1 turn\n" ++ TX.S l) "\n  join 1"
        have w6 := len_ap "head 10\ntunnel 1 turn\n  " (TX.S l)
        have w7 := len_ap ("head 10\ntunnel 1 turn\n  " ++ TX.S l) "\n  join 1"
        dsimp only
        refine set_then (i := 5) ⟨_, rfl, _, rfl, _, rfl, _, _, rfl, rfl, ten (by omega), _, rfl, _, _, rfl, rfl, ten (by omega), _, rfl, _, _, rfl, rfl, ten (by omega), ten (by show 4 ≤ _; decide), fun D5 h5 => ?_⟩
        have g5 := of_upd (o := .lst [V.str (TX.S l), V.str (TX.S l ++ "\njoin 1"), V.str ("head 10\n" ++ TX.S l), V.str ("head 10\njoin 3\n" ++ TX.S l)]) h5
        refine ⟨S2, D5, _, _, rfl, rfl, g5 _ _ eS, upd_same, ten (by rw [sv_len]; show ls.length + 4 ≤ _; omega), fun D6 h6 => ?_⟩
        have g6 := g5.trans (of_upd (o := .lst (sv ls ++ [V.str (TX.S l), V.str (TX.S l ++ "\njoin 1"), V.str ("head 10\n" ++ TX.S l), V.str ("head 10\njoin 3\n" ++ TX.S l)])) h6)
        have e6 : sv ls ++ [V.str (TX.S l), V.str (TX.S l ++ "\njoin 1"), V.str ("head 10\n" ++ TX.S l), V.str ("head 10\njoin 3\n" ++ TX.S l)] = sv (ls ++ [tl (TX.S l), tl (TX.S l ++ "\njoin 1"), tl ("head 10\n" ++ TX.S l), tl ("head 10\njoin 3\n" ++ TX.S l)]) := by
          rw [sv_app]
          exact congrArg _ (sv_tl [TX.S l, TX.S l ++ "\njoin 1", "head 10\n" ++ TX.S l, "head 10\njoin 3\n" ++ TX.S l])
        have f6 : L2.upd (L2.upd G3 D5 (.lst [V.str (TX.S l), V.str (TX.S l ++ "\njoin 1"), V.str ("head 10\n" ++ TX.S l), V.str ("head 10\njoin 3\n" ++ TX.S l)])) D6 (.lst (sv ls ++ [V.str (TX.S l), V.str (TX.S l ++ "\njoin 1"), V.str ("head 10\n" ++ TX.S l), V.str ("head 10\njoin 3\n" ++ TX.S l)])) D6 = some (.lst (sv (ls ++ [tl (TX.S l), tl (TX.S l ++ "\njoin 1"), tl ("head 10\n" ++ TX.S l), tl ("head 10\njoin 3\n" ++ TX.S l)]))) := by rw [upd_same, e6]
        have ne6 : D6 ≠ D3 := fun z => by
          rw [z, g5 _ _ eD] at h6
          cases h6
        have eD6 := g6 _ _ eD
        have sm6 : Sml 5100 (3 + 6 * i5 + 4) (ls ++ [tl (TX.S l), tl (TX.S l ++ "\njoin 1"), tl ("head 10\n" ++ TX.S l), tl ("head 10\njoin 3\n" ++ TX.S l)]) := by
          refine sml_of sm.el (fun x hx => ?_) (by show _ + 4 ≤ _; omega)
          simp only [List.mem_cons, List.mem_nil_iff, or_false] at hx
          rcases hx with h | h | h | h <;> rw [h, ← len_tl] <;> omega
        generalize L2.upd (L2.upd G3 D5 (.lst [V.str (TX.S l), V.str (TX.S l ++ "\njoin 1"), V.str ("head 10\n" ++ TX.S l), V.str ("head 10\njoin 3\n" ++ TX.S l)])) D6 (.lst (sv ls ++ [V.str (TX.S l), V.str (TX.S l ++ "\njoin 1"), V.str ("head 10\n" ++ TX.S l), V.str ("head 10\njoin 3\n" ++ TX.S l)])) = G6 at f6 eD6 ⊢
        generalize ls ++ [tl (TX.S l), tl (TX.S l ++ "\njoin 1"), tl ("head 10\n" ++ TX.S l), tl ("head 10\njoin 3\n" ++ TX.S l)] = l6 at f6 sm6
        have ll6 := sm6.ln
        clear g5 g6 e6 h5 h6 sm eS eD
        dsimp only
        refine ⟨_, rfl, .inl ⟨rfl, _, SqL.of f6⟩, _, rfl, _, _, rfl, rfl, ten (by omega), _, _, rfl, rfl, ten (by omega), D6, _, _, rfl, rfl, f6, small1000000 (by rw [sv_len]; omega), ?_⟩
        have ap : ∀ (L : List (List Nat)) (x : Str), sv L ++ [V.str x] = sv (L ++ [tl x]) := fun L x => by
          rw [sv_app]
          exact congrArg _ (sv_tl [x])
        rw [ap]
        have f7 : L2.upd G6 D6 (.lst (sv (l6 ++ [tl ("head 10\ntunnel 1 turn\n" ++ TX.S l ++ "\n  join 1")]))) D6 = some (.lst (sv (l6 ++ [tl ("head 10\ntunnel 1 turn\n" ++ TX.S l ++ "\n  join 1")]))) := upd_same
        have eD7 : L2.upd G6 D6 (.lst (sv (l6 ++ [tl ("head 10\ntunnel 1 turn\n" ++ TX.S l ++ "\n  join 1")]))) D3 = some (.lst (sv lw)) := by rw [upd_ne ne6.symm]; exact eD6
        have sm7 : Sml 5100 (3 + 6 * i5 + 5) (l6 ++ [tl ("head 10\ntunnel 1 turn\n" ++ TX.S l ++ "\n  join 1")]) := sml_of sm6.el (fun x hx => by rw [List.mem_singleton.mp hx, ← len_tl]; omega) (by show _ + 1 ≤ _; omega)
        generalize L2.upd G6 D6 (.lst (sv (l6 ++ [tl ("head 10\ntunnel 1 turn\n" ++ TX.S l ++ "\n  join 1")]))) = G7 at f7 eD7 ⊢
        generalize l6 ++ [tl ("head 10\ntunnel 1 turn\n" ++ TX.S l ++ "\n  join 1")] = l7 at f7 sm7
        have ll7 := sm7.ln
        try dsimp only
        refine ⟨_, rfl, .inl ⟨rfl, _, SqL.of f7⟩, _, rfl, _, _, rfl, rfl, ten (by omega), _, _, rfl, rfl, ten (by omega), D6, _, _, rfl, rfl, f7, small1000000 (by rw [sv_len]; omega), ?_⟩
        rw [ap]
        refine ⟨by rw [upd_ne ne6.symm]; exact eD7, D6, _, _, ne6, upd_same, ?_, rfl⟩
        exact sml_of sm7.el (fun x hx => by rw [List.mem_singleton.mp hx, ← len_tl]; omega) (by show _ + 1 ≤ _; omega)
      · rintro σ G2 ⟨eD, S2, ls, q9', ne2, eS, sm, rfl⟩
        dsimp only
        refine ⟨_, rfl, S2, rfl, ⟨_, SqL.of eS⟩, fun C1 hC => ?_⟩
        refine lc_it walk_list (fun i5 G => Same G2 G ∧ G C1 = some (.lst [])) ⟨of_upd hC, upd_same⟩ (fun i5 G _ z => SqL.of (z.1 _ _ eS)) ?_ ?_
        · rintro i5 y G3 G4 hi5 ⟨u1, g1⟩ ⟨rfl, hy⟩
          obtain ⟨l, hl, rfl⟩ := sv_get hy
          have l5 := sm.el l (List.mem_of_getElem? hl)
          obtain ⟨kb, tb⟩ := told_ex l
          refine ⟨rfl, _, rfl, _, rfl, .inl ⟨l, kb, rfl, by omega, tb, fun H1 s1 => ⟨_, rfl, l, kb, rfl, by omega, tb, fun H2 s2 => ⟨rfl, _, rfl, iteNS rfl ⟨u1.trans (s1.trans s2), s2 _ _ (s1 _ _ g1)⟩⟩⟩⟩⟩
        · rintro G3 ⟨u1, g1⟩
          exact ⟨false, .inl ⟨[], SqL.of g1, rfl⟩, k _⟩
end
end CP

end
section
set_option autoImplicit false
set_option Elab.async false
set_option linter.all false
set_option maxRecDepth 100000
set_option maxHeartbeats 4000000
/-! ## what the top leaves -/
namespace CP
open PySem L2 G Y
/-- a def as it stands behind the top -/
structure Fa (K : PySem.W.Frag) (mg : Str → Option Value) (x : Str) (st : Stmt) (ps : List Str) : Prop where
  ex : ∃ (f : Addr) (fd : FuncData), Fun K x x st f fd ∧ mg x = some (.ref f) ∧ PySem.W.keepIn K (.ref f) = true ∧ Binds K fd ps []
theorem Fa.df {P : Program} {w : World} {K : PySem.W.Frag} {mg : Str → Option Value} {base : Heap} {x : Str} {st : Stmt} {ps : List Str} {k : Nat} {sp : Sp} (h : Fa K mg x st ps) (ok : ∀ f fd, Fun K x x st f fd → FnOk P w K mg base CX0 k f fd ps sp) : Df P w K mg base k x ps sp := by
  obtain ⟨f, fd, h1, h2, h3, h4⟩ := h.ex
  exact ⟨f, fd, ok f fd h1, h2, h3, h4⟩
theorem Fa.dw {P : Program} {w : World} {K : PySem.W.Frag} {mg : Str → Option Value} {base : Heap} {x : Str} {st : Stmt} {ps : List Str} {k : Nat} {sp : Sp} (h : Fa K mg x st ps) (ok : ∀ f fd, Fun K x x st f fd → FnOk P w K mg base CX0 k f fd ps sp) : WP.Df P w K mg base k x ps sp := by
  obtain ⟨f, fd, h1, h2, h3, h4⟩ := h.ex
  exact ⟨f, fd, ok f fd h1, h2, h3, h4⟩
abbrev sBadT : Stmt := inClass (S.top 15) 0
theorem scBadT : FnScope ["self", "line"] ["self", "line"] (defScope sBadT) := ⟨rfl, rfl, rfl, by decide +kernel, rfl, by decide +kernel, by decide +kernel⟩
/-- the class BadText -/
structure Eb (K : PySem.W.Frag) (mg : Str → Option Value) (C f : Addr) (fd : FuncData) : Prop where
  g : mg "BadText" = some (.ref C)
  L : G.Cl K C "line"
  ex : PySem.W.exmOne K (.ref C) (.ref C) = some true
  iC : PySem.W.findIn K (.ref C) "__init__" = some (some (.ref f))
  tI : PySem.W.typeIn K (.ref f) = some (.type "function")
  F : Fun K "__init__" "BadText.__init__" sBadT f fd
theorem Eb.mk' {P : Program} {w : World} {K : PySem.W.Frag} {mg : Str → Option Value} {base : Heap} {C f : Addr} {fd : FuncData} (E : Eb K mg C f fd) : G.Mk P w K mg base C "line" := by
  refine ⟨E.L, f, fd, ["self", "line"], E.iC, E.tI, ?_, rfl, ?_, ?_⟩
  · refine E.F.ok scBadT (fun vs H Q E2 h => ?_) (fun cdv A outer s H vs Q E2 hr h => ?_)
    · obtain ⟨a, v, rfl, _⟩ := h
      rfl
    · obtain ⟨a, v, rfl, ha, k⟩ := h
      exact ⟨_, pss_one (ps_ost (pv 0) (pv 1)), _, rfl, _, rfl, a, C, rfl, E.L.T, E.L.no, .inl ⟨ha, fun dx h1 h2 => k dx h1 h2⟩⟩
  · obtain ⟨_, _, _, _, _, _, _, _, _, rfl, _, _⟩ := E.F.ex
    exact fun s u v => .of_eq rfl
  · obtain ⟨_, _, _, _, _, _, _, _, _, rfl, _, _⟩ := E.F.ex
    exact fun s u v => .of_eq rfl
theorem ne_cls {K : PySem.W.Frag} {C D : Addr} {m : Str} {v : Value} (a : PySem.W.findIn K (.ref C) m = some (some v)) (b : PySem.W.findIn K (.ref D) m = some none) : C ≠ D := fun e => by
  rw [e, b] at a
  cases a
section
variable {P : Program} {w : World} {K : PySem.W.Frag} {mg : Str → Option Value} {base : Heap} {C CW : Addr}
theorem dl_tlines (B : Bn mg) (hstr : mg "str" = none) (gI : ∃ t, mg "INDENTATION" = some (.str "  " t)) (T : WP.Wt K mg CW) (z : Fa K mg "_lines" sTLines ["way"]) : ∀ n, Df P w K mg base (1 + n) "_lines" ["way"] (spTLines CW n)
  | 0 => z.df fun f fd F => F.ok scTl (fun vs H Q E h => by
      obtain ⟨a, wy, rfl, _⟩ := h
      rfl) (fun cdv A outer s H vs Q E hr h => by
      exfalso
      obtain ⟨a, wy, _, _, _, hd, _⟩ := h
      have := M.depth_pos wy
      omega)
  | n + 1 => z.df fun f fd F => ok_tlines F B hstr gI T (by show 1 ≤ 1 + n; omega) (dl_tlines B hstr gI T z n)
theorem dl_llines (B : Bn mg) (hstr : mg "str" = none) (z : Fa K mg "_law_lines" sLLines ["plan", "lead"]) : ∀ n, Df P w K mg base (1 + n) "_law_lines" ["plan", "lead"] (spLLines n)
  | 0 => z.df fun f fd F => F.ok scLl (fun vs H Q E h => by
      obtain ⟨v, wy, ld, rfl, _⟩ := h
      rfl) (fun cdv A outer s H vs Q E hr h => by
      exfalso
      obtain ⟨v, wy, ld, _, _, _, hd, _⟩ := h
      have := M.depth_pos wy
      omega)
  | n + 1 => z.df fun f fd F => ok_llines F B hstr (by show 1 ≤ 1 + n; omega) (dl_llines B hstr z n)
theorem dl_plan (B : Bn mg) (zp : Fa K mg "_law_plan" sLPlan ["stream", "depth", "base"]) (zs : Fa K mg "_law_plan_step" sLStep ["stream", "depth", "base", "head"]) (DD : Df P w K mg base 1 "_law_draw" ["stream", "size"] S.spDraw) (DP : Df P w K mg base 2 "_law_choose" ["stream", "items"] (S.spChoose K)) (DM : Df P w K mg base 3 "_law_most" ["stream"] spLMost) :
    ∀ n, Df P w K mg base (4 + 2 * n) "_law_plan" ["stream", "depth", "base"] (spLPlan n)
  | 0 => zp.df fun f fd F => F.ok scPn (fun vs H Q E h => by
      obtain ⟨p, d, b, rfl, _⟩ := h
      rfl) (fun cdv A outer s H vs Q E hr h => by
      exfalso
      obtain ⟨p, d, b, _, _, hd, _⟩ := h
      omega)
  | n + 1 => by
    have D0 := dl_plan B zp zs DD DP DM n
    have DS : Df P w K mg base (4 + 2 * n + 1) "_law_plan_step" ["stream", "depth", "base", "head"] (spLStep n) := zs.df fun f fd F => ok_lstep F (by omega) B DD DP DM D0
    have r : Df P w K mg base (4 + 2 * n + 1 + 1) "_law_plan" ["stream", "depth", "base"] (spLPlan (n + 1)) := zp.df fun f fd F => ok_lplan F (by omega) B DD DP DS
    exact r
theorem dl_way (T : WP.Wt K mg CW) (MW : WP.Mw P w K mg base CW) (z : Fa K mg "_law_way" sLWay ["plan"]) : ∀ n, Df P w K mg base (8 + n) "_law_way" ["plan"] (spLWay CW n)
  | 0 => z.df fun f fd F => F.ok scLw (fun vs H Q E h => by
      obtain ⟨v, wy, rfl, _⟩ := h
      rfl) (fun cdv A outer s H vs Q E hr h => by
      exfalso
      obtain ⟨v, wy, _, _, _, hd, _⟩ := h
      have := M.depth_pos wy
      omega)
  | n + 1 => z.df fun f fd F => ok_lway F T MW (by show 7 ≤ 8 + n; omega) (dl_way T MW z n)
end
section
variable {K : PySem.W.Frag} {mg : Str → Option Value} {h : Heap} {f : Addr} {fd : FuncData}
theorem fd_I (X : K.In h) (Gn : h.Ns mainGlobals mg) (a : PySem.W.nsIn K mainGlobals "is_integer" = some (some (.ref f))) (F : Fun K "is_integer" "is_integer" WP.sInteger f fd) : Fa K mg "is_integer" WP.sInteger ["value"] :=
  ⟨f, fd, F, PySem.W.mg_of X Gn a, F.kp, F.binds fun _ _ _ _ _ _ us hl => match us, hl with | [_], _ => rfl⟩
theorem fd_W (X : K.In h) (Gn : h.Ns mainGlobals mg) (a : PySem.W.nsIn K mainGlobals "is_within" = some (some (.ref f))) (F : Fun K "is_within" "is_within" WP.sWithin f fd) : Fa K mg "is_within" WP.sWithin ["value", "least", "greatest"] :=
  ⟨f, fd, F, PySem.W.mg_of X Gn a, F.kp, F.binds fun _ _ _ _ _ _ us hl => match us, hl with | [_, _, _], _ => rfl⟩
theorem fd_wr (X : K.In h) (Gn : h.Ns mainGlobals mg) (a : PySem.W.nsIn K mainGlobals "written_integer" = some (some (.ref f))) (F : Fun K "written_integer" "written_integer" sWritten f fd) : Fa K mg "written_integer" sWritten ["word"] :=
  ⟨f, fd, F, PySem.W.mg_of X Gn a, F.kp, F.binds fun _ _ _ _ _ _ us hl => match us, hl with | [_], _ => rfl⟩
theorem fd_tp (X : K.In h) (Gn : h.Ns mainGlobals mg) (a : PySem.W.nsIn K mainGlobals "_step" = some (some (.ref f))) (F : Fun K "_step" "_step" sTStep f fd) : Fa K mg "_step" sTStep ["words", "head"] :=
  ⟨f, fd, F, PySem.W.mg_of X Gn a, F.kp, F.binds fun _ _ _ _ _ _ us hl => match us, hl with | [_, _], _ => rfl⟩
theorem fd_tl2 (X : K.In h) (Gn : h.Ns mainGlobals mg) (a : PySem.W.nsIn K mainGlobals "_lines" = some (some (.ref f))) (F : Fun K "_lines" "_lines" sTLines f fd) : Fa K mg "_lines" sTLines ["way"] :=
  ⟨f, fd, F, PySem.W.mg_of X Gn a, F.kp, F.binds fun _ _ _ _ _ _ us hl => match us, hl with | [_], _ => rfl⟩
theorem fd_ll (X : K.In h) (Gn : h.Ns mainGlobals mg) (a : PySem.W.nsIn K mainGlobals "_law_lines" = some (some (.ref f))) (F : Fun K "_law_lines" "_law_lines" sLLines f fd) : Fa K mg "_law_lines" sLLines ["plan", "lead"] :=
  ⟨f, fd, F, PySem.W.mg_of X Gn a, F.kp, F.binds fun _ _ _ _ _ _ us hl => match us, hl with | [_, _], _ => rfl⟩
theorem fd_wt (X : K.In h) (Gn : h.Ns mainGlobals mg) (a : PySem.W.nsIn K mainGlobals "way_text" = some (some (.ref f))) (F : Fun K "way_text" "way_text" sWText f fd) : Fa K mg "way_text" sWText ["way"] :=
  ⟨f, fd, F, PySem.W.mg_of X Gn a, F.kp, F.binds fun _ _ _ _ _ _ us hl => match us, hl with | [_], _ => rfl⟩
theorem fd_rw (X : K.In h) (Gn : h.Ns mainGlobals mg) (a : PySem.W.nsIn K mainGlobals "read_way" = some (some (.ref f))) (F : Fun K "read_way" "read_way" sRead f fd) : Fa K mg "read_way" sRead ["text"] :=
  ⟨f, fd, F, PySem.W.mg_of X Gn a, F.kp, F.binds fun _ _ _ _ _ _ us hl => match us, hl with | [_], _ => rfl⟩
theorem fd_cnt (X : K.In h) (Gn : h.Ns mainGlobals mg) (a : PySem.W.nsIn K mainGlobals "_law_is_count" = some (some (.ref f))) (F : Fun K "_law_is_count" "_law_is_count" sCnt f fd) : Fa K mg "_law_is_count" sCnt ["word", "low", "high"] :=
  ⟨f, fd, F, PySem.W.mg_of X Gn a, F.kp, F.binds fun _ _ _ _ _ _ us hl => match us, hl with | [_, _, _], _ => rfl⟩
theorem fd_lin (X : K.In h) (Gn : h.Ns mainGlobals mg) (a : PySem.W.nsIn K mainGlobals "_law_is_line" = some (some (.ref f))) (F : Fun K "_law_is_line" "_law_is_line" sLin f fd) : Fa K mg "_law_is_line" sLin ["words", "head", "depth", "room"] :=
  ⟨f, fd, F, PySem.W.mg_of X Gn a, F.kp, F.binds fun _ _ _ _ _ _ us hl => match us, hl with | [_, _, _, _], _ => rfl⟩
theorem fd_fb (X : K.In h) (Gn : h.Ns mainGlobals mg) (a : PySem.W.nsIn K mainGlobals "_law_first_bad" = some (some (.ref f))) (F : Fun K "_law_first_bad" "_law_first_bad" sFb f fd) : Fa K mg "_law_first_bad" sFb ["text"] :=
  ⟨f, fd, F, PySem.W.mg_of X Gn a, F.kp, F.binds fun _ _ _ _ _ _ us hl => match us, hl with | [_], _ => rfl⟩
theorem fd_bl (X : K.In h) (Gn : h.Ns mainGlobals mg) (a : PySem.W.nsIn K mainGlobals "_law_bent_lines" = some (some (.ref f))) (F : Fun K "_law_bent_lines" "_law_bent_lines" sBentL f fd) : Fa K mg "_law_bent_lines" sBentL ["stream", "lines"] :=
  ⟨f, fd, F, PySem.W.mg_of X Gn a, F.kp, F.binds fun _ _ _ _ _ _ us hl => match us, hl with | [_, _], _ => rfl⟩
theorem fd_gr (X : K.In h) (Gn : h.Ns mainGlobals mg) (a : PySem.W.nsIn K mainGlobals "_law_great" = some (some (.ref f))) (F : Fun K "_law_great" "_law_great" sGreat f fd) : Fa K mg "_law_great" sGreat ["stream"] :=
  ⟨f, fd, F, PySem.W.mg_of X Gn a, F.kp, F.binds fun _ _ _ _ _ _ us hl => match us, hl with | [_], _ => rfl⟩
theorem fd_rf (X : K.In h) (Gn : h.Ns mainGlobals mg) (a : PySem.W.nsIn K mainGlobals "_law_refused" = some (some (.ref f))) (F : Fun K "_law_refused" "_law_refused" sRef81 f fd) : Fa K mg "_law_refused" sRef81 ["value"] :=
  ⟨f, fd, F, PySem.W.mg_of X Gn a, F.kp, F.binds fun _ _ _ _ _ _ us hl => match us, hl with | [_], _ => rfl⟩
theorem fd_odd (X : K.In h) (Gn : h.Ns mainGlobals mg) (a : PySem.W.nsIn K mainGlobals "_law_odd_lines" = some (some (.ref f))) (F : Fun K "_law_odd_lines" "_law_odd_lines" sOdd f fd) : Fa K mg "_law_odd_lines" sOdd [] :=
  ⟨f, fd, F, PySem.W.mg_of X Gn a, F.kp, F.binds fun _ _ _ _ _ _ us hl => match us, hl with | [], _ => rfl⟩
theorem fd_nml (X : K.In h) (Gn : h.Ns mainGlobals mg) (a : PySem.W.nsIn K mainGlobals "_law_number_lines" = some (some (.ref f))) (F : Fun K "_law_number_lines" "_law_number_lines" sNumL f fd) : Fa K mg "_law_number_lines" sNumL [] :=
  ⟨f, fd, F, PySem.W.mg_of X Gn a, F.kp, F.binds fun _ _ _ _ _ _ us hl => match us, hl with | [], _ => rfl⟩
theorem fd_ls (X : K.In h) (Gn : h.Ns mainGlobals mg) (a : PySem.W.nsIn K mainGlobals "_law_stream" = some (some (.ref f))) (F : Fun K "_law_stream" "_law_stream" S.sSource f fd) : Fa K mg "_law_stream" S.sSource ["script", "start"] :=
  ⟨f, fd, F, PySem.W.mg_of X Gn a, F.kp, F.binds fun _ _ _ _ _ _ us hl => match us, hl with | [_, _], _ => rfl⟩
theorem fd_ld (X : K.In h) (Gn : h.Ns mainGlobals mg) (a : PySem.W.nsIn K mainGlobals "_law_draw" = some (some (.ref f))) (F : Fun K "_law_draw" "_law_draw" S.sDraw f fd) : Fa K mg "_law_draw" S.sDraw ["stream", "size"] :=
  ⟨f, fd, F, PySem.W.mg_of X Gn a, F.kp, F.binds fun _ _ _ _ _ _ us hl => match us, hl with | [_, _], _ => rfl⟩
theorem fd_lch (X : K.In h) (Gn : h.Ns mainGlobals mg) (a : PySem.W.nsIn K mainGlobals "_law_choose" = some (some (.ref f))) (F : Fun K "_law_choose" "_law_choose" S.sPick f fd) : Fa K mg "_law_choose" S.sPick ["stream", "items"] :=
  ⟨f, fd, F, PySem.W.mg_of X Gn a, F.kp, F.binds fun _ _ _ _ _ _ us hl => match us, hl with | [_, _], _ => rfl⟩
theorem fd_sm (X : K.In h) (Gn : h.Ns mainGlobals mg) (a : PySem.W.nsIn K mainGlobals "_law_same" = some (some (.ref f))) (F : Fun K "_law_same" "_law_same" S.sSame f fd) : Fa K mg "_law_same" S.sSame ["one", "two"] :=
  ⟨f, fd, F, PySem.W.mg_of X Gn a, F.kp, F.binds fun _ _ _ _ _ _ us hl => match us, hl with | [_, _], _ => rfl⟩
theorem fd_pn (X : K.In h) (Gn : h.Ns mainGlobals mg) (a : PySem.W.nsIn K mainGlobals "_law_plan" = some (some (.ref f))) (F : Fun K "_law_plan" "_law_plan" sLPlan f fd) : Fa K mg "_law_plan" sLPlan ["stream", "depth", "base"] :=
  ⟨f, fd, F, PySem.W.mg_of X Gn a, F.kp, F.binds fun _ _ _ _ _ _ us hl => match us, hl with | [_, _, _], _ => rfl⟩
theorem fd_lm (X : K.In h) (Gn : h.Ns mainGlobals mg) (a : PySem.W.nsIn K mainGlobals "_law_most" = some (some (.ref f))) (F : Fun K "_law_most" "_law_most" sLMost f fd) : Fa K mg "_law_most" sLMost ["stream"] :=
  ⟨f, fd, F, PySem.W.mg_of X Gn a, F.kp, F.binds fun _ _ _ _ _ _ us hl => match us, hl with | [_], _ => rfl⟩
theorem fd_ps (X : K.In h) (Gn : h.Ns mainGlobals mg) (a : PySem.W.nsIn K mainGlobals "_law_plan_step" = some (some (.ref f))) (F : Fun K "_law_plan_step" "_law_plan_step" sLStep f fd) : Fa K mg "_law_plan_step" sLStep ["stream", "depth", "base", "head"] :=
  ⟨f, fd, F, PySem.W.mg_of X Gn a, F.kp, F.binds fun _ _ _ _ _ _ us hl => match us, hl with | [_, _, _, _], _ => rfl⟩
theorem fd_lw (X : K.In h) (Gn : h.Ns mainGlobals mg) (a : PySem.W.nsIn K mainGlobals "_law_way" = some (some (.ref f))) (F : Fun K "_law_way" "_law_way" sLWay f fd) : Fa K mg "_law_way" sLWay ["plan"] :=
  ⟨f, fd, F, PySem.W.mg_of X Gn a, F.kp, F.binds fun _ _ _ _ _ _ us hl => match us, hl with | [_], _ => rfl⟩
theorem fd_li (X : K.In h) (Gn : h.Ns mainGlobals mg) (a : PySem.W.nsIn K mainGlobals "is_step_list" = some (some (.ref f))) (F : Fun K "is_step_list" "is_step_list" WP.sList f fd) : Fa K mg "is_step_list" WP.sList ["value"] :=
  ⟨f, fd, F, PySem.W.mg_of X Gn a, F.kp, F.binds fun _ _ _ _ _ _ us hl => match us, hl with | [_], _ => rfl⟩
theorem fd_st (X : K.In h) (Gn : h.Ns mainGlobals mg) (a : PySem.W.nsIn K mainGlobals "_is_step" = some (some (.ref f))) (F : Fun K "_is_step" "_is_step" WP.sStep f fd) : Fa K mg "_is_step" WP.sStep ["value", "head"] :=
  ⟨f, fd, F, PySem.W.mg_of X Gn a, F.kp, F.binds fun _ _ _ _ _ _ us hl => match us, hl with | [_, _], _ => rfl⟩
theorem fd_rd (X : K.In h) (Gn : h.Ns mainGlobals mg) (a : PySem.W.nsIn K mainGlobals "is_road" = some (some (.ref f))) (F : Fun K "is_road" "is_road" WP.sRoad f fd) : Fa K mg "is_road" WP.sRoad ["size", "sealed", "loose", "least"] :=
  ⟨f, fd, F, PySem.W.mg_of X Gn a, F.kp, F.binds fun _ _ _ _ _ _ us hl => match us, hl with | [_, _, _, _], _ => rfl⟩
theorem fd_tl (X : K.In h) (Gn : h.Ns mainGlobals mg) (a : PySem.W.nsIn K mainGlobals "is_tells" = some (some (.ref f))) (F : Fun K "is_tells" "is_tells" WP.sTells f fd) : Fa K mg "is_tells" WP.sTells ["value"] :=
  ⟨f, fd, F, PySem.W.mg_of X Gn a, F.kp, F.binds fun _ _ _ _ _ _ us hl => match us, hl with | [_], _ => rfl⟩
theorem fd_mo (X : K.In h) (Gn : h.Ns mainGlobals mg) (a : PySem.W.nsIn K mainGlobals "is_most" = some (some (.ref f))) (F : Fun K "is_most" "is_most" WP.sMost f fd) : Fa K mg "is_most" WP.sMost ["value"] :=
  ⟨f, fd, F, PySem.W.mg_of X Gn a, F.kp, F.binds fun _ _ _ _ _ _ us hl => match us, hl with | [_], _ => rfl⟩
theorem fd_hd (X : K.In h) (Gn : h.Ns mainGlobals mg) (a : PySem.W.nsIn K mainGlobals "is_head" = some (some (.ref f))) (F : Fun K "is_head" "is_head" WP.sHead f fd) : Fa K mg "is_head" WP.sHead ["value"] :=
  ⟨f, fd, F, PySem.W.mg_of X Gn a, F.kp, F.binds fun _ _ _ _ _ _ us hl => match us, hl with | [_], _ => rfl⟩
theorem kit_str {C : Addr} (e : PySem.W.subIn K (.ref C) (.type "str") = some false) : PySem.W.kitOne K (.ref C) (.type "str") = some false := by
  unfold PySem.W.kitOne
  rw [if_neg (by simp)]
  have m : PySem.W.kitMeta "str" = true := by decide +kernel
  show (if PySem.W.kitMeta "str" = true then PySem.W.subIn K (.ref C) (.type "str") else none) = some false
  rw [if_pos m]
  exact e
/-- the class BadText behind the top -/
theorem err_mk {q : Str} {R C N : Addr} {bs : List Value} {sn : List Str} {sub : List Value} {ab : Bool} {col : Option Bool} {dd : Option Addr} {k0 k1 k2 k3 k5 : Option Value} (X : K.In h) (Gn : h.Ns mainGlobals mg)
    (aC : PySem.W.nsIn K mainGlobals "BadText" = some (some (.ref C))) (lk : K.lookup C = some (excClassObj "BadText" q C N bs [.ref R, .type "ValueError", .type "Exception", .type "BaseException", .type "object"] true sn sub ab col dd k0 k1 k2 k3 k5 "ValueError.__new__"))
    (sa : PySem.W.findIn K (.ref C) "__setattr__" = some (some (.builtin "object.__setattr__"))) (eC : PySem.W.subIn K (.ref C) (.type "BaseException") = some true) (tC : PySem.W.typeIn K (.ref C) = some (.type "type")) (kC : PySem.W.keepIn K (.ref C) = true)
    (hg : PySem.W.findIn K (.ref C) "__getattribute__" = some (some (.builtin "BaseException.__getattribute__"))) (hk : PySem.W.findIn K (.ref C) "__getattr__" = some none) (hd : PySem.W.hasDictIn K C = true) (ha : PySem.W.findIn K (.ref C) "__class__" = some (some (.builtin "object.__class__")))
    (hn : PySem.W.specialIn K (.builtin "object.__class__") "__get__" = some (some (.builtin "getset_descriptor.__get__"))) (ht : PySem.W.takesIn K (.builtin "object.__class__") = some true) (hm : PySem.W.mroIn K C (.type "object") = some true) (no : PySem.W.findIn K (.ref C) "line" = some none)
    (iC : PySem.W.isClsIn K C = true) (sC : PySem.W.subIn K (.ref C) (.ref C) = some true) (ini : PySem.W.findIn K (.ref C) "__init__" = some (some (.ref f))) (tI : PySem.W.typeIn K (.ref f) = some (.type "function")) (F : Fun K "__init__" "BadText.__init__" sBadT f fd) : Eb K mg C f fd :=
  ⟨PySem.W.mg_of X Gn aC, ⟨⟨⟨_, _, _, _, _, _, _, _, _, _, _, _, _, _, _, lk, (show PySem.HandSPX.refsVE [.type "ValueError", .type "Exception", .type "BaseException", .type "object"] = true by decide +kernel)⟩, sa, eC, tC, kC⟩, ⟨hg, hk, eC, hd, ha, hn, ht, hm⟩, no⟩, G.exm_own iC tC eC sC, ini, tI, F⟩
theorem words_of {a : Addr} {dd : Option Addr} {sl : Array (Option Value)} {n : Nat} {us : List Value} {xs : List V} (lk : K.lookup a = some ⟨.type "tuple", dd, .seq us.toArray n, sl⟩) (hl : xs.length ≤ sizeLine) (r : Vals xs us) : ∀ H, SqT K H a xs := fun H => .inr ⟨_, us.toArray, _, lk, rfl, rfl, by rw [List.size_toArray, ← r.length]; exact hl, by simpa using r⟩
theorem fund_mk {x y : Str} {v : V} {u : Value} {st : Stmt} {oc : Value} {od an : Option Addr} {osl : Array (Option Value)} {D : Addr} {doc pm cdv ct : Value} (l : K.lookup f = some ⟨oc, od, .func (PySem.W.fnOf x x (defArgs st) (defBody st) (defScope st) .none (.ref D) doc pm an cdv ct), osl⟩)
    (c : PySem.W.codeIn K cdv x = true) (k : PySem.W.keepIn K (.ref f) = true) (n : PySem.W.nsIn K D y = some (some u)) (r : RelV v u) : FunD K x x (defArgs st) (defBody st) (defScope st) [] [(y, v)] f (PySem.W.fnOf x x (defArgs st) (defBody st) (defScope st) .none (.ref D) doc pm an cdv ct) :=
  ⟨⟨oc, od, _, _, doc, pm, an, cdv, ct, osl, rfl, l, c, .inl ⟨rfl, rfl⟩, .inr ⟨D, rfl, fun q hq => by
    rw [List.mem_singleton.mp hq]
    exact ⟨_, n, r⟩⟩⟩, k⟩
theorem bn_mk (X : K.In h) (Gn : h.Ns mainGlobals mg) (a0 : PySem.W.nsIn K mainGlobals "isinstance" = some none) (a1 : PySem.W.nsIn K mainGlobals "bool" = some none) (a2 : PySem.W.nsIn K mainGlobals "int" = some none) (a3 : PySem.W.nsIn K mainGlobals "tuple" = some none) (a4 : PySem.W.nsIn K mainGlobals "list" = some none) (a5 : PySem.W.nsIn K mainGlobals "len" = some none) (a6 : PySem.W.nsIn K mainGlobals "range" = some none) (a7 : PySem.W.nsIn K mainGlobals "zip" = some none) (a8 : PySem.W.nsIn K mainGlobals "min" = some none) (a9 : PySem.W.nsIn K mainGlobals "max" = some none) (a10 : PySem.W.nsIn K mainGlobals "sorted" = some none) (a11 : PySem.W.nsIn K mainGlobals "set" = some none) (a12 : PySem.W.nsIn K mainGlobals "enumerate" = some none) : Bn mg := ⟨PySem.W.mg_none_of X Gn a0, PySem.W.mg_none_of X Gn a1, PySem.W.mg_none_of X Gn a2, PySem.W.mg_none_of X Gn a3, PySem.W.mg_none_of X Gn a4, PySem.W.mg_none_of X Gn a5, PySem.W.mg_none_of X Gn a6, PySem.W.mg_none_of X Gn a7, PySem.W.mg_none_of X Gn a8, PySem.W.mg_none_of X Gn a9, PySem.W.mg_none_of X Gn a10, PySem.W.mg_none_of X Gn a11, PySem.W.mg_none_of X Gn a12⟩
theorem no_mk {x : Str} (X : K.In h) (Gn : h.Ns mainGlobals mg) (a : PySem.W.nsIn K mainGlobals x = some none) : mg x = none := PySem.W.mg_none_of X Gn a
theorem bt_mk {C : Addr} (X : K.In h) (Gn : h.Ns mainGlobals mg) (cg : PySem.W.nsIn K mainGlobals "BegunWay" = some (some (.ref C))) (c1 : PySem.W.plainGet K C Str.empty = true) (c2 : PySem.W.hasDictIn K C = true) (c3 : PySem.W.plainOver K C = true) (c4 : PySem.W.findIn K (.ref C) "__setattr__" = some (some (.builtin "object.__setattr__")))
    (c5 : PySem.W.findIn K (.ref C) "most" = some none) (c6 : PySem.W.findIn K (.ref C) "tells" = some none) (c7 : PySem.W.findIn K (.ref C) "head" = some none) (c8 : PySem.W.findIn K (.ref C) "steps" = some none) : Bt K mg C := ⟨PySem.W.mg_of X Gn cg, ⟨c1, c2, c3, c4⟩, c5, c6, c7, c8⟩
theorem rt_mk {C : Addr} (X : K.In h) (Gn : h.Ns mainGlobals mg) (cg : PySem.W.nsIn K mainGlobals "Reader" = some (some (.ref C))) (c1 : PySem.W.plainGet K C Str.empty = true) (c2 : PySem.W.hasDictIn K C = true) (c3 : PySem.W.plainOver K C = true) (c4 : PySem.W.findIn K (.ref C) "__setattr__" = some (some (.builtin "object.__setattr__")))
    (c5 : PySem.W.findIn K (.ref C) "_begun" = some none) (c6 : PySem.W.findIn K (.ref C) "_size" = some none) : Rt K mg C := ⟨PySem.W.mg_of X Gn cg, ⟨c1, c2, c3, c4⟩, c5, c6⟩
theorem str_mk {t : Tok} {x z : Str} (X : K.In h) (Gn : h.Ns mainGlobals mg) (d : PySem.W.nsIn K mainGlobals x = some (some (.str z t))) : ∃ t, mg x = some (.str z t) := ⟨t, PySem.W.mg_of X Gn d⟩
theorem num_mk {t : Tok} {x : Str} {n : Int} (X : K.In h) (Gn : h.Ns mainGlobals mg) (d : PySem.W.nsIn K mainGlobals x = some (some (.int n t))) : ∃ t, mg x = some (.int n t) := ⟨t, PySem.W.mg_of X Gn d⟩
theorem wt_mk {C aS aL aT : Addr} {t0 t1 t2 t3 t4 t5 u1 u2 u3 u4 u5 u6 u7 u8 : Tok} {dS dL dT : Option Addr} {nS nL nT : Nat} {sS sL sT : Array (Option Value)} (X : K.In h) (Gn : h.Ns mainGlobals mg) (cg : PySem.W.nsIn K mainGlobals "Way" = some (some (.ref C)))
    (c1 : PySem.W.plainGet K C Str.empty = true) (c2 : PySem.W.hasDictIn K C = true) (c3 : PySem.W.plainOver K C = true) (c4 : PySem.W.findIn K (.ref C) "__setattr__" = some (some (.builtin "object.__setattr__")))
    (c5 : PySem.W.findIn K (.ref C) "head" = some none) (c6 : PySem.W.findIn K (.ref C) "steps" = some none) (c7 : PySem.W.findIn K (.ref C) "depth" = some none) (c8 : PySem.W.findIn K (.ref C) "size" = some none)
    (iA : PySem.W.findIn K (.ref C) "__class__" = some (some (.builtin "object.__class__"))) (iN : PySem.W.specialIn K (.builtin "object.__class__") "__get__" = some (some (.builtin "getset_descriptor.__get__"))) (iT : PySem.W.takesIn K (.builtin "object.__class__") = some true) (iM : PySem.W.mroIn K C (.type "object") = some true)
    (d0 : PySem.W.nsIn K mainGlobals "GREATEST_HEAD" = some (some (.int 40 t0))) (d1 : PySem.W.nsIn K mainGlobals "GREATEST_ROAD" = some (some (.int 1000 t1))) (d2 : PySem.W.nsIn K mainGlobals "GREATEST_MOST" = some (some (.int 1000000000000 t2))) (d3 : PySem.W.nsIn K mainGlobals "MOST_STEPS" = some (some (.int 12 t3))) (d4 : PySem.W.nsIn K mainGlobals "GREATEST_DEPTH" = some (some (.int 3 t4))) (d5 : PySem.W.nsIn K mainGlobals "GREATEST_SIZE" = some (some (.int 40 t5)))
    (e1 : PySem.W.nsIn K mainGlobals "SEALED_WORDS" = some (some (.ref aS))) (f1 : K.lookup aS = some ⟨.type "tuple", dS, .seq [Value.str "tell" u1, .str "drop" u2].toArray nS, sS⟩)
    (e2 : PySem.W.nsIn K mainGlobals "LOOSE_WORDS" = some (some (.ref aL))) (f2 : K.lookup aL = some ⟨.type "tuple", dL, .seq [Value.str "cut" u3, .str "tell" u4, .str "drop" u5].toArray nL, sL⟩)
    (e3 : PySem.W.nsIn K mainGlobals "TELLS_WORDS" = some (some (.ref aT))) (f3 : K.lookup aT = some ⟨.type "tuple", dT, .seq [Value.str "turn" u6, .str "keep" u7, .str "lose" u8].toArray nT, sT⟩)     : WP.Wt K mg C :=
  ⟨PySem.W.mg_of X Gn cg, ⟨c1, c2, c3, c4⟩, c5, c6, c7, c8, iA, iN, iT, iM, ⟨_, PySem.W.mg_of X Gn d0⟩, ⟨_, PySem.W.mg_of X Gn d1⟩, ⟨_, PySem.W.mg_of X Gn d2⟩, ⟨_, PySem.W.mg_of X Gn d3⟩, ⟨_, PySem.W.mg_of X Gn d4⟩, ⟨_, PySem.W.mg_of X Gn d5⟩,
    ⟨_, PySem.W.mg_of X Gn e1, words_of f1 (by decide) (.cons ⟨_, rfl⟩ (.cons ⟨_, rfl⟩ .nil))⟩, ⟨_, PySem.W.mg_of X Gn e2, words_of f2 (by decide) (.cons ⟨_, rfl⟩ (.cons ⟨_, rfl⟩ (.cons ⟨_, rfl⟩ .nil)))⟩, ⟨_, PySem.W.mg_of X Gn e3, words_of f3 (by decide) (.cons ⟨_, rfl⟩ (.cons ⟨_, rfl⟩ (.cons ⟨_, rfl⟩ .nil)))⟩⟩
end
theorem all_mk {l : PySem.W.OpenLaw} {w : World} {K : PySem.W.Frag} {h : Heap} {mg : Str → Option Value} {fa CR CB CW CE fIr fIb fIw fWl fBi fTk fWo fWy fLv fTh fTs fTt fEi fLaw : Addr} {dIr dIb dIw dBi dTk dWo dWy dLv dTh dTs dTt dEi dLaw : FuncData} (X : K.In h) (Gn : h.Ns mainGlobals mg) (hfa : mg "law" = some (.ref fa)) (B : Bn mg) (hsum : mg "sum" = none) (hrep : mg "repr" = none) (hstr : mg "str" = none) (hall : mg "all" = none) (TB : Bt K mg CB) (TR : Rt K mg CR)
    (gD : ∃ t, mg "DIGITS" = some (.str "0123456789" t)) (gI : ∃ t, mg "INDENTATION" = some (.str "  " t)) (gM : ∃ t, mg "MOST_DIGITS" = some (.int 60 t)) (TW : WP.Wt K mg CW)
    (z_I : Fa K mg "is_integer" WP.sInteger ["value"])
    (z_W : Fa K mg "is_within" WP.sWithin ["value", "least", "greatest"])
    (z_wr : Fa K mg "written_integer" sWritten ["word"])
    (z_tp : Fa K mg "_step" sTStep ["words", "head"])
    (z_tl2 : Fa K mg "_lines" sTLines ["way"])
    (z_ll : Fa K mg "_law_lines" sLLines ["plan", "lead"])
    (z_wt : Fa K mg "way_text" sWText ["way"])
    (z_rw : Fa K mg "read_way" sRead ["text"])
    (z_cnt : Fa K mg "_law_is_count" sCnt ["word", "low", "high"])
    (z_lin : Fa K mg "_law_is_line" sLin ["words", "head", "depth", "room"])
    (z_fb : Fa K mg "_law_first_bad" sFb ["text"])
    (z_bl : Fa K mg "_law_bent_lines" sBentL ["stream", "lines"])
    (z_gr : Fa K mg "_law_great" sGreat ["stream"])
    (z_rf : Fa K mg "_law_refused" sRef81 ["value"])
    (z_odd : Fa K mg "_law_odd_lines" sOdd [])
    (z_nml : Fa K mg "_law_number_lines" sNumL [])
    (z_ls : Fa K mg "_law_stream" S.sSource ["script", "start"])
    (z_ld : Fa K mg "_law_draw" S.sDraw ["stream", "size"])
    (z_lch : Fa K mg "_law_choose" S.sPick ["stream", "items"])
    (z_sm : Fa K mg "_law_same" S.sSame ["one", "two"])
    (z_pn : Fa K mg "_law_plan" sLPlan ["stream", "depth", "base"])
    (z_lm : Fa K mg "_law_most" sLMost ["stream"])
    (z_ps : Fa K mg "_law_plan_step" sLStep ["stream", "depth", "base", "head"])
    (z_lw : Fa K mg "_law_way" sLWay ["plan"])
    (z_li : Fa K mg "is_step_list" WP.sList ["value"])
    (z_st : Fa K mg "_is_step" WP.sStep ["value", "head"])
    (z_rd : Fa K mg "is_road" WP.sRoad ["size", "sealed", "loose", "least"])
    (z_tl : Fa K mg "is_tells" WP.sTells ["value"])
    (z_mo : Fa K mg "is_most" WP.sMost ["value"])
    (z_hd : Fa K mg "is_head" WP.sHead ["value"])
    (Eb0 : Eb K mg CE fBi dBi) (xW : PySem.W.subIn K (.ref CW) (.type "str") = some false)
    (MIr : Mk K CR fIr) (FIr : Fun K "__init__" "Reader.__init__" sRInit fIr dIr) (MIb : Mk K CB fIb) (FIb : Fun K "__init__" "BegunWay.__init__" sBInit fIb dIb) (MIw : Mk K CW fIw) (FIw : Fun K "__init__" "Way.__init__" WP.sInit fIw dIw)
    (nW : PySem.W.findIn K (.ref CW) "__len__" = some (some (.ref fWl))) (nB : PySem.W.findIn K (.ref CB) "__len__" = some none) (nR : PySem.W.findIn K (.ref CR) "__len__" = some none)
    (mTk : Meth K CR "takes" fTk) (FTk : Fun K "takes" "Reader.takes" sRTakes fTk dTk)
    (mWo : Meth K CR "is_whole" fWo) (FWo : Fun K "is_whole" "Reader.is_whole" sRWhole fWo dWo)
    (mWy : Meth K CR "way" fWy) (FWy : Fun K "way" "Reader.way" sRWay fWy dWy)
    (mLv : Meth K CR "_level" fLv) (FLv : Fun K "_level" "Reader._level" sRLevel fLv dLv)
    (mTh : Meth K CR "_takes_head" fTh) (FTh : Fun K "_takes_head" "Reader._takes_head" sRHead fTh dTh)
    (mTs : Meth K CR "_takes_step" fTs) (FTs : Fun K "_takes_step" "Reader._takes_step" sRStep fTs dTs)
    (mTt : Meth K CR "_takes_tunnel" fTt) (FTt : Fun K "_takes_tunnel" "Reader._takes_tunnel" sRTun fTt dTt)
    (mEi : Meth K CR "_end_inner" fEi) (FEi : Fun K "_end_inner" "Reader._end_inner" sREnd fEi dEi)
    (aL : PySem.W.nsIn K mainGlobals "law" = some (some (.ref fLaw))) (FLaw : Fun K "law" "law" sLaw fLaw dLaw) :
    ∃ fd : FuncData, (∀ (s : Shared) (u : Value), BindsTo s fd ⟨[u], []⟩ [("script", u)]) ∧ ∀ base : Heap, K.In base → base.Ns mainGlobals mg → G.Ok l.prog w K mg base CX0 13 fa fd ["script"] (spLaw K) := by
  have e := hfa.symm.trans (PySem.W.mg_of X Gn aL)
  cases e
  refine ⟨dLaw, ?_, fun base _ _ => ?_⟩
  · obtain ⟨_, _, _, _, _, _, _, _, _, rfl, _, _⟩ := FLaw.ex
    exact fun s u => .of_eq rfl
  have n1 : CW ≠ CB := ne_cls nW nB
  have n2 : CW ≠ CR := ne_cls nW nR
  have Bi : S.Bi mg := ⟨B.int, B.len⟩
  have DU : Df l.prog w K mg base 1 "_law_stream" ["script", "start"] (S.spSource K) := z_ls.df fun f fd F => S.ok_source F Bi
  have DR : Df l.prog w K mg base 1 "_law_draw" ["stream", "size"] S.spDraw := z_ld.df fun f fd F => S.ok_draw F Bi
  have DC2 : Df l.prog w K mg base 2 "_law_choose" ["stream", "items"] (S.spChoose K) := z_lch.df fun f fd F => S.ok_choose F B.len DR
  have DS : G.Du l.prog w K mg base 1 "_law_same" ["one", "two"] (S.spSame K) := by
    obtain ⟨f, fd, F, g1, g2, g3⟩ := z_sm.ex
    exact ⟨f, fd, S.ok_same F hrep, g1, g2, g3⟩
  -- ways
  have BW : WP.Bn mg := ⟨B.isi, B.bool, B.int, B.tuple, B.list, B.len, B.enum, B.max, hsum⟩
  obtain ⟨fN, fdN, FN, gN, kN, bN⟩ := z_I.ex
  obtain ⟨fW, fdW, FW, gW, kW, bW⟩ := z_W.ex
  obtain ⟨tM, gMo⟩ := TW.gMost
  have W0 : WP.Wi l.prog w K mg base fW fdW := ⟨WP.ok_within FW BW FN gN bN, gW, kW, bW⟩
  have EW : WP.Df l.prog w K mg base 2 "is_within" ["value", "least", "greatest"] WP.spWithin := ⟨fW, fdW, W0.ok, gW, kW, bW⟩
  have EM : WP.Df l.prog w K mg base 3 "is_most" ["value"] (WP.spIn1 1 1000000000000) := z_mo.dw fun f fd F => WP.ok_most F W0 gMo
  have EM2 : Df l.prog w K mg base 3 "is_most" ["value"] (WP.spIn1 1 1000000000000) := z_mo.df fun f fd F => WP.ok_most F W0 gMo
  have ERd : WP.Df l.prog w K mg base 3 "is_road" ["size", "sealed", "loose", "least"] WP.spRoad := z_rd.dw fun f fd F => WP.ok_road F TW EW
  have ERd2 : Df l.prog w K mg base 3 "is_road" ["size", "sealed", "loose", "least"] WP.spRoad := z_rd.df fun f fd F => WP.ok_road F TW EW
  have ETn : WP.Df l.prog w K mg base 1 "is_tells" ["value"] WP.spTells := z_tl.dw fun f fd F => WP.ok_tells F TW
  have ETn2 : Df l.prog w K mg base 1 "is_tells" ["value"] WP.spTells := z_tl.df fun f fd F => WP.ok_tells F TW
  obtain ⟨tH, gH⟩ := TW.gHead
  have EHd : WP.Df l.prog w K mg base 3 "is_head" ["value"] (WP.spIn1 1 40) := z_hd.dw fun f fd F => WP.ok_head F W0 gH
  have EHd2 : Df l.prog w K mg base 3 "is_head" ["value"] (WP.spIn1 1 40) := z_hd.df fun f fd F => WP.ok_head F W0 gH
  have ELi : WP.Df l.prog w K mg base 1 "is_step_list" ["value"] (WP.spList K) := z_li.dw fun f fd F => WP.ok_list F BW TW
  have ESt : WP.Df l.prog w K mg base 5 "_is_step" ["value", "head"] (WP.spStep CW) := z_st.dw fun f fd F => WP.ok_step F BW TW ERd EM ETn
  have MWw : WP.Mw l.prog w K mg base CW := ⟨fIw, dIw, WP.ok_init FIw BW TW EHd ELi ESt, MIw, FIw.binds fun _ _ _ _ _ _ us hl => match us, hl with | [_, _, _], _ => rfl⟩
  have DLm : Df l.prog w K mg base 3 "_law_most" ["stream"] spLMost := z_lm.df fun f fd F => ok_lmost F DR DC2
  have DPl : Df l.prog w K mg base 10 "_law_plan" ["stream", "depth", "base"] (spLPlan 3) := dl_plan B z_pn z_ps DR DC2 DLm 3
  have DLw : Df l.prog w K mg base 11 "_law_way" ["plan"] (spLWay CW 3) := dl_way TW MWw z_lw 3
  -- texts
  have DTl : Df l.prog w K mg base 4 "_lines" ["way"] (spTLines CW 3) := dl_tlines B hstr gI TW z_tl2 3
  have DLl : Df l.prog w K mg base 4 "_law_lines" ["plan", "lead"] (spLLines 3) := dl_llines B hstr z_ll 3
  have DWt : Df l.prog w K mg base 5 "way_text" ["way"] (spWText CW) := z_wt.df fun f fd F => ok_wtext F DTl
  have DWr : Df l.prog w K mg base 1 "written_integer" ["word"] spWritten := z_wr.df fun f fd F => ok_written F B hall gD gM
  have DTs : Df l.prog w K mg base 4 "_step" ["words", "head"] (spTStep CW) := z_tp.df fun f fd F => ok_tstep F B DWr EM2 ERd2
  have NB : Mn l.prog w K mg base CB 1 ["self", "most", "tells"] (spBInit CB CW) := ⟨fIb, dIb, ok_binit FIb TB, MIb, FIb.binds fun _ _ _ _ _ _ us hl => match us, hl with | [_, _, _], _ => rfl⟩
  have NR : Mn l.prog w K mg base CR 3 ["self"] (spRInit CR CB CW) := ⟨fIr, dIr, ok_rinit FIr TR TB NB, MIr, FIr.binds fun _ _ _ _ _ _ us hl => match us, hl with | [_], _ => rfl⟩
  have RWo : Mr l.prog w K mg base CR 1 "is_whole" ["self"] (spWhole CR CB CW) := ⟨fWo, dWo, ok_whole FWo B TR TB, mWo, FWo.binds fun _ _ _ _ _ _ us hl => match us, hl with | [_], _ => rfl⟩
  have RLv : Mr l.prog w K mg base CR 2 "_level" ["self", "line"] (spLevel CR CB CW) := ⟨fLv, dLv, ok_level FLv B TR gI RWo, mLv, FLv.binds fun _ _ _ _ _ _ us hl => match us, hl with | [_, _], _ => rfl⟩
  have RTh : Mr l.prog w K mg base CR 4 "_takes_head" ["self", "words"] (spTHead CR CB CW) := ⟨fTh, dTh, ok_thead n1 n2 FTh B TR TB DWr EHd2, mTh, FTh.binds fun _ _ _ _ _ _ us hl => match us, hl with | [_, _], _ => rfl⟩
  have REi : Mr l.prog w K mg base CR 8 "_end_inner" ["self"] (spREnd CR CB CW) := ⟨fEi, dEi, ok_rend n1 n2 FEi TR TB TW MWw, mEi, FEi.binds fun _ _ _ _ _ _ us hl => match us, hl with | [_], _ => rfl⟩
  have RTt : Mr l.prog w K mg base CR 4 "_takes_tunnel" ["self", "words"] (spRTun CR CB CW) := ⟨fTt, dTt, ok_rtun n1 n2 FTt B TR TB TW DWr EM2 ETn2 NB, mTt, FTt.binds fun _ _ _ _ _ _ us hl => match us, hl with | [_, _], _ => rfl⟩
  have RTs : Mr l.prog w K mg base CR 5 "_takes_step" ["self", "words"] (spRStep CR CB CW) := ⟨fTs, dTs, ok_rstep n1 n2 FTs B TR TB TW DTs RTt, mTs, FTs.binds fun _ _ _ _ _ _ us hl => match us, hl with | [_, _], _ => rfl⟩
  have RTk : Mr l.prog w K mg base CR 9 "takes" ["self", "line"] (spTakes CR CB CW) := ⟨fTk, dTk, ok_takes n1 n2 FTk B TR TB gI RLv RTh REi RTs, mTk, FTk.binds fun _ _ _ _ _ _ us hl => match us, hl with | [_, _], _ => rfl⟩
  have RWy : Mr l.prog w K mg base CR 9 "way" ["self"] (spRWay CR CB CW) := ⟨fWy, dWy, ok_rway FWy B TR TB TW REi MWw, mWy, FWy.binds fun _ _ _ _ _ _ us hl => match us, hl with | [_], _ => rfl⟩
  -- what is refused
  have NI1 : WP.Df l.prog w K mg base 1 "is_integer" ["value"] spIntN := z_I.dw fun f fd F => ok_intN F B
  have NW : WP.Df l.prog w K mg base 2 "is_within" ["value", "least", "greatest"] spWithN := z_W.dw fun f fd F => ok_withN F NI1
  have NM : Df l.prog w K mg base 3 "is_most" ["value"] (spInN 1 1000000000000) := z_mo.df fun f fd F => ok_mostN F NW TW
  have NH : Df l.prog w K mg base 3 "is_head" ["value"] (spInN 1 40) := z_hd.df fun f fd F => ok_headN F NW TW
  have NRd : Df l.prog w K mg base 3 "is_road" ["size", "sealed", "loose", "least"] spRoadN := z_rd.df fun f fd F => ok_roadN F TW NW
  have NT : Df l.prog w K mg base 1 "is_tells" ["value"] spTellsN := z_tl.df fun f fd F => ok_tellsN F TW
  have NWr : Df l.prog w K mg base 1 "written_integer" ["word"] spWrA := z_wr.df fun f fd F => ok_wrA F B hall gD gM
  have NSt : Df l.prog w K mg base 4 "_step" ["words", "head"] spStepB := z_tp.df fun f fd F => ok_stepB F B NWr NM NRd
  have QTh : Mr l.prog w K mg base CR 4 "_takes_head" ["self", "words"] (spTHeadB CR CB CW) := ⟨fTh, dTh, ok_theadB FTh B TR TB NWr NH, mTh, FTh.binds fun _ _ _ _ _ _ us hl => match us, hl with | [_, _], _ => rfl⟩
  have QTt : Mr l.prog w K mg base CR 4 "_takes_tunnel" ["self", "words"] (spRTunB CR CB CW) := ⟨fTt, dTt, ok_rtunB n1 n2 FTt B TR TB TW NWr NM NT NB, mTt, FTt.binds fun _ _ _ _ _ _ us hl => match us, hl with | [_, _], _ => rfl⟩
  have QTs : Mr l.prog w K mg base CR 5 "_takes_step" ["self", "words"] (spRStepB CR CB CW) := ⟨fTs, dTs, ok_rstepB n1 n2 FTs B TR TB TW NSt QTt, mTs, FTs.binds fun _ _ _ _ _ _ us hl => match us, hl with | [_, _], _ => rfl⟩
  have QLv : Mr l.prog w K mg base CR 2 "_level" ["self", "line"] (orSp (spLevelG CR CB CW) (spLevelB CR CB CW)) := ⟨fLv, dLv, (ok_levelG FLv B TR gI RWo).or (ok_levelB FLv B TR gI RWo), mLv, FLv.binds fun _ _ _ _ _ _ us hl => match us, hl with | [_, _], _ => rfl⟩
  have QTk : Mr l.prog w K mg base CR 9 "takes" ["self", "line"] (orSp (spTakes CR CB CW) (spTakesB CR CB CW)) := ⟨fTk, dTk, (ok_takes n1 n2 FTk B TR TB gI RLv RTh REi RTs).or (ok_takesB n1 n2 FTk B TR TB gI QLv QTh REi QTs), mTk, FTk.binds fun _ _ _ _ _ _ us hl => match us, hl with | [_, _], _ => rfl⟩
  have ME : G.Mk l.prog w K mg base CE "line" := Eb0.mk'
  have DRd0 : DRd l.prog w K mg base 10 (spReadA K CW CE) := by
    obtain ⟨f, fd, F, g1, g2, g3⟩ := z_rw.ex
    exact ⟨f, fd, ok_readA F B hstr TR ME Eb0.g NR QTk RWo RWy, g1, g2, g3⟩
  have DRf : Df l.prog w K mg base 11 "_law_refused" ["value"] (spRef81 K) := z_rf.df fun f fd F => ok_ref81 F B TW Eb0.L Eb0.g Eb0.ex DRd0 DWt
  have DCn : Df l.prog w K mg base 1 "_law_is_count" ["word", "low", "high"] spCnt := z_cnt.df fun f fd F => ok_cnt F B hstr
  have DLn : Df l.prog w K mg base 2 "_law_is_line" ["words", "head", "depth", "room"] spLine := z_lin.df fun f fd F => ok_line F B DCn
  have DFb : Df l.prog w K mg base 3 "_law_first_bad" ["text"] spFb := z_fb.df fun f fd F => ok_fb F B DCn DLn
  have DOd : D0 l.prog w K mg base 1 "_law_odd_lines" spOdd := by
    obtain ⟨f, fd, F, g1, g2, g3⟩ := z_odd.ex
    exact ⟨f, fd, ok_odd F, g1, g2, g3⟩
  have DNu : D0 l.prog w K mg base 1 "_law_number_lines" spNum := by
    obtain ⟨f, fd, F, g1, g2, g3⟩ := z_nml.ex
    exact ⟨f, fd, ok_num F, g1, g2, g3⟩
  have DBl : Df l.prog w K mg base 3 "_law_bent_lines" ["stream", "lines"] spBl := z_bl.df fun f fd F => ok_bl F B DR DC2 DOd
  have DGr : Df l.prog w K mg base 3 "_law_great" ["stream"] spGreat := z_gr.df fun f fd F => ok_great F B DR DC2
  exact ok_law FLaw B TW (kit_str xW) DU DPl DLw DLl DS DBl DGr DRf DFb DOd DNu
end CP

end
section
open PySem PySem.W PyProof.Rows
set_option Elab.async false
set_option pp.deepTerms false
set_option pp.maxSteps 60
set_option maxRecDepth 100000 in
set_option maxHeartbeats 0 in
theorem PySem.Challenge.cw_roadsizes_k81_texts_refused_holds : PySem.Challenge.rw_roadsizes_k81_texts_refused.Holds := by
  w_on; o_law; k_head; (case hw => w_witness2)
  k_fill
  refine G.walk (l := PySem.Challenge.rw_roadsizes_k81_texts_refused) (n := 63) (k := 13) (sp := CP.spLaw) (x := "script") rfl (by decide) rfl ⟨rfl, by decide, by decide⟩ (fun w h Y => PySem.W.kIn_of Y) ?F (fun K H a ns hl hb hS => ⟨a, ns, rfl, hS, hl, hb, fun _ => rfl⟩)
  case F =>
    intro w mg fa h KX hNs hmg
    refine' CP.all_mk KX hNs hmg (CP.bn_mk KX hNs ?y0 ?y1 ?y2 ?y3 ?y4 ?y5 ?y6 ?y7 ?y8 ?y9 ?y10 ?y11 ?y12) (CP.no_mk KX hNs ?y13) (CP.no_mk KX hNs ?y14) (CP.no_mk KX hNs ?y15) (CP.no_mk KX hNs ?y16) (CP.bt_mk KX hNs ?bg ?b1 ?b2 ?b3 ?b4 ?b5 ?b6 ?b7 ?b8) (CP.rt_mk KX hNs ?rg ?r1 ?r2 ?r3 ?r4 ?r5 ?r6) (CP.str_mk KX hNs ?s0) (CP.str_mk KX hNs ?s1) (CP.num_mk KX hNs ?d0)
      (CP.wt_mk KX hNs ?wcg ?wc1 ?wc2 ?wc3 ?wc4 ?wc5 ?wc6 ?wc7 ?wc8 ?wiA ?wiN ?wiT ?wiM ?wd0 ?wd1 ?wd2 ?wd3 ?wd4 ?wd5 ?we1 ?wf1 ?we2 ?wf2 ?we3 ?wf3)
      (CP.fd_I KX hNs ?aI (L2.fun_mk (st := WP.sInteger) ?leI ?oeI ?keI))
      (CP.fd_W KX hNs ?aW (L2.fun_mk (st := WP.sWithin) ?leW ?oeW ?keW))
      (CP.fd_wr KX hNs ?awr (L2.fun_mk (st := CP.sWritten) ?lewr ?oewr ?kewr))
      (CP.fd_tp KX hNs ?atp (L2.fun_mk (st := CP.sTStep) ?letp ?oetp ?ketp))
      (CP.fd_tl2 KX hNs ?atl2 (L2.fun_mk (st := CP.sTLines) ?letl2 ?oetl2 ?ketl2))
      (CP.fd_ll KX hNs ?all (L2.fun_mk (st := CP.sLLines) ?lell ?oell ?kell))
      (CP.fd_wt KX hNs ?awt (L2.fun_mk (st := CP.sWText) ?lewt ?oewt ?kewt))
      (CP.fd_rw KX hNs ?arw (L2.fun_mk (st := CP.sRead) ?lerw ?oerw ?kerw))
      (CP.fd_cnt KX hNs ?acnt (L2.fun_mk (st := CP.sCnt) ?lecnt ?oecnt ?kecnt))
      (CP.fd_lin KX hNs ?alin (L2.fun_mk (st := CP.sLin) ?lelin ?oelin ?kelin))
      (CP.fd_fb KX hNs ?afb (L2.fun_mk (st := CP.sFb) ?lefb ?oefb ?kefb))
      (CP.fd_bl KX hNs ?abl (L2.fun_mk (st := CP.sBentL) ?lebl ?oebl ?kebl))
      (CP.fd_gr KX hNs ?agr (L2.fun_mk (st := CP.sGreat) ?legr ?oegr ?kegr))
      (CP.fd_rf KX hNs ?arf (L2.fun_mk (st := CP.sRef81) ?lerf ?oerf ?kerf))
      (CP.fd_odd KX hNs ?aodd (L2.fun_mk (st := CP.sOdd) ?leodd ?oeodd ?keodd))
      (CP.fd_nml KX hNs ?anml (L2.fun_mk (st := CP.sNumL) ?lenml ?oenml ?kenml))
      (CP.fd_ls KX hNs ?als (L2.fun_mk (st := S.sSource) ?lels ?oels ?kels))
      (CP.fd_ld KX hNs ?ald (L2.fun_mk (st := S.sDraw) ?leld ?oeld ?keld))
      (CP.fd_lch KX hNs ?alch (L2.fun_mk (st := S.sPick) ?lelch ?oelch ?kelch))
      (CP.fd_sm KX hNs ?asm (L2.fun_mk (st := S.sSame) ?lesm ?oesm ?kesm))
      (CP.fd_pn KX hNs ?apn (L2.fun_mk (st := CP.sLPlan) ?lepn ?oepn ?kepn))
      (CP.fd_lm KX hNs ?alm (L2.fun_mk (st := CP.sLMost) ?lelm ?oelm ?kelm))
      (CP.fd_ps KX hNs ?aps (L2.fun_mk (st := CP.sLStep) ?leps ?oeps ?keps))
      (CP.fd_lw KX hNs ?alw (L2.fun_mk (st := CP.sLWay) ?lelw ?oelw ?kelw))
      (CP.fd_li KX hNs ?ali (L2.fun_mk (st := WP.sList) ?leli ?oeli ?keli))
      (CP.fd_st KX hNs ?ast (L2.fun_mk (st := WP.sStep) ?lest ?oest ?kest))
      (CP.fd_rd KX hNs ?ard (L2.fun_mk (st := WP.sRoad) ?lerd ?oerd ?kerd))
      (CP.fd_tl KX hNs ?atl (L2.fun_mk (st := WP.sTells) ?letl ?oetl ?ketl))
      (CP.fd_mo KX hNs ?amo (L2.fun_mk (st := WP.sMost) ?lemo ?oemo ?kemo))
      (CP.fd_hd KX hNs ?ahd (L2.fun_mk (st := WP.sHead) ?lehd ?oehd ?kehd))
      (CP.err_mk KX hNs ?ebg ?eblk ?ebsa ?ebec ?ebtc ?ebkc ?ebhg ?ebhk ?ebhd ?ebha ?ebhn ?ebht ?ebhm ?ebno ?ebic ?ebsc ?ebin ?ebti (L2.fun_mk (st := CP.sBadT) ?lBi ?oBi ?kBi)) ?xW
      ⟨?g1, ?g2, ?g3, ?g4⟩ (L2.fun_mk (st := CP.sRInit) ?lGn ?oGn ?kGn) ⟨?i1, ?i2, ?i3, ?i4⟩ (L2.fun_mk (st := CP.sBInit) ?lIn ?oIn ?kIn) ⟨?j1, ?j2, ?j3, ?j4⟩ (L2.fun_mk (st := WP.sInit) ?lJn ?oJn ?kJn)
      ?nW ?nB ?nR
      ⟨?maTk, ?mfTk, ?mkTk⟩ (L2.fun_mk (st := CP.sRTakes) ?lmTk ?omTk ?kmTk)
      ⟨?maWo, ?mfWo, ?mkWo⟩ (L2.fun_mk (st := CP.sRWhole) ?lmWo ?omWo ?kmWo)
      ⟨?maWy, ?mfWy, ?mkWy⟩ (L2.fun_mk (st := CP.sRWay) ?lmWy ?omWy ?kmWy)
      ⟨?maLv, ?mfLv, ?mkLv⟩ (L2.fun_mk (st := CP.sRLevel) ?lmLv ?omLv ?kmLv)
      ⟨?maTh, ?mfTh, ?mkTh⟩ (L2.fun_mk (st := CP.sRHead) ?lmTh ?omTh ?kmTh)
      ⟨?maTs, ?mfTs, ?mkTs⟩ (L2.fun_mk (st := CP.sRStep) ?lmTs ?omTs ?kmTs)
      ⟨?maTt, ?mfTt, ?mkTt⟩ (L2.fun_mk (st := CP.sRTun) ?lmTt ?omTt ?kmTt)
      ⟨?maEi, ?mfEi, ?mkEi⟩ (L2.fun_mk (st := CP.sREnd) ?lmEi ?omEi ?kmEi)
      ?aLaw (L2.fun_mk (st := CP.sLaw) ?lLaw ?oLaw ?kLaw)
    (case y0 => k_is)
    (case y1 => k_is)
    (case y2 => k_is)
    (case y3 => k_is)
    (case y4 => k_is)
    (case y5 => k_is)
    (case y6 => k_is)
    (case y7 => k_is)
    (case y8 => k_is)
    (case y9 => k_is)
    (case y10 => k_is)
    (case y11 => k_is)
    (case y12 => k_is)
    (case y13 => k_is)
    (case y14 => k_is)
    (case y15 => k_is)
    (case y16 => k_is)
    (case bg => k_is)
    (case b1 => k_is)
    (case b2 => k_is)
    (case b3 => k_is)
    (case b4 => k_is)
    (case b5 => k_is)
    (case b6 => k_is)
    (case b7 => k_is)
    (case b8 => k_is)
    (case rg => k_is)
    (case r1 => k_is)
    (case r2 => k_is)
    (case r3 => k_is)
    (case r4 => k_is)
    (case r5 => k_is)
    (case r6 => k_is)
    (case s0 => k_is)
    (case s1 => k_is)
    (case d0 => k_is)
    (case wcg => k_is)
    (case wc1 => k_is)
    (case wc2 => k_is)
    (case wc3 => k_is)
    (case wc4 => k_is)
    (case wc5 => k_is)
    (case wc6 => k_is)
    (case wc7 => k_is)
    (case wc8 => k_is)
    (case wiA => k_is)
    (case wiN => k_is)
    (case wiT => k_is)
    (case wiM => k_is)
    (case wd0 => k_is)
    (case wd1 => k_is)
    (case wd2 => k_is)
    (case wd3 => k_is)
    (case wd4 => k_is)
    (case wd5 => k_is)
    (case we1 => k_is)
    (case wf1 => k_is)
    (case we2 => k_is)
    (case wf2 => k_is)
    (case we3 => k_is)
    (case wf3 => k_is)
    (case aI => k_is)
    (case leI => k_is)
    (case oeI => k_is)
    (case keI => k_is)
    (case aW => k_is)
    (case leW => k_is)
    (case oeW => k_is)
    (case keW => k_is)
    (case awr => k_is)
    (case lewr => k_is)
    (case oewr => k_is)
    (case kewr => k_is)
    (case atp => k_is)
    (case letp => k_is)
    (case oetp => k_is)
    (case ketp => k_is)
    (case atl2 => k_is)
    (case letl2 => k_is)
    (case oetl2 => k_is)
    (case ketl2 => k_is)
    (case all => k_is)
    (case lell => k_is)
    (case oell => k_is)
    (case kell => k_is)
    (case awt => k_is)
    (case lewt => k_is)
    (case oewt => k_is)
    (case kewt => k_is)
    (case arw => k_is)
    (case lerw => k_is)
    (case oerw => k_is)
    (case kerw => k_is)
    (case acnt => k_is)
    (case lecnt => k_is)
    (case oecnt => k_is)
    (case kecnt => k_is)
    (case alin => k_is)
    (case lelin => k_is)
    (case oelin => k_is)
    (case kelin => k_is)
    (case afb => k_is)
    (case lefb => k_is)
    (case oefb => k_is)
    (case kefb => k_is)
    (case abl => k_is)
    (case lebl => k_is)
    (case oebl => k_is)
    (case kebl => k_is)
    (case agr => k_is)
    (case legr => k_is)
    (case oegr => k_is)
    (case kegr => k_is)
    (case arf => k_is)
    (case lerf => k_is)
    (case oerf => k_is)
    (case kerf => k_is)
    (case aodd => k_is)
    (case leodd => k_is)
    (case oeodd => k_is)
    (case keodd => k_is)
    (case anml => k_is)
    (case lenml => k_is)
    (case oenml => k_is)
    (case kenml => k_is)
    (case als => k_is)
    (case lels => k_is)
    (case oels => k_is)
    (case kels => k_is)
    (case ald => k_is)
    (case leld => k_is)
    (case oeld => k_is)
    (case keld => k_is)
    (case alch => k_is)
    (case lelch => k_is)
    (case oelch => k_is)
    (case kelch => k_is)
    (case asm => k_is)
    (case lesm => k_is)
    (case oesm => k_is)
    (case kesm => k_is)
    (case apn => k_is)
    (case lepn => k_is)
    (case oepn => k_is)
    (case kepn => k_is)
    (case alm => k_is)
    (case lelm => k_is)
    (case oelm => k_is)
    (case kelm => k_is)
    (case aps => k_is)
    (case leps => k_is)
    (case oeps => k_is)
    (case keps => k_is)
    (case alw => k_is)
    (case lelw => k_is)
    (case oelw => k_is)
    (case kelw => k_is)
    (case ali => k_is)
    (case leli => k_is)
    (case oeli => k_is)
    (case keli => k_is)
    (case ast => k_is)
    (case lest => k_is)
    (case oest => k_is)
    (case kest => k_is)
    (case ard => k_is)
    (case lerd => k_is)
    (case oerd => k_is)
    (case kerd => k_is)
    (case atl => k_is)
    (case letl => k_is)
    (case oetl => k_is)
    (case ketl => k_is)
    (case amo => k_is)
    (case lemo => k_is)
    (case oemo => k_is)
    (case kemo => k_is)
    (case ahd => k_is)
    (case lehd => k_is)
    (case oehd => k_is)
    (case kehd => k_is)
    (case ebg => k_is)
    (case eblk => k_is)
    (case ebsa => k_is)
    (case ebec => k_is)
    (case ebtc => k_is)
    (case ebkc => k_is)
    (case ebhg => k_is)
    (case ebhk => k_is)
    (case ebhd => k_is)
    (case ebha => k_is)
    (case ebhn => k_is)
    (case ebht => k_is)
    (case ebhm => k_is)
    (case ebno => k_is)
    (case ebic => k_is)
    (case ebsc => k_is)
    (case ebin => k_is)
    (case ebti => k_is)
    (case lBi => k_is)
    (case oBi => k_is)
    (case kBi => k_is)
    (case xW => k_is)
    (case g1 => k_is)
    (case g2 => k_is)
    (case g3 => k_is)
    (case g4 => k_is)
    (case lGn => k_is)
    (case oGn => k_is)
    (case kGn => k_is)
    (case i1 => k_is)
    (case i2 => k_is)
    (case i3 => k_is)
    (case i4 => k_is)
    (case lIn => k_is)
    (case oIn => k_is)
    (case kIn => k_is)
    (case j1 => k_is)
    (case j2 => k_is)
    (case j3 => k_is)
    (case j4 => k_is)
    (case lJn => k_is)
    (case oJn => k_is)
    (case kJn => k_is)
    (case nW => k_is)
    (case nB => k_is)
    (case nR => k_is)
    (case maTk => k_is)
    (case mfTk => k_is)
    (case mkTk => k_is)
    (case lmTk => k_is)
    (case omTk => k_is)
    (case kmTk => k_is)
    (case maWo => k_is)
    (case mfWo => k_is)
    (case mkWo => k_is)
    (case lmWo => k_is)
    (case omWo => k_is)
    (case kmWo => k_is)
    (case maWy => k_is)
    (case mfWy => k_is)
    (case mkWy => k_is)
    (case lmWy => k_is)
    (case omWy => k_is)
    (case kmWy => k_is)
    (case maLv => k_is)
    (case mfLv => k_is)
    (case mkLv => k_is)
    (case lmLv => k_is)
    (case omLv => k_is)
    (case kmLv => k_is)
    (case maTh => k_is)
    (case mfTh => k_is)
    (case mkTh => k_is)
    (case lmTh => k_is)
    (case omTh => k_is)
    (case kmTh => k_is)
    (case maTs => k_is)
    (case mfTs => k_is)
    (case mkTs => k_is)
    (case lmTs => k_is)
    (case omTs => k_is)
    (case kmTs => k_is)
    (case maTt => k_is)
    (case mfTt => k_is)
    (case mkTt => k_is)
    (case lmTt => k_is)
    (case omTt => k_is)
    (case kmTt => k_is)
    (case maEi => k_is)
    (case mfEi => k_is)
    (case mkEi => k_is)
    (case lmEi => k_is)
    (case omEi => k_is)
    (case kmEi => k_is)
    (case aLaw => k_is)
    (case lLaw => k_is)
    (case oLaw => k_is)
    (case kLaw => k_is)

end
