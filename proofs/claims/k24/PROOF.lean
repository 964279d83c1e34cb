import PyProof.Rows.All
import Wide.All
import OpenK.AllK
import Wide.FinOn
import HandS.ForMost
import HandS.EndBits
import HandS.Wide
import PyProof.ReprRoads
import HandS.OwnEq
import HandS.SetFor
import HandS.Strs
import HandS.Zip
import HandS.Walk
import HandS.Star
import HandS.IsInst
import HandS.TupAny
import HandS.Flow
import HandS.More
import HandS.GenList
import KE.DataMinMax
import HandS.Style
import KE.KRevSl
import PyProof.ReprBulk
import KE.KDictZip
import KE.GoesEnum
import HandS.Defaults
import HandS.SortKw
import PySem.Challenge.RW_roadsizes_k24_whole_normal_chains
section
set_option Elab.async false
set_option linter.all false
set_option maxRecDepth 100000
set_option maxHeartbeats 4000000
/-! ## G: defs that are entered with no repr under way (guards known), so that repr of containers can be told -/
namespace G
open PySem PySem.Spec PyProof.Rows L2

/-- a def's promise, kept where no repr is under way -/
structure Ok (P : Program) (w : World) (K : PySem.W.Frag) (mg : Str → Option Value) (base : Heap) (CX : CXT) (k : Nat) (f : Addr) (fd : FuncData) (ps : List Str) (sp : Sp) : Prop where
  len : ∀ vs H Q E, sp vs H Q E → vs.length = ps.length
  go : ∀ (A : Around), A.guards = some [] → ∀ (outer : List Env) (s : Shared) (H : Hp) (args : Args) (us : List Value) (vs : List V) (Q : VK) (E : XK),
    Room k A → Env0 P w K mg base A outer s H → BindsTo s fd args (ps.zip us) → Vals vs us → sp vs H Q E → codeAny (model P w) A (.call (.ref f) args) (CR CX outer P w H s Q E) s
section
variable {P : Program} {w : World} {K : PySem.W.Frag} {mg : Str → Option Value} {base : Heap} {CX : CXT}
theorem Ok.mono {j k : Nat} {f : Addr} {fd : FuncData} {ps : List Str} {sp : Sp} (F : Ok P w K mg base CX j f fd ps sp) (h : j ≤ k) : Ok P w K mg base CX k f fd ps sp :=
  ⟨F.len, fun A hg outer s H args us vs Q E hr => F.go A hg outer s H args us vs Q E (hr.mono h)⟩
theorem Ok.of {k : Nat} {f : Addr} {fd : FuncData} {ps : List Str} {sp : Sp} (F : FnOk P w K mg base CX k f fd ps sp) : Ok P w K mg base CX k f fd ps sp :=
  ⟨F.len, fun A _ => F.run A⟩

theorem mk {k : Nat} {x qual : Str} {st : Stmt} {f : Addr} {fd : FuncData} {N ps : List Str} {sp : Sp} (F : Fun K x qual st f fd) (S : FnScope N ps (defScope st)) (len : ∀ vs H Q E, sp vs H Q E → vs.length = ps.length)
    (walk : ∀ (cdv : Value) (A : Around) (outer : List Env) (s : Shared) (H : Hp) (vs : List V) (Q : VK) (E : XK), A.guards = some [] → Room k (A.deeper (envOfC qual (defScope st) s.heap.objs.size f cdv)) → sp vs H Q E →
      ∃ t, PSs (cxOf CX P w K mg base N qual (defScope st) f cdv A outer s H E).nox (defBody st) t ∧ t { nx := fun _ H' => Q .non H', rt := Q } (start N vs) H) :
    Ok P w K mg base CX (k + 1) f fd ps sp := by
  refine ⟨len, ?_⟩
  obtain ⟨oc, od, kV, doc, pm, an, cdv, ct, osl, hfd, lk, cd⟩ := F.ex
  intro A hg outer s H args us vs Q E hr e0 hb rv hsp
  subst hfd
  have stay : ∀ b o, base.get? b = some o → s.heap.get? b = some o := fun b o e => (e0.bs b o e).1
  have KX : K.In s.heap := e0.mod.kin.keeps stay
  have par : ∀ y ∈ ps.zip us, (defScope st).names.lookup y.1 = some .local ∨ ((defScope st).names.lookup y.1 = some .cell ∧ ((cellsFrom (s.heap.objs.size + 1) (defScope st).names []).lookup y.1).isSome = true) := by
    rintro ⟨n, v⟩ hy
    cases S.par n (List.of_mem_zip hy).1 with
    | inl q => exact .inl q
    | inr q => exact .inr ⟨q, PySem.W.cellsFrom_some _ _ _ (.inl q)⟩
  refine codeAny_call_function hr.depth (KX _ _ lk) rfl S.co S.gen rfl (PySem.W.codeRec_of KX cd) (hb _ _ _ _ (wpAny_newFunctionEnv_cells S.kind par ?_))
  intro env he s1 x
  subst he
  refine ⟨(e0.mod.nolimit.keeps stay).keeps x.toInCall.keep, codeAny_func ?_⟩
  obtain ⟨t, ht, hq⟩ := walk cdv A outer s H vs Q E hg (hr.deeper _) hsp
  refine wpAny_mono (ht.nox.run [] s1 (start N vs) H _ (inv_start S hr.hd e0 (len _ _ _ _ hsp) rv x) hq) ?_ fun e s' hs => hs
  intro fl s' hs
  cases fl with
  | ret u => obtain ⟨v, σ', H', J, ru, q⟩ := hs; exact ⟨v, H', J.os, J.bare, J.base, J.hok, ru, q⟩
  | next => obtain ⟨σ', H', J, q⟩ := hs; exact ⟨.non, H', J.os, J.bare, J.base, J.hok, rfl, q⟩
  | brk => obtain ⟨_, _, _, q⟩ := hs; exact q.elim
  | cont => obtain ⟨_, _, _, q⟩ := hs; exact q.elim

/-- the law's entry: callerA has no guard -/
theorem enter {mb : Str → Option Value} {k : Nat} {fa a : Addr} {fd : FuncData} {x : Str} {sp : Sp} {s₁ : Shared} {vs : List Value} {H : Hp}
    (KX : K.In s₁.heap) (hns : s₁.heap.Ns mainGlobals mg) (hb : s₁.heap.Ns builtinsNs mb) (hbb : ∀ x : Str, x ≠ "__name__" → mb x = bootBuiltins x) (hlim : s₁.heap.NoLimit) (hgen : s₁.gens = #[])
    (ha : s₁.heap.get? a = some { cls := .type "list", data := .seq vs.toArray }) (hr : Room k callerA)
    (F : ∀ base : Heap, K.In base → base.Ns mainGlobals mg → Ok P w K mg base CX k fa fd [x] sp) (hbind : ∀ (s : Shared) (u : Value), BindsTo s fd ⟨[u], []⟩ [(x, u)])
    (hO : Only H) (hok : HOk P w H s₁.heap) (only_a : ∀ b o, H b = some o → b = a) (notK : (∃ o, H a = some o) → K.lookup a = none)
    (hsp : sp [.ref a] H (fun v _ => v = .bl true) fun _ _ _ => False) (hCX : ∀ H e s', CX [] H s₁ (fun _ _ _ => False) e s' → False) :
    codeAny (model P w) callerA (.call (.ref fa) ⟨[.ref a], []⟩) (fun r s' => r = .ok (.ret (.bool true)) ∧ OldK s₁.heap s'.heap ∧ s'.os = s₁.os ∧ AllBare s'.gens) s₁ := by
  have free : ∀ {b : Addr}, b ≠ a → H b = none := fun {b} hne => by
    cases q : H b with
    | none => rfl
    | some u => exact absurd (only_a b u q) hne
  have dic : ∀ {b : Addr} {m : Str → Option Value}, s₁.heap.Ns b m → (hidT s₁.heap H).Ns b m := by
    rintro b m ⟨o, es, ep, e, d, r⟩
    refine ⟨o, es, ep, hidT_get e (free ?_), d, r⟩
    rintro rfl
    rw [ha] at e
    cases e
    cases d
  have kin : K.In (hidT s₁.heap H) := by
    intro b o e
    refine hidT_get (KX b o e) ?_
    cases q : H b with
    | none => rfl
    | some u =>
      have hba := only_a b u q
      subst hba
      rw [notK ⟨u, q⟩] at e
      cases e
  obtain ⟨mc, l1, l2⟩ := hlim
  have e0 : Env0 P w K mg (hidT s₁.heap H) callerA [] s₁ H :=
    { frames := rfl, mod := ⟨kin, dic hns, ⟨mb, dic hb, hbb⟩, ⟨mc, dic l1, l2⟩⟩, bs := fun b o e => of_hidT e, bsz := Nat.le_of_eq (hidT_size _ _), funs := trivial, frf := fun b z => (List.not_mem_nil z).elim, hok := hok, bare := .of_eq hgen }
  refine codeAny_mono ((F _ kin (dic hns)).go callerA rfl [] s₁ H _ [.ref a] _ _ _ hr e0 (hbind s₁ (.ref a)) (.cons (show RelV (.ref a) (.ref a) from rfl) .nil) hsp) ?_
  intro r s' h
  match r, h with
  | .error e, h => exact (hCX H e s' h).elim
  | .ok .next, h => exact h.elim
  | .ok .brk, h => exact h.elim
  | .ok .cont, h => exact h.elim
  | .ok (.ret u), ⟨v, H', os, bare, un, hok', rv, q⟩ =>
    cases (q : v = .bl true)
    cases (rv : u = .bool true)
    refine ⟨rfl, OldK.of_keep fun b o e => ?_, os, bare⟩
    by_cases q : H b = none
    · exact un.keep b o e q List.not_mem_nil List.not_mem_nil
    · rcases hO b with z | ⟨ob, xs, z⟩
      · exact absurd z q
      · have k1 := (hok b _ z).1
        rw [e] at k1
        cases k1
        exact (hok' b _ (un.frzs b _ _ z)).1

theorem walk {l : PySem.W.OpenLaw} {n k : Nat} {q : Program} {loose : List Str} {XP : (Str → Option Value) → Heap → Prop} {YP : World → Heap → Prop} {d : DefRec} {K : Params → PySem.W.Frag} {sp : PySem.W.Frag → Sp} {x : Str}
    (hn : l.most = some n) (hn2 : n ≤ sizeLine) (hdf : d.params.defaults = []) (hr : Room k callerA) (hY : ∀ (w : World) (h : Heap), YP w h → (K w.params).In h)
    (F : ∀ (w : World) (mg : Str → Option Value) (fa : Addr) (h : Heap), (K w.params).In h → h.Ns mainGlobals mg → mg d.name = some (.ref fa) →
      ∃ fd : FuncData, (∀ (s : Shared) (u : Value), BindsTo s fd ⟨[u], []⟩ [(x, u)]) ∧ ∀ base : Heap, (K w.params).In base → base.Ns mainGlobals mg → Ok l.prog w (K w.params) mg base CX0 k fa fd [x] (sp (K w.params)))
    (hsp : ∀ (K : PySem.W.Frag) (H : Hp) (a : Addr) (ns : List Int), ns.length ≤ n → (∀ z ∈ ns, Builtin.Int.intBits z ≤ 1048576) → SqL K H a (ns.map V.int) → sp K [.ref a] H (fun v _ => v = .bl true) fun _ _ _ => False) :
    PySem.W.WalkO q loose XP YP l.row.toRowW d [] (fun f vs => PySem.call f vs) := by
  refine Att.attach_callB hn hdf ?_
  intro w s₀ s₁ mg mb fa o pm cd doc a vs ns G Y ho hd hcd hmg hobj hints hlen hbits hg
  have KX := hY w _ Y
  obtain ⟨fd, hb, hF⟩ := F w mg fa _ KX G.T.g hmg
  have rv := vals_ints hints
  have zl : ns.length ≤ sizeLine := Nat.le_trans hlen hn2
  have wish := fun (H : Hp) (S : SqL (K w.params) H a (ns.map V.int)) => hsp (K w.params) H a ns hlen hbits S
  by_cases hk : (K w.params).lookup a = none
  · refine enter (H := fun b => if b = a then some (.frz { cls := .type "list", data := .seq vs.toArray } (.lst (ns.map V.int))) else none) KX G.T.g G.T.b G.T.builtins G.T.nolimit hg hobj hr hF hb ?_ ?_ ?_ (fun _ => hk) (wish _ ?_) fun _ _ _ z => z
    · intro b
      by_cases e : b = a
      · exact .inr ⟨_, _, if_pos e⟩
      · exact .inl (if_neg e)
    · intro b o e
      by_cases z : b = a
      · subst z
        cases (if_pos rfl).symm.trans e
        exact ⟨hobj, by rw [List.length_map]; exact zl, vs, _, rv, hobj⟩
      · cases (if_neg z).symm.trans e
    · intro b o e
      by_cases z : b = a
      · exact z
      · cases (if_neg z).symm.trans e
    · exact .inl (.inr ⟨_, if_pos rfl⟩)
  · obtain ⟨o, ek⟩ := Option.ne_none_iff_exists'.mp hk
    have eo := (KX a o ek).symm.trans hobj
    cases eo
    refine enter (H := fun _ => none) KX G.T.g G.T.b G.T.builtins G.T.nolimit hg hobj hr hF hb (fun _ => .inl rfl) (fun b o e => nomatch e) (fun b o e => nomatch e) (fun ⟨o, e⟩ => nomatch e) (wish _ ?_) fun _ _ _ z => z
    refine .inr ⟨_, vs.toArray, _, ek, rfl, rfl, rfl, ?_, by simpa using rv⟩
    rw [List.size_toArray, hints.length]
    exact zl
end
end G

end
section
set_option Elab.async false
set_option linter.all false
set_option maxRecDepth 100000
set_option maxHeartbeats 4000000
/-! ## repr of containers; int ** int of great ints -/
namespace G
open PySem PySem.Spec PyProof.Rows L2
def keyD : Key → PyData
  | .inl i => .int i
  | .inr x => .str x
mutual
/-- data at a value: as it is read off the abstract heap; lists and no dict (true), or dicts and no list (false) -/
inductive Dr (K : PySem.W.Frag) (H : Hp) : Bool → V → PyData → Prop
  | non {m : Bool} : Dr K H m .non .none
  | bl {m : Bool} (b : Bool) : Dr K H m (.bl b) (.bool b)
  | int {m : Bool} (i : Int) : Dr K H m (.int i) (.int i)
  | str {m : Bool} (x : Str) : Dr K H m (.str x) (.str x)
  | lst {a : Addr} {xs : List V} {ds : List PyData} : SqL K H a xs → DrA K H true xs ds → Dr K H true (.ref a) (.list ds)
  | tup {m : Bool} {a : Addr} {xs : List V} {ds : List PyData} : SqT K H a xs → DrA K H m xs ds → Dr K H m (.ref a) (.tuple ds)
  | dic {a : Addr} {kvs : List (Key × V)} {ds : List PyData} : H a = some (.dK kvs) → DrA K H false (kvs.map (·.2)) ds → Dr K H false (.ref a) (.dict ((kvs.map fun p => keyD p.1).zip ds))
inductive DrA (K : PySem.W.Frag) (H : Hp) : Bool → List V → List PyData → Prop
  | nil {m : Bool} : DrA K H m [] []
  | cons {m : Bool} {v : V} {vs : List V} {d : PyData} {ds : List PyData} : Dr K H m v d → DrA K H m vs ds → DrA K H m (v :: vs) (d :: ds)
end
theorem DrA.len {K : PySem.W.Frag} {H : Hp} {m : Bool} : ∀ {vs : List V} {ds : List PyData}, DrA K H m vs ds → vs.length = ds.length
  | _, _, .nil => rfl
  | _, _, .cons _ t => congrArg Nat.succ (DrA.len t)
mutual
theorem Dr.noDict {K : PySem.W.Frag} {H : Hp} : ∀ (d : PyData) (v : V), Dr K H true v d → d.hasDict = false
  | .none, _, _ => by simp only [PyData.hasDict]
  | .bool _, _, _ => by simp only [PyData.hasDict]
  | .int _, _, _ => by simp only [PyData.hasDict]
  | .str _, _, _ => by simp only [PyData.hasDict]
  | .list ds, _, h => by
    cases h with
    | lst _ ha => simp only [PyData.hasDict]; exact DrA.noDict ds _ ha
  | .tuple ds, _, h => by
    cases h with
    | tup _ ha => simp only [PyData.hasDict]; exact DrA.noDict ds _ ha
  | .dict _, _, h => by cases h
theorem DrA.noDict {K : PySem.W.Frag} {H : Hp} : ∀ (ds : List PyData) (vs : List V), DrA K H true vs ds → PyData.hasDictAll ds = false
  | [], _, _ => by simp only [PyData.hasDictAll]
  | d :: ds, _, h => by
    cases h with
    | cons a b => simp only [PyData.hasDictAll, Dr.noDict d _ a, DrA.noDict ds _ b, Bool.or_self]
end
theorem keys_read {P : Program} {w : World} {h : Heap} : ∀ {es : List DictEntry} {kvs : List (Key × V)} {vs : List (Key × Value)}, Pairs (mixKind P w) es vs → KV kvs vs →
    ∃ as, ReadsAll h (es.map (·.key)) (kvs.map fun p => keyD p.1) as ∧ as = []
  | _, _, _, .nil, .nil => ⟨_, .nil, rfl⟩
  | _, _, _, .cons hk hv hp, .cons r t => by
    obtain ⟨as, q, e⟩ := keys_read (P := P) (w := w) (h := h) hp t
    subst e
    have hk' : keyIs _ _ = true := hk
    rw [← r.1] at hk'
    rename_i e' _ _ _ p' _
    rcases keyIs_shape hk' with ⟨i, t, ek, ev⟩ | ⟨x, t, ek, ev⟩
    · refine ⟨[], ?_, rfl⟩
      have z := ReadsAll.cons (h := h) (Reads.int i t) q
      rw [← ev] at z
      have ke : keyD p'.1 = .int i := by rw [ek]; rfl
      rw [List.map_cons, List.map_cons, ke]
      exact z
    · refine ⟨[], ?_, rfl⟩
      have z := ReadsAll.cons (h := h) (Reads.str x t) q
      rw [← ev] at z
      have ke : keyD p'.1 = .str x := by rw [ek]; rfl
      rw [List.map_cons, List.map_cons, ke]
      exact z
theorem vals_of {P : Program} {w : World} : ∀ {es : List DictEntry} {kvs : List (Key × V)} {vs : List (Key × Value)}, Pairs (mixKind P w) es vs → KV kvs vs → Vals (kvs.map (·.2)) (es.map (·.val))
  | _, _, _, .nil, .nil => .nil
  | _, _, _, .cons hk hv hp, .cons r t => .cons (by show RelV _ (DictEntry.val _); rw [hv]; exact r.2) (vals_of hp t)
section
variable {X : Cx} {pins : List (Addr × Obj)} {σ : L2.St} {H : Hp} {s : Shared}
mutual
theorem Dr.reads (I : Inv X pins σ H s) {m : Bool} : ∀ (d : PyData) (v : V) (u : Value), Dr X.K H m v d → RelV v u → ∃ as, Reads s.heap u d as ∧ (m = false → sysModules ∉ as)
  | .none, _, _, h, r => by
    cases h
    cases r
    exact ⟨_, Reads.none, fun _ => List.not_mem_nil⟩
  | .bool b, _, _, h, r => by
    cases h
    cases r
    exact ⟨_, Reads.bool b, fun _ => List.not_mem_nil⟩
  | .int i, _, _, h, r => by
    cases h
    obtain ⟨t, rfl⟩ := r
    exact ⟨_, Reads.int i t, fun _ => List.not_mem_nil⟩
  | .str x, _, _, h, r => by
    cases h
    obtain ⟨t, rfl⟩ := r
    exact ⟨_, Reads.str x t, fun _ => List.not_mem_nil⟩
  | .list ds, _, _, h, r => by
    cases h with
    | @lst a xs _ hs ha =>
      cases r
      obtain ⟨its, rv, ⟨o, n, ho, hc, _, hd⟩, _⟩ := I.list hs
      obtain ⟨as, hr, hn⟩ := DrA.reads I ds _ its ha rv
      exact ⟨_, Reads.list ho hc hd hr, fun z => by cases z⟩
  | .tuple ds, _, _, h, r => by
    cases h with
    | tup hs ha =>
      cases r
      obtain ⟨its, rv, ⟨o, ho, hc, n, hd⟩, _⟩ := I.tuple hs
      obtain ⟨as, hr, hn⟩ := DrA.reads I ds _ its ha rv
      exact ⟨_, Reads.tuple ho hc hd hr, hn⟩
  | .dict kds, _, _, h, r => by
    cases h with
    | @dic a kvs ds hs ha =>
      cases r
      obtain ⟨_, hsys, vs, rk, o, es, ep, ho, hx, hd, _, hp, _⟩ := (show ObjOk X.prog X.w H s.heap a (.dK kvs) from I.hok a _ hs)
      obtain ⟨_, hk, e⟩ := keys_read (h := s.heap) hp rk
      subst e
      have hl : (kvs.map fun p => keyD p.1).length = ds.length := by rw [List.length_map, ← ha.len, List.length_map]
      have e1 : ((kvs.map fun p => keyD p.1).zip ds).map (·.1) = kvs.map fun p => keyD p.1 := List.map_fst_zip (Nat.le_of_eq hl)
      have e2 : ((kvs.map fun p => keyD p.1).zip ds).map (·.2) = ds := List.map_snd_zip (Nat.le_of_eq hl.symm)
      have ha' : DrA X.K H false (kvs.map (·.2)) (((kvs.map fun p => keyD p.1).zip ds).map (·.2)) := by rw [e2]; exact ha
      obtain ⟨bs, hr, hn⟩ := DrA.reads2 I ((kvs.map fun p => keyD p.1).zip ds) _ _ ha' (vals_of hp rk)
      refine ⟨_, Reads.dict ho hx.1 hd (by rw [e1]; exact hk) hr, fun _ z => ?_⟩
      rcases List.mem_append.mp z with z | z
      · rcases List.mem_cons.mp z with e | e
        · rw [← e] at hsys
          simp at hsys
        · exact absurd e List.not_mem_nil
      · exact hn rfl z
theorem DrA.reads (I : Inv X pins σ H s) {m : Bool} : ∀ (ds : List PyData) (vs : List V) (us : List Value), DrA X.K H m vs ds → Vals vs us → ∃ as, ReadsAll s.heap us ds as ∧ (m = false → sysModules ∉ as)
  | [], _, _, h, r => by
    cases h
    cases r
    exact ⟨_, ReadsAll.nil, fun _ => List.not_mem_nil⟩
  | d :: ds, _, _, h, r => by
    cases h with
    | cons h1 h2 =>
      cases r with
      | cons r1 r2 =>
        obtain ⟨as, q1, n1⟩ := Dr.reads I d _ _ h1 r1
        obtain ⟨bs, q2, n2⟩ := DrA.reads I ds _ _ h2 r2
        exact ⟨_, ReadsAll.cons q1 q2, fun e z => (List.mem_append.mp z).elim (n1 e) (n2 e)⟩
theorem DrA.reads2 (I : Inv X pins σ H s) {m : Bool} : ∀ (kds : List (PyData × PyData)) (vs : List V) (us : List Value), DrA X.K H m vs (kds.map (·.2)) → Vals vs us → ∃ as, ReadsAll s.heap us (kds.map (·.2)) as ∧ (m = false → sysModules ∉ as)
  | [], _, _, h, r => by
    cases h
    cases r
    exact ⟨_, ReadsAll.nil, fun _ => List.not_mem_nil⟩
  | (k, d) :: ds, _, _, h, r => by
    cases h with
    | cons h1 h2 =>
      cases r with
      | cons r1 r2 =>
        obtain ⟨as, q1, n1⟩ := Dr.reads I d _ _ h1 r1
        obtain ⟨bs, q2, n2⟩ := DrA.reads2 I ds _ _ h2 r2
        exact ⟨_, ReadsAll.cons q1 q2, fun e z => (List.mem_append.mp z).elim (n1 e) (n2 e)⟩
end
end
/-- repr of a list that is not empty: what is read below it is none of the interpreter's own dict -/
theorem repr_top {prog : Program} {w : World} {A : Around} {E : Value → Shared → Prop} {s : Shared} {a : Addr} {o : Obj} {v : Value} {vs : List Value} {n : Nat} {ds : List PyData} {as : List Addr} {Q : Value → Shared → Prop} (ho : s.heap.get? a = some o) (hc : o.cls = .type "list") (hd : o.data = .seq (v :: vs).toArray n)
    (hr : ReadsAll s.heap (v :: vs) ds as) (hn : sysModules ∉ as) (hs : PyData.showableAll ds = true) (hg : A.guards = some []) (hu : A.units + ((PyData.list ds).depth + 1) < cLine) (hz : (PyData.list ds).shown.length ≤ sizeLine)
    (hQ : ∀ h' u tk, (∀ b o, s.heap.get? b = some o → h'.get? b = some o) → Q (.str (PyData.list ds).shown u) { s with heap := h', toks := tk }) : wpAny (model prog w) A (call (.builtin "repr") [.ref a]) Q E s := by
  have depth : (PyData.list ds).depth = PyData.depthAll ds + 1 := by simp only [PyData.depth]
  have text : (PyData.list ds).shown = listText (PyData.shownAll ds) := by simp only [PyData.shown]
  rw [text] at hz
  rw [depth] at hu
  obtain ⟨bs, most, items⟩ := ReprAllK.of_readsAll (prog := prog) (w := w) hr hs (fun _ => hn) (fun t ht => Nat.le_trans (listText_mem_le ht) hz)
  have apart : a ∉ bs := not_mem_of_deeper (.list ho hc hd (by simpa using hr)) (by rw [depth]; omega) most
  refine call_repr_slot (by omega) ⟨o, ho, hc⟩ F.slot_list_repr.toG ?_
  refine call_list_reprK ho hc hd apart (by simpa using items.length_eq) (fun i y e => items.item i y (by simpa using e)) hg (fun b _ => Clear.nil b) (by show A.units + 1 + _ < cLine; omega) (fun _ _ e => e) (fun h' u tk k => ⟨_, _, rfl, ?_⟩) hz
  rw [← text]
  exact hQ h' u tk k
def rRepr (K : PySem.W.Frag) : List V → Hp → VK → Prop := fun xs H Q => ∃ (a : Addr) (m : Bool) (y : V) (ys : List V) (ds : List PyData), xs = [.ref a] ∧ SqL K H a (y :: ys) ∧ DrA K H m (y :: ys) ds ∧ (PyData.list ds).showable = true ∧ (PyData.list ds).depth ≤ 20 ∧ (PyData.list ds).shown.length ≤ sizeLine ∧ Q (.str (PyData.list ds).shown) H
theorem call_repr {X : Cx} (hg : X.A.guards = some []) (hu : X.A.units + 64 < cLine) : CallR X (.builtin "repr") (rRepr X.K) := by
  intro pins s σ H xs us Q I r h
  obtain ⟨a, m, y, ys, ds, rfl, hL, hd, hs, hl, hz, q⟩ := h
  cases r with
  | cons rx rr =>
    cases rr
    cases rx
    have fin : ∀ (h' : Heap) (u : Tok) (tk : Nat), (∀ b o, s.heap.get? b = some o → h'.get? b = some o) → EP X pins σ Q (.str (PyData.list ds).shown u) { s with heap := h', toks := tk } := fun h' u tk k => ⟨.str (PyData.list ds).shown, H, I.kept (t' := tk) k, ⟨u, rfl⟩, q⟩
    obtain ⟨its, rv, ⟨o, n, ho, hc, _, hd'⟩, _⟩ := I.list hL
    obtain ⟨as, hr, hn⟩ := DrA.reads I ds _ its hd rv
    cases m with
    | true =>
      refine repr_of_reads' (.list ho hc hd' hr) hs (fun z => ?_) hg (by omega) (fun _ _ e => e) fin hz
      rw [show (PyData.list ds).hasDict = PyData.hasDictAll ds by simp only [PyData.hasDict], DrA.noDict ds _ hd] at z
      cases z
    | false =>
      cases rv with
      | cons r1 r2 => exact repr_top ho hc hd' hr (hn rfl) (by simpa only [PyData.showable] using hs) hg (by omega) hz fin
def rReprF : List V → Hp → VK → Prop := fun xs H Q => (xs = [.non] ∧ Q (.str "None") H) ∨ (∃ b, xs = [.bl b] ∧ Q (.str (if b then "True" else "False")) H) ∨ ∃ i, xs = [.int i] ∧ i.natAbs.log2 < 1920 ∧ Q (.str (toString i)) H
theorem call_reprF {X : Cx} : CallR X (.builtin "repr") rReprF := by
  intro pins s σ H xs us Q I r h
  rcases h with ⟨rfl, q⟩ | ⟨b, rfl, q⟩ | ⟨i, rfl, hz, q⟩
  · cases r with
    | cons rx rr => cases rr; cases rx; exact PySem.P.repr_of_none ⟨.str _, H, I.tok _, ⟨_, rfl⟩, q⟩
  · cases r with
    | cons rx rr => cases rr; cases rx; exact PySem.P.repr_of_bool ⟨.str _, H, I.tok _, ⟨_, rfl⟩, q⟩
  · cases r with
    | cons rx rr => cases rr; obtain ⟨t, rfl⟩ := rx; exact PySem.P.repr_of_int hz ⟨.str _, H, I.tok _, ⟨_, rfl⟩, q⟩
/-- a ** n, n a small written number, a of any size -/
theorem op_powN {X : Cx} : OpR X (binaryOp .Pow) (rI (fun i j => 0 ≤ j ∧ (Builtin.Int.intBits i : Int) * j ≤ 2 ^ 27) fun i j => .int (i ^ j.toNat)) := opI fun _ _ _ _ _ _ _ hc q => pow_int hc.1 hc.2 q
end G

end
section
set_option autoImplicit false
set_option Elab.async false
set_option linter.all false
set_option maxRecDepth 100000
set_option maxHeartbeats 4000000
/-! ## len, +, in, [] and != by a class's own methods -/
namespace WO
open PySem PySem.Spec PyProof.Rows L2
section
variable {X : Cx} {CX : CXT} {n : Nat} {f C : Addr} {fd : FuncData} {ps : List Str} {sp : Sp} {E : XK}
/-- an own method, run somewhere below the running body -/
theorem run_own {A : Around} {pins : List (Addr × Obj)} {s : Shared} {σ : L2.St} {H : Hp} {xs : List V} {us : List Value} {Z : VK} {G : Value → Shared → Prop} (F : FnOk X.prog X.w X.K X.mg X.base CX n f fd ps sp) (sb : Sub X n A) (hb : Binds X.K fd ps []) (hx : Passes CX X E)
    (I : Inv X pins σ H s) (r : Vals xs us) (hsp : sp xs H Z E) (k : ∀ z u H1 s1, Inv X pins σ H1 s1 → RelV z u → Z z H1 → G u s1) : wpAny (model X.prog X.w) A (call (.ref f) us) G X.xe s := by
  have hl := F.len _ _ _ _ hsp
  have lu : us.length = ps.length := by rw [← r.length]; exact hl
  have env : Env0 X.prog X.w X.K X.mg X.base A X.stack s H := by
    have e := I.env0
    exact ⟨by rw [sb.fr]; exact e.frames, e.mod, e.bs, e.bsz, e.funs, e.frf, e.hok, e.bare⟩
  refine wpAny_call (codeAny_mono (F.run A X.stack s H ⟨us, []⟩ us xs _ E sb.room env (by simpa using hb s us I.kIn (by simpa using lu)) r hsp) fun res s1 hq => ?_)
  match res, hq with
  | .error e, hq => exact hx pins σ H s e s1 I hq
  | .ok (.ret u), hq =>
    obtain ⟨z, H1, I1, rz, q⟩ := I.after hq
    exact k z u H1 s1 I1 rz q
  | .ok .next, hq => exact hq.elim
  | .ok .brk, hq => exact hq.elim
  | .ok .cont, hq => exact hq.elim
/-- an instance of the class at C -/
def InsC (C : Addr) (H : Hp) (a : Addr) : Prop := ∃ dx fs, H a = some (.ins C dx fs)
structure Own (K : PySem.W.Frag) (C f : Addr) (m : Str) : Prop where
  at' : PySem.W.findIn K (.ref C) m = some (some (.ref f))
  fn : PySem.W.isFn K (.ref f) = true
def rLenO (C : Addr) (sp : Sp) (E : XK) : List V → Hp → VK → Prop := fun xs H Q => ∃ a, xs = [.ref a] ∧ InsC C H a ∧ sp [.ref a] H (fun v H1 => ∃ k : Nat, v = .int k ∧ k < 1000000 ∧ Q (.int k) H1) E
theorem call_lenO (F : FnOk X.prog X.w X.K X.mg X.base CX n f fd ps sp) (hr : Room (n + 1) X.A) (O : Own X.K C f "__len__") (hb : Binds X.K fd ps []) (hx : Passes CX X E) : CallR X (.builtin "len") (rLenO C sp E) := by
  intro pins s σ H xs us Q I r h
  obtain ⟨a, rfl, ⟨dx, fs, ha⟩, hsp⟩ := h
  cases r with
  | cons ra rr =>
    cases rr
    cases ra
    obtain ⟨_, J, _⟩ := ins_get I.hok ha
    obtain ⟨od, J, _⟩ := J.look
    obtain ⟨m, hF⟩ := I.fr
    refine PySem.W.len_K hF I.ok.mod.kin J O.at' O.fn (run_own F (A := X.A.in1) (xs := [.ref a]) ⟨hr.in1, rfl⟩ hb hx I (.cons rfl .nil) hsp fun z u H1 s1 I1 rz q => ?_)
    obtain ⟨k, rfl, hk, q⟩ := q
    obtain ⟨t, rfl⟩ := rz
    exact ⟨⟨by omega, by omega⟩, .int k, H1, I1.tok _, ⟨_, rfl⟩, q⟩
def rAddO (C : Addr) (sp : Sp) (E : XK) : R2 := fun x y H Q => ∃ a b, x = .ref a ∧ y = .ref b ∧ InsC C H a ∧ InsC C H b ∧ sp [.ref a, .ref b] H (fun v H1 => ∃ c, v = .ref c ∧ Q (.ref c) H1) E
theorem op_addO (F : FnOk X.prog X.w X.K X.mg X.base CX n f fd ps sp) (hr : Room n X.A) (O : Own X.K C f "__add__") (hc : PySem.W.selfFirst X.K C = true) (hb : Binds X.K fd ps []) (hx : Passes CX X E) : OpR X (binaryOp .Add) (rAddO C sp E) := by
  intro pins s σ H x y v u Q I rx ry h
  obtain ⟨a, b, rfl, rfl, ⟨dx, fs, ha⟩, ⟨dy, gs, hb'⟩, hsp⟩ := h
  cases rx
  cases ry
  obtain ⟨_, J, _⟩ := ins_get I.hok ha
  obtain ⟨_, J', _⟩ := ins_get I.hok hb'
  obtain ⟨od, J, _⟩ := J.look
  obtain ⟨od', J', _⟩ := J'.look
  obtain ⟨m, hF⟩ := I.fr
  refine PySem.W.binop_K (op := .Add) hF I.ok.mod.kin J J'.type hc O.at' O.fn (run_own F (A := X.A) (xs := [.ref a, .ref b]) ⟨hr, rfl⟩ hb hx I (.cons rfl (.cons rfl .nil)) hsp fun z u H1 s1 I1 rz q => ?_)
  obtain ⟨c, rfl, q⟩ := q
  cases rz
  exact ⟨.ref c, H1, I1, rfl, q⟩
def rInO (C : Addr) (sp : Sp) (E : XK) : R2 := fun x y H Q => ∃ a, y = .ref a ∧ InsC C H a ∧ sp [.ref a, x] H (fun v H1 => ∃ b, v = .bl b ∧ Q (.bl b) H1) E
def rNotInO (C : Addr) (sp : Sp) (E : XK) : R2 := fun x y H Q => ∃ a, y = .ref a ∧ InsC C H a ∧ sp [.ref a, x] H (fun v H1 => ∃ b, v = .bl b ∧ Q (.bl (!b)) H1) E
theorem op_inO (F : FnOk X.prog X.w X.K X.mg X.base CX n f fd ps sp) (hr : Room n X.A) (O : Own X.K C f "__contains__") (hb : Binds X.K fd ps []) (hx : Passes CX X E) : OpR X (compareOp .In) (rInO C sp E) := by
  intro pins s σ H x y v u Q I rx ry h
  obtain ⟨a, rfl, ⟨dx, fs, ha⟩, hsp⟩ := h
  cases ry
  obtain ⟨_, J, _⟩ := ins_get I.hok ha
  obtain ⟨od, J, _⟩ := J.look
  obtain ⟨m, hF⟩ := I.fr
  refine PySem.W.in_K hF I.ok.mod.kin J O.at' O.fn (run_own F (A := X.A) (xs := [.ref a, x]) ⟨hr, rfl⟩ hb hx I (.cons rfl (.cons rx .nil)) hsp fun z u H1 s1 I1 rz q => ?_)
  obtain ⟨b, rfl, q⟩ := q
  cases rz
  exact wpAny_truthy_bool ⟨.bl b, H1, I1, rfl, q⟩
theorem op_notInO (F : FnOk X.prog X.w X.K X.mg X.base CX n f fd ps sp) (hr : Room n X.A) (O : Own X.K C f "__contains__") (hb : Binds X.K fd ps []) (hx : Passes CX X E) : OpR X (compareOp .NotIn) (rNotInO C sp E) := by
  intro pins s σ H x y v u Q I rx ry h
  obtain ⟨a, rfl, ⟨dx, fs, ha⟩, hsp⟩ := h
  cases ry
  obtain ⟨_, J, _⟩ := ins_get I.hok ha
  obtain ⟨od, J, _⟩ := J.look
  obtain ⟨m, hF⟩ := I.fr
  refine PySem.W.notIn_K hF I.ok.mod.kin J O.at' O.fn (run_own F (A := X.A) (xs := [.ref a, x]) ⟨hr, rfl⟩ hb hx I (.cons rfl (.cons rx .nil)) hsp fun z u H1 s1 I1 rz q => ?_)
  obtain ⟨b, rfl, q⟩ := q
  cases rz
  exact wpAny_truthy_bool ⟨.bl (!b), H1, I1, rfl, q⟩
/-- o[e] by the own __getitem__ -/
def rIxO (C : Addr) (sp : Sp) (E : XK) : R2 := fun x y H Q => ∃ a, x = .ref a ∧ InsC C H a ∧ sp [.ref a, y] H Q E
theorem pe_ixO {a b : Expr} {ta tb : TE} {pos : Pos} (F : FnOk X.prog X.w X.K X.mg X.base CX n f fd ps sp) (hr : Room (n + 1) X.A) (O : Own X.K C f "__getitem__") (hf : PySem.W.fnIn X.K f = true) (hb : Binds X.K fd ps []) (hx : Passes CX X E) (ha : PE X a ta) (hi : PE X b tb)
    (hs : ∀ v i, subscripted b true v i = runValue (.builtin "lifetime.subscript" ⟨[v, i], []⟩)) : PE X (.Subscript a b pos) (tOp (rIxO C sp E) ta tb) := by
  refine ⟨fun pins s σ H Q I h => ?_⟩
  refine Subscript_ (binT ha hi I h fun v u s2 x y H2 I2 rx ry q => ?_)
  obtain ⟨p, rfl, ⟨dx, fs, hp⟩, hsp⟩ := q
  cases rx
  obtain ⟨_, J, _⟩ := ins_get I2.hok hp
  obtain ⟨od, J, _⟩ := J.look
  obtain ⟨m, hF⟩ := I2.fr
  exact PySem.W.sub_K hF I2.ok.mod.kin J O.at' hf O.fn (run_own F (A := X.A.in1) (xs := [.ref p, y]) ⟨hr.in1, rfl⟩ hb hx I2 (.cons rfl (.cons ry .nil)) hsp fun z u H1 s1 I1 rz q => ⟨z, H1, I1, rz, q⟩) (hs _ _)
/-- == by the own __eq__, either answer -/
def rEqO (C : Addr) (sp : Sp) (E : XK) : R2 := fun x y H Q => ∃ a b, x = .ref a ∧ y = .ref b ∧ InsC C H a ∧ InsC C H b ∧ sp [.ref a, .ref b] H (fun v H1 => ∃ c, v = .bl c ∧ Q (.bl c) H1) E
theorem op_eqO (F : FnOk X.prog X.w X.K X.mg X.base CX n f fd ps sp) (hr : Room n X.A) (O : Own X.K C f "__eq__") (hb : Binds X.K fd ps []) (hx : Passes CX X E) : OpR X (compareOp .Eq) (rEqO C sp E) := by
  intro pins s σ H x y v u Q I rx ry h
  obtain ⟨a, b, rfl, rfl, ⟨dx, fs, ha⟩, ⟨dy, gs, hb'⟩, hsp⟩ := h
  cases rx
  cases ry
  obtain ⟨_, J, _⟩ := ins_get I.hok ha
  obtain ⟨_, J', _⟩ := ins_get I.hok hb'
  obtain ⟨od, J, _⟩ := J.look
  obtain ⟨od', J', _⟩ := J'.look
  obtain ⟨m, hF⟩ := I.fr
  show wpAny (model X.prog X.w) X.A (richCompare .Eq (.ref a) (.ref b)) (EP X pins σ Q) X.xe s
  refine PySem.W.cmp_K (op := .Eq) (tb := .ref C) hr.units0 hF I.ok.mod.kin J J'.type (by simp [PySem.W.notFirst]) O.at' O.fn (run_own F (A := X.A) (xs := [.ref a, .ref b]) ⟨hr, rfl⟩ hb hx I (.cons rfl (.cons rfl .nil)) hsp fun z u H1 s1 I1 rz q => ?_)
  obtain ⟨c, rfl, q⟩ := q
  cases rz
  exact ⟨.bl c, H1, I1, rfl, q⟩
end
end WO

end
section
set_option autoImplicit false
set_option Elab.async false
set_option linter.all false
set_option maxRecDepth 100000
set_option maxHeartbeats 4000000
/-! ## set(a list of hin), and sorted of it -/
namespace WS
open PySem PySem.Spec PyProof.Rows L2
abbrev empt (Wd : World) : Obj := { cls := .type "set", dict := none, data := .set #[] 0 (.fresh 0 0 (!Wd.params.followText "set-order")) }
abbrev walker (ls : Addr) : Obj := { cls := .type "list_iterator", data := .fields #[.ref ls, .int 0 0] }
section
variable {Pg : Program} {Wd : World} {Ar : Around} {Ex : Value → Shared → Prop} {sh : Shared}
/-- what is left of a new set, filled -/
def Filled (Wd : World) (sh : Shared) (zs : List Int) (s2 : Shared) : Prop := ∃ hp tk c, s2 = { sh with heap := hp, toks := tk } ∧ SetR Wd hp sh.heap.objs.size (fun j => decide (j ∈ zs)) c ∧ c ≤ zs.length ∧ ∀ b o, sh.heap.get? b = some o → hp.get? b = some o
set_option maxHeartbeats 3200000 in
/-- __init__ of the new set at the end of the heap -/
theorem init_list {ls : Addr} {arr : Array Value} {zs : List Int} (ok : Ar.handled = none) (at0 : sh.heap.IsList ls arr) (hin : IntsAre arr.toList zs) (few : zs.length + 1 < scanBound) (tS : Shared.TypeIs { sh with heap := sh.heap.push (empt Wd) } (.ref sh.heap.objs.size) "set") :
    codeAny (model Pg Wd) Ar (.call (.builtin "set.__init__") ⟨[.ref sh.heap.objs.size, .ref ls], []⟩) (wants (fun r s2 => r = .none ∧ Filled Wd sh zs s2) Ex) { sh with heap := sh.heap.push (empt Wd) } := by
  have size_eq : arr.size = zs.length := by
    have q := IntsAre.length hin
    rwa [Array.length_toList] at q
  refine codeAny_call_builtin (R := wants _ Ex) F.called_set.init.plain F.entry_set_init (check_set_init_1 tS ?_)
  obtain ⟨⟨oc, od, oda, osl⟩, gl, cl, nl, dl⟩ := at0
  simp only at cl dl
  subst cl; subst dl
  have gl2 : (sh.heap.push (empt Wd)).get? ls = some { cls := .type "list", dict := od, data := .seq arr nl, slots := osl } := Heap.get?_push_of_some _ gl
  have k1 := F.sub_list_set
  have k2 := F.sub_list_frozenset
  have k3 : (Value.type "list" == Value.type "dict") = false := by decide
  have il : (sh.heap.push (empt Wd)).IsList ls arr := ⟨_, gl2, rfl, nl, rfl⟩
  unfold Builtin.«set.__init__» noKeywords Builtin.Frozenset.updateFrom
  generalize eI : pyIter = IT
  wp_walk
  subst eI
  refine wpAny_pyIter_list il ?_
  refine wpAny_bind (wpAny_runValue ?_)
  have low : ls < sh.heap.objs.size := Heap.lt_size gl
  have sz : (sh.heap.push (empt Wd)).objs.size = sh.heap.objs.size + 1 := Heap.size_push ..
  have ne1 : ls ≠ (sh.heap.push (empt Wd)).objs.size := by rw [sz]; exact Nat.ne_of_lt (Nat.lt_succ_of_lt low)
  have ne2 : sh.heap.objs.size ∉ [(sh.heap.push (empt Wd)).objs.size, ls] := by
    rw [sz]
    intro z
    rcases List.mem_cons.mp z with e | e
    · exact absurd e (Nat.ne_of_lt (Nat.lt_succ_self _))
    · exact absurd (List.mem_singleton.mp e) (Nat.ne_of_gt low)
  have item : ∀ (i : Nat) (v : Value), arr[i]? = some v → ∃ k t, zs[i]? = some k ∧ v = .int k t := by
    intro i v hv
    have hi : i < zs.length := by rw [← size_eq]; exact (Array.getElem?_eq_some_iff.mp hv).1
    obtain ⟨t, e⟩ := PyProof.Rows.IntsAre.int_at hin i v (by rw [Array.getElem?_toList]; exact hv)
    refine ⟨zs[i], t, List.getElem?_eq_getElem hi, ?_⟩
    rw [e, List.getD_eq_getElem?_getD, List.getElem?_eq_getElem hi] <;> rfl
  refine set_update_ints ((Walks.list (by simp [ok]) _ ls ne1 arr).toS) sh.heap.objs.size ne2 zs size_eq few item (arr.size - 0) 0 _ (by omega) (Nat.zero_le _) ⟨⟨_, Heap.get?_push_size _ rfl, rfl, rfl⟩, (il.push _)⟩ ?first0 ?rest0
  case first0 =>
    have g : ((sh.heap.push (empt Wd)).push (walker ls)).get? sh.heap.objs.size = some (empt Wd) := Heap.get?_push_of_some _ (Heap.get?_push_size _ rfl)
    exact ⟨0, Nat.le_refl 0, setR_new_at g⟩
  case rest0 =>
    rintro ⟨hp, g2, d2, tk, os2⟩ c mv hc R
    have eg : g2 = sh.gens := mv.gens
    have ed : d2 = sh.drawn := mv.drawn
    have eo : os2 = sh.os := mv.os
    subst eg; subst ed; subst eo
    show wpAny _ _ _ _ _ _
    refine wpAny_pure ?_
    show wpAny _ _ (ret Value.none) _ _ _
    rw [size_eq] at hc
    refine wpAny_pure ⟨rfl, hp, tk, c, rfl, R, hc, fun b o e => ?_⟩
    have lb : b < sh.heap.objs.size := Heap.lt_size e
    refine mv.heap b o ?_ (Heap.get?_push_of_some _ (Heap.get?_push_of_some _ e))
    rw [sz]
    intro z
    rcases List.mem_cons.mp z with e | e
    · exact absurd e (Nat.ne_of_lt lb)
    · exact absurd (List.mem_singleton.mp e) (Nat.ne_of_lt (Nat.lt_succ_of_lt lb))
set_option maxHeartbeats 3200000 in
theorem set_of_list {ls : Addr} {arr : Array Value} (zs : List Int) {Qv : Value → Shared → Prop} (ok : Ar.handled = none) (at0 : sh.heap.IsList ls arr) (hin : IntsAre arr.toList zs) (few : zs.length + 1 < scanBound)
    (k : ∀ s2, Filled Wd sh zs s2 → Qv (.ref sh.heap.objs.size) s2) : wpAny (model Pg Wd) Ar (call (.type "set") [.ref ls]) Qv Ex sh := by
  obtain ⟨c0, tl0, mro0⟩ := F.called_set.mro
  have f1 := F.called_set.made
  have f2 := F.called_set.sub
  refine wpAny_call (codeAny_of_tree ?_)
  show wpAny _ _ (callAny (.type "set") _) _ _ _
  refine wpAny_pure ⟨Code.quiet_builtin _ (by decide +kernel), codeAny_builtin F.entry_type_call ?_⟩
  rw [Around.under_plain (weight_type_call_type "set" [.ref ls] []) rfl]
  have f3 := F.called_set.notType
  have f4 := F.called_set.canCreate
  have f5 := F.typeCall_set_1 (.ref ls)
  repeat (any_goals (first | assumption | wp_step))
  refine codeAny_mono (code_set_led1 (.ref ls) (E := Ex) (Q₁ := fun ob s1 => ob = .ref sh.heap.objs.size ∧ s1 = { sh with heap := sh.heap.push (empt Wd) }) ⟨rfl, rfl⟩) fun r s1 hr => ?_
  match r, hr with
  | .error e, hr => exact hr
  | .ok .next, hr => exact hr.elim
  | .ok .brk, hr => exact hr.elim
  | .ok .cont, hr => exact hr.elim
  | .ok (.ret ob), hr =>
    obtain ⟨rfl, rfl⟩ := hr
    have tS : Shared.TypeIs { sh with heap := sh.heap.push (empt Wd) } (.ref sh.heap.objs.size) "set" := ⟨_, Heap.get?_push_size _ rfl, rfl⟩
    have f6 := F.called_set.init.lookup
    have f7 := F.called_set.init.bind (.ref sh.heap.objs.size)
    repeat (any_goals (first | assumption | wp_step))
    refine codeAny_mono (init_list (zs := zs) (Ex := Ex) (by simp [ok]) at0 hin few tS) fun r2 s2 hr2 => ?_
    match r2, hr2 with
    | .error e, hr2 => exact hr2
    | .ok .next, hr2 => exact hr2.elim
    | .ok .brk, hr2 => exact hr2.elim
    | .ok .cont, hr2 => exact hr2.elim
    | .ok (.ret v), hr2 =>
      obtain ⟨rfl, hF⟩ := hr2
      obtain ⟨hp, tk, c, rfl, R, hc, hk⟩ := hF
      repeat (any_goals (first | assumption | wp_step))
      exact k _ ⟨hp, tk, c, rfl, R, hc, hk⟩
end
section
variable {X : Cx}
def rSetL (K : PySem.W.Frag) (Wd : World) : List V → Hp → VK → Prop := fun xs H Q => ∃ (l : Addr) (zs : List Int), xs = [.ref l] ∧ SqL K H l (zs.map V.int) ∧ zs.length ≤ 4000 ∧ ∀ (p : Addr) (c : Nat), H p = none → c ≤ zs.length → Q (.ref p) (upd H p (SetO Wd p (fun j => decide (j ∈ zs)) c))
theorem cr_setL (hc : X.calm = true) : CallR X (.type "set") (rSetL X.K X.w) := by
  intro pins s σ H xs us Q I r h
  obtain ⟨l, zs, rfl, hL, few, q⟩ := h
  rw [Vals.ref1 r]
  obtain ⟨its, rv, pl, _⟩ := I.list hL
  refine set_of_list zs (I.ok.hd hc) pl.isList (by simpa using ints_of_vals rv) (by unfold scanBound; omega) fun s2 hF => ?_
  obtain ⟨hp, tk, c, rfl, R, hc2, hk⟩ := hF
  exact ⟨.ref _, upd H s.heap.objs.size (SetO X.w s.heap.objs.size (fun j => decide (j ∈ zs)) c), I.laid (t' := tk) hk (Nat.le_refl _) (setO_new R), rfl, q _ c (I.hok.fresh (Nat.le_refl _)) hc2⟩
end
end WS

end
section
set_option autoImplicit false
set_option Elab.async false
set_option linter.all false
set_option maxRecDepth 100000
set_option maxHeartbeats 4000000
/-! ## pieces for any law -/
namespace Y
open PySem L2 G
theorem of_upd {H : Hp} {p : Addr} {o : HO} (h : H p = none) : Same H (upd H p o) := fun a u e => by
  rw [upd_ne (ne_of_none e h)]
  exact e
theorem add_upd {H G : Hp} {D : Addr} {o : HO} (nD : H D = none) (s : Same H G) : Same H (upd G D o) := fun b u e => by
  rw [upd_ne (ne_of_none e nD)]
  exact s _ _ e
/-- a def of the text that is called by its name, and keeps a promise -/
structure Df (P : Program) (w : World) (K : PySem.W.Frag) (mg : Str → Option Value) (base : Heap) (k : Nat) (x : Str) (ps : List Str) (sp : Sp) : Prop where
  ex : ∃ (f : Addr) (fd : FuncData), FnOk P w K mg base CX0 k f fd ps sp ∧ mg x = some (.ref f) ∧ PySem.W.keepIn K (.ref f) = true ∧ Binds K fd ps []
structure Fd (K : PySem.W.Frag) (mg : Str → Option Value) (x : Str) (st : Stmt) (ps : List Str) : Prop where
  ex : ∃ (f : Addr) (fd : FuncData), Fun K x x st f fd ∧ mg x = some (.ref f) ∧ PySem.W.keepIn K (.ref f) = true ∧ Binds K fd ps []
theorem Fd.df {P : Program} {w : World} {K : PySem.W.Frag} {mg : Str → Option Value} {base : Heap} {x : Str} {st : Stmt} {ps : List Str} {k : Nat} {sp : Sp} (h : Fd K mg x st ps) (ok : ∀ f fd, Fun K x x st f fd → FnOk P w K mg base CX0 k f fd ps sp) : Df P w K mg base k x ps sp := by
  obtain ⟨f, fd, h1, h2, h3, h4⟩ := h.ex
  exact ⟨f, fd, ok f fd h1, h2, h3, h4⟩
theorem set_then {te : TE} {i : Nat} {t2 : TS} {D : Ends} {σ : L2.St} {H : Hp} (h : te σ H fun v H1 => t2 D (σ.set i (some v)) H1) : tSeq (tAsg te (gName i)) t2 D σ H := h
theorem len_put {f : Str} {v : V} {fs : List (Str × V)} {n : Nat} (h : fs.length < n) : (putF f v fs).length < n + 1 := Nat.lt_of_le_of_lt (length_putF f v fs) (Nat.succ_lt_succ h)
theorem take_snoc {α : Type} {l : List α} {i : Nat} {x : α} (h : l[i]? = some x) : l.take (i + 1) = l.take i ++ [x] := by
  rw [List.take_succ, h]
  rfl
theorem drop_at {α : Type} {l : List α} {i : Nat} {x : α} (h : l[i]? = some x) : l.drop i = x :: l.drop (i + 1) := by
  obtain ⟨hi, ex⟩ := List.getElem?_eq_some_iff.mp h
  rw [← ex, ← List.drop_eq_getElem_cons hi]
section
variable {X : Cx} {tg it : Expr}
theorem pi_or {w1 w2 : TI} (h1 : PI X tg it w1) (h2 : PI X tg it w2) : PI X tg it (fun σ H R => w1 σ H R ∨ w2 σ H R) := ⟨fun pins s σ H R I h => h.elim (h1.run pins s σ H R I) (h2.run pins s σ H R I)⟩
def tDead : TS := fun _ _ _ => False
theorem ps_dead {b : List Stmt} : PSs X b tDead := ⟨fun _ _ _ _ _ _ h => h.elim⟩
end
def SAt (H : Hp) (l : Addr) (xs : List V) : Prop := H l = some (.lst xs) ∨ H l = some (.tup xs)
theorem SAt.mono {H H' : Hp} {l : Addr} {xs : List V} (s : Same H H') (h : SAt H l xs) : SAt H' l xs := h.elim (fun e => .inl (s _ _ e)) fun e => .inr (s _ _ e)
section
variable {K : PySem.W.Frag} {H : Hp} {σ : L2.St} {l : Addr} {xs : List V}
theorem or_seq {te : TE} {R : It → Hp → Prop} (ht : ∀ Q : VK, Q (.ref l) H → te σ H Q) (hl : SAt H l xs) (k : ∀ (J : It) (Gd : Hp → Prop), (∀ H', Same H H' → Gd H') → Walk J xs.length Gd (YAt xs) → R J H) : iList K te σ H R ∨ iTup K te σ H R :=
  hl.elim (fun e => .inl (ht _ ⟨l, rfl, ⟨xs, SqL.of e⟩, k _ _ (fun H' s => SqL.of (s _ _ e)) walk_list⟩)) fun e => .inr (ht _ ⟨l, rfl, ⟨xs, SqT.of e⟩, k _ _ (fun H' s => SqT.of (s _ _ e)) walk_tup⟩)
end
theorem at0 {y0 : V} {ys : List V} : atI (y0 :: ys) (0 : Int) = some y0 := by exact atI_nat (xs := y0 :: ys) (j := 0) rfl
def ni (l : List Nat) : List V := (l.map fun n => ((n : Nat) : Int)).map V.int
theorem ni_len (l : List Nat) : (ni l).length = l.length := by
  unfold ni
  rw [List.length_map, List.length_map]
theorem ni_get {l : List Nat} {i : Nat} {x : V} (h : (ni l)[i]? = some x) : ∃ b, l[i]? = some b ∧ x = .int ((b : Nat) : Int) := by
  unfold ni at h
  rw [List.getElem?_map, List.getElem?_map] at h
  cases e : l[i]? with
  | none => rw [e] at h; cases h
  | some b =>
    rw [e] at h
    cases h
    exact ⟨b, rfl, rfl⟩
theorem ni_at {l : List Nat} {i b : Nat} (h : l[i]? = some b) : (ni l)[i]? = some (.int ((b : Nat) : Int)) := by
  unfold ni
  rw [List.getElem?_map, List.getElem?_map, h]
  rfl
theorem ni_app (l m : List Nat) : ni (l ++ m) = ni l ++ ni m := by
  unfold ni
  rw [List.map_append, List.map_append]
theorem ni_drop (l : List Nat) (i : Nat) : (ni l).drop i = ni (l.drop i) := by
  unfold ni
  rw [← List.map_drop, ← List.map_drop]
theorem ni_take (l : List Nat) (i : Nat) : (ni l).take i = ni (l.take i) := by
  unfold ni
  rw [← List.map_take, ← List.map_take]
theorem line2 : 2 ≤ sizeLine ∧ 3 ≤ sizeLine ∧ 1 ≤ sizeLine ∧ 0 ≤ sizeLine := by decide
/-- xs[k:] -/
theorem cut_from (xs : List V) (k : Nat) : cutV xs (some (k : Int)) none = xs.drop k := by
  unfold cutV
  rw [HT.sIx_none, HT.sIx_nat]
  by_cases h : k ≤ xs.length
  · rw [Nat.min_eq_left h]
    exact List.take_of_length_le (by rw [List.length_drop]; omega)
  · rw [Nat.min_eq_right (by omega), List.drop_of_length_le (by omega), List.drop_of_length_le (by omega), List.take_nil]
theorem six_pos {n k : Nat} (h : 0 < k) (hn : 0 < n) (d : Nat) : HT.sIx n d (some (k : Int)) ≠ 0 := by
  rw [HT.sIx_nat]
  omega
structure Bn (mg : Str → Option Value) : Prop where
  isi : mg "isinstance" = none
  bool : mg "bool" = none
  int : mg "int" = none
  tuple : mg "tuple" = none
  list : mg "list" = none
  len : mg "len" = none
  range : mg "range" = none
  zip : mg "zip" = none
  min : mg "min" = none
  max : mg "max" = none
  sorted : mg "sorted" = none
  set : mg "set" = none
  enum : mg "enumerate" = none
end Y

end
section
set_option autoImplicit false
/-! ## chains: what the numbers do -/
namespace N
/-- the pieces of a body -/
def L : List Nat → Nat → Nat
  | [], _ => 1
  | c :: r, b => b / c * L r c + (if b % c = 0 then 0 else L r (b % c))
/-- the boundary with a number -/
def B : List Nat → Nat → Nat
  | [], _ => 0
  | c :: r, n => n / L r c * c + B r (n % L r c)
/-- the rest of a place -/
def rem : List Nat → Nat → Nat
  | [], p => p
  | c :: r, p => rem r (p % c)
def dig : List Nat → Nat → List Nat
  | [], p => [p]
  | c :: r, p => p / c :: dig r (p % c)
theorem L_cons (c : Nat) (r : List Nat) (b : Nat) : L (c :: r) b = b / c * L r c + (if b % c = 0 then 0 else L r (b % c)) := by conv => lhs; unfold L
theorem B_cons (c : Nat) (r : List Nat) (n : Nat) : B (c :: r) n = n / L r c * c + B r (n % L r c) := by conv => lhs; unfold B
theorem rem_cons (c : Nat) (r : List Nat) (p : Nat) : rem (c :: r) p = rem r (p % c) := by conv => lhs; unfold rem
/-- cuts: falling, none of them 0 -/
def Fall : List Nat → Prop
  | [] => True
  | c :: r => 0 < c ∧ (∀ d ∈ r, d < c) ∧ Fall r
theorem Fall.pos : ∀ {l : List Nat}, Fall l → ∀ d ∈ l, 0 < d
  | [], _, d, h => by cases h
  | c :: r, f, d, h => by
    rcases List.mem_cons.mp h with e | e
    · rw [e]; exact f.1
    · exact f.2.2.pos d e
theorem L_pos : ∀ (l : List Nat), Fall l → ∀ b, 0 < b → 0 < L l b
  | [], _, b, _ => by unfold L; omega
  | c :: r, f, b, hb => by
    unfold L
    have h1 := L_pos r f.2.2 c f.1
    by_cases h : b % c = 0
    · rw [if_pos h]
      have h2 : 0 < b / c := Nat.div_pos (Nat.le_of_dvd hb (Nat.dvd_of_mod_eq_zero h)) f.1
      exact Nat.lt_of_lt_of_le (Nat.mul_pos h2 h1) (Nat.le_add_right _ _)
    · rw [if_neg h]
      have h2 := L_pos r f.2.2 (b % c) (by omega)
      omega
theorem B_zero : ∀ l : List Nat, B l 0 = 0
  | [] => rfl
  | c :: r => by
    unfold B
    rw [Nat.zero_div, Nat.zero_mod, B_zero r, Nat.zero_mul]
theorem rem_zero : ∀ l : List Nat, rem l 0 = 0
  | [] => rfl
  | c :: r => by
    unfold rem
    rw [Nat.zero_mod, rem_zero r]
/-- two numbers in parts: which one is less -/
theorem parts_lt {q j Q R c : Nat} (hj : j < c) (hR : R < c) : q * c + j < Q * c + R ↔ q < Q ∨ (q = Q ∧ j < R) := by
  constructor
  · intro h
    rcases Nat.lt_trichotomy q Q with a | a | a
    · exact .inl a
    · subst a
      exact .inr ⟨rfl, by omega⟩
    · have := Nat.mul_le_mul_right c a
      rw [Nat.succ_mul] at this
      omega
  · rintro (a | ⟨rfl, a⟩)
    · have := Nat.mul_le_mul_right c a
      rw [Nat.succ_mul] at this
      omega
    · omega
/-- the boundaries below a body are one less than its pieces -/
theorem below : ∀ (l : List Nat), Fall l → ∀ b, 0 < b → ∀ m, (l = [] → m = 0) → (B l m < b ↔ m < L l b)
  | [], _, b, hb, m, hm => by
    rw [hm rfl]
    unfold B L
    omega
  | c :: r, f, b, hb, m, _ => by
    have hc := f.1
    have hk := L_pos r f.2.2 c hc
    have ih := below r f.2.2
    have hj := Nat.mod_lt m hk
    have hR := Nat.mod_lt b hc
    have e1 := Nat.div_add_mod m (L r c)
    have e2 := Nat.div_add_mod b c
    have nil : r = [] → m % L r c = 0 := fun e => by
      rw [e]
      show m % 1 = 0
      exact Nat.mod_one m
    have hB : B r (m % L r c) < c := (ih c hc _ nil).mpr hj
    -- what is left of the body
    have left : ∀ (x : Nat), x < L r c → (r = [] → x = 0) → (B r x < b % c ↔ x < (if b % c = 0 then 0 else L r (b % c))) := fun x hx hn => by
      by_cases h : b % c = 0
      · rw [if_pos h, h]
        omega
      · rw [if_neg h]
        exact ih (b % c) (by omega) x hn
    have most : (if b % c = 0 then 0 else L r (b % c)) ≤ L r c := by
      by_cases h : b % c = 0
      · rw [if_pos h]
        omega
      · rw [if_neg h]
        cases r with
        | nil => exact Nat.le_refl _
        | cons d s =>
          rcases Nat.lt_or_ge (L (d :: s) c) (L (d :: s) (b % c)) with z | z
          · have q := (ih (b % c) (by omega) (L (d :: s) c) (fun e => by cases e)).mpr z
            have q2 := (ih c hc (L (d :: s) c) (fun e => by cases e)).mp (by omega)
            omega
          · exact z
    have goal : (m / L r c < b / c ∨ (m / L r c = b / c ∧ B r (m % L r c) < b % c)) ↔ (m / L r c < b / c ∨ (m / L r c = b / c ∧ m % L r c < (if b % c = 0 then 0 else L r (b % c)))) := by
      rw [left _ hj nil]
    rw [B_cons, L_cons]
    have h1 := parts_lt (q := m / L r c) (Q := b / c) hB hR
    rw [Nat.mul_comm c] at e2
    rw [e2] at h1
    refine h1.trans (goal.trans ?_)
    generalize hX : (if b % c = 0 then 0 else L r (b % c)) = X at most ⊢
    rw [Nat.mul_comm (L r c)] at e1
    rcases Nat.lt_or_ge X (L r c) with z | z
    · have h2 := parts_lt (q := m / L r c) (Q := b / c) hj z
      rw [e1] at h2
      exact h2.symm
    · have eX : X = L r c := Nat.le_antisymm most z
      rw [eX]
      constructor
      · rintro (a | ⟨a, _⟩)
        · have := Nat.mul_le_mul_right (L r c) a
          rw [Nat.succ_mul] at this
          omega
        · rw [← a]
          omega
      · intro h
        rcases Nat.lt_trichotomy (m / L r c) (b / c) with a | a | a
        · exact .inl a
        · exact .inr ⟨a, hj⟩
        · have := Nat.mul_le_mul_right (L r c) a
          rw [Nat.succ_mul] at this
          omega
/-- boundaries go up -/
theorem up : ∀ (l : List Nat), Fall l → l ≠ [] → ∀ n, B l n < B l (n + 1)
  | [], _, h, _ => absurd rfl h
  | c :: r, f, _, n => by
    have hk := L_pos r f.2.2 c f.1
    have hj := Nat.mod_lt n hk
    have nil : r = [] → n % L r c = 0 := fun e => by
      rw [e]
      show n % 1 = 0
      exact Nat.mod_one n
    have hB : B r (n % L r c) < c := (below r f.2.2 c f.1 _ nil).mpr hj
    have e1 := Nat.div_add_mod n (L r c)
    rw [B_cons, B_cons]
    by_cases h : n % L r c + 1 = L r c
    · have e2 : n + 1 = 0 + L r c * (n / L r c + 1) := by rw [Nat.mul_add]; omega
      have d : (n + 1) / L r c = n / L r c + 1 := by rw [e2, Nat.add_mul_div_left _ _ hk, Nat.zero_div, Nat.zero_add]
      have m : (n + 1) % L r c = 0 := by rw [e2, Nat.add_mul_mod_self_left, Nat.zero_mod]
      rw [d, m, B_zero, Nat.succ_mul]
      omega
    · have e2 : n + 1 = (n % L r c + 1) + L r c * (n / L r c) := by omega
      have d : (n + 1) / L r c = n / L r c := by rw [e2, Nat.add_mul_div_left _ _ hk, Nat.div_eq_of_lt (by omega), Nat.zero_add]
      have m : (n + 1) % L r c = n % L r c + 1 := by rw [e2, Nat.add_mul_mod_self_left, Nat.mod_eq_of_lt (by omega)]
      rw [d, m]
      have hr : r ≠ [] := fun e => h (by rw [e]; show n % 1 + 1 = 1; rw [Nat.mod_one])
      have := up r f.2.2 hr (n % L r c)
      omega
theorem up_lt {l : List Nat} (f : Fall l) (h : l ≠ []) : ∀ {m n : Nat}, m < n → B l m < B l n
  | m, 0, q => absurd q (Nat.not_lt_zero _)
  | m, n + 1, q => by
    rcases Nat.lt_or_ge m n with a | a
    · exact Nat.lt_trans (up_lt f h a) (up l f h n)
    · have e : m = n := by omega
      rw [e]
      exact up l f h n
theorem up_iff {l : List Nat} (f : Fall l) (h : l ≠ []) {m n : Nat} : B l m < B l n ↔ m < n := by
  constructor
  · intro q
    rcases Nat.lt_trichotomy m n with a | a | a
    · exact a
    · rw [a] at q; omega
    · have := up_lt f h a; omega
  · exact up_lt f h
theorem eq_of_lt_iff {a b : Nat} (h : ∀ m, m < a ↔ m < b) : a = b := by
  have h1 := h a
  have h2 := h b
  omega
/-- the boundary with a number has so many up to it -/
theorem L_B {l : List Nat} (f : Fall l) (h : l ≠ []) {n : Nat} (hn : 0 < n) : L l (B l n) = n := by
  have p : 0 < B l n := by
    have := up_lt f h hn
    omega
  refine eq_of_lt_iff fun m => ?_
  rw [← below l f (B l n) p m fun e => absurd e h, up_iff f h]
theorem L_B1 {l : List Nat} (f : Fall l) (h : l ≠ []) {n : Nat} : L l (B l n + 1) = n + 1 := by
  refine eq_of_lt_iff fun m => ?_
  rw [← below l f (B l n + 1) (by omega) m fun e => absurd e h]
  constructor
  · intro q
    rcases Nat.lt_or_ge m (n + 1) with a | a
    · exact a
    · have := up_lt f h (m := n) (n := m) (by omega)
      omega
  · intro q
    rcases Nat.lt_or_ge m n with a | a
    · have := up_lt f h a
      omega
    · have e : m = n := by omega
      rw [e]
      omega
theorem rem_B : ∀ (l : List Nat), Fall l → ∀ n, (l = [] → n = 0) → rem l (B l n) = 0
  | [], _, n, h => by rw [h rfl]; rfl
  | c :: r, f, n, _ => by
    have hk := L_pos r f.2.2 c f.1
    have hj := Nat.mod_lt n hk
    have nil : r = [] → n % L r c = 0 := fun e => by
      rw [e]
      show n % 1 = 0
      exact Nat.mod_one n
    have hB : B r (n % L r c) < c := (below r f.2.2 c f.1 _ nil).mpr hj
    rw [B_cons, rem_cons, Nat.add_comm, Nat.add_mul_mod_self_right, Nat.mod_eq_of_lt hB]
    exact rem_B r f.2.2 _ nil
/-- the first boundary is the least cut -/
theorem B_one : ∀ (l : List Nat), Fall l → ∀ (h : l ≠ []), B l 1 = l.getLast h
  | [], _, h => absurd rfl h
  | [c], _, _ => by
    rw [B_cons]
    show 1 / 1 * c + 0 = c
    omega
  | c :: d :: s, f, _ => by
    have ih := B_one (d :: s) f.2.2 (by simp)
    have lt : (d :: s).getLast (by simp) < c := f.2.1 _ (List.getLast_mem _)
    have k1 : 1 < L (d :: s) c := (below (d :: s) f.2.2 c f.1 1 (fun e => by cases e)).mp (by rw [ih]; exact lt)
    rw [List.getLast_cons (by simp)]
    rw [B_cons, Nat.div_eq_of_lt k1, Nat.mod_eq_of_lt k1, ih]
    omega
theorem last_le : ∀ (l : List Nat), Fall l → ∀ (h : l ≠ []), ∀ d ∈ l, l.getLast h ≤ d
  | [], _, h, _, _ => absurd rfl h
  | [c], _, _, d, hd => by
    have e : d = c := by simpa using hd
    rw [e]
    exact Nat.le_refl _
  | c :: e :: s, f, _, d, hd => by
    rw [List.getLast_cons (by simp)]
    rcases List.mem_cons.mp hd with q | q
    · rw [q]
      exact Nat.le_of_lt (f.2.1 _ (List.getLast_mem _))
    · exact last_le (e :: s) f.2.2 (by simp) d q
theorem L_mono_lt {l : List Nat} (f : Fall l) (h : l ≠ []) {n b : Nat} (hb : B l n < b) : n < L l b := (below l f b (by omega) n fun e => absurd e h).mp hb
end N
namespace N
/-- how many pieces each cut's part makes -/
def cn : List Nat → List Nat
  | [] => []
  | c :: r => L r c :: cn r
theorem cn_len : ∀ l : List Nat, (cn l).length = l.length
  | [] => rfl
  | c :: r => congrArg Nat.succ (cn_len r)
theorem cn_at : ∀ {l : List Nat} {i k : Nat}, (cn l)[i]? = some k → ∃ c, l[i]? = some c ∧ k = L (l.drop (i + 1)) c
  | [], i, k, h => by cases h
  | c :: r, 0, k, h => by
    cases h
    exact ⟨c, rfl, rfl⟩
  | c :: r, i + 1, k, h => by
    obtain ⟨d, a, b⟩ := cn_at (l := r) (i := i) h
    exact ⟨d, a, b⟩
/-- the number of pieces of any body -/
def PC (l : List Nat) (b : Nat) : Nat := if b = 0 then 1 else L l b
def sm : List Nat → Nat → Nat
  | [], _ => 0
  | c :: r, b => b / c * L r c + sm r (b % c)
theorem sm_cons (c : Nat) (r : List Nat) (b : Nat) : sm (c :: r) b = b / c * L r c + sm r (b % c) := by conv => lhs; unfold sm
theorem sm_nil (b : Nat) : sm [] b = 0 := rfl
theorem rem_nil (b : Nat) : rem [] b = b := rfl
theorem sm_zero : ∀ l : List Nat, sm l 0 = 0
  | [] => rfl
  | c :: r => by
    unfold sm
    rw [Nat.zero_div, Nat.zero_mod, Nat.zero_mul, sm_zero r]
theorem L_sm : ∀ (l : List Nat) (b : Nat), 0 < b → L l b = sm l b + (if 0 < rem l b then 1 else 0)
  | [], b, h => by
    unfold L sm rem
    rw [if_pos h]
  | c :: r, b, h => by
    rw [L_cons, rem_cons]
    unfold sm
    by_cases z : b % c = 0
    · rw [if_pos z, z, sm_zero, rem_zero, if_neg (by omega)]
    · rw [if_neg z, L_sm r (b % c) (by omega), Nat.add_assoc]
theorem PC_sm (l : List Nat) (b : Nat) : PC l b = sm l b + (if 0 < rem l b ∨ b = 0 then 1 else 0) := by
  unfold PC
  by_cases h : b = 0
  · rw [if_pos h, if_pos (.inr h), h, sm_zero]
  · rw [if_neg h, L_sm l b (by omega)]
    by_cases z : 0 < rem l b
    · rw [if_pos z, if_pos (.inl z)]
    · rw [if_neg z, if_neg (by omega)]
theorem Fall.drop : ∀ {l : List Nat}, Fall l → ∀ i, Fall (l.drop i)
  | [], _, i => by rw [List.drop_nil]; trivial
  | c :: r, f, 0 => f
  | c :: r, f, i + 1 => f.2.2.drop i
theorem le_B {l : List Nat} (f : Fall l) (h : l ≠ []) : ∀ n, n ≤ B l n
  | 0 => Nat.zero_le _
  | n + 1 => by
    have := le_B f h n
    have := up l f h n
    omega
theorem L_le {l : List Nat} (f : Fall l) {b : Nat} (hb : 0 < b) : L l b ≤ b := by
  cases l with
  | nil => exact hb
  | cons c r =>
    have p := L_pos (c :: r) f b hb
    have q := (below (c :: r) f b hb (L (c :: r) b - 1) fun e => by cases e).mpr (by omega)
    have := le_B f (by simp) (L (c :: r) b - 1)
    omega
theorem dig_rem : ∀ (l : List Nat) (p : Nat), ∃ ds, dig l p = ds ++ [rem l p]
  | [], p => ⟨[], rfl⟩
  | c :: r, p => by
    obtain ⟨ds, e⟩ := dig_rem r (p % c)
    exact ⟨p / c :: ds, by unfold dig; rw [e, rem_cons]; rfl⟩
theorem dig_len : ∀ (l : List Nat) (p : Nat), (dig l p).length = l.length + 1
  | [], p => rfl
  | c :: r, p => congrArg Nat.succ (dig_len r (p % c))
end N
namespace N
theorem fall_snoc : ∀ {l : List Nat} {x : Nat}, Fall l → 0 < x → (∀ d ∈ l, x < d) → Fall (l ++ [x])
  | [], x, _, h, _ => ⟨h, (fun d hd => by cases hd), trivial⟩
  | c :: r, x, f, h, hd => by
    refine ⟨f.1, fun d q => ?_, fall_snoc f.2.2 h fun d q => hd d (List.mem_cons_of_mem _ q)⟩
    rcases List.mem_append.mp q with q | q
    · exact f.2.1 d q
    · rw [List.mem_singleton.mp q]
      exact hd c List.mem_cons_self
end N

end
section
set_option Elab.async false
set_option linter.all false
set_option maxRecDepth 100000
set_option maxHeartbeats 4000000
/-! ## where the law draws from -/
namespace S
open PySem L2
def top (i : Nat) : Stmt := PySem.Challenge.pw_roadsizes_k24_whole_normal_chains.main.body.getD i (.Pass ⟨0, 0, 0, 0⟩)
abbrev sSource : Stmt := top 25
abbrev sDraw : Stmt := top 26
abbrev sPick : Stmt := top 27
/-- the built-ins that these defs call -/
structure Bi (mg : Str → Option Value) : Prop where
  int : mg "int" = none
  len : mg "len" = none
/-- a source: two numbers that are not negative, the second one small -/
def Two (r m : Int) : List V := [.int r, .int m]
structure Fine (r m : Int) : Prop where
  r0 : 0 ≤ r
  m0 : 0 ≤ m
  m1 : m < 2147483648
def At (H : Hp) (p : Addr) : Prop := ∃ r m, H p = some (.lst (Two r m)) ∧ Fine r m
theorem bits_lt (x : Int) : x.natAbs < 2 ^ (Builtin.Int.intBits x) := by
  unfold Builtin.Int.intBits
  split
  · rename_i h
    have e : x = 0 := by simpa using h
    subst e
    decide
  · exact Nat.lt_log2_self
theorem bits_le {x : Int} {n : Nat} (h : x.natAbs < 2 ^ n) : Builtin.Int.intBits x ≤ n := by
  unfold Builtin.Int.intBits
  split
  · exact Nat.zero_le _
  · rename_i q
    have ne : x.natAbs ≠ 0 := fun e => q (by simp [Int.natAbs_eq_zero.mp e])
    exact (Nat.log2_lt ne).mpr h
theorem cube_ok {m z : Int} (h0 : 0 ≤ m) (h1 : m < 2147483648) (hz : Builtin.Int.intBits z ≤ 1048576) : (Builtin.Int.intBits (m * 40127 + z) : Int) * 3 ≤ 2 ^ 27 := by
  have b1 := bits_lt z
  have b2 : z.natAbs < 2 ^ 1048576 := Nat.lt_of_lt_of_le b1 (Nat.pow_le_pow_right (by decide) hz)
  have b3 : (m * 40127 + z).natAbs < 2 ^ 1048577 := by
    have e : (2 : Nat) ^ 1048577 = 2 ^ 1048576 * 2 := Nat.pow_succ ..
    have e2 : (2 : Nat) ^ 100 ≤ 2 ^ 1048576 := Nat.pow_le_pow_right (by decide) (by decide)
    have e3 : (2 : Nat) ^ 100 = 1267650600228229401496703205376 := by decide
    generalize (2 : Nat) ^ 1048576 = t at *
    rw [e]
    omega
  have b4 := bits_le b3
  have e27 : (2 : Int) ^ 27 = 134217728 := by decide
  rw [e27]
  omega
/-! ### promises -/
def spSource (K : PySem.W.Frag) : Sp := fun vs H Q _ => ∃ (a : Addr) (ns : List Int) (i : Nat), vs = [.ref a, .int i] ∧ i ≤ 1000 ∧ SqL K H a (ns.map V.int) ∧ ns.length ≤ 63 ∧ (∀ z ∈ ns, Builtin.Int.intBits z ≤ 1048576) ∧
  ∀ p r m, H p = none → Fine r m → Q (.ref p) (upd H p (.lst (Two r m)))
def spDraw : Sp := fun vs H Q _ => ∃ (p : Addr) (r m span : Int), vs = [.ref p, .int span] ∧ H p = some (.lst (Two r m)) ∧ Fine r m ∧ 1 ≤ span ∧ span.natAbs.log2 < 9000 ∧
  ∀ k r' m', Fine r' m' → 0 ≤ k → k < span → Q (.int k) (upd H p (.lst (Two r' m')))
def spPick (K : PySem.W.Frag) : Sp := fun vs H Q _ => ∃ (p l : Addr) (r m : Int) (xs : List V), vs = [.ref p, .ref l] ∧ H p = some (.lst (Two r m)) ∧ Fine r m ∧ l ≠ p ∧ SqL K H l xs ∧ 1 ≤ xs.length ∧ xs.length ≤ 1000 ∧
  ∀ (j : Nat) (x : V) (r' m' : Int), Fine r' m' → xs[j]? = some x → Q x (upd H p (.lst (Two r' m')))
section
variable {P : Program} {w : World} {K : PySem.W.Frag} {mg : Str → Option Value} {base : Heap}
theorem sc1 : FnScope ["script", "start", "seed", "cell", "digits"] ["script", "start"] (defScope sSource) := ⟨rfl, rfl, rfl, by decide +kernel, rfl, by decide +kernel, by decide +kernel⟩
theorem ints_at {ns : List Int} {i : Nat} {x : V} (h : (ns.map V.int)[i]? = some x) : ∃ z, x = .int z ∧ z ∈ ns ∧ ns[i]? = some z := by
  rw [List.getElem?_map] at h
  cases e : ns[i]? with
  | none => rw [e] at h; cases h
  | some z => rw [e] at h; exact ⟨z, (Option.some.inj h).symm, List.mem_of_getElem? e, rfl⟩
theorem ok_source {f : Addr} {fd : FuncData} (F : Fun K "_law_stream" "_law_stream" sSource f fd) (B : Bi mg) : FnOk P w K mg base CX0 1 f fd ["script", "start"] (spSource K) := by
  refine F.ok sc1 (fun vs H Q E h => ?_) (fun cdv A outer s H vs Q E hr h => ?_)
  · obtain ⟨a, ns, i, rfl, _⟩ := h
    rfl
  · obtain ⟨a, ns, st, rfl, hst, hS, hl, hb, k⟩ := h
    refine ⟨_, pss_cons (ps_set (i := 2) sc1.nd rfl (Or.inl rfl) (pe_op op_add pe_int (pv 1)))
      (pss_cons (ps_for PassesOwn.never rfl (pi_list (pv 0)) (pg_name (i := 3) sc1.nd rfl (Or.inl rfl))
        (pss_one (ps_set (i := 2) sc1.nd rfl (Or.inl rfl) (pe_op op_add (pe_op op_mod
          (pe_op G.op_powN (pe_callTy call_int1 (by rfl) B.int (by decide +kernel) (pa_cons (pe_op op_add (pe_op op_mul (pv 2) pe_int) (pv 3)) pa_nil)) pe_int) pe_int) pe_int))))
      (pss_cons (ps_set (i := 4) sc1.nd rfl (Or.inl rfl) pe_int)
      (pss_cons (ps_if (PW.pt (pw_and (pt_cmpR op_lt (pv 1) (pe_callB call_len_seq (by rfl) B.len PySem.boot_len (pa_cons (pv 0) pa_nil)) (nomark _))
          (pw_and1 (pt_cmpR op_ge (pe_ix ix_list (pv 0) (pv 1) (fun _ _ => rfl)) (pe_op op_pow pe_int pe_int) (nomark _)))))
        (pss_one (ps_set (i := 4) sc1.nd rfl (Or.inl rfl) (pe_op op_sub (pe_ix ix_list (pv 0) (pv 1) (fun _ _ => rfl)) (pe_op op_pow pe_int pe_int)))) pss_nil)
      (pss_one (ps_ret (pe_lst (pa_cons (pv 4) (pa_cons (pv 2) pa_nil)))))))), ?_⟩
    -- mixed = 97 + start
    refine ⟨_, rfl, _, _, rfl, rfl, ?_⟩
    -- for cell in script
    refine ⟨_, rfl, a, rfl, ⟨_, hS⟩, for_list (K := K) (a := a) (xs := ns.map V.int) (fun i σ H2 => ∃ (m : Int) (c : Option V), σ = [some (.ref a), some (.int st), some (.int m), c, none] ∧ H2 = H ∧ (0 ≤ m ∧ m < 2147483648))
      ⟨_, none, rfl, rfl, by omega, by omega⟩ (fun i σ H2 _ ⟨_, _, _, e, _⟩ => by rw [e]; exact hS) ?_ ?_⟩
    · rintro i y σ H2 hi ⟨m, c, rfl, rfl, h0, h1⟩
      obtain ⟨z, rfl, hz, _⟩ := ints_at hi
      refine ⟨_, rfl, _, _, rfl, rfl, .inl ⟨by omega, by omega⟩, _, rfl, _, _, rfl, rfl, .inl ⟨_, rfl, _, _, rfl, rfl, ⟨by decide, cube_ok h0 h1 (hb z hz)⟩, _, _, rfl, rfl, (by show (0 : Int) < 2147483629; decide), _, _, rfl, rfl, ?_⟩⟩
      refine ⟨_, _, rfl, rfl, ?_⟩
      have e1 := Int.emod_nonneg ((m * 40127 + z) ^ (3 : Int).toNat) (b := 2147483629) (by decide)
      have e2 := Int.emod_lt_of_pos ((m * 40127 + z) ^ (3 : Int).toNat) (b := 2147483629) (by decide)
      exact ⟨Int.add_nonneg e1 (by decide), Int.lt_of_lt_of_le (Int.add_lt_add_right e2 1) (by decide)⟩
    · rintro σ H2 ⟨m, c, rfl, rfl, h0, h1⟩
      -- rest = 0; if start < len(script) and script[start] >= 10 ** 18
      refine ⟨_, rfl, _, rfl, a, _, rfl, .inl hS, _, _, rfl, rfl, _, rfl, ?_⟩
      have fin : ∀ r : Int, 0 ≤ r → tRet (tLst (tCons (tVar 4) (tCons (tVar 2) tNil))) { nx := fun _ H' => Q .non H', rt := Q } [some (.ref a), some (.int st), some (.int m), c, some (.int r)] H2 := fun r hr =>
        ⟨_, rfl, _, rfl, (by show 2 ≤ sizeLine; decide), fun p hp => k p r m hp ⟨hr, h0, h1⟩⟩
      by_cases hlt : st < ns.length
      · have e : decide ((st : Int) < ((ns.map V.int).length : Int)) = true := by
          rw [List.length_map]
          exact decide_eq_true (by omega)
        rw [e]
        refine iteT ?_
        have hit : (ns.map V.int)[st]? = some (V.int ns[st]) := by rw [List.getElem?_map, List.getElem?_eq_getElem hlt]; rfl
        refine ⟨_, rfl, _, rfl, a, _, _, _, rfl, rfl, hS, atI_nat hit, _, _, rfl, rfl, ⟨by decide, by decide, by decide⟩, _, _, rfl, rfl, _, rfl, ?_⟩
        refine ite2 (fun hge => ?_) (fun _ => fin 0 (by decide))
        refine ⟨_, rfl, _, rfl, a, _, _, _, rfl, rfl, hS, atI_nat hit, _, _, rfl, rfl, ⟨by decide, by decide, by decide⟩, _, _, rfl, rfl, ?_⟩
        exact fin _ (Int.sub_nonneg_of_le (of_decide_eq_true hge))
      · have e : decide ((st : Int) < ((ns.map V.int).length : Int)) = false := by
          rw [List.length_map]
          exact decide_eq_false (by omega)
        rw [e]
        exact iteF (iteF (fin 0 (by decide)))
theorem fits {a : Int} {n : Nat} (h : 0 ≤ a) (h1 : a < 2 ^ n) : a.natAbs < 2 ^ n := by
  have e : ((2 : Int) ^ n) = ((2 ^ n : Nat) : Int) := by rw [Int.natCast_pow]; rfl
  rw [e] at h1
  omega
theorem sc2 : FnScope ["stream", "size", "found"] ["stream", "size"] (defScope sDraw) := ⟨rfl, rfl, rfl, by decide +kernel, rfl, by decide +kernel, by decide +kernel⟩
theorem ok_draw {f : Addr} {fd : FuncData} (F : Fun K "_law_draw" "_law_draw" sDraw f fd) (B : Bi mg) : FnOk P w K mg base CX0 1 f fd ["stream", "size"] spDraw := by
  refine F.ok sc2 (fun vs H Q E h => ?_) (fun cdv A outer s H vs Q E hr h => ?_)
  · obtain ⟨p, r, m, span, rfl, _⟩ := h
    rfl
  · obtain ⟨p, r, m, span, rfl, hp, ⟨r0, m0, m1⟩, s1, s2, k⟩ := h
    refine ⟨_, pss_cons (ps_if (pt_cmpR op_ge (pe_ix ix_list (pv 0) pe_int (fun _ _ => rfl)) (pv 1) (nomark _))
        (pss_cons (ps_set (i := 2) sc2.nd rfl (Or.inl rfl) (pe_op op_mod (pe_callTy call_int1 (by rfl) B.int (by decide +kernel) (pa_cons (pe_ix ix_list (pv 0) pe_int (fun _ _ => rfl)) pa_nil)) (pv 1)))
        (pss_cons (ps_asg (pe_op op_fdivW (pe_ix ix_list (pv 0) pe_int (fun _ _ => rfl)) (pv 1)) (pg_sub (pv 0) pe_int set_list))
        (pss_one (ps_ret (pv 2))))) pss_nil)
      (pss_cons (ps_asg (pe_op op_mod (pe_callTy call_int1 (by rfl) B.int (by decide +kernel) (pa_cons (pe_op op_add (pe_op op_mul (pe_ix ix_list (pv 0) pe_int (fun _ _ => rfl)) pe_int) pe_int) pa_nil)) pe_int) (pg_sub (pv 0) pe_int set_list))
      (pss_one (ps_ret (pe_op op_mod (pe_op op_fdiv (pe_op op_mod (pe_op op_pow (pe_op op_mod (pe_op op_pow (pe_callTy call_int1 (by rfl) B.int (by decide +kernel) (pa_cons (pe_ix ix_list (pv 0) pe_int (fun _ _ => rfl)) pa_nil)) pe_int) pe_int) pe_int) pe_int) pe_int) (pv 1))))), ?_⟩
    have g0 : atI (Two r m) 0 = some (.int r) := rfl
    refine ⟨_, rfl, p, _, _, _, rfl, rfl, SqL.of hp, g0, _, rfl, _, _, rfl, rfl, _, rfl, ?_⟩
    refine ite2 (fun hge => ?_) (fun hlt => ?_)
    · have hge' : span ≤ r := of_decide_eq_true hge
      have q0 : 0 ≤ r / span := Int.ediv_nonneg r0 (by omega)
      refine ⟨_, rfl, p, _, _, _, rfl, rfl, SqL.of hp, g0, .inl ⟨_, rfl, _, rfl, _, _, rfl, rfl, (by show 0 < span; omega), ?_⟩⟩
      refine ⟨_, rfl, p, _, _, _, rfl, rfl, SqL.of hp, g0, _, rfl, _, _, rfl, rfl, ⟨(by omega), s2⟩, ?_⟩
      refine ⟨_, rfl, p, _, _, _, rfl, rfl, hp, rfl, ?_⟩
      exact ⟨_, rfl, k (r % span) (r / span) m ⟨q0, m0, m1⟩ (Int.emod_nonneg _ (by omega)) (Int.emod_lt_of_pos _ (by omega))⟩
    · have g1 : atI (Two r m) 1 = some (.int m) := rfl
      have e1 := Int.emod_nonneg (m * 48271 + 12345) (b := 2147483647) (by decide)
      have e2 := Int.emod_lt_of_pos (m * 48271 + 12345) (b := 2147483647) (by decide)
      refine ⟨_, rfl, p, _, _, _, rfl, rfl, SqL.of hp, g1, _, _, rfl, rfl, .inl ⟨by omega, by omega⟩, _, _, rfl, rfl, .inl ⟨_, rfl, _, _, rfl, rfl, (by show (0 : Int) < 2147483647; decide), ?_⟩⟩
      refine ⟨_, rfl, p, _, _, _, rfl, rfl, hp, rfl, ?_⟩
      have hp2 : (upd H p (.lst (Two r ((m * 48271 + 12345) % 2147483647)))) p = some (.lst (Two r ((m * 48271 + 12345) % 2147483647))) := upd_same
      have g2 : atI (Two r ((m * 48271 + 12345) % 2147483647)) 1 = some (.int ((m * 48271 + 12345) % 2147483647)) := rfl
      have f1 := Int.emod_nonneg (((m * 48271 + 12345) % 2147483647) ^ (3 : Int).toNat) (b := 2147483629) (by decide)
      have f2 := Int.emod_lt_of_pos (((m * 48271 + 12345) % 2147483647) ^ (3 : Int).toNat) (b := 2147483629) (by decide)
      refine ⟨_, rfl, p, _, _, _, rfl, rfl, SqL.of hp2, g2, .inl ⟨_, rfl, _, _, rfl, rfl, ⟨by decide, by decide, by omega⟩, _, _, rfl, rfl, (by show (0 : Int) < 2147483629; decide), ?_⟩⟩
      generalize (((m * 48271 + 12345) % 2147483647) ^ (3 : Int).toNat) % 2147483629 = u at f1 f2 ⊢
      refine ⟨_, _, rfl, rfl, ⟨by decide, by decide, by omega⟩, _, _, rfl, rfl, (by show (0 : Int) < 1000000007; decide), _, _, rfl, rfl, ⟨by decide, by decide⟩, _, rfl, _, _, rfl, rfl, (by show 0 < span; omega), ?_⟩
      exact k _ r _ ⟨r0, e1, by omega⟩ (Int.emod_nonneg _ (by omega)) (Int.emod_lt_of_pos _ (by omega))
end
end S

end
section
set_option autoImplicit false
set_option Elab.async false
set_option linter.all false
set_option maxRecDepth 100000
set_option maxHeartbeats 4000000
/-! ## the program's chains -/
namespace CP
open PySem L2 G Y
abbrev sInteger : Stmt := S.top 2
abbrev sWithin : Stmt := S.top 3
abbrev sCInit : Stmt := inClass (S.top 10) 0
abbrev sCHas : Stmt := inClass (S.top 10) 1
abbrev sCGet : Stmt := inClass (S.top 10) 2
abbrev sCPieces : Stmt := inClass (S.top 10) 6
abbrev sCDigits : Stmt := inClass (S.top 10) 7
abbrev sCStretch : Stmt := inClass (S.top 10) 8
abbrev sCBoundary : Stmt := inClass (S.top 10) 10
abbrev sAreCuts : Stmt := S.top 11
abbrev sCounts : Stmt := S.top 12
abbrev sPieces : Stmt := S.top 13
/-- cuts: falling, at most 1000 -/
structure Cuts (l : List Nat) : Prop where
  fall : N.Fall l
  le : ∀ c ∈ l, c ≤ 1000
  len : l.length ≤ 1000
theorem Cuts.at {l : List Nat} (h : Cuts l) {i c : Nat} (e : l[i]? = some c) : 0 < c ∧ c ≤ 1000 := ⟨h.fall.pos c (List.mem_of_getElem? e), h.le c (List.mem_of_getElem? e)⟩
theorem Cuts.drop {l : List Nat} (h : Cuts l) (i : Nat) : Cuts (l.drop i) := ⟨h.fall.drop i, fun c hc => h.le c (List.mem_of_mem_drop hc), by rw [List.length_drop]; have := h.len; omega⟩
section
variable {P : Program} {w : World} {K : PySem.W.Frag} {mg : Str → Option Value} {base : Heap} {C : Addr}
def spInteger : Sp := fun vs H Q _ => ∃ v : Int, vs = [.int v] ∧ Q (.bl true) H
theorem scIn : FnScope ["value"] ["value"] (defScope sInteger) := ⟨rfl, rfl, rfl, by decide +kernel, rfl, by decide +kernel, by decide +kernel⟩
theorem ok_integer {f : Addr} {fd : FuncData} (F : Fun K "is_integer" "is_integer" sInteger f fd) (B : Bn mg) : FnOk P w K mg base CX0 1 f fd ["value"] spInteger := by
  refine F.ok scIn (fun vs H Q E h => ?_) (fun cdv A outer s H vs Q E hr h => ?_)
  · obtain ⟨v, rfl, _⟩ := h
    rfl
  · obtain ⟨v, rfl, k⟩ := h
    refine ⟨_, pss_one (ps_ret (pe_and (pe_callB call_isi (by rfl) B.isi (by decide +kernel) (pa_cons (pv 0) (pa_cons (pe_bltn (v := .ty "int") (by rfl) B.int (by decide +kernel) rfl) pa_nil)))
      (pe_one (pe_not (pe_callB call_isi (by rfl) B.isi (by decide +kernel) (pa_cons (pv 0) (pa_cons (pe_bltn (v := .ty "bool") (by rfl) B.bool (by decide +kernel) rfl) pa_nil))))))), ?_⟩
    exact ⟨_, rfl, _, _, _, _, _, rfl, .ty _, .base (.int _), kit_ty (r := true) (by decide +kernel), _, rfl, iteT ⟨_, rfl, _, _, _, _, _, rfl, .ty _, .base (.int _), kit_ty (r := false) (by decide +kernel), _, rfl, k⟩⟩
def spWithin : Sp := fun vs H Q _ => ∃ v a b : Int, vs = [.int v, .int a, .int b] ∧ Q (.bl (decide (a ≤ v ∧ v ≤ b))) H
theorem sc3 : FnScope ["value", "least", "greatest"] ["value", "least", "greatest"] (defScope sWithin) := ⟨rfl, rfl, rfl, by decide +kernel, rfl, by decide +kernel, by decide +kernel⟩
theorem ok_within {f : Addr} {fd : FuncData} (F : Fun K "is_within" "is_within" sWithin f fd) (DI : Df P w K mg base 1 "is_integer" ["value"] spInteger) : FnOk P w K mg base CX0 2 f fd ["value", "least", "greatest"] spWithin := by
  obtain ⟨fI, fdI, GI, gI, kI, bI⟩ := DI.ex
  refine F.ok sc3 (fun vs H Q E h => ?_) (fun cdv A outer s H vs Q E hr h => ?_)
  · obtain ⟨v, a, b, rfl, _⟩ := h
    rfl
  · obtain ⟨v, a, b, rfl, k⟩ := h
    refine ⟨_, pss_one (ps_ret (pe_and (pe_call GI hr rfl gI kI bI .nil pass0 (pa_cons (pv 0) pa_nil)) (pe_one (pe_chain op_le op_le (pv 1) (pv 0) (pv 2))))), ?_⟩
    refine ⟨_, rfl, v, rfl, _, rfl, iteT ⟨_, rfl, _, rfl, _, _, rfl, rfl, _, rfl, ?_⟩⟩
    refine ite2 (fun h1 => ⟨_, rfl, _, _, rfl, rfl, ?_⟩) (fun h1 => ?_)
    · have e1 : a ≤ v := of_decide_eq_true h1
      rw [show decide (a ≤ v ∧ v ≤ b) = decide (v ≤ b) by
        by_cases z : v ≤ b
        · rw [decide_eq_true z, decide_eq_true ⟨e1, z⟩]
        · rw [decide_eq_false z, decide_eq_false fun q => z q.2]] at k
      exact k
    · rw [show decide (a ≤ v ∧ v ≤ b) = false from decide_eq_false fun q => h1 (decide_eq_true q.1)] at k
      exact k
/-- _pieces -/
def spPieces (K : PySem.W.Frag) : Sp := fun vs H Q _ => ∃ (b : Nat) (l : List Nat) (t u : Addr), vs = [.int (b : Int), .ref t, .ref u] ∧ SqT K H t (ni l) ∧ SqT K H u (ni (N.cn l)) ∧ Cuts l ∧ ∀ H', Same H H' → Q (.int ((N.PC l b : Nat) : Int)) H'
abbrev NPc : List Str := ["body", "cuts", "counts", "pieces", "rest", "cut", "count"]
theorem scPc : FnScope NPc ["body", "cuts", "counts"] (defScope sPieces) := ⟨rfl, rfl, rfl, by decide +kernel, rfl, by decide +kernel, by decide +kernel⟩
theorem sqT_same {H H' : Hp} {a : Addr} {xs : List V} (s : Same H H') (h : SqT K H a xs) : SqT K H' a xs := h.elim (fun h => .inl (h.elim (fun h => .inl (s _ _ h)) fun ⟨o, h⟩ => .inr ⟨o, s _ _ h⟩)) .inr
theorem ok_pieces {f : Addr} {fd : FuncData} (F : Fun K "_pieces" "_pieces" sPieces f fd) (B : Bn mg) : FnOk P w K mg base CX0 1 f fd ["body", "cuts", "counts"] (spPieces K) := by
  refine F.ok scPc (fun vs H Q E h => ?_) (fun cdv A outer s H vs Q E hr h => ?_)
  · obtain ⟨b, l, t, u, rfl, _⟩ := h
    rfl
  · obtain ⟨b, l, t, u, rfl, hT, hU, hl, k⟩ := h
    refine ⟨_, pss_cons (ps_set (i := 3) scPc.nd rfl (Or.inl rfl) pe_int)
      (pss_cons (ps_set (i := 4) scPc.nd rfl (Or.inl rfl) (pv 0))
      (pss_cons (ps_for PassesOwn.never rfl (RZ.pi_zipA (by rfl) B.zip (pa_cons (pv 1) (pa_cons (pv 2) pa_nil))) (pg_tup (by rfl) (pgs_cons (pg_name (i := 5) scPc.nd rfl (.inl rfl)) (pgs_cons (pg_name (i := 6) scPc.nd rfl (.inl rfl)) pgs_nil)))
        (pss_cons (ps_set (i := 3) scPc.nd rfl (Or.inl rfl) (pe_op op_add (pv 3) (pe_op op_mul (pe_op op_fdiv (pv 4) (pv 5)) (pv 6))))
        (pss_one (ps_set (i := 4) scPc.nd rfl (Or.inl rfl) (pe_op op_mod (pv 4) (pv 5))))))
      (pss_cons (ps_if (PW.pt (pw_or (pt_cmpR op_gt (pv 4) pe_int (nomark _)) (pw_or1 (pt_cmpR op_eq (pv 0) pe_int (nomark _))))) (pss_one (ps_set (i := 3) scPc.nd rfl (Or.inl rfl) (pe_op op_add (pv 3) pe_int))) pss_nil)
      (pss_one (ps_ret (pv 3)))))), ?_⟩
    refine ⟨_, rfl, _, rfl, _, rfl, t, u, _, _, rfl, .inr ⟨hT, hU, ?_⟩⟩
    refine RZ.for_zipT (by rw [ni_len, ni_len, N.cn_len]) (fun i σ G => Same H G ∧ ∃ (p r : Nat) (q1 q2 : Option V), σ = [some (.int (b : Int)), some (.ref t), some (.ref u), some (.int (p : Int)), some (.int (r : Int)), q1, q2] ∧ p + N.sm (l.drop i) r = N.sm l b ∧ N.rem (l.drop i) r = N.rem l b)
      ⟨Same.refl H, 0, b, _, _, rfl, by rw [List.drop_zero, Nat.zero_add], by rw [List.drop_zero]⟩ (fun i σ G z => ⟨sqT_same z.1 hT, sqT_same z.1 hU⟩) ?_ ?_
    · rintro i x y T σ G hx hy ⟨s1, p, r, q1, q2, rfl, e1, e2⟩ hT0
      obtain ⟨c, hc, rfl⟩ := ni_get hx
      obtain ⟨n, hn, rfl⟩ := ni_get hy
      obtain ⟨c2, hc2, en⟩ := N.cn_at hn
      rw [hc] at hc2
      cases hc2
      have pc := hl.at hc
      have nle := N.L_le (hl.drop (i + 1)).fall pc.1
      rw [← en] at nle
      refine ⟨T, _, rfl, SqT.of upd_same, rfl, _, _, rfl, _, _, rfl, rfl, ?_⟩
      refine ⟨_, rfl, _, rfl, _, rfl, _, _, rfl, rfl, ⟨by omega, by omega⟩, _, rfl, _, _, rfl, rfl, .inr ⟨by omega, by omega⟩, _, _, rfl, rfl, ?_⟩
      refine ⟨_, rfl, _, rfl, _, _, rfl, rfl, by show (0 : Int) < (c : Int); omega, ?_⟩
      refine ⟨s1.trans (of_upd hT0), p + r / c * n, r % c, _, _, rfl, ?_, ?_⟩
      · rw [drop_at hc] at e1
        rw [N.sm_cons, ← en] at e1
        omega
      · rw [drop_at hc, N.rem_cons] at e2
        exact e2
    · rintro σ G ⟨s1, p, r, q1, q2, rfl, e1, e2⟩
      rw [ni_len, List.drop_length] at e1 e2
      rw [N.sm_nil] at e1
      rw [N.rem_nil] at e2
      have fin : ∀ z : Nat, z = N.PC l b → Q (.int (z : Int)) G := fun z e => by rw [e]; exact k G s1
      refine ⟨_, rfl, _, _, rfl, rfl, _, rfl, ite2 (fun c => ?_) (fun c => ⟨_, rfl, rfl, _, rfl, ite2 (fun d => ?_) (fun d => ?_)⟩)⟩
      · refine ⟨_, rfl, _, _, rfl, rfl, _, rfl, fin (p + 1) ?_⟩
        have c2 : (0 : Int) < (r : Int) := of_decide_eq_true c
        rw [N.PC_sm, if_pos (.inl (by omega))]
        omega
      · refine ⟨_, rfl, _, _, rfl, rfl, _, rfl, fin (p + 1) ?_⟩
        have d2 : V.int (b : Int) = V.int 0 := of_decide_eq_true d
        injection d2 with d2
        rw [N.PC_sm, if_pos (.inr (by omega))]
        omega
      · refine ⟨_, rfl, fin p ?_⟩
        have c2 : ¬ (0 : Int) < (r : Int) := fun z => c (decide_eq_true z)
        have d2 : b ≠ 0 := fun z => d (decide_eq_true (by rw [z]; rfl))
        rw [N.PC_sm, if_neg (by omega)]
        omega
end
end CP

end
section
set_option autoImplicit false
set_option Elab.async false
set_option linter.all false
set_option maxRecDepth 100000
set_option maxHeartbeats 4000000
namespace CP
open PySem L2 G Y
section
variable {P : Program} {w : World} {K : PySem.W.Frag} {mg : Str → Option Value} {base : Heap} {C : Addr}
/-- _piece_counts -/
def spCounts (K : PySem.W.Frag) : Sp := fun vs H Q _ => ∃ (l : List Nat) (t : Addr), vs = [.ref t] ∧ SqT K H t (ni l) ∧ Cuts l ∧ ∀ u H', Same H H' → H' u = some (.tup (ni (N.cn l))) → Q (.ref u) H'
theorem scCn : FnScope ["cuts", "counts", "at"] ["cuts"] (defScope sCounts) := ⟨rfl, rfl, rfl, by decide +kernel, rfl, by decide +kernel, by decide +kernel⟩
theorem ok_counts {f : Addr} {fd : FuncData} (F : Fun K "_piece_counts" "_piece_counts" sCounts f fd) (B : Bn mg) (DP : Df P w K mg base 1 "_pieces" ["body", "cuts", "counts"] (spPieces K)) : FnOk P w K mg base CX0 2 f fd ["cuts"] (spCounts K) := by
  obtain ⟨fP, fdP, GP, gP, kP, bP⟩ := DP.ex
  refine F.ok scCn (fun vs H Q E h => ?_) (fun cdv A outer s H vs Q E hr h => ?_)
  · obtain ⟨l, t, rfl, _⟩ := h
    rfl
  · obtain ⟨l, t, rfl, hT, hl, k⟩ := h
    refine ⟨_, pss_cons (ps_set (i := 1) scCn.nd rfl (Or.inl rfl) (pe_tup pa_nil))
      (pss_cons (ps_for PassesOwn.never rfl (pi_range3 (by rfl) B.range (pa_cons (pe_op op_sub (pe_callB call_len_seq (by rfl) B.len PySem.boot_len (pa_cons (pv 0) pa_nil)) pe_int) (pa_cons (pe_un un_neg pe_int) (pa_cons (pe_un un_neg pe_int) pa_nil)))) (pg_name (i := 2) scCn.nd rfl (Or.inl rfl))
        (pss_one (ps_set (i := 1) scCn.nd rfl (Or.inl rfl) (pe_tup (pa_cons (pe_call GP hr rfl gP kP bP .nil pass0 (pa_cons (pe_ix ix_tup (pv 0) (pv 2) (fun _ _ => rfl)) (pa_cons (pe_slice sl_tup (pv 0) (po_some (pe_op op_add (pv 2) pe_int)) po_none) (pa_cons (pv 1) pa_nil)))) (StX.pa_star (pv 1) pa_nil))))))
      (pss_one (ps_ret (pv 1)))), ?_⟩
    have ln := hl.len
    refine ⟨line2.2.2.2, fun u0 h0 => ?_⟩
    have s0 : Same H (upd H u0 (.tup [])) := of_upd h0
    refine ⟨_, rfl, t, _, rfl, .inr (sqT_same s0 hT), _, _, rfl, rfl, 1, rfl, 1, rfl, _, _, _, _, rfl, RgC.neg (by rw [ni_len]; omega) (by rw [ni_len]; omega) (by decide) (by decide), ?_⟩
    rw [ni_len]
    refine for_rangeC (n := ((l.length : Int) - 1 - -1).toNat) (fun i σ G => Same H G ∧ ∃ u q, σ = [some (.ref t), some (.ref u), q] ∧ G u = some (.tup (ni (N.cn (l.drop (l.length - i))))))
      ⟨s0, u0, _, rfl, by rw [Nat.sub_zero, List.drop_length]; exact upd_same⟩ ?_ ?_
    · rintro i σ G hi ⟨s1, u, q, rfl, hu⟩
      have hi2 : i < l.length := by omega
      obtain ⟨c, hc⟩ : ∃ c, l[l.length - 1 - i]? = some c := ⟨_, List.getElem?_eq_getElem (by omega)⟩
      have pc := hl.at hc
      have ei : (l.length : Int) - 1 + (i : Int) * -1 = ((l.length - 1 - i : Nat) : Int) := by omega
      have e2 : l.length - 1 - i + 1 = l.length - i := by omega
      have e3 : l.length - (i + 1) = l.length - 1 - i := by omega
      dsimp only
      rw [ei]
      refine ⟨_, rfl, _, rfl, t, _, _, _, rfl, rfl, sqT_same s1 hT, atI_nat (ni_at hc), _, rfl, _, rfl, _, _, rfl, rfl, _, rfl, t, _, rfl, sqT_same s1 hT, ?_, fun a ha => ?_⟩
      · intro z
        have e4 : ((l.length - 1 - i : Nat) : Int) + 1 = ((l.length - i : Nat) : Int) := by omega
        rw [e4] at z
        exact six_pos (by omega) (by rw [ni_len]; omega) 0 z.1
      have e4 : cutV (ni l) (some (((l.length - 1 - i : Nat) : Int) + 1)) none = ni (l.drop (l.length - i)) := by
        rw [show ((l.length - 1 - i : Nat) : Int) + 1 = ((l.length - i : Nat) : Int) by omega, cut_from, ni_drop]
      rw [e4]
      have s2 : Same G (upd G a (.tup (ni (l.drop (l.length - i))))) := of_upd ha
      refine ⟨_, rfl, c, l.drop (l.length - i), a, u, rfl, SqT.of upd_same, SqT.of (s2 _ _ hu), hl.drop _, fun G2 s3 => ?_⟩
      have hu2 := s3 _ _ (s2 _ _ hu)
      refine ⟨_, rfl, u, _, rfl, .inl (SqT.of hu2), ?_, fun v hv => ?_⟩
      · rw [List.append_nil]
        show (ni (N.cn (l.drop (l.length - i)))).length + 1 ≤ sizeLine
        rw [ni_len, N.cn_len, List.length_drop]
        exact Nat.le_trans (show l.length - (l.length - i) + 1 ≤ 1001 by omega) (by decide)
      · refine ⟨(s1.trans s2).trans (s3.trans (of_upd hv)), v, _, rfl, ?_⟩
        rw [upd_same, e3, drop_at hc, e2, List.append_nil]
        have e5 : N.PC (l.drop (l.length - i)) c = N.L (l.drop (l.length - i)) c := if_neg (by omega)
        rw [e5]
        rfl
    · rintro σ G ⟨s1, u, q, rfl, hu⟩
      rw [show l.length - ((l.length : Int) - 1 - -1).toNat = 0 by omega, List.drop_zero] at hu
      exact ⟨_, rfl, k u G s1 hu⟩
/-- _are_cuts of cuts -/
def spAre : Sp := fun vs H Q _ => ∃ (l : List Nat) (t : Addr), vs = [.ref t] ∧ SAt H t (ni l) ∧ Cuts l ∧ ∀ H', Same H H' → Q (.bl true) H'
theorem scAre : FnScope ["value", "before", "cut"] ["value"] (defScope sAreCuts) := ⟨rfl, rfl, rfl, by decide +kernel, rfl, by decide +kernel, by decide +kernel⟩
theorem ok_are {f : Addr} {fd : FuncData} (F : Fun K "_are_cuts" "_are_cuts" sAreCuts f fd) (B : Bn mg) (gC : ∃ t, mg "GREATEST_CUT" = some (.int 1000 t)) (DW : Df P w K mg base 2 "is_within" ["value", "least", "greatest"] spWithin) : FnOk P w K mg base CX0 3 f fd ["value"] spAre := by
  obtain ⟨fW, fdW, GW, gW, kW, bW⟩ := DW.ex
  obtain ⟨tkC, gC⟩ := gC
  refine F.ok scAre (fun vs H Q E h => ?_) (fun cdv A outer s H vs Q E hr h => ?_)
  · obtain ⟨l, t, rfl, _⟩ := h
    rfl
  · obtain ⟨l, t, rfl, hT, hl, k⟩ := h
    refine ⟨_, pss_cons (ps_if (pt_not (pt_val (pe_callB call_isiT (by rfl) B.isi (by decide +kernel) (pa_cons (pv 0) (pa_cons (pe_tup (pa_cons (pe_bltn (v := .ty "list") (by rfl) B.list (by decide +kernel) rfl) (pa_cons (pe_bltn (v := .ty "tuple") (by rfl) B.tuple (by decide +kernel) rfl) pa_nil))) pa_nil))))) ps_dead pss_nil)
      (pss_cons (ps_set (i := 1) scAre.nd rfl (Or.inl rfl) (pe_op op_add (pe_glob (v := .int 1000) rfl gC ⟨_, rfl⟩) pe_int))
      (pss_cons (ps_for PassesOwn.never rfl (pi_or (pi_list (pv 0)) (pi_tup (pv 0))) (pg_name (i := 2) scAre.nd rfl (Or.inl rfl))
        (pss_cons (ps_if (pt_not (pt_val (pe_call GW hr rfl gW kW bW .nil pass0 (pa_cons (pv 2) (pa_cons pe_int (pa_cons (pe_op op_sub (pv 1) pe_int) pa_nil)))))) ps_dead pss_nil)
        (pss_one (ps_set (i := 1) scAre.nd rfl (Or.inl rfl) (pv 2)))))
      (pss_one (ps_ret pe_bl)))), ?_⟩
    refine ⟨_, rfl, line2.1, fun p hp => ?_⟩
    have sp : Same H (upd H p (.tup [.ty "list", .ty "tuple"])) := of_upd hp
    have hT2 := hT.mono sp
    have rest : (tSeq (tAsg (tOp (rI0 fun i j => .int (i + j)) (tC (.int 1000)) (tC (.int 1))) (gName 1)) (tSeq (tFor (fun σ H R => iList K (tVar 0) σ H R ∨ iTup K (tVar 0) σ H R) (gName 2) (tSeq (tIfS (tNot (tB (tCall spWithin [] E0 (tCons (tVar 2) (tCons (tC (.int 1)) (tCons (tOp (rI0 fun i j => .int (i - j)) (tVar 1) (tC (.int 1))) tNil)))))) tDead tNext) (tAsg (tVar 2) (gName 1)))) (tRet (tC (.bl true)))))
        { nx := fun _ H' => Q .non H', rt := Q } [some (.ref t), none, none] (upd H p (.tup [.ty "list", .ty "tuple"])) := by
      refine ⟨_, _, rfl, rfl, ?_⟩
      refine or_seq (fun Q2 h => ⟨_, rfl, h⟩) hT2 fun J Gd hG wk => ?_
      refine for_it wk (fun i σ G => Same H G ∧ Same (upd H p (.tup [.ty "list", .ty "tuple"])) G ∧ ∃ (b : Int) (q : Option V), σ = [some (.ref t), some (.int b), q] ∧ ∀ c ∈ l.drop i, (c : Int) < b)
        ⟨sp, Same.refl _, 1001, _, rfl, fun c hc => by have := hl.le c (List.mem_of_mem_drop hc); omega⟩ (fun i σ G _ z => hG G z.2.1) ?_ ?_
      · rintro i x σ G G' hi ⟨s1, s2, b, q, rfl, hb⟩ ⟨rfl, hx⟩
        obtain ⟨c, hc, rfl⟩ := ni_get hx
        have pc := hl.at hc
        have lt := hb c (by rw [drop_at hc]; exact List.mem_cons_self)
        have fl := (hl.drop i).fall
        rw [drop_at hc] at fl
        dsimp only
        refine ⟨_, rfl, _, rfl, _, _, rfl, rfl, (c : Int), 1, b - 1, rfl, ?_⟩
        rw [decide_eq_true (by omega)]
        exact ⟨_, rfl, iteF ⟨_, rfl, s1, s2, (c : Int), _, rfl, fun d hd => by have := fl.2.1 d hd; omega⟩⟩
      · rintro σ G ⟨s1, s2, b, q, rfl, hb⟩
        exact k G s1
    have kl : PySem.W.kitAny K (.type "list") [.type "list", .type "tuple"] = some true := by
      unfold PySem.W.kitAny
      rw [kit_ty (r := true) (by decide +kernel)]
    have kt : PySem.W.kitAny K (.type "tuple") [.type "list", .type "tuple"] = some true := by
      unfold PySem.W.kitAny
      rw [kit_ty (r := false) (by decide +kernel)]
      unfold PySem.W.kitAny
      rw [kit_ty (r := true) (by decide +kernel)]
    rcases hT2 with e | e
    · exact ⟨_, p, _, _, _, _, rfl, upd_same, .cons (.ty _) (.cons (.ty _) .nil), .base (.lst e), kl, _, rfl, iteF rest⟩
    · exact ⟨_, p, _, _, _, _, rfl, upd_same, .cons (.ty _) (.cons (.ty _) .nil), .base (.tup e), kt, _, rfl, iteF rest⟩
end
end CP

end
section
set_option autoImplicit false
set_option Elab.async false
set_option linter.all false
set_option maxRecDepth 100000
set_option maxHeartbeats 4000000
namespace CP
open PySem L2 G Y
theorem nk : ¬ (("cuts" : Str) = "_counts") := by decide +kernel
def cfl (t u : Addr) : List (Str × V) := putF "_counts" (.ref u) (putF "cuts" (.ref t) [])
theorem cfl_cuts (t u : Addr) : (cfl t u).lookup ("cuts" : Str) = some (.ref t) := by
  unfold cfl
  rw [lookup_putF, if_neg nk, lookup_putF, if_pos rfl]
theorem cfl_counts (t u : Addr) : (cfl t u).lookup ("_counts" : Str) = some (.ref u) := by
  unfold cfl
  rw [lookup_putF, if_pos rfl]
/-- a chain stands at a -/
def ChAt (C : Addr) (H : Hp) (l : List Nat) (a : Addr) : Prop := ∃ dx t u, H a = some (.ins C dx (cfl t u)) ∧ H t = some (.tup (ni l)) ∧ H u = some (.tup (ni (N.cn l)))
theorem ChAt.mono {C : Addr} {H H' : Hp} (s : Same H H') {l : List Nat} {a : Addr} (h : ChAt C H l a) : ChAt C H' l a := by
  obtain ⟨dx, t, u, h1, h2, h3⟩ := h
  exact ⟨dx, t, u, s _ _ h1, s _ _ h2, s _ _ h3⟩
structure Ct (K : PySem.W.Frag) (mg : Str → Option Value) (C : Addr) : Prop where
  g : mg "Chain" = some (.ref C)
  cl : Cls K C
  nC : NoAttr K C "cuts"
  nK : NoAttr K C "_counts"
section
variable {P : Program} {w : World} {K : PySem.W.Frag} {mg : Str → Option Value} {base : Heap} {C : Addr}
def spCInit (C : Addr) : Sp := fun vs H Q _ => ∃ (x l dx : Addr) (cs : List Nat) (H0 : Hp), vs = [.ref x, .ref l] ∧ H x = some (.ins C dx []) ∧ H0 x = none ∧ Same H0 H ∧ SAt H0 l (ni cs) ∧ Cuts cs ∧ ∀ H', Same H0 H' → ChAt C H' cs x → Q .non H'
theorem scCI : FnScope ["self", "cuts"] ["self", "cuts"] (defScope sCInit) := ⟨rfl, rfl, rfl, by decide +kernel, rfl, by decide +kernel, by decide +kernel⟩
theorem ok_cinit {f : Addr} {fd : FuncData} (F : Fun K "__init__" "Chain.__init__" sCInit f fd) (B : Bn mg) (T : Ct K mg C) (DA : Df P w K mg base 3 "_are_cuts" ["value"] spAre) (DC : Df P w K mg base 2 "_piece_counts" ["cuts"] (spCounts K)) : FnOk P w K mg base CX0 4 f fd ["self", "cuts"] (spCInit C) := by
  obtain ⟨fA, fdA, GA, gA, kA, bA⟩ := DA.ex
  obtain ⟨fC, fdC, GC, gC, kC, bC⟩ := DC.ex
  refine F.ok scCI (fun vs H Q E h => ?_) (fun cdv A outer s H vs Q E hr h => ?_)
  · obtain ⟨x, l, dx, cs, H0, rfl, _⟩ := h
    rfl
  · obtain ⟨x, l, dx, cs, H0, rfl, hx, hx0, s0, hl, hc, k⟩ := h
    refine ⟨_, pss_cons (ps_if (pt_not (pt_val (pe_call GA hr rfl gA kA bA .nil pass0 (pa_cons (pv 1) pa_nil)))) ps_dead pss_nil)
      (pss_cons (ps_fld (pv 0) (pe_callTy call_tuple_of (by rfl) B.tuple (by decide +kernel) (pa_cons (pv 1) pa_nil)) rfl)
      (pss_one (ps_fld (pv 0) (pe_call GC (hr.mono (by decide)) rfl gC kC bC .nil pass0 (pa_cons (pe_fld (pv 0) rfl) pa_nil)) rfl))), ?_⟩
    refine ⟨_, rfl, cs, l, rfl, hl.mono s0, hc, fun G1 s1 => ⟨_, rfl, iteF ?_⟩⟩
    have s01 := s0.trans s1
    have hx1 := s1 _ _ hx
    have fin : ∀ (t : Addr) (G2 : Hp), Same G1 G2 → G2 t = some (.tup (ni cs)) → sFld K (tVar 0) (tC (.ref t)) "cuts" { nx := fun σ H => sFld K (tVar 0) (tCall (spCounts K) [] E0 (tCons (tFld K (tVar 0) "cuts") tNil)) "_counts" { nx := fun _ H' => Q .non H', rt := Q } σ H, rt := Q } [some (.ref x), some (.ref l)] G2 := fun t G2 s2 ht => by
      have hx2 := s2 _ _ hx1
      have s02 := s01.trans s2
      have tx : t ≠ x := fun z => by
        rw [z, hx2] at ht
        cases ht
      refine ⟨_, rfl, x, C, dx, _, rfl, hx2, T.cl, T.nC, by decide, ?_⟩
      have s3 : Same H0 (upd G2 x (.ins C dx (putF "cuts" (.ref t) []))) := add_upd hx0 s02
      have ht3 : (upd G2 x (.ins C dx (putF "cuts" (.ref t) []))) t = some (.tup (ni cs)) := by rw [upd_ne tx]; exact ht
      refine ⟨_, rfl, x, C, dx, _, _, rfl, upd_same, T.cl, T.nC, by rw [lookup_putF, if_pos rfl], cs, t, rfl, SqT.of ht3, hc, fun u G3 s4 hu => ?_⟩
      refine ⟨_, rfl, x, C, dx, _, rfl, s4 _ _ upd_same, T.cl, T.nK, len_put (by decide), ?_⟩
      have ux : u ≠ x := fun z => by
        rw [z, s4 _ _ upd_same] at hu
        cases hu
      refine k _ (add_upd hx0 (s3.trans s4)) ⟨dx, t, u, upd_same, ?_, ?_⟩
      · rw [upd_ne tx]
        exact s4 _ _ ht3
      · rw [upd_ne ux]
        exact hu
    rcases (hl.mono s0).mono s1 with e | e
    · exact ⟨_, rfl, l, _, rfl, .inl ⟨SqL.of e, fun t nt => fin t _ (of_upd nt) upd_same⟩⟩
    · exact ⟨_, rfl, l, _, rfl, .inr ⟨SqT.of e, fin l _ (Same.refl _) e⟩⟩
/-- Chain(cuts) -/
theorem made_ch {H : Hp} {Z : VK} {E : XK} {l x dx : Addr} {cs : List Nat} (hx : H x = none) (hdx : H dx = none) (ne : dx ≠ x) (hl : SAt H l (ni cs)) (hc : Cuts cs) (k : ∀ H', Same H H' → ChAt C H' cs x → Z .non H') :
    spCInit C (.ref x :: ([.ref l] ++ [])) (upd (upd H dx (.own x)) x (.ins C dx [])) Z E :=
  ⟨x, l, dx, cs, H, rfl, upd_same, hx, (of_upd hdx).trans (of_upd (by rw [upd_ne ne.symm]; exact hx)), hl, hc, k⟩
/-- pieces -/
def spCPieces (C : Addr) : Sp := fun vs H Q _ => ∃ (a : Addr) (b : Nat) (cs : List Nat), vs = [.ref a, .int (b : Int)] ∧ ChAt C H cs a ∧ Cuts cs ∧ ∀ H', Same H H' → Q (.int ((N.PC cs b : Nat) : Int)) H'
theorem scCP : FnScope ["self", "body"] ["self", "body"] (defScope sCPieces) := ⟨rfl, rfl, rfl, by decide +kernel, rfl, by decide +kernel, by decide +kernel⟩
theorem ok_cpieces {f : Addr} {fd : FuncData} (F : Fun K "pieces" "Chain.pieces" sCPieces f fd) (T : Ct K mg C) (DP : Df P w K mg base 1 "_pieces" ["body", "cuts", "counts"] (spPieces K)) : FnOk P w K mg base CX0 2 f fd ["self", "body"] (spCPieces C) := by
  obtain ⟨fP, fdP, GP, gP, kP, bP⟩ := DP.ex
  refine F.ok scCP (fun vs H Q E h => ?_) (fun cdv A outer s H vs Q E hr h => ?_)
  · obtain ⟨a, b, cs, rfl, _⟩ := h
    rfl
  · obtain ⟨a, b, cs, rfl, ⟨dx, t, u, h1, h2, h3⟩, hc, k⟩ := h
    exact ⟨_, pss_one (ps_ret (pe_call GP hr rfl gP kP bP .nil pass0 (pa_cons (pv 1) (pa_cons (pe_fld (pv 0) rfl) (pa_cons (pe_fld (pv 0) rfl) pa_nil))))), _, rfl, _, rfl, a, C, dx, _, _, rfl, h1, T.cl, T.nC, cfl_cuts t u, _, rfl, a, C, dx, _, _, rfl, h1, T.cl, T.nK, cfl_counts t u, b, cs, t, u, rfl, SqT.of h2, SqT.of h3, hc, k⟩
/-- digits -/
def spCDigits (C : Addr) : Sp := fun vs H Q _ => ∃ (a : Addr) (p : Nat) (cs : List Nat), vs = [.ref a, .int (p : Int)] ∧ ChAt C H cs a ∧ Cuts cs ∧ ∀ t H', Same H H' → H' t = some (.tup (ni (N.dig cs p))) → Q (.ref t) H'
theorem scCD : FnScope ["self", "place", "told", "rest", "cut"] ["self", "place"] (defScope sCDigits) := ⟨rfl, rfl, rfl, by decide +kernel, rfl, by decide +kernel, by decide +kernel⟩
theorem ok_cdigits {f : Addr} {fd : FuncData} (F : Fun K "digits" "Chain.digits" sCDigits f fd) (T : Ct K mg C) : FnOk P w K mg base CX0 1 f fd ["self", "place"] (spCDigits C) := by
  refine F.ok scCD (fun vs H Q E h => ?_) (fun cdv A outer s H vs Q E hr h => ?_)
  · obtain ⟨a, p, cs, rfl, _⟩ := h
    rfl
  · obtain ⟨a, p, cs, rfl, ⟨dx, t, u, h1, h2, h3⟩, hc, k⟩ := h
    refine ⟨_, pss_cons (ps_set (i := 2) scCD.nd rfl (Or.inl rfl) (pe_lst pa_nil))
      (pss_cons (ps_set (i := 3) scCD.nd rfl (Or.inl rfl) (pv 1))
      (pss_cons (ps_for PassesOwn.never rfl (pi_tup (pe_fld (pv 0) rfl)) (pg_name (i := 4) scCD.nd rfl (Or.inl rfl))
        (pss_cons (ps_expr (pe_bm PySem.F.plainAttrs_list PySem.F.slot_list_append PySem.F.type_list_append mt_append (pv 2) (pa_cons (pe_op op_fdiv (pv 3) (pv 4)) pa_nil)))
        (pss_one (ps_set (i := 3) scCD.nd rfl (Or.inl rfl) (pe_op op_mod (pv 3) (pv 4))))))
      (pss_one (ps_ret (pe_tup (StX.pa_star (pv 2) (pa_cons (pv 3) pa_nil))))))), ?_⟩
    have ln := hc.len
    refine ⟨line2.2.2.2, fun D hD => ?_⟩
    have s0 : Same H (upd H D (.lst [])) := of_upd hD
    refine ⟨_, rfl, _, rfl, a, C, dx, _, _, rfl, s0 _ _ h1, T.cl, T.nC, cfl_cuts t u, ?_⟩
    refine ⟨t, rfl, ⟨_, SqT.of (s0 _ _ h2)⟩, for_it walk_tup (fun i σ G => Same H G ∧ ∃ (ds : List Nat) (r : Nat) (q : Option V), σ = [some (.ref a), some (.int (p : Int)), some (.ref D), some (.int (r : Int)), q] ∧ G D = some (.lst (ni ds)) ∧ ds.length = i ∧ ds ++ N.dig (cs.drop i) r = N.dig cs p)
      ⟨s0, [], p, _, rfl, upd_same, rfl, rfl⟩ (fun i σ G _ z => SqT.of (z.1 _ _ h2)) ?_ ?_⟩
    · rintro i x σ G G' hi ⟨s1, ds, r, q, rfl, hG, hd, ed⟩ ⟨rfl, hx⟩
      obtain ⟨c, hcc, rfl⟩ := ni_get hx
      have pc := hc.at hcc
      rw [ni_len] at hi
      dsimp only
      refine ⟨_, rfl, .inl ⟨rfl, _, SqL.of hG⟩, _, rfl, _, rfl, _, _, rfl, rfl, ⟨by omega, by omega⟩, D, _, _, rfl, rfl, hG, by rw [ni_len]; exact small1000 (by omega), ?_⟩
      refine ⟨_, rfl, _, rfl, _, _, rfl, rfl, by show (0 : Int) < (c : Int); omega, ?_⟩
      refine ⟨add_upd hD s1, ds ++ [r / c], r % c, _, rfl, ?_, by simp; exact hd, ?_⟩
      · rw [upd_same, ni_app]
        rfl
      · rw [drop_at hcc] at ed
        rw [List.append_assoc]
        exact ed
    · rintro σ G ⟨s1, ds, r, q, rfl, hG, hd, ed⟩
      rw [ni_len, List.drop_length] at ed
      refine ⟨_, rfl, D, _, rfl, .inr (SqL.of hG), _, rfl, ?_, fun v hv => ?_⟩
      · rw [ni_len] at hd
        rw [List.length_append, ni_len]
        exact Nat.le_trans (show ds.length + 1 ≤ 1001 by omega) (by decide)
      · refine k v _ (s1.trans (of_upd hv)) ?_
        rw [upd_same, ← ed, ni_app]
        rfl
/-- _boundary -/
def spCBound (C : Addr) : Sp := fun vs H Q _ => ∃ (a : Addr) (n : Nat) (cs : List Nat), vs = [.ref a, .int (n : Int)] ∧ ChAt C H cs a ∧ Cuts cs ∧ ∀ H', Same H H' → Q (.int ((N.B cs n : Nat) : Int)) H'
abbrev NBo : List Str := ["self", "number", "place", "rest", "cut", "count"]
theorem scCB : FnScope NBo ["self", "number"] (defScope sCBoundary) := ⟨rfl, rfl, rfl, by decide +kernel, rfl, by decide +kernel, by decide +kernel⟩
theorem ok_cbound {f : Addr} {fd : FuncData} (F : Fun K "_boundary" "Chain._boundary" sCBoundary f fd) (B : Bn mg) (T : Ct K mg C) : FnOk P w K mg base CX0 1 f fd ["self", "number"] (spCBound C) := by
  refine F.ok scCB (fun vs H Q E h => ?_) (fun cdv A outer s H vs Q E hr h => ?_)
  · obtain ⟨a, n, cs, rfl, _⟩ := h
    rfl
  · obtain ⟨a, n, cs, rfl, ⟨dx, t, u, h1, h2, h3⟩, hl, k⟩ := h
    refine ⟨_, pss_cons (ps_set (i := 2) scCB.nd rfl (Or.inl rfl) pe_int)
      (pss_cons (ps_set (i := 3) scCB.nd rfl (Or.inl rfl) (pv 1))
      (pss_cons (ps_for PassesOwn.never rfl (RZ.pi_zipA (by rfl) B.zip (pa_cons (pe_fld (pv 0) rfl) (pa_cons (pe_fld (pv 0) rfl) pa_nil))) (pg_tup (by rfl) (pgs_cons (pg_name (i := 4) scCB.nd rfl (.inl rfl)) (pgs_cons (pg_name (i := 5) scCB.nd rfl (.inl rfl)) pgs_nil)))
        (pss_cons (ps_set (i := 2) scCB.nd rfl (Or.inl rfl) (pe_op op_add (pv 2) (pe_op op_mul (pe_op op_fdiv (pv 3) (pv 5)) (pv 4))))
        (pss_one (ps_set (i := 3) scCB.nd rfl (Or.inl rfl) (pe_op op_mod (pv 3) (pv 5))))))
      (pss_one (ps_ret (pv 2))))), ?_⟩
    refine ⟨_, rfl, _, rfl, a, C, dx, _, _, rfl, h1, T.cl, T.nC, cfl_cuts t u, _, rfl, a, C, dx, _, _, rfl, h1, T.cl, T.nK, cfl_counts t u, t, u, _, _, rfl, .inr ⟨SqT.of h2, SqT.of h3, ?_⟩⟩
    refine RZ.for_zipT (by rw [ni_len, ni_len, N.cn_len]) (fun i σ G => Same H G ∧ ∃ (p r : Nat) (q1 q2 : Option V), σ = [some (.ref a), some (.int (n : Int)), some (.int (p : Int)), some (.int (r : Int)), q1, q2] ∧ p + N.B (cs.drop i) r = N.B cs n)
      ⟨Same.refl H, 0, n, _, _, rfl, by rw [List.drop_zero, Nat.zero_add]⟩ (fun i σ G z => ⟨SqT.of (z.1 _ _ h2), SqT.of (z.1 _ _ h3)⟩) ?_ ?_
    · rintro i x y Tt σ G hx hy ⟨s1, p, r, q1, q2, rfl, e1⟩ hT0
      obtain ⟨c, hc, rfl⟩ := ni_get hx
      obtain ⟨m, hn, rfl⟩ := ni_get hy
      obtain ⟨c2, hc2, en⟩ := N.cn_at hn
      rw [hc] at hc2
      cases hc2
      have pc := hl.at hc
      have nle := N.L_le (hl.drop (i + 1)).fall pc.1
      have npos := N.L_pos (cs.drop (i + 1)) (hl.drop (i + 1)).fall c pc.1
      rw [← en] at nle npos
      refine ⟨Tt, _, rfl, SqT.of upd_same, rfl, _, _, rfl, _, _, rfl, rfl, ?_⟩
      refine ⟨_, rfl, _, rfl, _, rfl, _, _, rfl, rfl, ⟨by omega, by omega⟩, _, rfl, _, _, rfl, rfl, .inr ⟨by omega, by omega⟩, _, _, rfl, rfl, ?_⟩
      refine ⟨_, rfl, _, rfl, _, _, rfl, rfl, by show (0 : Int) < (m : Int); omega, ?_⟩
      refine ⟨s1.trans (of_upd hT0), p + r / m * c, r % m, _, _, rfl, ?_⟩
      rw [drop_at hc, N.B_cons, ← en] at e1
      omega
    · rintro σ G ⟨s1, p, r, q1, q2, rfl, e1⟩
      rw [ni_len, List.drop_length] at e1
      have e2 : p = N.B cs n := e1
      rw [← e2] at k
      exact ⟨_, rfl, k G s1⟩
end
end CP

end
section
set_option autoImplicit false
set_option Elab.async false
set_option linter.all false
set_option maxRecDepth 100000
set_option maxHeartbeats 4000000
namespace CP
open PySem L2 G Y
theorem nk2 : (¬ (("pieces" : Str) = "cuts") ∧ ¬ (("pieces" : Str) = "_counts")) ∧ (¬ (("_boundary" : Str) = "cuts") ∧ ¬ (("_boundary" : Str) = "_counts")) ∧ (¬ (("digits" : Str) = "cuts") ∧ ¬ (("digits" : Str) = "_counts")) ∧ (¬ (("stretch" : Str) = "cuts") ∧ ¬ (("stretch" : Str) = "_counts")) := by decide +kernel
theorem no_fld {m : Str} (t u : Addr) (h : ¬ (m = "cuts") ∧ ¬ (m = "_counts")) : (cfl t u).lookup m = none := by
  unfold cfl
  rw [lookup_putF, if_neg h.2, lookup_putF, if_neg h.1]
  rfl
/-- a method, and what it promises -/
structure Me (P : Program) (w : World) (K : PySem.W.Frag) (mg : Str → Option Value) (base : Heap) (C : Addr) (k : Nat) (m : Str) (ps : List Str) (sp : Sp) : Prop where
  ex : ∃ (f : Addr) (fd : FuncData), FnOk P w K mg base CX0 k f fd ps sp ∧ Meth K C m f ∧ Binds K fd ps []
section
variable {P : Program} {w : World} {K : PySem.W.Frag} {mg : Str → Option Value} {base : Heap} {C : Addr}
theorem ChAt.ins {H : Hp} {l : List Nat} {a : Addr} (h : ChAt C H l a) {m : Str} (hm : ¬ (m = "cuts") ∧ ¬ (m = "_counts")) : ∃ dx fs, H a = some (.ins C dx fs) ∧ fs.lookup m = none := by
  obtain ⟨dx, t, u, h1, _, _⟩ := h
  exact ⟨dx, _, h1, no_fld t u hm⟩
def stretchZ (cs : List Nat) (b n : Nat) : Int := (if n = N.PC cs b then (b : Int) else ((N.B cs n : Nat) : Int)) - ((N.B cs (n - 1) : Nat) : Int)
def spCStretch (C : Addr) : Sp := fun vs H Q _ => ∃ (a : Addr) (b n : Nat) (cs : List Nat), vs = [.ref a, .int (b : Int), .int (n : Int)] ∧ ChAt C H cs a ∧ Cuts cs ∧ 1 ≤ n ∧ n ≤ N.PC cs b ∧ ∀ H', Same H H' → Q (.int (stretchZ cs b n)) H'
theorem scCS : FnScope ["self", "body", "number", "pieces", "end"] ["self", "body", "number"] (defScope sCStretch) := ⟨rfl, rfl, rfl, by decide +kernel, rfl, by decide +kernel, by decide +kernel⟩
/-- place in chain -/
def spCHas (C : Addr) : Sp := fun vs H Q _ => ∃ (a : Addr) (p : Nat) (cs : List Nat), vs = [.ref a, .int (p : Int)] ∧ ChAt C H cs a ∧ Cuts cs ∧ ∀ H', Same H H' → Q (.bl (decide (0 < p ∧ N.rem cs p = 0))) H'
theorem scCHs : FnScope ["self", "place"] ["self", "place"] (defScope sCHas) := ⟨rfl, rfl, rfl, by decide +kernel, rfl, by decide +kernel, by decide +kernel⟩
theorem ok_chas {f : Addr} {fd : FuncData} (F : Fun K "__contains__" "Chain.__contains__" sCHas f fd) (T : Ct K mg C) (DI : Df P w K mg base 1 "is_integer" ["value"] spInteger) (MD : Me P w K mg base C 1 "digits" ["self", "place"] (spCDigits C)) : FnOk P w K mg base CX0 2 f fd ["self", "place"] (spCHas C) := by
  obtain ⟨fI, fdI, GI, gI, kI, bI⟩ := DI.ex
  obtain ⟨fD, fdD, GD, mD, bD⟩ := MD.ex
  refine F.ok scCHs (fun vs H Q E h => ?_) (fun cdv A outer s H vs Q E hr h => ?_)
  · obtain ⟨a, p, cs, rfl, _⟩ := h
    rfl
  · obtain ⟨a, p, cs, rfl, hc, hl, k⟩ := h
    refine ⟨_, pss_one (ps_ret (pe_and (pe_call GI hr rfl gI kI bI .nil pass0 (pa_cons (pv 1) pa_nil)) (pe_and (pe_cmpR op_gt (pv 1) pe_int (nomark _)) (pe_one (pe_cmpR op_eq (pe_ix ix_tup (pe_meth (pv 0) T.cl mD GD hr bD .nil pass0 (pa_cons (pv 1) pa_nil)) (pe_un un_neg pe_int) (fun _ _ => rfl)) pe_int (nomark _)))))), ?_⟩
    refine ⟨_, rfl, (p : Int), rfl, _, rfl, iteT ⟨_, rfl, _, _, rfl, rfl, _, rfl, ite2 (fun c => ?_) (fun c => ?_)⟩⟩
    · have c2 : (0 : Int) < (p : Int) := of_decide_eq_true c
      obtain ⟨dx, fs, i1, i2⟩ := hc.ins nk2.2.2.1
      refine ⟨_, rfl, a, dx, fs, rfl, i1, i2, _, rfl, a, p, cs, rfl, hc, hl, fun t G s1 ht => ?_⟩
      obtain ⟨ds, ed⟩ := N.dig_rem cs p
      rw [ed] at ht
      refine ⟨1, rfl, t, _, _, .int ((N.rem cs p : Nat) : Int), rfl, rfl, SqT.of ht, ?_, rfl, ?_⟩
      · rw [ni_app]
        exact atI_last _ _
      · have e : decide (V.int ((N.rem cs p : Nat) : Int) = V.int 0) = decide (0 < p ∧ N.rem cs p = 0) := by
          by_cases z : N.rem cs p = 0
          · rw [decide_eq_true (by rw [z]; rfl), decide_eq_true ⟨by omega, z⟩]
          · rw [decide_eq_false (fun q => by injection q with q; omega), decide_eq_false fun q => z q.2]
        rw [e]
        exact k G s1
    · have c2 : ¬ (0 : Int) < (p : Int) := fun z => c (decide_eq_true z)
      have := k H (Same.refl H)
      rw [decide_eq_false (by omega)] at this
      exact this
/-- chain[number] -/
def spCGet (C : Addr) : Sp := fun vs H Q _ => ∃ (a : Addr) (n : Nat) (cs : List Nat), vs = [.ref a, .int (n : Int)] ∧ ChAt C H cs a ∧ Cuts cs ∧ 1 ≤ n ∧ cs ≠ [] ∧ ∀ H', Same H H' → Q (.int ((N.B cs n : Nat) : Int)) H'
theorem scCG : FnScope ["self", "at"] ["self", "at"] (defScope sCGet) := ⟨rfl, rfl, rfl, by decide +kernel, rfl, by decide +kernel, by decide +kernel⟩
theorem ok_cget {f : Addr} {fd : FuncData} (F : Fun K "__getitem__" "Chain.__getitem__" sCGet f fd) (B : Bn mg) (T : Ct K mg C) (DI : Df P w K mg base 1 "is_integer" ["value"] spInteger) (MB : Me P w K mg base C 1 "_boundary" ["self", "number"] (spCBound C)) : FnOk P w K mg base CX0 2 f fd ["self", "at"] (spCGet C) := by
  obtain ⟨fI, fdI, GI, gI, kI, bI⟩ := DI.ex
  obtain ⟨fB, fdB, GB, mB, bB⟩ := MB.ex
  refine F.ok scCG (fun vs H Q E h => ?_) (fun cdv A outer s H vs Q E hr h => ?_)
  · obtain ⟨a, n, cs, rfl, _⟩ := h
    rfl
  · obtain ⟨a, n, cs, rfl, hc, hl, n1, ne, k⟩ := h
    refine ⟨_, pss_cons (ps_if (PW.pt (pw_or (pt_not (pt_val (pe_call GI hr rfl gI kI bI .nil pass0 (pa_cons (pv 1) pa_nil)))) (pw_or (pt_cmpR op_lt (pv 1) pe_int (nomark _)) (pw_or1 (pt_cmpR op_eq (pe_callB call_len_seq (by rfl) B.len PySem.boot_len (pa_cons (pe_fld (pv 0) rfl) pa_nil)) pe_int (nomark _)))))) ps_dead pss_nil)
      (pss_one (ps_ret (pe_meth (pv 0) T.cl mB GB hr bB .nil pass0 (pa_cons (pv 1) pa_nil)))), ?_⟩
    obtain ⟨dx, t, u, h1, h2, h3⟩ := id hc
    refine ⟨_, rfl, (n : Int), rfl, _, rfl, iteF ⟨_, rfl, _, _, rfl, rfl, _, rfl, ?_⟩⟩
    rw [decide_eq_false (by omega)]
    refine iteF ⟨_, rfl, a, C, dx, _, _, rfl, h1, T.cl, T.nC, cfl_cuts t u, t, _, rfl, .inr (SqT.of h2), rfl, _, rfl, ?_⟩
    rw [decide_eq_false (fun z => by
      injection z with z
      rw [ni_len] at z
      exact ne (List.length_eq_zero_iff.mp (by omega)))]
    obtain ⟨dx, fs, i1, i2⟩ := hc.ins nk2.2.1
    exact iteF ⟨_, rfl, a, dx, fs, rfl, i1, i2, _, rfl, a, n, cs, rfl, hc, hl, k⟩
end
end CP

end
section
set_option autoImplicit false
set_option linter.all false
namespace N
/-! ## sums of chains, and bodies parted one cut after another -/
def cu (c b : Nat) : List Nat := if h : 0 < c ∧ c < b then c :: cu c (b - c) else [b]
termination_by b
decreasing_by omega
theorem cu_lt {c b : Nat} (h : 0 < c) (h2 : c < b) : cu c b = c :: cu c (b - c) := by
  rw [cu, dif_pos ⟨h, h2⟩]
theorem cu_le {c b : Nat} (h2 : b ≤ c) : cu c b = [b] := by
  rw [cu, dif_neg (by omega)]
def pt : List Nat → List Nat → List Nat
  | [], ss => ss
  | c :: r, ss => pt r (ss.flatMap (cu c))
theorem pt_app : ∀ (l a b : List Nat), pt l (a ++ b) = pt l a ++ pt l b
  | [], a, b => rfl
  | c :: r, a, b => by
    unfold pt
    rw [List.flatMap_append, pt_app r]
theorem pt_cat : ∀ (l m ss : List Nat), pt (l ++ m) ss = pt m (pt l ss)
  | [], m, ss => rfl
  | c :: r, m, ss => pt_cat r m _
theorem pt_lt {c b : Nat} (r : List Nat) (h : 0 < c) (h2 : c < b) : pt (c :: r) [b] = pt r [c] ++ pt (c :: r) [b - c] := by
  show pt r (([b] : List Nat).flatMap (cu c)) = pt r [c] ++ pt r (([b - c] : List Nat).flatMap (cu c))
  rw [← pt_app, List.flatMap_singleton, List.flatMap_singleton, cu_lt h h2]
  rfl
theorem pt_le {c b : Nat} (r : List Nat) (h2 : b ≤ c) : pt (c :: r) [b] = pt r [b] := by
  show pt r (([b] : List Nat).flatMap (cu c)) = pt r [b]
  rw [List.flatMap_singleton, cu_le h2]
theorem cu_mem {c : Nat} (h : 0 < c) : ∀ (b : Nat), ∀ s ∈ cu c b, s ≤ c ∧ s ≤ b ∧ (0 < b → 0 < s) := by
  intro b
  induction b using Nat.strongRecOn with
  | ind b ih =>
    intro s hs
    by_cases h2 : c < b
    · rw [cu_lt h h2] at hs
      rcases List.mem_cons.mp hs with z | z
      · omega
      · have := ih (b - c) (by omega) s z
        omega
    · rw [cu_le (by omega)] at hs
      rw [List.mem_singleton.mp hs]
      omega
theorem cu_sum {c : Nat} (h : 0 < c) : ∀ (b : Nat), (cu c b).sum = b := by
  intro b
  induction b using Nat.strongRecOn with
  | ind b ih =>
    by_cases h2 : c < b
    · rw [cu_lt h h2, List.sum_cons, ih (b - c) (by omega)]
      omega
    · rw [cu_le (by omega)]
      simp
theorem cu_len {c : Nat} (h : 0 < c) (b : Nat) : 0 < (cu c b).length := by
  by_cases h2 : c < b
  · rw [cu_lt h h2]
    simp
  · rw [cu_le (by omega)]
    simp
theorem flat_len {c : Nat} (h : 0 < c) : ∀ ss : List Nat, ss.length ≤ (ss.flatMap (cu c)).length
  | [] => Nat.zero_le _
  | s :: ss => by
    have := flat_len h ss
    have := cu_len h s
    rw [List.flatMap_cons, List.length_append, List.length_cons]
    omega
theorem pt_len : ∀ {l : List Nat}, (∀ c ∈ l, 0 < c) → ∀ ss, ss.length ≤ (pt l ss).length
  | [], _, ss => Nat.le_refl _
  | c :: r, f, ss => Nat.le_trans (flat_len (f c List.mem_cons_self) ss) (pt_len (fun d hd => f d (List.mem_cons_of_mem _ hd)) _)
theorem flat_sum {c : Nat} (h : 0 < c) : ∀ ss : List Nat, (ss.flatMap (cu c)).sum = ss.sum
  | [] => rfl
  | s :: ss => by
    rw [List.flatMap_cons, List.sum_append, cu_sum h, flat_sum h ss, List.sum_cons]
theorem pt_sum : ∀ {l : List Nat}, (∀ c ∈ l, 0 < c) → ∀ ss, (pt l ss).sum = ss.sum
  | [], _, ss => rfl
  | c :: r, f, ss => (pt_sum (fun d hd => f d (List.mem_cons_of_mem _ hd)) _).trans (flat_sum (f c List.mem_cons_self) ss)
theorem pt_bound {m : Nat} : ∀ {l : List Nat}, (∀ c ∈ l, 0 < c) → ∀ ss, (∀ s ∈ ss, s ≤ m) → ∀ s ∈ pt l ss, s ≤ m
  | [], _, ss, h => h
  | c :: r, f, ss, h => pt_bound (l := r) (fun d hd => f d (List.mem_cons_of_mem _ hd)) _ fun s hs => by
    obtain ⟨b, hb, hs⟩ := List.mem_flatMap.mp hs
    have := cu_mem (f c List.mem_cons_self) b s hs
    have := h b hb
    omega
theorem pt_pos : ∀ {l : List Nat}, (∀ c ∈ l, 0 < c) → ∀ ss, (∀ s ∈ ss, 0 < s) → ∀ s ∈ pt l ss, 0 < s
  | [], _, ss, h => h
  | c :: r, f, ss, h => pt_pos (l := r) (fun d hd => f d (List.mem_cons_of_mem _ hd)) _ fun s hs => by
    obtain ⟨b, hb, hs⟩ := List.mem_flatMap.mp hs
    exact (cu_mem (f c List.mem_cons_self) b s hs).2.2 (h b hb)
theorem pt_cuts : ∀ {l : List Nat}, (∀ c ∈ l, 0 < c) → ∀ ss, ∀ c ∈ l, ∀ s ∈ pt l ss, s ≤ c
  | [], _, ss, c, h => by cases h
  | c :: r, f, ss, d, hd => by
    rcases List.mem_cons.mp hd with z | z
    · subst z
      exact pt_bound (l := r) (fun d hd => f d (List.mem_cons_of_mem _ hd)) _ fun s hs => by
        obtain ⟨b, hb, hs⟩ := List.mem_flatMap.mp hs
        exact (cu_mem (f d List.mem_cons_self) b s hs).1
    · exact pt_cuts (l := r) (fun d hd => f d (List.mem_cons_of_mem _ hd)) _ d z
theorem flat_id {c : Nat} : ∀ {ss : List Nat}, (∀ s ∈ ss, s ≤ c) → ss.flatMap (cu c) = ss
  | [], _ => rfl
  | s :: ss, h => by
    rw [List.flatMap_cons, cu_le (h s List.mem_cons_self), flat_id fun t ht => h t (List.mem_cons_of_mem _ ht)]
    rfl
/-- cuts that are not less than all stretches do nothing -/
theorem pt_idle {m : Nat} : ∀ {l : List Nat}, (∀ c ∈ l, 0 < c) → ∀ ss, (∀ s ∈ ss, s ≤ m) → pt l ss = pt (l.filter fun d => decide (d < m)) ss
  | [], _, ss, h => rfl
  | c :: r, f, ss, h => by
    have f2 : ∀ d ∈ r, 0 < d := fun d hd => f d (List.mem_cons_of_mem _ hd)
    by_cases hc : c < m
    · rw [List.filter_cons_of_pos (by simpa using hc)]
      exact pt_idle f2 _ fun s hs => by
        obtain ⟨b, hb, hs⟩ := List.mem_flatMap.mp hs
        have := cu_mem (f c List.mem_cons_self) b s hs
        have := h b hb
        omega
    · rw [List.filter_cons_of_neg (by simpa using hc)]
      show pt r (ss.flatMap (cu c)) = _
      rw [flat_id fun s hs => by have := h s hs; omega]
      exact pt_idle f2 ss h
/-! ### the pieces of a chain, by its boundaries -/
theorem L_lt {c b : Nat} (r : List Nat) (h : 0 < c) (h2 : c < b) : L (c :: r) b = L r c + L (c :: r) (b - c) := by
  obtain ⟨d, rfl⟩ : ∃ d, b = d + c := ⟨b - c, by omega⟩
  rw [Nat.add_sub_cancel, L_cons, L_cons, Nat.add_div_right _ h, Nat.add_mod_right, Nat.succ_mul]
  omega
theorem B_ge {c k : Nat} (r : List Nat) (h : 0 < L r c) (h2 : L r c ≤ k) : B (c :: r) k = c + B (c :: r) (k - L r c) := by
  obtain ⟨d, rfl⟩ : ∃ d, k = d + L r c := ⟨k - L r c, by omega⟩
  rw [Nat.add_sub_cancel, B_cons, B_cons, Nat.add_div_right _ h, Nat.add_mod_right, Nat.succ_mul]
  omega
theorem B_lt {c k : Nat} (r : List Nat) (h2 : k < L r c) : B (c :: r) k = B r k := by
  rw [B_cons, Nat.div_eq_of_lt h2, Nat.mod_eq_of_lt h2]
  omega
theorem L_le1 {c b : Nat} {r : List Nat} (h0 : 0 < b) (h : b ≤ c) : L (c :: r) b = L r b := by
  rw [L_cons]
  by_cases e : b = c
  · subst e
    rw [Nat.div_self h0, Nat.mod_self, if_pos rfl]
    omega
  · rw [Nat.div_eq_of_lt (by omega), Nat.mod_eq_of_lt (by omega), if_neg (by omega)]
    omega
theorem pt_L : ∀ (l : List Nat), Fall l → ∀ b, 0 < b → (pt l [b]).length = L l b ∧ ∀ k, k < L l b → ((pt l [b]).take k).sum = B l k
  | [], _, b, hb => ⟨rfl, fun k hk => by
    have : k = 0 := by
      have : k < 1 := hk
      omega
    subst this
    rfl⟩
  | c :: r, f, b, hb => by
    induction b using Nat.strongRecOn with
    | ind b ih =>
      by_cases h : c < b
      · obtain ⟨a1, a2⟩ := pt_L r f.2.2 c f.1
        have c0 := f.1
        obtain ⟨b1, b2⟩ := ih (b - c) (by omega) (by omega)
        have lp := L_pos r f.2.2 c f.1
        rw [pt_lt r f.1 h, L_lt r f.1 h]
        refine ⟨by rw [List.length_append, a1, b1], fun k hk => ?_⟩
        rw [List.take_append, a1, List.sum_append]
        by_cases hk2 : k < L r c
        · rw [a2 k hk2, B_lt r hk2, show k - L r c = 0 by omega]
          simp
        · rw [List.take_of_length_le (by omega), pt_sum f.2.2.pos, b2 (k - L r c) (by omega), B_ge (k := k) r lp (by omega)]
          simp
      · obtain ⟨a1, a2⟩ := pt_L r f.2.2 b hb
        rw [pt_le r (by omega), L_le1 hb (by omega)]
        refine ⟨a1, fun k hk => ?_⟩
        rw [a2 k hk, B_lt r]
        by_cases e : b = c
        · rw [← e]
          exact hk
        · by_cases hr : r = []
          · rw [hr] at hk ⊢
            exact hk
          · have q := (below r f.2.2 b hb k fun e => absurd e hr).mpr hk
            exact L_mono_lt f.2.2 hr (by omega)
theorem pt_at {l : List Nat} (f : Fall l) {b i : Nat} (hb : 0 < b) (h : i < L l b) : ∃ x, (pt l [b])[i]? = some x ∧ x + B l i = if i + 1 < L l b then B l (i + 1) else b := by
  obtain ⟨a1, a2⟩ := pt_L l f b hb
  have hi : i < (pt l [b]).length := by omega
  refine ⟨(pt l [b])[i], List.getElem?_eq_getElem hi, ?_⟩
  have s1 : ((pt l [b]).take (i + 1)).sum = ((pt l [b]).take i).sum + (pt l [b])[i] := by
    rw [List.take_succ, List.getElem?_eq_getElem hi, List.sum_append]
    simp
  rw [a2 i h] at s1
  by_cases e : i + 1 < L l b
  · rw [if_pos e]
    rw [a2 (i + 1) e] at s1
    omega
  · rw [if_neg e]
    rw [List.take_of_length_le (by omega), pt_sum f.pos] at s1
    simp at s1
    omega
/-! ### sums -/
def lo (l : List Nat) : Nat := l.foldl min 1001
theorem lt_foldl {d : Nat} : ∀ (l : List Nat) (m : Nat), d < l.foldl min m ↔ d < m ∧ ∀ x ∈ l, d < x
  | [], m => by simp
  | x :: l, m => by
    rw [List.foldl_cons, lt_foldl l]
    constructor
    · rintro ⟨h1, h2⟩
      exact ⟨by omega, fun y hy => by
        rcases List.mem_cons.mp hy with z | z
        · omega
        · exact h2 y z⟩
    · rintro ⟨h1, h2⟩
      have := h2 x List.mem_cons_self
      exact ⟨by omega, fun y hy => h2 y (List.mem_cons_of_mem _ hy)⟩
theorem lt_lo {d : Nat} {l : List Nat} : d < lo l ↔ d < 1001 ∧ ∀ x ∈ l, d < x := lt_foldl l 1001
def add (a b : List Nat) : List Nat := a ++ b.filter fun d => decide (d < lo a)
theorem add_assoc' (a b c : List Nat) : add (add a b) c = add a (add b c) := by
  unfold add
  rw [List.filter_append, List.filter_filter, List.append_assoc]
  congr 2
  refine List.filter_congr fun d hd => ?_
  rw [Bool.eq_iff_iff]
  simp only [Bool.and_eq_true, decide_eq_true_eq]
  rw [lt_lo, lt_lo, lt_lo]
  constructor
  · rintro ⟨h1, h2⟩
    have ha : ∀ x ∈ a, d < x := fun x hx => h2 x (List.mem_append_left _ hx)
    refine ⟨⟨h1, ha⟩, h1, fun x hx => ?_⟩
    by_cases e : x < lo a
    · exact h2 x (List.mem_append_right _ (List.mem_filter.mpr ⟨hx, decide_eq_true e⟩))
    · have := lt_lo.mpr ⟨h1, ha⟩
      omega
  · rintro ⟨⟨h1, ha⟩, _, hb⟩
    refine ⟨h1, fun x hx => ?_⟩
    rcases List.mem_append.mp hx with z | z
    · exact ha x z
    · exact hb x (List.mem_filter.mp z).1
theorem add_nil (a : List Nat) : add a [] = a := List.append_nil a
theorem add_self (a : List Nat) : add a a = a := by
  unfold add
  rw [List.filter_eq_nil_iff.mpr fun x hx => ?_, List.append_nil]
  intro z
  have := (lt_lo.mp (of_decide_eq_true z)).2 x hx
  omega
theorem nil_add {a : List Nat} (h : ∀ c ∈ a, c ≤ 1000) : add [] a = a := by
  unfold add
  rw [List.nil_append]
  exact List.filter_eq_self.mpr fun x hx => decide_eq_true (by
    have := h x hx
    show x < 1001
    omega)
theorem Fall.filter {p : Nat → Bool} : ∀ {l : List Nat}, Fall l → Fall (l.filter p)
  | [], _ => trivial
  | c :: r, f => by
    by_cases h : p c = true
    · rw [List.filter_cons_of_pos h]
      exact ⟨f.1, fun d hd => f.2.1 d (List.mem_filter.mp hd).1, f.2.2.filter⟩
    · rw [List.filter_cons_of_neg h]
      exact f.2.2.filter
theorem Fall.append : ∀ {a b : List Nat}, Fall a → Fall b → (∀ d ∈ b, ∀ x ∈ a, d < x) → Fall (a ++ b)
  | [], b, _, fb, _ => fb
  | c :: r, b, fa, fb, h => ⟨fa.1, fun d hd => by
      rcases List.mem_append.mp hd with z | z
      · exact fa.2.1 d z
      · exact h d z c List.mem_cons_self, fa.2.2.append fb fun d hd x hx => h d hd x (List.mem_cons_of_mem _ hx)⟩
theorem add_fall {a b : List Nat} (fa : Fall a) (fb : Fall b) : Fall (add a b) :=
  fa.append fb.filter fun d hd x hx => (lt_lo.mp (of_decide_eq_true (List.mem_filter.mp hd).2)).2 x hx
theorem add_le {a b : List Nat} (ha : ∀ c ∈ a, c ≤ 1000) (hb : ∀ c ∈ b, c ≤ 1000) : ∀ c ∈ add a b, c ≤ 1000 := fun c hc => by
  rcases List.mem_append.mp hc with z | z
  · exact ha c z
  · exact hb c (List.mem_filter.mp z).1
theorem add_len (a b : List Nat) : (add a b).length ≤ a.length + b.length := by
  unfold add
  rw [List.length_append]
  have := List.length_filter_le (fun d => decide (d < lo a)) b
  omega
/-- the law's own test -/
theorem lo_last {a : List Nat} (fa : Fall a) {d : Nat} (hd : d ≤ 1000) : (d < lo a) ↔ (a = [] ∨ ∃ x, a.getLast? = some x ∧ d < x) := by
  rw [lt_lo]
  by_cases h : a = []
  · subst h
    simp
    omega
  · rw [List.getLast?_eq_some_getLast h]
    constructor
    · rintro ⟨_, h2⟩
      exact .inr ⟨_, rfl, h2 _ (List.getLast_mem h)⟩
    · rintro (z | ⟨x, e, z⟩)
      · exact absurd z h
      · cases e
        exact ⟨by omega, fun y hy => by have := last_le a fa h y hy; omega⟩
/-- what is parted by both -/
theorem pt_add {a b : List Nat} (fa : Fall a) (fb : Fall b) (hb : ∀ c ∈ b, c ≤ 1000) (n : Nat) : pt (add a b) [n] = pt b (pt a [n]) := by
  unfold add
  rw [pt_cat]
  by_cases h : a = []
  · subst h
    have := nil_add hb
    unfold add at this
    rw [List.nil_append] at this
    rw [this]
  · have e : ∀ s ∈ pt a [n], s ≤ a.getLast h := pt_cuts fa.pos [n] _ (List.getLast_mem h)
    rw [pt_idle fb.pos _ e]
    congr 1
    refine List.filter_congr fun d hd => ?_
    rw [decide_eq_decide, lo_last fa (hb d hd), List.getLast?_eq_some_getLast h]
    constructor
    · rintro (z | ⟨x, e, z⟩)
      · exact absurd z h
      · cases e
        exact z
    · exact fun z => .inr ⟨_, rfl, z⟩
theorem add_more {a b : List Nat} (fa : Fall a) (fb : Fall b) (hb : ∀ c ∈ b, c ≤ 1000) {n : Nat} (hn : 0 < n) : L a n ≤ L (add a b) n := by
  rw [← (pt_L a fa n hn).1, ← (pt_L _ (add_fall fa fb) n hn).1, pt_add fa fb hb]
  exact pt_len fb.pos _
end N

end
section
set_option autoImplicit false
set_option Elab.async false
set_option linter.all false
set_option maxRecDepth 100000
set_option maxHeartbeats 4000000
/-! ## for in a generator's body -/
namespace GF
open PySem PySem.Spec PyProof.Rows L2 GenW
section
variable {M : Model} {c : Code} {fs : List Frame} {A : Around} {R : GenEnd} {Y : Protocol} {n : Nat} {s₀ s : Shared} {env : Env}
variable {K : Flow → Sem PySem.Fin} {J : Value → Sem PySem.Fin} {lv : List Value → List Value} {gd : Bool → Bool}
theorem seg_For {tg iter : Expr} {body : List Stmt} {pos : Pos}
    (h : wpAny M (A.over c fs) (eval iter env) (fun x s1 => wpAny M (A.over c fs) (pyIter x) (fun it s2 => ∀ p, Seg M A R Y n s₀ (.forLoop tg it body [] env) (M.den (.forLoop tg it body [] env))
      (.ret (fun r => ((match r with | .ok f => (.pure f : Sem Flow) | .error e => .raise e).onRaise (cameBack env)).wrap K J gd lv) none (gd false) (lv []) c p [] :: fs) s2)
      (fun x s' => Seg M A R Y n s₀ c (J x) fs s') s1) (fun x s' => Seg M A R Y n s₀ c (J x) fs s') s)
    (hs : ∀ x, foldedSetIterable iter env x = pure x) : Seg M A R Y n s₀ c ((exec (.For tg iter body [] pos) env).wrap K J gd lv) fs s := by
  rw [exec_For]
  refine seg_bind_wrap (wpAny_standAt (seg_bind_wrap (wpAny_mono h (fun x s1 h1 => ?_) fun _ _ x => x)))
  refine seg_bind_wrap (wpAny_of_eq (hs x) (seg_bind_wrap (wpAny_standAt ?_)))
  refine seg_bind_wrap (wpAny_holding (wpAny_mono h1 (fun it s2 h2 => ?_) fun _ _ x => x))
  exact seg_call h2
end
section
variable {prog : Program} {w : World} {fs : List Frame} {A : Around} {R : GenEnd} {Y : Protocol} {n : Nat} {s₀ s : Shared} {env : Env}
theorem seg_forLoop {tg : Expr} {it : Value} {body : List Stmt} {EE : Value → Shared → Prop}
    (hE : ∀ x s', EE x s' → Seg (model prog w) A R Y n s₀ (.forLoop tg it body [] env) ((do noteFrame x env; theTreesLotGoes x : Sem Unit).wrap (fun _ => .raise x) .raise id id) fs s')
    (h : wpAny (model prog w) (A.over (.forLoop tg it body [] env) fs) (pyNext it) (fun r s' => match r with
      | none => Seg (model prog w) A R Y n s₀ (.forLoop tg it body [] env) (.pure (.again (.block [] env))) fs s'
      | some v => wpAny (model prog w) (A.over (.forLoop tg it body [] env) fs) (letOwnedTupleGo tg it v) (fun _ s1 => wpAny (model prog w) (A.over (.forLoop tg it body [] env) fs) (assign tg env v) (fun _ s2 =>
          Seg (model prog w) A R Y n s₀ (.forLoop tg it body [] env) ((execs body env).wrap (fun f => match f with
            | .next | .cont => .pure (.again (.forLoop tg it body [] env))
            | .brk => .pure (.done .next)
            | .ret v => .pure (.done (.ret v))) (fun e => (do noteFrame e env; theTreesLotGoes e : Sem Unit).wrap (fun _ => .raise e) .raise id id) id id) fs s2) EE s1) EE s') EE s) :
    Seg (model prog w) A R Y n s₀ (.forLoop tg it body [] env) ((model prog w).den (.forLoop tg it body [] env)) fs s := by
  have hE2 : ∀ x s', EE x s' → Seg (model prog w) A R Y n s₀ (.forLoop tg it body [] env) ((do noteFrame x env; theTreesLotGoes x : Sem Unit).bind (fun _ => .raise x)) fs s' := fun x s' hx => by
    rw [Sem.bind_eq_wrap]
    exact hE x s' hx
  show Seg _ A R Y n s₀ _ ((forTurn tg it body [] env).onRaise (fun x => do noteFrame x env; theTreesLotGoes x)) fs s
  unfold forTurn
  rw [Sem.onRaise_eq_wrap]
  refine seg_bind_wrap (wpAny_standAt (?_)); refine seg_bind_wrap (wpAny_onRaise (wpAny_mono h (fun r s1 h1 => ?_) fun x s' hx => wpAny_standAt (hE2 x s' hx)))
  cases r with
  | none => exact h1
  | some v =>
    refine seg_bind_wrap (wpAny_mono h1 (fun _ s1' h1' => ?_) fun x s' hx => hE2 x s' hx)
    refine seg_bind_wrap (wpAny_mono h1' (fun _ s2 h2 => ?_) fun x s' hx => hE2 x s' hx)
    rw [Sem.bind_eq_wrap', Sem.wrap_wrap]
    rw [Sem.wrap_congr (execs body env) _ _ (K' := fun fl => match fl with
      | .next | .cont => .pure (.again (.forLoop tg it body [] env))
      | .brk => .pure (.done .next)
      | .ret x => .pure (.done (.ret x)))
      (H' := fun x => (do noteFrame x env; theTreesLotGoes x : Sem Unit).wrap (fun _ => .raise x) .raise id id) (fun fl => by cases fl <;> rfl)
      (fun x => by first | exact Sem.bind_eq_wrap _ _ | (show (do noteFrame x env; theTreesLotGoes x : Sem Unit).bind (fun _ => .raise x) = _; rw [Sem.bind_eq_wrap]))]
    exact h2
end
section
variable {X : Cx}
def tGFor (wi : TI) (g : TG) (tb : TGn) : TGn := fun D ys σ H => wi σ H fun J H1 => ∃ W : Nat → Nat → List V → L2.St → Hp → Prop, (∃ m, W 0 m ys σ H1) ∧ ∀ i m ys σ H, W i m ys σ H →
  (J.stop i H ∧ D.nx ys σ H) ∨ (J.go i H ∧ ∃ N : List V → L2.St → Hp → Prop, (∀ ys' σ' H', N ys' σ' H' → ∃ m', m' < m ∧ W (i + 1) m' ys' σ' H') ∧ ∀ x H', J.yld i H x H' → g x σ H' fun σ2 H2 => tb { D with nx := N, ct := N, bk := D.nx } ys σ2 H2)
theorem gs_for {tg iter : Expr} {body : List Stmt} {wi : TI} {gg : TG} {tb : TGn} {pos : Pos} (hp : PassesOwn (model X.prog X.w) X.A X.env X.xe) (hc : X.calm = true) (hi : PI X tg iter wi) (hg : PG X tg gg) (hb : GSs X body tb)
    (hs : ∀ x, foldedSetIterable iter X.env x = pure x := by intro _; rfl) : GS X (.For tg iter body [] pos) (tGFor wi gg tb) := by
  refine ⟨fun A S ip R n ys s₀ c fs K J gd lv s σ H D g hn k I0 ht => ?_⟩
  have hI := I0
  obtain ⟨acc, cc, r, I⟩ := hI
  refine seg_For ?_ hs
  rw [g.over]
  refine wpAny_mono (hi.run _ s σ H _ I ht) (fun v s1 h1 => wpAny_mono h1 (fun itv s2 h2 p => ?_) fun x s' hx => k.exc n s₀ x s' hx) fun x s' hx => k.exc n s₀ x s' hx
  obtain ⟨it, fp, tn, Jt, H2, e, I2, T, st2, f2, W, ⟨m0, w0⟩, turn⟩ := h2
  subst e
  have gl := fun (kk : Result → Sem PySem.Fin) => gc_loop (k := kk) (c' := .forLoop tg (.ref it) body [] X.env) (l := lv []) (kp := []) (p := p) g rfl rfl
  have stat : ∀ {H' : Hp} {a2 : Array Value} {c2 : Nat}, (∀ b ∈ fp, H' b = none) → ∀ b ∈ fp, FpOk X ((S, lstObj a2 c2) :: ip) H' b := fun {H' a2 c2} hn b hb => by
    obtain ⟨_, q1, q2, q3, q4, q5⟩ := f2 b hb
    refine ⟨hn b hb, q1, q2, q3, q4, fun p hp => ?_⟩
    rcases List.mem_append.mp hp with z | z
    · exact q5 p (List.mem_append_left _ z)
    · rcases List.mem_cons.mp z with z | z
      · rw [z]
        exact q5 (S, lstObj acc cc) (List.mem_append_right _ List.mem_cons_self)
      · exact q5 p (List.mem_append_right _ (List.mem_cons_of_mem _ z))
  have neS : ∀ b ∈ fp, b ≠ S := fun b hb z => by
    obtain ⟨_, _, _, _, _, q5⟩ := f2 b hb
    exact q5 (S, lstObj acc cc) (List.mem_append_right _ List.mem_cons_self) z.symm
  have loop : ∀ (m i n : Nat) (ys : List V) (s₀ s : Shared) (σ : L2.St) (H : Hp), n + ys.length = sizeLine → W i m ys σ H → GI X S ip ys σ H s → tn i s.heap → (∀ b ∈ fp, H b = none) →
      Seg (model X.prog X.w) A R (GY X S) n s₀ (.forLoop tg (.ref it) body [] X.env) ((model X.prog X.w).den (.forLoop tg (.ref it) body [] X.env))
        (.ret (fun rr => ((match rr with | .ok fl => (.pure fl : Sem Flow) | .error x => .raise x).onRaise (cameBack X.env)).wrap K J gd lv) none (gd false) (lv []) c p [] :: fs) s := by
    intro m
    induction m using Nat.strongRecOn with
    | ind m ih =>
      intro i n ys s₀ s σ H hn w hI st fr
      have ee : ∀ (n : Nat) (s₀ : Shared) (x : Value) (s' : Shared), X.xe x s' → Seg (model X.prog X.w) A R (GY X S) n s₀ (.forLoop tg (.ref it) body [] X.env)
          ((do noteFrame x X.env; theTreesLotGoes x : Sem Unit).wrap (fun _ => .raise x) .raise id id) (.ret (fun rr => ((match rr with | .ok fl => (.pure fl : Sem Flow) | .error x => .raise x).onRaise (cameBack X.env)).wrap K J gd lv) none (gd false) (lv []) c p [] :: fs) s' := fun n s₀ x s' hx => by
        refine seg_wrap ?_
        rw [(gl _).over]
        exact wpAny_bind (wpAny_mono (hp x s' hx) (fun _ _ cb => wpAny_theTreesLotGoes (seg_leaf (.error x) (seg_cameBack g k cb))) fun y _ cb => seg_leaf (.error y) (seg_cameBack g k cb))
      refine seg_forLoop (EE := X.xe) (ee n s₀) ?_
      rw [(gl _).over]
      obtain ⟨acc, cc, r, I⟩ := hI
      rcases turn i m ys σ H w with ⟨stop, qn⟩ | ⟨go, N, hN, step⟩
      · refine wpAny_mono (T.done X rfl rfl rfl hc i _ s σ H X.xe I (stat fr) st stop) (fun r4 s4 h4 => ?_) fun _ _ x => x
        obtain ⟨hr4, I4⟩ := h4
        subst hr4
        refine seg_again rfl ?_
        exact seg_leaf (.ok .next) (k.ok n ys s₀ s4 .next hn ⟨σ, H, ⟨acc, cc, r, I4⟩, qn⟩)
      · refine wpAny_mono (T.item X rfl rfl rfl hc i _ s σ H X.xe I (stat fr) st go) (fun r4 s4 h4 => ?_) fun _ _ x => x
        obtain ⟨u, hr4, h4⟩ := h4
        subst hr4
        refine wpAny_mono h4 (fun _ s5 h5 => ?_) fun _ _ x => x
        obtain ⟨x, H5, I5, r5, y5, st5, fr5⟩ := h5
        have J5 := I5.pinned (stat fr5) (T.obj _ _ st5)
        refine wpAny_mono (hg.run _ s5 σ H5 x u _ J5 r5 (step x H5 y5)) (fun _ s6 h6 => ?_) fun _ _ x => x
        obtain ⟨σ6, H6, I6, q6⟩ := h6
        have gl2 : ∀ kk : Result → Sem PySem.Fin, GC X S (ip ++ pinsAt fp s5.heap) A (.forLoop tg (.ref it) body [] X.env) (.ret kk none (gd false) (lv []) c p [] :: fs) id := fun kk => { gl kk with
          ip := fun p hp => by
            rcases List.mem_append.mp hp with z | z
            · exact g.ip p z
            · exact neS p.1 (of_pinsAt z).1 }
        have back : ∀ {ys7 : List V} {σ7 : L2.St} {H7 : Hp} {s7 : Shared}, GI X S (ip ++ pinsAt fp s5.heap) ys7 σ7 H7 s7 → GI X S ip ys7 σ7 H7 s7 ∧ tn (i + 1) s7.heap ∧ ∀ b ∈ fp, H7 b = none := fun {ys7 σ7 H7 s7} h7 => by
          obtain ⟨acc7, cc7, r7, I7⟩ := h7
          have I7' : Inv X (((S, lstObj acc7 cc7) :: ip) ++ pinsAt fp s5.heap) σ7 H7 s7 := I7
          refine ⟨⟨acc7, cc7, r7, I7'.unpinned⟩, T.keep _ _ _ st5 fun b hb o e => (I7'.pin (b, o) (List.mem_append_right _ (List.mem_append_right _ (mem_pinsAt hb e)))).1, fun b hb => ?_⟩
          obtain ⟨o, e, dd⟩ := T.obj _ _ st5 b hb
          exact (I7'.pin (b, o) (List.mem_append_right _ (List.mem_append_right _ (mem_pinsAt hb e)))).2.1
        refine hb.run A S (ip ++ pinsAt fp s5.heap) R n ys s₀ _ _ _ _ id id s6 σ6 H6 { D with nx := N, ct := N, bk := D.nx } (gl2 _) hn ⟨fun n' ys' s₀' s7 f hn' hs => ?_, fun n' s₀' x s3 hx => ee n' s₀' x s3 hx⟩ ⟨acc, cc, r, I6⟩ q6
        cases f with
        | next =>
          obtain ⟨σ7, H7, I7, n7⟩ := hs
          obtain ⟨m', hm, w7⟩ := hN ys' σ7 H7 n7
          obtain ⟨b1, b2, b3⟩ := back I7
          exact seg_again rfl (ih m' hm (i + 1) n' ys' s₀' s7 σ7 H7 hn' w7 b1 b2 b3)
        | cont =>
          obtain ⟨σ7, H7, I7, n7⟩ := hs
          obtain ⟨m', hm, w7⟩ := hN ys' σ7 H7 n7
          obtain ⟨b1, b2, b3⟩ := back I7
          exact seg_again rfl (ih m' hm (i + 1) n' ys' s₀' s7 σ7 H7 hn' w7 b1 b2 b3)
        | brk =>
          obtain ⟨σ7, H7, I7, q7⟩ := hs
          exact seg_leaf (.ok .next) (k.ok n' ys' s₀' s7 .next hn' ⟨σ7, H7, (back I7).1, q7⟩)
        | ret v =>
          obtain ⟨x7, σ7, H7, I7, r7, q7⟩ := hs
          exact seg_leaf (.ok (.ret v)) (k.ok n' ys' s₀' s7 (.ret v) hn' ⟨x7, σ7, H7, (back I7).1, r7, q7⟩)
  exact loop m0 0 n ys s₀ s2 σ H2 hn w0 ⟨acc, cc, r, I2⟩ st2 fun b hb => (f2 b hb).1
end
end GF

end
section
set_option autoImplicit false
set_option Elab.async false
set_option linter.all false
set_option maxRecDepth 100000
set_option maxHeartbeats 4000000
namespace CP
open PySem L2 G Y
abbrev sCPart : Stmt := inClass (S.top 10) 9
def dI (n : Nat) : PyData := .int ((n : Nat) : Int)
theorem dp_ints {K : PySem.W.Frag} {H : Hp} : ∀ l : List Nat, DpAll K H (ni l) (l.map dI)
  | [] => .nil
  | x :: l => .cons (.int _) (dp_ints l)
theorem lay_ints : ∀ l : List Nat, PyData.canLayAll0 (l.map dI) = true
  | [] => rfl
  | x :: l => lay_ints l
theorem deep_ints : ∀ l : List Nat, PyData.depthAll (l.map dI) = 0
  | [] => by simp only [List.map_nil, PyData.depthAll]
  | x :: l => by simp only [List.map_cons, PyData.depthAll, dI, PyData.depth, deep_ints l, Nat.max_self]
theorem shp_list (l : List Nat) : SeqAt.shaped (.list (l.map dI)) = true := by
  unfold SeqAt.shaped
  rw [show (PyData.list (l.map dI)).canLay0 = true by simp only [PyData.canLay0, lay_ints], Bool.true_and]
  refine decide_eq_true ?_
  simp only [PyData.depth, deep_ints]
  decide
theorem shp_tup (l : List Nat) : SeqAt.shaped (.tuple (l.map dI)) = true := by
  unfold SeqAt.shaped
  rw [show (PyData.tuple (l.map dI)).canLay0 = true by simp only [PyData.canLay0, lay_ints], Bool.true_and]
  refine decide_eq_true ?_
  simp only [PyData.depth, deep_ints]
  decide
theorem eqv_nil : ∀ l : List Nat, PyData.eqv (.list (l.map dI)) (.list []) = decide (l = [])
  | [] => by simp [PyData.eqv, PyData.eqvAll]
  | x :: l => by simp [PyData.eqv, PyData.eqvAll]
theorem eqv_tup (l : List Nat) : PyData.eqv (.tuple (l.map dI)) (.tuple (l.map dI)) = true := SeqAt.eqv_refl _ (by simp only [PyData.canLay0, lay_ints])
/-- a list beside a new empty one -/
theorem eq_nil {K : PySem.W.Frag} {H : Hp} {Q : VK} {D e : Addr} {l : List Nat} (hD : SqL K H D (ni l)) (he : SqL K H e []) (q : Q (.bl (decide (l = []))) H) : rEqD K (.ref D) (.ref e) H Q :=
  ⟨_, _, .lst hD (dp_ints l), .lst he .nil, shp_list l, by decide +kernel, by rw [eqv_nil]; exact q⟩
theorem ne_nil {K : PySem.W.Frag} {H : Hp} {Q : VK} {D e : Addr} {l : List Nat} (hD : SqL K H D (ni l)) (he : SqL K H e []) (q : Q (.bl (!decide (l = []))) H) : rNeD K (.ref D) (.ref e) H Q :=
  ⟨_, _, .lst hD (dp_ints l), .lst he .nil, shp_list l, by decide +kernel, by rw [eqv_nil]; exact q⟩
theorem ne_tups {K : PySem.W.Frag} {H : Hp} {Q : VK} {t u : Addr} {l : List Nat} (ht : SqT K H t (ni l)) (hu : SqT K H u (ni l)) (q : Q (.bl false) H) : rNeD K (.ref t) (.ref u) H Q :=
  ⟨_, _, .tup ht (dp_ints l), .tup hu (dp_ints l), shp_tup l, shp_tup l, by rw [eqv_tup]; exact q⟩
structure Mw (P : Program) (w : World) (K : PySem.W.Frag) (mg : Str → Option Value) (base : Heap) (C : Addr) : Prop where
  ex : ∃ (f : Addr) (fd : FuncData), FnOk P w K mg base CX0 4 f fd ["self", "cuts"] (spCInit C) ∧ Mk K C f ∧ Binds K fd ["self", "cuts"] []
structure Op (P : Program) (w : World) (K : PySem.W.Frag) (mg : Str → Option Value) (base : Heap) (C : Addr) (k : Nat) (m : Str) (ps : List Str) (sp : Sp) : Prop where
  ex : ∃ (f : Addr) (fd : FuncData), FnOk P w K mg base CX0 k f fd ps sp ∧ WO.Own K C f m ∧ Binds K fd ps [] ∧ PySem.W.fnIn K f = true
end CP

end
section
set_option autoImplicit false
set_option Elab.async false
set_option linter.all false
set_option maxRecDepth 100000
set_option maxHeartbeats 4000000
/-! ## a tuple, the other way round -/
namespace QR
open PySem PySem.Spec PyProof.Rows L2
section
variable {prog : Program} {w : World} {A : Around} {E : Value → Shared → Prop} {s : Shared}
theorem applied_back {sl : Addr} {vs : Value} {n : Nat} {Q : Int × Int × Nat → Shared → Prop} (hs : s.heap.IsSliceOf sl .none .none vs) (ps : IsPart vs (some (-1)))
    (h : Q ((n : Int) - 1, -1, n) s) : wpAny (model prog w) A (Builtin.Slice.sliceApplied (.ref sl) (pure (n : Int))) Q E s := by
  obtain ⟨os, hos, hcs, hds⟩ := id hs
  unfold Builtin.Slice.sliceApplied Builtin.Slice.sliceFields
  refine wpAny_bind (wpAny_bind (wpAny_field hos hds (x := .none) rfl (wpAny_bind (wpAny_field hos hds (x := .none) rfl (wpAny_bind (wpAny_field hos hds (x := vs) rfl (wpAny_pure ?_)))))))
  refine wpAny_bind (HT.slicePart_ ps ?_)
  show wpAny _ _ (if ((-1 : Int) == 0) = true then _ else _) _ _ s
  rw [if_neg (by decide)]
  refine wpAny_bind (HT.slicePart_ .none (wpAny_bind (HT.slicePart_ .none (wpAny_bind (wpAny_pure ?_)))))
  have e1 : Builtin.Slice.sliceAdjust none none (-1) (n : Int) = ((n : Int) - 1, -1) := by
    unfold Builtin.Slice.sliceAdjust
    simp
  have e2 : Builtin.Slice.slicePlaces ((n : Int) - 1) (-1) (-1) = n := by
    unfold Builtin.Slice.slicePlaces
    simp
    omega
  show wpAny _ _ (match Builtin.Slice.sliceAdjust none none (-1) (n : Int) with | (lo, hi) => pure (lo, (-1 : Int), Builtin.Slice.slicePlaces lo hi (-1))) _ _ s
  rw [e1]
  show wpAny _ _ (pure ((n : Int) - 1, (-1 : Int), Builtin.Slice.slicePlaces ((n : Int) - 1) (-1) (-1))) _ _ s
  rw [e2]
  exact wpAny_pure h
theorem fm_congr {f g : Nat → Option Value} : ∀ {l : List Nat}, (∀ m ∈ l, f m = g m) → l.filterMap f = l.filterMap g
  | [], _ => rfl
  | x :: l, h => by
    have e := fm_congr (f := f) (g := g) (l := l) fun m hm => h m (List.mem_cons_of_mem _ hm)
    rw [List.filterMap_cons, List.filterMap_cons, h x List.mem_cons_self, e]
theorem pick_back (xs : Array Value) : ((List.range xs.size).filterMap fun (m : Nat) => xs[(((xs.size : Int) - 1) + (m : Int) * (-1)).toNat]?).toArray = xs.toList.reverse.toArray := by
  have e : (List.range xs.size).filterMap (fun (m : Nat) => xs[(((xs.size : Int) - 1) + (m : Int) * (-1)).toNat]?) = ((List.range xs.size).map fun k => xs.size - 1 - k).filterMap (xs[·]?) := by
    rw [List.filterMap_map]
    refine fm_congr fun m hm => ?_
    have := List.mem_range.mp hm
    show xs[_]? = xs[xs.size - 1 - m]?
    rw [show (((xs.size : Int) - 1) + (m : Int) * (-1)).toNat = xs.size - 1 - m by omega]
  rw [e, PySem.W.krv_range, List.filterMap_reverse, PySem.W.krv_all]
theorem get_back {t sl : Addr} {items : Array Value} {vs : Value} {Q : Value → Shared → Prop} (ht : IsTup s.heap t items) (hs : s.heap.IsSliceOf sl .none .none vs) (ps : IsPart vs (some (-1)))
    (h : Q (.ref s.heap.objs.size) { s with heap := s.heap.push { cls := .type "tuple", data := .seq items.toList.reverse.toArray } }) (hsz : items.size ≤ sizeLine) : wpAny (model prog w) A (getItem (.ref t) (.ref sl)) Q E s := by
  have fits : sizeOk (.seq items.toList.reverse.toArray) := by
    show items.toList.reverse.toArray.size ≤ sizeLine
    simpa using hsz
  obtain ⟨os, hos, hcs, hds⟩ := id hs
  have hT : s.TypeIs (.ref sl) "slice" := ⟨os, hos, hcs⟩
  unfold getItem
  try with_reducible refine wpAny_holding ?_
  first | refine wpAny_bind (wpAny_pure ?_) | skip
  refine wpAny_bind (wpAny_sequenceKey ht.typeIs (by decide) (wpAny_bind (wpAny_callSpecial?_slot (name := Str.ofString "__getitem__") ht.typeIs PyProof.Rows.slot_tuple_getitem
    (wpAny_call_entry PyProof.Rows.slot_tuple_getitem ht.typeIs PyProof.Rows.entry_tuple_getitem ?_ (PyProof.Rows.args_tuple_getitem _ _)))))
  show wpAny _ _ (Builtin.Tuple.tupleItemsOf (.ref t) >>= _) _ _ s
  refine wpAny_bind (tupleItemsOf_ ht (wpAny_bind (wpAny_typeOf hT ?_)))
  rw [if_pos (by decide)]
  refine wpAny_bind (applied_back hs ps ?_)
  have no : ¬ ((((items.size : Int) - 1) == 0 && (-1 : Int) == 1 && items.size == items.size) = true) := by simp
  show wpAny _ _ (if ((((items.size : Int) - 1) == 0 && (-1 : Int) == 1 && items.size == items.size) = true) then _ else _) _ _ s
  rw [if_neg no, pick_back]
  first
    | exact wpAny_bind (m := Builtin.Tuple.tupleExact _) (wpAny_newObj_type (wpAny_pure ⟨_, rfl, wpAny_pure h⟩) fits)
    | exact wpAny_bind (wpAny_bind (m := Builtin.Tuple.tupleExact _) (wpAny_newObj_type (wpAny_pure ⟨_, rfl, wpAny_pure h⟩) fits))
end
section
variable {X : Cx}
/-- t[::-1] of a tuple -/
def tRevT (K : PySem.W.Frag) (te : TE) : TE := fun σ H Q => te σ H fun x H1 => ∃ a xs, x = .ref a ∧ SqT K H1 a xs ∧ ∀ p, H1 p = none → Q (.ref p) (upd H1 p (.tup xs.reverse))
theorem pe_revT {e : Expr} {te : TE} {k : Nat} {p1 p2 p3 pos : Pos} (he : PE X e te) : PE X (.Subscript e (.Slice none none (some (.UnaryOp .USub (.Constant (.int 1) k p1) p2)) p3) pos) (tRevT X.K te) := by
  refine ⟨fun pins s σ H Q I h => Subscript_ (thn (he.run pins s σ H _ I h) fun v s1 ⟨x, H1, I1, r1, q1⟩ => ?_)⟩
  obtain ⟨a, xs, ex, hx, q⟩ := q1
  subst ex
  cases r1
  have st : PO X (some (.UnaryOp .USub (.Constant (.int 1) k p1) p2)) (tPart (tUn (rU fun i => .int (-i)) (tC (.int 1)))) := po_some (pe_un un_neg pe_int)
  refine wpAny_Slice (thn (po_none.run pins s1 σ H1 (fun o H2 => o = none ∧ H2 = H1) I1 ⟨rfl, rfl⟩) fun vl s2 hl => ?_)
  obtain ⟨l, H2, I2, pl, el, e2⟩ := hl
  subst el e2
  refine thn (po_none.run pins s2 σ H2 (fun o H3 => o = none ∧ H3 = H2) I2 ⟨rfl, rfl⟩) fun vu s3 hu => ?_
  obtain ⟨u, H3, I3, pu, eu, e3⟩ := hu
  subst eu e3
  refine thn (st.run pins s3 σ H3 (fun o H4 => o = some (-1) ∧ H4 = H3) I3 ⟨1, rfl, -1, rfl, rfl, rfl⟩) fun vs s4 hs4 => ?_
  obtain ⟨o, H4, I4, ps, eo, e4⟩ := hs4
  subst eo e4
  cases pl
  cases pu
  have I5 : Inv X pins σ H4 { s4 with heap := s4.heap.push { cls := .type "slice", data := .fields #[.none, .none, vs] } } := I4.kept (t' := s4.toks) fun b ob q => Heap.get?_push_of_some _ q
  obtain ⟨its, r, ht, hz⟩ := I5.tuple hx
  have hlen := r.length
  show wpAny (model X.prog X.w) X.A (subscriptTail e (.Slice none none (some (.UnaryOp .USub (.Constant (.int 1) k p1) p2)) p3) (.ref a) (.ref s4.heap.objs.size)) (EP X pins σ Q) X.xe { s4 with heap := s4.heap.push { cls := .type "slice", data := .fields #[.none, .none, vs] } }
  refine tail_any (ops := [.ref a, .ref s4.heap.objs.size]) ht.typeIs PyProof.Rows.slot_tuple_getitem.lookup ?_ (by with_unfolding_all rfl)
  refine get_back ht (Heap.IsSliceOf.new _ .none .none vs) ps ?_ (by rw [List.size_toArray]; omega)
  refine ⟨.ref _, _, I5.laid (t' := s4.toks) (o := .tup xs.reverse) (fun b ob q => Heap.get?_push_of_some _ q) (Nat.le_refl _) ?_, rfl, q _ (I5.hok.fresh (Nat.le_refl _))⟩
  exact ⟨by rw [List.length_reverse]; exact hz, _, r.reverse, IsTup.new _ _⟩
end
end QR

end
section
set_option autoImplicit false
set_option Elab.async false
set_option linter.all false
set_option maxRecDepth 100000
set_option maxHeartbeats 4000000
/-! ## the marks of a chain -/
namespace CP
open PySem L2 G Y
abbrev sMarks : Stmt := S.top 23
def mv (l : List Nat) (n : Nat) : List V := (List.range n).map fun p => V.bl (decide (N.rem l p = 0))
theorem mv_len (l : List Nat) (n : Nat) : (mv l n).length = n := by
  unfold mv
  rw [List.length_map, List.length_range]
theorem mv_at (l : List Nat) {n p : Nat} (h : p < n) : (mv l n)[p]? = some (V.bl (decide (N.rem l p = 0))) := by
  unfold mv
  rw [List.getElem?_map, List.getElem?_range h]
  rfl
theorem rep_at (xs : List V) : ∀ k i, i < k * xs.length → (List.replicate k xs).flatten[i]? = xs[i % xs.length]?
  | 0, i, h => by omega
  | k + 1, i, h => by
    rw [List.replicate_succ, List.flatten_cons]
    by_cases hi : i < xs.length
    · rw [List.getElem?_append_left hi, Nat.mod_eq_of_lt hi]
    · rw [Nat.succ_mul] at h
      rw [List.getElem?_append_right (by omega), rep_at xs k (i - xs.length) (by omega), ← Nat.mod_eq_sub_mod (by omega)]
theorem tile {l : List Nat} {m n k : Nat} (hm : 0 < m) (per : ∀ p, N.rem l p = N.rem l (p % m)) (h : n ≤ k * m) : ((List.replicate k (mv l m)).flatten).take n = mv l n := by
  apply List.ext_getElem?
  intro i
  by_cases hi : i < n
  · rw [List.getElem?_take_of_lt hi, rep_at _ _ _ (by rw [mv_len]; omega), mv_len, mv_at l (Nat.mod_lt _ hm), mv_at l hi, ← per]
  · rw [List.getElem?_eq_none (by rw [List.length_take]; omega), List.getElem?_eq_none (by rw [mv_len]; omega)]
theorem mv_cons (m : Nat) (l : List Nat) : mv (m :: l) m = mv l m := by
  unfold mv
  refine List.map_congr_left fun p hp => ?_
  rw [N.rem_cons, Nat.mod_eq_of_lt (List.mem_range.mp hp)]
theorem per_cons (m : Nat) (l : List Nat) (p : Nat) : N.rem (m :: l) p = N.rem (m :: l) (p % m) := by
  rw [N.rem_cons, N.rem_cons, Nat.mod_mod]
theorem mv_first {m : Nat} (h : 0 < m) : [V.bl true] ++ (List.replicate (m - 1) [V.bl false]).flatten = mv [m] m := by
  rw [mv_cons]
  apply List.ext_getElem?
  intro i
  have e : (List.replicate (m - 1) [V.bl false]).flatten = List.replicate (m - 1) (V.bl false) := by
    induction (m - 1) with
    | zero => rfl
    | succ k ih => rw [List.replicate_succ, List.flatten_cons, ih, List.replicate_succ]; rfl
  rw [e]
  by_cases hi : i < m
  · rw [mv_at [] hi]
    cases i with
    | zero => rfl
    | succ i =>
      rw [List.singleton_append, List.getElem?_cons_succ, List.getElem?_replicate_of_lt (by omega)]
      rfl
  · rw [List.getElem?_eq_none (by simp; omega), List.getElem?_eq_none (by rw [mv_len]; omega)]
theorem mv_first0 (n : Nat) : [V.bl true] ++ (List.replicate (n - 1) [V.bl false]).flatten = mv [] (max n 1) := by
  cases n with
  | zero => rfl
  | succ n =>
    rw [mv_first (Nat.succ_pos n), mv_cons, show max (n + 1) 1 = n + 1 by omega]
theorem tile0 {l : List Nat} {m n k : Nat} (h : n ≤ m) : ((List.replicate (k + 1) (mv l m)).flatten).take n = mv l n := by
  apply List.ext_getElem?
  intro i
  rw [List.replicate_succ, List.flatten_cons]
  by_cases hi : i < n
  · rw [List.getElem?_take_of_lt hi, List.getElem?_append_left (by rw [mv_len]; omega), mv_at l (by omega), mv_at l hi]
  · rw [List.getElem?_eq_none (by rw [List.length_take]; omega), List.getElem?_eq_none (by rw [mv_len]; omega)]
theorem cut_to (xs : List V) (k : Nat) : cutV xs none (some (k : Int)) = xs.take k := by
  unfold cutV
  rw [HT.sIx_none, HT.sIx_nat, List.drop_zero, Nat.sub_zero]
  by_cases h : k ≤ xs.length
  · rw [Nat.min_eq_left h]
  · rw [Nat.min_eq_right (by omega), List.take_of_length_le (Nat.le_refl _), List.take_of_length_le (by omega)]
section
variable {P : Program} {w : World} {K : PySem.W.Frag} {mg : Str → Option Value} {base : Heap} {C : Addr}
def spMarks (C : Addr) : Sp := fun vs H Q _ => ∃ (a : Addr) (n : Nat) (cs : List Nat), vs = [.ref a, .int (n : Int)] ∧ ChAt C H cs a ∧ Cuts cs ∧ n ≤ 5000 ∧ ∀ D H', Same H H' → H' D = some (.lst (mv cs n)) → Q (.ref D) H'
abbrev NMk : List Str := ["chain", "length", "lengths", "marks", "many"]
theorem scMk : FnScope NMk ["chain", "length"] (defScope sMarks) := ⟨rfl, rfl, rfl, by decide +kernel, rfl, by decide +kernel, by decide +kernel⟩
theorem ok_marks {f : Addr} {fd : FuncData} (F : Fun K "_marks" "_marks" sMarks f fd) (B : Bn mg) (T : Ct K mg C) : FnOk P w K mg base CX0 1 f fd ["chain", "length"] (spMarks C) := by
  refine F.ok scMk (fun vs H Q E h => ?_) (fun cdv A outer s H vs Q E hr h => ?_)
  · obtain ⟨a, n, cs, rfl, _⟩ := h
    rfl
  · obtain ⟨a, n, cs, rfl, hc, hl, hn, k⟩ := h
    refine ⟨_, pss_cons (ps_set (i := 2) scMk.nd rfl (Or.inl rfl) (pe_tup (StX.pa_star (QR.pe_revT (pe_fld (pv 0) rfl)) (pa_cons (pv 1) pa_nil))))
      (pss_cons (ps_set (i := 3) scMk.nd rfl (Or.inl rfl) (pe_op op_cat (pe_lst (pa_cons pe_bl pa_nil)) (pe_op op_rep (pe_lst (pa_cons pe_bl pa_nil)) (pe_op op_sub (pe_ix ix_tup (pv 2) pe_int (fun _ _ => rfl)) pe_int))))
      (pss_cons (ps_for PassesOwn.never rfl (pi_tup (pv 2)) (pg_name (i := 4) scMk.nd rfl (Or.inl rfl))
        (pss_one (ps_set (i := 3) scMk.nd rfl (Or.inl rfl) (pe_slice sl_list (pe_op op_rep (pv 3) (pe_op op_add (pe_op op_fdiv (pv 4) (pe_callB call_len_seq (by rfl) B.len PySem.boot_len (pa_cons (pv 3) pa_nil))) pe_int)) po_none (po_some (pv 4))))))
      (pss_one (ps_ret (pv 3))))), ?_⟩
    obtain ⟨dx, t, u, h1, h2, h3⟩ := id hc
    have lc := hl.len
    refine ⟨_, rfl, a, C, dx, _, _, rfl, h1, T.cl, T.nC, cfl_cuts t u, t, _, rfl, SqT.of h2, fun r hr1 => ?_⟩
    refine ⟨r, _, rfl, .inl (SqT.of upd_same), _, rfl, ?_, fun v hv => ?_⟩
    · rw [List.length_append, List.length_reverse, ni_len]
      exact Nat.le_trans (show cs.length + 1 ≤ 1001 by omega) (by decide)
    have eL : (ni cs).reverse ++ [V.int (n : Int)] = ni (cs.reverse ++ [n]) := by
      rw [ni_app]
      unfold ni
      rw [List.map_reverse, List.map_reverse]
      rfl
    have s1 : Same H (upd H r (.tup (ni cs).reverse)) := of_upd hr1
    have s2 := s1.trans (of_upd (o := .tup ((ni cs).reverse ++ [V.int (n : Int)])) hv)
    have hv2 : (upd (upd H r (.tup (ni cs).reverse)) v (.tup ((ni cs).reverse ++ [V.int (n : Int)]))) v = some (.tup (ni (cs.reverse ++ [n]))) := by rw [upd_same, eL]
    generalize upd (upd H r (.tup (ni cs).reverse)) v (.tup ((ni cs).reverse ++ [V.int (n : Int)])) = G1 at s2 hv2 ⊢
    clear hv hr1 s1
    by_cases ne : cs = []
    · subst ne
      dsimp only
      refine set_then (i := 3) ⟨line2.2.2.1, fun b1 hb1 => ⟨line2.2.2.1, fun b2 hb2 => ?_⟩⟩
      have s3 : Same G1 (upd G1 b1 (.lst [.bl true])) := of_upd hb1
      have s4 : Same (upd G1 b1 (.lst [.bl true])) (upd (upd G1 b1 (.lst [.bl true])) b2 (.lst [.bl false])) := of_upd hb2
      refine ⟨_, rfl, v, _, _, .int (n : Int), rfl, rfl, SqT.of (s4 _ _ (s3 _ _ hv2)), atI_nat (j := 0) (ni_at (l := [] ++ [n]) rfl), _, _, rfl, rfl, b2, _, _, rfl, rfl, upd_same, by omega, by omega, ?_, fun b3 hb3 => ?_⟩
      · show 1 * _ ≤ sizeLine
        exact Nat.le_trans (show 1 * ((n : Int) - 1).toNat ≤ 5000 by omega) (by decide)
      rw [show ((n : Int) - 1).toNat = n - 1 by omega]
      have s5 : Same (upd (upd G1 b1 (.lst [.bl true])) b2 (.lst [.bl false])) _ := of_upd (o := .lst (List.replicate (n - 1) [V.bl false]).flatten) hb3
      have l5 := congrArg List.length (mv_first0 n)
      rw [mv_len] at l5
      refine ⟨b1, b3, _, _, rfl, rfl, s5 _ _ (s4 _ _ upd_same), upd_same, ?_, fun D hD => ?_⟩
      · rw [List.length_append] at l5
        rw [l5]
        exact Nat.le_trans (show max n 1 ≤ 5001 by omega) (by decide)
      rw [mv_first0]
      have s6 := ((s3.trans s4).trans s5).trans (of_upd (o := .lst (mv [] (max n 1))) hD)
      have s7 := s2.trans s6
      have hv3 := s6 _ _ hv2
      clear s3 s4 s5 s6 hb1 hb2 hb3
      refine ⟨_, rfl, v, rfl, ⟨_, SqT.of hv3⟩, for_it walk_tup (fun i σ G => Same H G ∧ G v = some (.tup (ni ([] ++ [n]))) ∧ ∃ (D : Addr) (q : Option V), σ = [some (.ref a), some (.int (n : Int)), some (.ref v), some (.ref D), q] ∧
          (i = 0 → G D = some (.lst (mv [] (max n 1)))) ∧ (i = 1 → G D = some (.lst (mv [] n))))
        ⟨s7, hv3, D, _, rfl, fun _ => upd_same, fun h => by omega⟩ (fun i σ G _ z => SqT.of z.2.1) ?_ ?_⟩
      · rintro i x σ G G' hi ⟨s8, hv4, D, q, rfl, hD1, _⟩ ⟨rfl, hx⟩
        have hi0 : i = 0 := by
          have : (ni ([] ++ [n])).length = 1 := rfl
          have hi' : i < (ni ([] ++ [n])).length := hi
          omega
        subst hi0
        obtain rfl : x = .int (n : Int) := (Option.some.inj hx).symm
        have hD2 := hD1 rfl
        refine ⟨_, rfl, _, rfl, _, rfl, D, _, rfl, .inl (SqL.of hD2), ?_⟩
        rw [mv_len]
        have m1 : 0 < max n 1 := by omega
        have eq : (n : Int) / ((max n 1 : Nat) : Int) = ((n / max n 1 : Nat) : Int) := rfl
        have q0 : (0 : Int) ≤ (n : Int) / ((max n 1 : Nat) : Int) := by rw [eq]; exact Int.natCast_nonneg _
        have q2 : n / max n 1 ≤ 1 := by
          have := Nat.div_le_div_right (c := max n 1) (show n ≤ max n 1 by omega)
          rw [Nat.div_self m1] at this
          exact this
        have q1 : (n : Int) / ((max n 1 : Nat) : Int) ≤ 1 := by rw [eq]; exact Int.ofNat_le.mpr q2
        have kn : ((n : Int) / ((max n 1 : Nat) : Int) + 1).toNat = n / max n 1 + 1 := by rw [eq]; exact Int.toNat_natCast (n / max n 1 + 1)
        refine ⟨_, _, rfl, rfl, ⟨by omega, by omega⟩, _, _, rfl, rfl, D, _, _, rfl, rfl, hD2, by omega, by omega, ?_, fun D3 h3 => ⟨_, rfl, _, rfl, D3, _, rfl, SqL.of upd_same, fun D4 h4 => ?_⟩⟩
        · rw [mv_len, kn]
          exact Nat.le_trans (Nat.mul_le_mul (show max n 1 ≤ 5001 by omega) (show n / max n 1 + 1 ≤ 2 by omega)) (by decide)
        have s9 := (of_upd (o := .lst (List.replicate ((n : Int) / ((max n 1 : Nat) : Int) + 1).toNat (mv [] (max n 1))).flatten) h3)
        have et : cutV (List.replicate ((n : Int) / ((max n 1 : Nat) : Int) + 1).toNat (mv [] (max n 1))).flatten none (some (n : Int)) = mv [] n := by
          rw [cut_to, kn, tile0 (show n ≤ max n 1 by omega)]
        exact ⟨(s8.trans s9).trans (of_upd h4), (of_upd h4) _ _ (s9 _ _ hv4), D4, _, rfl, fun z => by omega, fun _ => by rw [upd_same, et]⟩
      · rintro σ G ⟨s8, hv4, D, q, rfl, _, hD1⟩
        exact ⟨_, rfl, k D G s8 (hD1 rfl)⟩
    have lk : 0 < cs.length := List.length_pos_iff.mpr ne
    have lenL : (cs.reverse ++ [n]).length = cs.length + 1 := by simp
    have at1 : ∀ i, i < cs.length → (cs.reverse ++ [n])[i]? = cs[cs.length - 1 - i]? := fun i hi => by
      rw [List.getElem?_append_left (by simpa using hi), List.getElem?_reverse hi]
    have at2 : (cs.reverse ++ [n])[cs.length]? = some n := by
      rw [List.getElem?_append_right (by simp), List.length_reverse, Nat.sub_self]
      rfl
    obtain ⟨ck, hck⟩ : ∃ c, cs[cs.length - 1]? = some c := ⟨_, List.getElem?_eq_getElem (by omega)⟩
    have pk := hl.at hck
    have hdk : cs.drop (cs.length - 1) = [ck] := by
      rw [drop_at hck, show cs.length - 1 + 1 = cs.length by omega, List.drop_length]
    dsimp only
    refine set_then (i := 3) ⟨line2.2.2.1, fun b1 hb1 => ⟨line2.2.2.1, fun b2 hb2 => ?_⟩⟩
    have s3 : Same G1 (upd G1 b1 (.lst [.bl true])) := of_upd hb1
    have s4 : Same (upd G1 b1 (.lst [.bl true])) (upd (upd G1 b1 (.lst [.bl true])) b2 (.lst [.bl false])) := of_upd hb2
    refine ⟨_, rfl, v, _, _, .int (ck : Int), rfl, rfl, SqT.of (s4 _ _ (s3 _ _ hv2)), ?_, _, _, rfl, rfl, b2, _, _, rfl, rfl, upd_same, by omega, by omega, ?_, fun b3 hb3 => ?_⟩
    · exact atI_nat (j := 0) (ni_at ((at1 0 lk).trans (by rw [Nat.sub_zero]; exact hck)))
    · show 1 * _ ≤ sizeLine
      exact Nat.le_trans (show 1 * ((ck : Int) - 1).toNat ≤ 1000 by omega) (by decide)
    have ek : ((ck : Int) - 1).toNat = ck - 1 := by omega
    rw [ek]
    have s5 : Same (upd (upd G1 b1 (.lst [.bl true])) b2 (.lst [.bl false])) _ := of_upd (o := .lst (List.replicate (ck - 1) [V.bl false]).flatten) hb3
    refine ⟨b1, b3, _, _, rfl, rfl, s5 _ _ (s4 _ _ upd_same), upd_same, ?_, fun D hD => ?_⟩
    · have := congrArg List.length (mv_first pk.1)
      rw [mv_len, List.length_append] at this
      rw [this]
      exact Nat.le_trans pk.2 (by decide)
    rw [mv_first pk.1]
    have s6 := ((s3.trans s4).trans s5).trans (of_upd (o := .lst (mv [ck] ck)) hD)
    have s7 := s2.trans s6
    have hv3 := s6 _ _ hv2
    clear s3 s4 s5 s6 hb1 hb2 hb3
    refine ⟨_, rfl, v, rfl, ⟨_, SqT.of hv3⟩, for_it walk_tup (fun i σ G => Same H G ∧ G v = some (.tup (ni (cs.reverse ++ [n]))) ∧ ∃ (D : Addr) (q : Option V), σ = [some (.ref a), some (.int (n : Int)), some (.ref v), some (.ref D), q] ∧
        (i ≤ cs.length → ∃ m, cs[cs.length - max i 1]? = some m ∧ G D = some (.lst (mv (cs.drop (cs.length - max i 1)) m))) ∧ (i = cs.length + 1 → G D = some (.lst (mv cs n))))
      ⟨s7, hv3, D, _, rfl, fun _ => ⟨ck, by rw [show max 0 1 = 1 from rfl]; exact hck, by rw [show max 0 1 = 1 from rfl, hdk]; exact upd_same⟩, fun h => by omega⟩ (fun i σ G _ z => SqT.of z.2.1) ?_ ?_⟩
    · rintro i x σ G G' hi ⟨s8, hv4, D, q, rfl, hD1, _⟩ ⟨rfl, hx⟩
      obtain ⟨y, hy, rfl⟩ := ni_get hx
      rw [ni_len, lenL] at hi
      obtain ⟨m, hm, hD2⟩ := hD1 (by omega)
      have pm := hl.at hm
      have y5 : y ≤ 5000 := by
        by_cases hik : i < cs.length
        · rw [at1 i hik] at hy
          have := (hl.at hy).2
          omega
        · have e : i = cs.length := by omega
          rw [e, at2] at hy
          cases hy
          exact hn
      refine ⟨_, rfl, _, rfl, _, rfl, D, _, rfl, .inl (SqL.of hD2), ?_⟩
      rw [mv_len]
      have eq : (y : Int) / (m : Int) = ((y / m : Nat) : Int) := rfl
      have q0 : (0 : Int) ≤ (y : Int) / (m : Int) := by rw [eq]; exact Int.natCast_nonneg _
      have q1 : (y : Int) / (m : Int) ≤ 5000 := by rw [eq]; exact Int.ofNat_le.mpr (Nat.le_trans (Nat.div_le_self _ _) y5)
      have kn : ((y : Int) / (m : Int) + 1).toNat = y / m + 1 := by rw [eq]; exact Int.toNat_natCast (y / m + 1)
      have dm := Nat.div_add_mod y m
      have dl := Nat.mod_lt y pm.1
      have bm : m * (y / m + 1) = m * (y / m) + m := Nat.mul_succ _ _
      have ym : y / m ≤ y := Nat.div_le_self _ _
      refine ⟨_, _, rfl, rfl, ⟨by omega, by omega⟩, _, _, rfl, rfl, D, _, _, rfl, rfl, hD2, by omega, by omega, ?_, fun D3 h3 => ⟨_, rfl, _, rfl, D3, _, rfl, SqL.of upd_same, fun D4 h4 => ?_⟩⟩
      · rw [mv_len, kn, bm]
        exact Nat.le_trans (show _ ≤ 6000 by omega) (by decide)
      have s9 := (of_upd (o := .lst (List.replicate ((y : Int) / (m : Int) + 1).toNat (mv (cs.drop (cs.length - max i 1)) m)).flatten) h3)
      have per : ∀ p, N.rem (cs.drop (cs.length - max i 1)) p = N.rem (cs.drop (cs.length - max i 1)) (p % m) := by
        rw [drop_at hm]
        exact per_cons m _
      have et : cutV (List.replicate ((y : Int) / (m : Int) + 1).toNat (mv (cs.drop (cs.length - max i 1)) m)).flatten none (some (y : Int)) = mv (cs.drop (cs.length - max i 1)) y := by
        rw [cut_to, kn, tile pm.1 per (by rw [Nat.mul_comm, bm]; omega)]
      refine ⟨(s8.trans s9).trans (of_upd h4), (of_upd h4) _ _ (s9 _ _ hv4), D4, _, rfl, fun hi2 => ?_, fun hi2 => ?_⟩
      · have hik : i < cs.length := by omega
        rw [at1 i hik] at hy
        refine ⟨y, ?_, ?_⟩
        · rw [show cs.length - max (i + 1) 1 = cs.length - 1 - i by omega]
          exact hy
        · rw [upd_same, et, show cs.length - max (i + 1) 1 = cs.length - 1 - i by omega]
          by_cases h0 : i = 0
          · subst h0
            rw [show cs.length - max 0 1 = cs.length - 1 - 0 by omega]
          · rw [drop_at hy, mv_cons, show cs.length - 1 - i + 1 = cs.length - max i 1 by omega]
      · have e : i = cs.length := by omega
        rw [e, at2] at hy
        cases hy
        rw [upd_same, et, show cs.length - max i 1 = 0 by omega, List.drop_zero]
    · rintro σ G ⟨s8, hv4, D, q, rfl, _, hD1⟩
      rw [ni_len, lenL] at hD1
      exact ⟨_, rfl, k D G s8 (hD1 rfl)⟩
end
end CP

end
section
set_option autoImplicit false
set_option Elab.async false
set_option linter.all false
set_option maxRecDepth 100000
set_option maxHeartbeats 4000000
/-! ## repr of small values; _law_same, _law_choose -/
namespace QR
open PySem PySem.Spec PyProof.Rows L2 G
inductive Sh (K : PySem.W.Frag) (H : Hp) : V → Str → Prop
  | non : Sh K H .non "None"
  | bl (b : Bool) : Sh K H (.bl b) (if b then "True" else "False")
  | int (i : Int) : i.natAbs.log2 < 1920 → Sh K H (.int i) (toString i)
  | ref {a : Addr} {d : PyData} : Dr K H true (.ref a) d → d.showable = true → d.depth ≤ 20 → d.leavesShort 13 = true → d.bulk ≤ 2 ^ 20 → Sh K H (.ref a) d.shown
def rReprS (K : PySem.W.Frag) : List V → Hp → VK → Prop := fun xs H Q => ∃ x t, xs = [x] ∧ Sh K H x t ∧ Q (.str t) H
section
variable {X : Cx}
theorem call_reprS (hg : X.A.guards = some []) (hu : X.A.units + 64 < cLine) : CallR X (.builtin "repr") (rReprS X.K) := by
  intro pins s σ H xs us Q I r h
  obtain ⟨x, t, rfl, hs, q⟩ := h
  cases hs with
  | non => exact call_reprF pins s σ H _ us Q I r (.inl ⟨rfl, q⟩)
  | bl b => exact call_reprF pins s σ H _ us Q I r (.inr (.inl ⟨b, rfl, q⟩))
  | int i hi => exact call_reprF pins s σ H _ us Q I r (.inr (.inr ⟨i, rfl, hi, q⟩))
  | @ref a d hd h1 h2 h3 h4 =>
    cases r with
    | cons rx rr =>
      cases rr
      cases rx
      obtain ⟨as, hr, _⟩ := Dr.reads I d _ _ hd rfl
      refine repr_of_reads' hr h1 (fun z => ?_) hg (by omega) (fun _ _ e => e) (fun h' u tk k => ⟨.str d.shown, H, I.kept (t' := tk) k, ⟨u, rfl⟩, q⟩) (PyData.shown_fits_bulk (by decide) (by decide) h3 h4)
      rw [Dr.noDict d _ hd] at z
      cases z
theorem ix_or {r1 r2 : R2} (h1 : IxR X r1) (h2 : IxR X r2) : IxR X (fun x y H Q => r1 x y H Q ∨ r2 x y H Q) := fun value slice pins s σ H x y v u Q I rx ry h hs => h.elim (fun h => h1 value slice pins s σ H x y v u Q I rx ry h hs) fun h => h2 value slice pins s σ H x y v u Q I rx ry h hs
end
end QR
namespace S
open PySem L2 QR
section
variable {P : Program} {w : World} {K : PySem.W.Frag} {mg : Str → Option Value} {base : Heap}
def spChoose (K : PySem.W.Frag) : Sp := fun vs H Q _ => ∃ (p l : Addr) (r m : Int) (xs : List V), vs = [.ref p, .ref l] ∧ H p = some (.lst (Two r m)) ∧ Fine r m ∧ l ≠ p ∧ (SqL K H l xs ∨ SqT K H l xs) ∧ 1 ≤ xs.length ∧ xs.length ≤ 1000 ∧
  ∀ (j : Nat) (x : V) (r' m' : Int), Fine r' m' → xs[j]? = some x → Q x (upd H p (.lst (Two r' m')))
theorem scCh : FnScope ["stream", "items"] ["stream", "items"] (defScope sPick) := ⟨rfl, rfl, rfl, by decide +kernel, rfl, by decide +kernel, by decide +kernel⟩
theorem keepL {H : Hp} {p l : Addr} {o : HO} {xs : List V} (hne : l ≠ p) (h : SqL K H l xs) : SqL K (upd H p o) l xs := by
  rcases h with (h | ⟨o, h⟩) | h
  · exact .inl (.inl (by rw [upd_ne hne]; exact h))
  · exact .inl (.inr ⟨o, by rw [upd_ne hne]; exact h⟩)
  · exact .inr h
theorem keepS {H : Hp} {p l : Addr} {o : HO} {xs : List V} (hne : l ≠ p) (h : SqT K H l xs) : SqT K (upd H p o) l xs := by
  rcases h with (h | ⟨o, h⟩) | h
  · exact .inl (.inl (by rw [upd_ne hne]; exact h))
  · exact .inl (.inr ⟨o, by rw [upd_ne hne]; exact h⟩)
  · exact .inr h
theorem ok_choose {f : Addr} {fd : FuncData} (F : Fun K "_law_choose" "_law_choose" sPick f fd) (hlen : mg "len" = none) (DR : Y.Df P w K mg base 1 "_law_draw" ["stream", "size"] spDraw) : FnOk P w K mg base CX0 2 f fd ["stream", "items"] (spChoose K) := by
  obtain ⟨fD, fdD, GD, gD, kD, bD⟩ := DR.ex
  refine F.ok scCh (fun vs H Q E h => ?_) (fun cdv A outer s H vs Q E hr h => ?_)
  · obtain ⟨p, l, r, m, xs, rfl, _⟩ := h
    rfl
  · obtain ⟨p, l, r, m, xs, rfl, hp, hf, hne, hL, l1, l2, k⟩ := h
    refine ⟨_, pss_one (ps_ret (pe_ix (ix_or ix_list ix_tup) (pv 1) (pe_call GD hr rfl gD kD bD .nil pass0 (pa_cons (pv 0) (pa_cons (pe_callB call_len_seq (by rfl) hlen PySem.boot_len (pa_cons (pv 1) pa_nil)) pa_nil))) (fun _ _ => rfl))), ?_⟩
    refine ⟨_, rfl, _, rfl, _, rfl, l, xs, rfl, hL, p, r, m, _, rfl, hp, hf, by omega, ?_, fun j r' m' hf' h0 h1 => ?_⟩
    · exact PySem.Flt.log2_lt_of (k := 9000) (by decide) (Nat.lt_of_lt_of_le (by omega : _ < 1001) (Nat.le_trans (by decide : 1001 ≤ 2 ^ 10) (Nat.pow_le_pow_right (by decide) (by decide))))
    · obtain ⟨n, rfl⟩ := Int.eq_ofNat_of_zero_le h0
      have hn : n < xs.length := by omega
      have hit : xs[n]? = some xs[n] := List.getElem?_eq_getElem hn
      rcases hL with hL | hL
      · exact .inl ⟨l, xs, _, xs[n], rfl, rfl, keepL hne hL, atI_nat hit, k n _ r' m' hf' hit⟩
      · exact .inr ⟨l, xs, _, xs[n], rfl, rfl, keepS hne hL, atI_nat hit, k n _ r' m' hf' hit⟩
end
end S

end
section
set_option autoImplicit false
set_option Elab.async false
set_option linter.all false
set_option maxRecDepth 100000
set_option maxHeartbeats 4000000
/-! ## draws: what they leave -/
namespace Y
open PySem L2 G
/-- all but the source at p stays -/
def Bt (p : Addr) (H H' : Hp) : Prop := (∀ a o, a ≠ p → H a = some o → H' a = some o) ∧ S.At H' p
theorem Bt.trans {p : Addr} {H H1 H2 : Hp} (a : Bt p H H1) (b : Bt p H1 H2) : Bt p H H2 := ⟨fun x o n e => b.1 x o n (a.1 x o n e), b.2⟩
theorem Bt.same {p : Addr} {H H' : Hp} (s : Same H H') (h : S.At H p) : Bt p H H' := by
  obtain ⟨r, m, e, f⟩ := h
  exact ⟨fun a o _ e2 => s _ _ e2, r, m, s _ _ e, f⟩
theorem Bt.put {p : Addr} {H : Hp} {r m : Int} (f : S.Fine r m) : Bt p H (upd H p (.lst (S.Two r m))) := ⟨fun a o n e => by rw [upd_ne n]; exact e, r, m, upd_same, f⟩
theorem Bt.new {p u : Addr} {H : Hp} (o : HO) (h : S.At H p) (hu : H u = none) : Bt p H (upd H u o) := Bt.same (of_upd hu) h
theorem at_ne {H : Hp} {p L : Addr} (h : S.At H p) (hL : H L = none) : L ≠ p := fun e => by
  obtain ⟨r, m, e2, _⟩ := h
  rw [e, e2] at hL
  cases hL
theorem bt_lst {p L : Addr} {H H' : Hp} {o : HO} (b : Bt p H H') (ne : L ≠ p) (h : H L = some o) : H' L = some o := b.1 L _ ne h
theorem sameAt {p : Addr} {H H' : Hp} (s : Same H H') (h : S.At H p) : S.At H' p := by
  obtain ⟨r, m, e, f⟩ := h
  exact ⟨r, m, s _ _ e, f⟩
theorem sameBt {p : Addr} {H G G' : Hp} (s : Same H G) (n : H p = none) (b : Bt p G G') : Same H G' := fun a o e => b.1 a o (fun z => by rw [z, n] at e; cases e) (s a o e)
theorem draw_at {H : Hp} {Q : VK} {E : XK} {p : Addr} {n : Int} (h : S.At H p) (n1 : 1 ≤ n) (n2 : n.natAbs.log2 < 9000) (k : ∀ j H', 0 ≤ j → j < n → Bt p H H' → Q (.int j) H') : S.spDraw [.ref p, .int n] H Q E := by
  obtain ⟨r, m, hp, hf⟩ := h
  exact ⟨p, r, m, n, rfl, hp, hf, n1, n2, fun j r1 m1 f1 j0 j1 => k j _ j0 j1 (Bt.put f1)⟩
/-- a draw as it stands in an expression: below a written number, or below what a name holds -/
theorem draw_vv {σ : L2.St} {H : Hp} {Q : VK} {E : XK} {p : Addr} {i : Nat} {n : Int} (hσ : σ[i]? = some (some (.ref p))) (h : S.At H p) (n1 : 1 ≤ n) (n2 : n.natAbs.log2 < 9000) (k : ∀ j H', 0 ≤ j → j < n → Bt p H H' → Q (.int j) H') : tCall S.spDraw [] E (tCons (tVar i) (tCons (tC (.int n)) tNil)) σ H Q := ⟨_, hσ, draw_at (E := E) h n1 n2 k⟩
theorem draw_var {σ : L2.St} {H : Hp} {Q : VK} {E : XK} {p : Addr} {i j : Nat} {n : Int} (hσ : σ[i]? = some (some (.ref p))) (hj : σ[j]? = some (some (.int n))) (h : S.At H p) (n1 : 1 ≤ n) (n2 : n.natAbs.log2 < 9000) (k : ∀ j H', 0 ≤ j → j < n → Bt p H H' → Q (.int j) H') : tCall S.spDraw [] E (tCons (tVar i) (tCons (tVar j) tNil)) σ H Q := ⟨_, hσ, _, hj, draw_at (E := E) h n1 n2 k⟩
theorem draw_of {σ : L2.St} {H : Hp} {Q : VK} {p : Addr} {E : XK} {i : Nat} {c n : Int} (hσ : σ[i]? = some (some (.ref p))) (h : S.At H p) (n1 : 1 ≤ n) (n2 : n.natAbs.log2 < 9000) (k : ∀ j H', 0 ≤ j → j < n → Bt p H H' → Q (.int (c + j)) H') :
    tOp (rI0 fun i j => .int (i + j)) (tC (.int c)) (tCall S.spDraw [] E (tCons (tVar i) (tCons (tC (.int n)) tNil))) σ H Q := by
  obtain ⟨r, m, hp, hf⟩ := h
  exact ⟨_, hσ, p, r, m, n, rfl, hp, hf, n1, n2, fun j r1 m1 f1 j0 j1 => ⟨_, _, rfl, rfl, k j _ j0 j1 (Bt.put f1)⟩⟩
theorem draw_w {σ : L2.St} {H : Hp} {Q : VK} {E : XK} {p : Addr} {i j : Nat} {c n : Int} (hσ : σ[i]? = some (some (.ref p))) (hj : σ[j]? = some (some (.int n))) (h : S.At H p) (n1 : 1 ≤ n) (n2 : n.natAbs.log2 < 9000) (k : ∀ x H', 0 ≤ x → x < n → Bt p H H' → Q (.int (c + x)) H') :
    tOp (rI0 fun i j => .int (i + j)) (tC (.int c)) (tCall S.spDraw [] E (tCons (tVar i) (tCons (tVar j) tNil))) σ H Q := by
  obtain ⟨r, m, hp, hf⟩ := h
  exact ⟨_, hσ, _, hj, p, r, m, n, rfl, hp, hf, n1, n2, fun x r1 m1 f1 j0 j1 => ⟨_, _, rfl, rfl, k x _ j0 j1 (Bt.put f1)⟩⟩
/-- a pick from a list just made -/
theorem pick_at {K : PySem.W.Frag} {H : Hp} {Q : VK} {p l : Addr} {E : XK} {xs : List V} (h : S.At H p) (hl : H l = none) (h1 : 1 ≤ xs.length) (h2 : xs.length ≤ 1000) (k : ∀ x H', x ∈ xs → Bt p H H' → Q x H') : S.spPick K [.ref p, .ref l] (upd H l (.lst xs)) Q E := by
  obtain ⟨r, m, hp, hf⟩ := h
  have lp : l ≠ p := fun z => by
    rw [z, hp] at hl
    cases hl
  exact ⟨p, l, r, m, xs, rfl, by rw [upd_ne lp.symm]; exact hp, hf, lp, SqL.of upd_same, h1, h2, fun j x r2 m2 f2 hx => k x _ (List.mem_of_getElem? hx) ((Bt.same (of_upd hl) ⟨r, m, hp, hf⟩).trans (Bt.put f2))⟩
theorem pick_of {K : PySem.W.Frag} {σ : L2.St} {H : Hp} {Q : VK} {p : Addr} {E : XK} {i : Nat} {xs : List V} {ta : TA} (hσ : σ[i]? = some (some (.ref p))) (h : S.At H p) (h1 : 1 ≤ xs.length) (h2 : xs.length ≤ 1000) (ha : ∀ Q2 : List V → Hp → Prop, Q2 xs H → ta σ H Q2) (k : ∀ x H', x ∈ xs → Bt p H H' → Q x H') :
    tCall (S.spPick K) [] E (tCons (tVar i) (tCons (tLst ta) tNil)) σ H Q := ⟨_, hσ, ha _ ⟨Nat.le_trans h2 (by decide), fun l hl => pick_at (E := E) h hl h1 h2 k⟩⟩
end Y

end
section
set_option autoImplicit false
set_option Elab.async false
set_option linter.all false
set_option maxRecDepth 100000
set_option maxHeartbeats 4000000
/-! ## the law's cuts -/
namespace Y
open PySem L2 G
theorem choose_at {K : PySem.W.Frag} {H : Hp} {Q : VK} {p l : Addr} {E : XK} {xs : List V} (h : S.At H p) (ne : l ≠ p) (hl : SqL K H l xs ∨ SqT K H l xs) (h1 : 1 ≤ xs.length) (h2 : xs.length ≤ 1000) (k : ∀ x H', x ∈ xs → Bt p H H' → Q x H') : S.spChoose K [.ref p, .ref l] H Q E := by
  obtain ⟨r, m, hp, hf⟩ := h
  exact ⟨p, l, r, m, xs, rfl, hp, hf, ne, hl, h1, h2, fun j x r2 m2 f2 hx => k x _ (List.mem_of_getElem? hx) (Bt.put f2)⟩
end Y
namespace CP
open PySem L2 G Y
abbrev sLCt : Stmt := S.top 28
theorem cuts_rev {ns : List Int} {hi : Int} (hp : ns.Pairwise (· < ·)) (hb : ∀ z ∈ ns, 1 ≤ z ∧ z ≤ hi) (h1 : hi ≤ 1000) (hl : ns.length ≤ 1000) : ∃ cs : List Nat, (ns.map V.int).reverse = ni cs ∧ Cuts cs ∧ cs.length = ns.length ∧ ∀ c ∈ cs, (c : Int) ≤ hi := by
  refine ⟨(ns.map Int.toNat).reverse, ?_, ⟨?_, ?_, by simp; exact hl⟩, by simp, ?_⟩
  · unfold ni
    rw [List.map_reverse, List.map_reverse, List.map_map, List.map_map]
    congr 1
    refine List.map_congr_left fun z hz => ?_
    have := hb z hz
    show V.int z = V.int ((z.toNat : Nat) : Int)
    rw [Int.toNat_of_nonneg (by omega)]
  · induction ns with
    | nil => trivial
    | cons a r ih =>
      have hr := ih (List.pairwise_cons.mp hp).2 (fun z hz => hb z (List.mem_cons_of_mem _ hz)) (by simp at hl; omega)
      rw [List.map_cons, List.reverse_cons]
      refine N.fall_snoc hr (by have := hb a List.mem_cons_self; omega) fun d hd => ?_
      rw [List.mem_reverse] at hd
      obtain ⟨z, hz, rfl⟩ := List.mem_map.mp hd
      have := (List.pairwise_cons.mp hp).1 z hz
      have := hb z (List.mem_cons_of_mem _ hz)
      have := hb a List.mem_cons_self
      omega
  · intro c hc
    rw [List.mem_reverse] at hc
    obtain ⟨z, hz, rfl⟩ := List.mem_map.mp hc
    have := hb z hz
    omega
  · intro c hc
    rw [List.mem_reverse] at hc
    obtain ⟨z, hz, rfl⟩ := List.mem_map.mp hc
    have := hb z hz
    omega
/-- at most six, each at most thirty -/
abbrev Sz (cs : List Nat) : Prop := cs.length ≤ 6 ∧ ∀ c ∈ cs, c ≤ 30
/-- some of a list of tuples, all of them cuts -/
def CutsAt (H : Hp) (xs : List V) : Prop := ∀ x ∈ xs, ∃ t cs, x = .ref t ∧ H t = some (.tup (ni cs)) ∧ Cuts cs ∧ Sz cs
theorem CutsAt.nil {H : Hp} : CutsAt H [] := fun x h => by cases h
theorem CutsAt.snoc {H : Hp} {xs : List V} {t : Addr} {cs : List Nat} (h : CutsAt H xs) (ht : H t = none) (hc : Cuts cs) (hl : Sz cs) : CutsAt (upd H t (.tup (ni cs))) (xs ++ [.ref t]) := fun x hx => by
  rcases List.mem_append.mp hx with q | q
  · obtain ⟨u, ds, e, h1, h2⟩ := h x q
    exact ⟨u, ds, e, (of_upd ht) _ _ h1, h2⟩
  · exact ⟨t, cs, List.mem_singleton.mp q, upd_same, hc, hl⟩
theorem choose_cuts {K : PySem.W.Frag} {G : Hp} {Q : VK} {E : XK} {p l : Addr} {xs : List V} (hA : S.At G p) (hl : G l = none) (hx : CutsAt G xs) (h1 : 1 ≤ xs.length) (h2 : xs.length ≤ 1000)
    (k : ∀ t cs H', Bt p G H' → H' t = some (.tup (ni cs)) → Cuts cs → Sz cs → Q (.ref t) H') : S.spChoose K [.ref p, .ref l] (upd G l (.lst xs)) Q E :=
  choose_at (sameAt (of_upd hl) hA) (at_ne hA hl) (.inl (SqL.of upd_same)) h1 h2 fun x H' hx2 b => by
    obtain ⟨t, cs, rfl, ht, hc, h6⟩ := hx x hx2
    have b2 := (Bt.new (.lst xs) hA hl).trans b
    refine k t cs H' b2 (b2.1 t _ (fun z => ?_) ht) hc h6
    obtain ⟨r, m, e, _⟩ := hA
    rw [z, e] at ht
    cases ht
section
variable {P : Program} {w : World} {K : PySem.W.Frag} {mg : Str → Option Value} {base : Heap} {C : Addr}
def spLCt : Sp := fun vs H Q _ => ∃ (p : Addr) (hi : Int), vs = [.ref p, .int hi] ∧ S.At H p ∧ 1 ≤ hi ∧ hi ≤ 30 ∧ ∀ t cs H', Bt p H H' → H' t = some (.tup (ni cs)) → Cuts cs → Sz cs → Q (.ref t) H'
abbrev NLt : List Str := ["stream", "most", "kind", "some", "turn"]
theorem scLt : FnScope NLt ["stream", "most"] (defScope sLCt) := ⟨rfl, rfl, rfl, by decide +kernel, rfl, by decide +kernel, by decide +kernel⟩
abbrev t3 (X : Cx) : Prop := True
theorem ok_lct {f : Addr} {fd : FuncData} (F : Fun K "_law_cuts" "_law_cuts" sLCt f fd) (B : Bn mg) (D : Df P w K mg base 1 "_law_draw" ["stream", "size"] S.spDraw) (DC : Df P w K mg base 2 "_law_choose" ["stream", "items"] (S.spChoose K)) : FnOk P w K mg base CX0 3 f fd ["stream", "most"] spLCt := by
  obtain ⟨fD, fdD, GD, gD, kD, bD⟩ := D.ex
  obtain ⟨fC, fdC, GC, gC, kC, bC⟩ := DC.ex
  refine F.ok scLt (fun vs H Q E h => ?_) (fun cdv A outer s H vs Q E hr h => ?_)
  · obtain ⟨p, hi, rfl, _⟩ := h
    rfl
  · obtain ⟨p, hi, rfl, hp, h1, h2, k⟩ := h
    refine ⟨_, pss_cons (ps_set (i := 2) scLt.nd rfl (Or.inl rfl) (pe_call GD (hr.mono (by decide)) rfl gD kD bD .nil pass0 (pa_cons (pv 0) (pa_cons (pe_int) pa_nil))))
      (pss_cons (ps_if (pt_cmpR (op_eq) (pv 2) (pe_int) (nomark _)) (pss_cons (ps_set (i := 3) scLt.nd rfl (Or.inl rfl) (pe_lst (pa_cons (pe_tup (pa_cons (pe_int) (pa_cons (pe_int) (pa_cons (pe_int) (pa_cons (pe_int) pa_nil))))) (pa_cons (pe_tup (pa_cons (pe_int) (pa_cons (pe_int) (pa_cons (pe_int) (pa_cons (pe_int) pa_nil))))) (pa_cons (pe_tup (pa_cons (pe_int) (pa_cons (pe_int) (pa_cons (pe_int) (pa_cons (pe_int) pa_nil))))) (pa_cons (pe_tup (pa_cons (pe_int) (pa_cons (pe_int) (pa_cons (pe_int) (pa_cons (pe_int) (pa_cons (pe_int) (pa_cons (pe_int) pa_nil))))))) (pa_cons (pe_tup (pa_cons (pe_int) (pa_cons (pe_int) (pa_cons (pe_int) (pa_cons (pe_int) pa_nil))))) pa_nil)))))))
      (pss_one (ps_ret (pe_call GC (hr.mono (by decide)) rfl gC kC bC .nil pass0 (pa_cons (pv 0) (pa_cons (pv 3) pa_nil)))))) (pss_nil))
      (pss_cons (ps_if (pt_cmpR (op_eq) (pv 2) (pe_int) (nomark _)) (pss_cons (ps_set (i := 3) scLt.nd rfl (Or.inl rfl) (pe_lst (pa_cons (pe_tup pa_nil) (pa_cons (pe_tup (pa_cons (pe_int) pa_nil)) (pa_cons (pe_tup (pa_cons (pe_int) (pa_cons (pe_int) (pa_cons (pe_int) (pa_cons (pe_int) (pa_cons (pe_int) pa_nil)))))) (pa_cons (pe_tup (pa_cons (pe_int) (pa_cons (pe_int) (pa_cons (pe_int) (pa_cons (pe_int) pa_nil))))) (pa_cons (pe_tup (pa_cons (pe_int) (pa_cons (pe_int) (pa_cons (pe_int) (pa_cons (pe_int) (pa_cons (pe_int) pa_nil)))))) (pa_cons (pe_tup (pa_cons (pe_int) (pa_cons (pe_int) (pa_cons (pe_int) pa_nil)))) (pa_cons (pe_tup (pa_cons (pe_int) (pa_cons (pe_int) (pa_cons (pe_int) pa_nil)))) pa_nil)))))))))
      (pss_one (ps_ret (pe_call GC (hr.mono (by decide)) rfl gC kC bC .nil pass0 (pa_cons (pv 0) (pa_cons (pv 3) pa_nil)))))) (pss_nil))
      (pss_cons (ps_setLc (i := 3) (own := [("turn", 4)]) (g := gName 4) (tt := tYes) (te := tOp (rI0 fun i j => .int (i + j)) (tC (.int 1)) (tCall S.spDraw [] E0 (tCons (tVar 0) (tCons (tVar 1) tNil)))) rfl scLt.nd rfl rfl (sw_true rfl rfl rfl (by decide +kernel)) (pi_range1 (by rfl) B.range (pa_cons (pe_call GD (hr.mono (by decide)) rfl gD kD bD .nil pass0 (pa_cons (pv 0) (pa_cons (pe_int) pa_nil))) pa_nil)) (blkOk_by (N := NLt) (sc := defScope sLCt) (by decide +kernel))
          (fun _ _ _ _ _ => pg_name (i := 4) scLt.nd rfl (Or.inl rfl)) (fun _ _ _ _ _ => pts_nil) (fun _ _ _ _ _ => by exact pe_op op_add pe_int (pe_call GD (hr.mono (by decide)) rfl gD kD bD .nil pass0 (pa_cons (pv 0) (pa_cons (pv 1) pa_nil)))))
      (pss_cons (ps_if (PW.pt (pw_and (pt_cmpR (op_eq) (pv 2) (pe_int) (nomark _)) (pw_and1 (pt_cmpR (op_neD hr.units) (pv 3) (pe_lst pa_nil) (nomark _))))) (pss_one (ps_expr (pe_bm PySem.F.plainAttrs_list PySem.F.slot_list_append PySem.F.type_list_append mt_append (pv 3) (pa_cons (pe_callB (call_min2 rfl) (by rfl) B.min (by decide +kernel) (pa_cons (pv 1) (pa_cons (pe_op op_mul (pe_callB (cr_min rfl) (by rfl) B.min (by decide +kernel) (pa_cons (pv 3) pa_nil)) (pe_op op_add (pe_int) (pe_call GD (hr.mono (by decide)) rfl gD kD bD .nil pass0 (pa_cons (pv 0) (pa_cons (pe_int) pa_nil))))) pa_nil))) pa_nil)))) (pss_nil))
      (pss_one (ps_ret (pe_callTy call_tuple_of (by rfl) B.tuple (by decide +kernel) (pa_cons (pe_revL (pe_callB (cr_sortedSet rfl) (by rfl) B.sorted (by decide +kernel) (pa_cons (pe_callTy (WS.cr_setL rfl) (by rfl) B.set (by decide +kernel) (pa_cons (pv 3) pa_nil)) pa_nil))) pa_nil)))))))), ?_⟩
    refine set_then (i := 2) (draw_vv rfl hp (by decide) (by decide +kernel) fun kd H1 k0 k6 b1 => ?_)
    refine ⟨_, rfl, rfl, _, rfl, ite2 (fun c => ?_) (fun c => ?_)⟩
    · clear c
      refine set_then (i := 3) ⟨by decide, fun t0 e0 => ⟨by decide, fun t1 e1 => ⟨by decide, fun t2 e2 => ⟨by decide, fun t3 e3 => ⟨by decide, fun t4 e4 => ⟨Nat.le_trans (show _ ≤ 7 by simp) (by decide), fun l hl => ?_⟩⟩⟩⟩⟩⟩
      have hc := (((((CutsAt.nil (H := H1)).snoc (cs := [10, 8, 5, 3]) e0 ⟨by simp [N.Fall], by simp, by simp⟩ (by decide)).snoc (cs := [16, 13, 7, 3]) e1 ⟨by simp [N.Fall], by simp, by simp⟩ (by decide)).snoc (cs := [16, 10, 7, 3]) e2 ⟨by simp [N.Fall], by simp, by simp⟩ (by decide)).snoc (cs := [20, 17, 13, 10, 7, 3]) e3 ⟨by simp [N.Fall], by simp, by simp⟩ (by decide)).snoc (cs := [5, 4, 3, 2]) e4 ⟨by simp [N.Fall], by simp, by simp⟩ (by decide)
      have sm := (((((Same.refl H1).trans (of_upd (o := .tup (ni [10, 8, 5, 3])) e0)).trans (of_upd (o := .tup (ni [16, 13, 7, 3])) e1)).trans (of_upd (o := .tup (ni [16, 10, 7, 3])) e2)).trans (of_upd (o := .tup (ni [20, 17, 13, 10, 7, 3])) e3)).trans (of_upd (o := .tup (ni [5, 4, 3, 2])) e4)
      exact ⟨_, rfl, _, rfl, choose_cuts (E := E0) (sameAt sm b1.2) hl hc (by simp) (by simp) fun t cs H' b => k t cs H' ((b1.trans (Bt.same sm b1.2)).trans b)⟩
    clear c
    refine ⟨_, rfl, rfl, _, rfl, ite2 (fun c => ?_) (fun c => ?_)⟩
    · clear c
      refine set_then (i := 3) ⟨by decide, fun t0 e0 => ⟨by decide, fun t1 e1 => ⟨by decide, fun t2 e2 => ⟨by decide, fun t3 e3 => ⟨by decide, fun t4 e4 => ⟨by decide, fun t5 e5 => ⟨by decide, fun t6 e6 => ⟨Nat.le_trans (show _ ≤ 7 by simp) (by decide), fun l hl => ?_⟩⟩⟩⟩⟩⟩⟩⟩
      have hc := (((((((CutsAt.nil (H := H1)).snoc (cs := []) e0 ⟨by simp [N.Fall], by simp, by simp⟩ (by decide)).snoc (cs := [1]) e1 ⟨by simp [N.Fall], by simp, by simp⟩ (by decide)).snoc (cs := [20, 17, 13, 7, 3]) e2 ⟨by simp [N.Fall], by simp, by simp⟩ (by decide)).snoc (cs := [9, 8, 5, 3]) e3 ⟨by simp [N.Fall], by simp, by simp⟩ (by decide)).snoc (cs := [14, 13, 11, 7, 3]) e4 ⟨by simp [N.Fall], by simp, by simp⟩ (by decide)).snoc (cs := [12, 8, 4]) e5 ⟨by simp [N.Fall], by simp, by simp⟩ (by decide)).snoc (cs := [30, 6, 4]) e6 ⟨by simp [N.Fall], by simp, by simp⟩ (by decide)
      have sm := (((((((Same.refl H1).trans (of_upd (o := .tup (ni [])) e0)).trans (of_upd (o := .tup (ni [1])) e1)).trans (of_upd (o := .tup (ni [20, 17, 13, 7, 3])) e2)).trans (of_upd (o := .tup (ni [9, 8, 5, 3])) e3)).trans (of_upd (o := .tup (ni [14, 13, 11, 7, 3])) e4)).trans (of_upd (o := .tup (ni [12, 8, 4])) e5)).trans (of_upd (o := .tup (ni [30, 6, 4])) e6)
      exact ⟨_, rfl, _, rfl, choose_cuts (E := E0) (sameAt sm b1.2) hl hc (by simp) (by simp) fun t cs H' b => k t cs H' ((b1.trans (Bt.same sm b1.2)).trans b)⟩
    clear c
    -- some small ones
    unfold tNext
    dsimp only
    obtain ⟨r0, m0, e0, f0⟩ := b1.2
    refine set_then (i := 3) ⟨_, rfl, p, r0, m0, 6, rfl, e0, f0, by decide, by decide +kernel, fun j r1 m1 f1 j0 j1 => ⟨_, rfl, by omega, by omega, fun D0 nD => ?_⟩⟩
    have b2 := b1.trans (Bt.put (r := r1) (m := m1) f1)
    have b2' : Bt p H1 (upd H1 p (.lst (S.Two r1 m1))) := Bt.put f1
    generalize upd H1 p (.lst (S.Two r1 m1)) = H2 at b2 b2' nD ⊢
    have ne := at_ne b2.2 nD
    refine lc_range (lo := 0) (n := j.toNat) (fun i G => Bt p H2 G ∧ ∃ l : List Nat, G D0 = some (.lst (ni l)) ∧ l.length = i ∧ ∀ z ∈ l, 1 ≤ z ∧ (z : Int) ≤ hi) ⟨Bt.new (.lst []) b2.2 nD, [], upd_same, rfl, fun z hz => by cases hz⟩ ?_ ?_
    · rintro i G hi2 ⟨bG, l, hD, hn, hz⟩
      refine ⟨rfl, draw_w rfl rfl bG.2 h1 (PySem.Flt.log2_lt_of (k := 9000) (by decide) (Nat.lt_of_lt_of_le (by omega : _ < 1001) (Nat.le_trans (by decide : 1001 ≤ 2 ^ 10) (Nat.pow_le_pow_right (by decide) (by decide))))) fun d G1 d0 d1 b3 => ⟨_, bt_lst b3 ne hD, ?_, ?_⟩⟩
      · rw [ni_len]
        exact small1000 (by omega)
      · obtain ⟨n, rfl⟩ := Int.eq_ofNat_of_zero_le d0
        have b4 := bG.trans b3
        refine ⟨⟨fun a o n e => ?_, ?_⟩, l ++ [1 + n], by rw [upd_same, ni_app]; rfl, by simp; exact hn, ?_⟩
        · rw [upd_ne (fun z => by rw [z, nD] at e; cases e)]
          exact b4.1 a o n e
        · obtain ⟨r, m, e, f⟩ := b4.2
          exact ⟨r, m, by rw [upd_ne ne.symm]; exact e, f⟩
        · intro z hz2
          rcases List.mem_append.mp hz2 with q | q
          · exact hz z q
          · rw [List.mem_singleton.mp q]
            omega
    rintro G ⟨bG, l, hD, hn, hz⟩
    have b3 := b2.trans bG
    have l5 : l.length ≤ 5 := by omega
    have fin : ∀ (G' : Hp) (l' : List Nat), Bt p H G' → G' D0 = some (.lst (ni l')) → l'.length ≤ 6 → (∀ z ∈ l', 1 ≤ z ∧ (z : Int) ≤ hi) → tRet (tCB (fun xs H Q => ∃ p ys, xs = [V.ref p] ∧ ((SqL K H p ys ∧ ∀ l, H l = none → Q (.ref l) (upd H l (.tup ys))) ∨ (SqT K H p ys ∧ Q (.ref p) H))) (tCons (tRevL K (tCB (rSortedSet w) (tCons (tCB (WS.rSetL K w) (tCons (tVar 3) tNil)) tNil))) tNil)) { nx := fun _ H' => Q .non H', rt := Q } [some (.ref p), some (.int hi), some (.int kd), some (.ref D0), none] G' := fun G' l' b4 hD' l6 hz' => by
      have alls : ∀ z ∈ l'.map fun n => ((n : Nat) : Int), 1 ≤ z ∧ z ≤ hi := fun z hz2 => by
        obtain ⟨n, hn2, rfl⟩ := List.mem_map.mp hz2
        have := hz' n hn2
        omega
      refine ⟨_, rfl, D0, l'.map fun n => ((n : Nat) : Int), rfl, SqL.of hD', by simp; omega, fun S1 c nS hc => ⟨S1, _, c, rfl, upd_same, by simp at hc; omega, fun os D1 hpw hmem hln nD1 => ?_⟩⟩
      obtain ⟨cs, e1, e2, e3, e4⟩ := cuts_rev hpw (fun z hz2 => alls z (of_decide_eq_true ((hmem z).mp hz2))) (by omega) (by simp at hc; omega)
      refine ⟨_, _, rfl, SqL.of upd_same, fun D2 nD2 => ?_⟩
      rw [e1]
      refine ⟨D2, _, rfl, .inl ⟨SqL.of upd_same, fun t nt => ?_⟩⟩
      have b5 := b4.trans (Bt.new (SetO w S1 (fun k => decide (k ∈ l'.map fun n => ((n : Nat) : Int))) c) b4.2 nS)
      have b6 := b5.trans (Bt.new (.lst (os.map V.int)) b5.2 nD1)
      have b7 := b6.trans (Bt.new (.lst (ni cs)) b6.2 nD2)
      exact k t cs _ (b7.trans (Bt.new (.tup (ni cs)) b7.2 nt)) upd_same e2 ⟨by simp at hc; omega, fun c hcc => by have := e4 c hcc; omega⟩
    have hz2 : ∀ z ∈ l, 1 ≤ z ∧ (z : Int) ≤ hi := hz
    refine ⟨_, rfl, rfl, _, rfl, ite2 (fun c => ?_) (fun c => ?_)⟩
    · refine ⟨_, rfl, line2.2.2.2, fun e he => ?_⟩
      have b4 := Bt.new (.lst []) bG.2 he
      have bGe : Bt p G (upd G e (.lst [])) := Bt.new (.lst []) bG.2 he
      have hD2 := (of_upd (o := .lst []) he) _ _ hD
      refine ne_nil (l := l) (SqL.of hD2) (SqL.of upd_same) ⟨_, rfl, ?_⟩
      by_cases hl : l = []
      · rw [decide_eq_true hl]
        exact iteF (fin _ l (b3.trans bGe) hD2 (by omega) hz2)
      · rw [decide_eq_false hl]
        refine iteT ⟨_, rfl, .inl ⟨rfl, _, SqL.of hD2⟩, _, rfl, _, rfl, D0, l.map fun n => ((n : Nat) : Int), rfl, SqL.of hD2, by simpa using List.length_pos_iff.mpr hl, fun m hm _ => ?_⟩
        obtain ⟨n, hn2, rfl⟩ := List.mem_map.mp hm
        have nz := hz n hn2
        refine draw_of rfl b4.2 (by decide) (by decide +kernel) fun d G1 d0 d1 b5 => ?_
        have hD3 := bt_lst b5 ne hD2
        obtain ⟨x, rfl⟩ := Int.eq_ofNat_of_zero_le d0
        refine ⟨_, _, rfl, rfl, .inl ⟨by omega, by omega⟩, _, _, rfl, D0, _, _, rfl, rfl, hD3, by rw [ni_len]; exact small1000 (by omega), ?_⟩
        have b6 := (b3.trans bGe).trans b5
        have pos : (1 : Int) ≤ (n : Int) * (1 + (x : Int)) := by
          have e : (n : Int) * (1 + (x : Int)) = ((n * (1 + x) : Nat) : Int) := by
            rw [Int.natCast_mul, Int.natCast_add]
            rfl
          have := Nat.mul_pos (show 0 < n by omega) (show 0 < 1 + x by omega)
          omega
        have hv : ∃ v : Nat, (if (n : Int) * (1 + (x : Int)) < hi then (n : Int) * (1 + (x : Int)) else hi) = (v : Int) ∧ 1 ≤ v ∧ (v : Int) ≤ hi := by
          generalize (n : Int) * (1 + (x : Int)) = y at pos
          split
          · exact ⟨y.toNat, by omega, by omega, by omega⟩
          · exact ⟨hi.toNat, by omega, by omega, by omega⟩
        obtain ⟨v, ev, v1, v2⟩ := hv
        have ev2 := congrArg V.int ev
        refine fin _ (l ++ [v]) ⟨fun a o n e => ?_, ?_⟩ ?_ (by simp; omega) fun z hz3 => ?_
        · rw [upd_ne (fun z => ?_)]
          · exact b6.1 a o n e
          · rw [z] at e
            have e2 := b2.1 D0 o ne e
            rw [nD] at e2
            cases e2
        · obtain ⟨r, m, e, f⟩ := b6.2
          exact ⟨r, m, by rw [upd_ne ne.symm]; exact e, f⟩
        · rw [upd_same, ni_app, ev]
          rfl
        · rcases List.mem_append.mp hz3 with q | q
          · exact hz z q
          · rw [List.mem_singleton.mp q]
            exact ⟨v1, v2⟩
    · exact fin G l b3 hD (by omega) hz2
end
end CP

end
section
set_option autoImplicit false
set_option linter.all false
/-! ## periods of beginnings -/
namespace N
/-- f i = f (i + q) for n places from i on -/
def per (f : Nat → Bool) (q : Nat) : Nat → Nat → Bool
  | 0, _ => true
  | n + 1, i => (f i == f (i + q)) && per f q n (i + 1)
/-- q is a period of the first k places -/
def Pd (f : Nat → Bool) (k q : Nat) : Bool := per f q (k - q) 0
def lpF (f : Nat → Bool) (k : Nat) : Nat → Nat → Nat
  | 0, q => q
  | s + 1, q => if Pd f k q = true then q else lpF f k s (q + 1)
/-- the least period of the first k places -/
def lp (f : Nat → Bool) (k : Nat) : Nat := lpF f k (k - 1) 1
def nrmF (f : Nat → Bool) : Nat → Nat → List Nat
  | 0, _ => []
  | s + 1, n => if lp f n < n then lp f n :: nrmF f s (lp f n) else []
/-- the least period, that of the places below it, and so on -/
def nrm (f : Nat → Bool) (n : Nat) : List Nat := nrmF f n n
theorem per_iff {f : Nat → Bool} {q : Nat} : ∀ n i, per f q n i = true ↔ ∀ j, i ≤ j → j < i + n → f j = f (j + q)
  | 0, i => ⟨fun _ j h1 h2 => by omega, fun _ => rfl⟩
  | n + 1, i => by
    unfold per
    rw [Bool.and_eq_true, per_iff n (i + 1), beq_iff_eq]
    constructor
    · rintro ⟨a, b⟩ j h1 h2
      by_cases e : j = i
      · rw [e]
        exact a
      · exact b j (by omega) (by omega)
    · exact fun h => ⟨h i (Nat.le_refl _) (by omega), fun j h1 h2 => h j (by omega) (by omega)⟩
theorem pd_iff {f : Nat → Bool} {k q : Nat} : Pd f k q = true ↔ ∀ i, i + q < k → f i = f (i + q) := by
  unfold Pd
  rw [per_iff]
  exact ⟨fun h i hi => h i (Nat.zero_le _) (by omega), fun h i _ hi => h i (by omega)⟩
theorem pd_self (f : Nat → Bool) (k q : Nat) (h : k ≤ q) : Pd f k q = true := pd_iff.mpr fun i hi => by omega
theorem lpF_spec {f : Nat → Bool} {k : Nat} : ∀ s q, q ≤ lpF f k s q ∧ lpF f k s q ≤ q + s ∧ (∀ j, q ≤ j → j < lpF f k s q → Pd f k j = false) ∧ (lpF f k s q < q + s → Pd f k (lpF f k s q) = true)
  | 0, q => ⟨Nat.le_refl _, Nat.le_refl _, fun j h1 h2 => absurd (show j < q from h2) (by omega), fun h => absurd (show q < q + 0 from h) (by omega)⟩
  | s + 1, q => by
    unfold lpF
    by_cases c : Pd f k q = true
    · rw [if_pos c]
      exact ⟨Nat.le_refl _, by omega, fun j h1 h2 => by omega, fun _ => c⟩
    · rw [if_neg c]
      obtain ⟨h1, h2, h3, h4⟩ := lpF_spec (f := f) (k := k) s (q + 1)
      refine ⟨by omega, by omega, fun j j1 j2 => ?_, fun h => h4 (by omega)⟩
      by_cases e : j = q
      · rw [e]
        simpa using c
      · exact h3 j (by omega) j2
theorem lp_spec {f : Nat → Bool} {k : Nat} (h : 0 < k) : 1 ≤ lp f k ∧ lp f k ≤ k ∧ Pd f k (lp f k) = true ∧ ∀ q, 1 ≤ q → Pd f k q = true → lp f k ≤ q := by
  obtain ⟨h1, h2, h3, h4⟩ := lpF_spec (f := f) (k := k) (k - 1) 1
  refine ⟨h1, by unfold lp; omega, ?_, fun q q1 hq => ?_⟩
  · by_cases c : lpF f k (k - 1) 1 < 1 + (k - 1)
    · exact h4 c
    · exact pd_self f k _ (by unfold lp; omega)
  · by_cases c : lp f k ≤ q
    · exact c
    · have := h3 q q1 (by unfold lp at c; omega)
      rw [hq] at this
      cases this
theorem lp_zero (f : Nat → Bool) : lp f 0 = 1 := rfl
theorem lp_eq {f : Nat → Bool} {k r : Nat} (h : 0 < k) (r1 : 1 ≤ r) (hr : Pd f k r = true) (least : ∀ q, 1 ≤ q → q ≤ k → Pd f k q = true → r ≤ q) : lp f k = r := by
  obtain ⟨h1, h2, h3, h4⟩ := lp_spec (f := f) h
  exact Nat.le_antisymm (h4 r r1 hr) (least _ h1 h2 h3)
/-- what stands at the k-th place of the borders -/
def bd (f : Nat → Bool) (k : Nat) : Int := (k : Int) - (lp f k : Int)
/-- a candidate for the border behind k places -/
structure Cand (f : Nat → Bool) (k : Nat) (b : Int) : Prop where
  ok : b = -1 ∨ ∃ j : Nat, b = (j : Int) ∧ j < k ∧ Pd f k (k - j) = true
  all : ∀ j, j < k → Pd f k (k - j) = true → f j = f k → (j : Int) ≤ b
theorem cand_first (f : Nat → Bool) (k : Nat) : Cand f k (bd f k) := by
  by_cases h : k = 0
  · subst h
    exact ⟨.inl (by unfold bd; rw [lp_zero]; rfl), fun j hj => by omega⟩
  · obtain ⟨h1, h2, h3, h4⟩ := lp_spec (f := f) (k := k) (by omega)
    refine ⟨.inr ⟨k - lp f k, by unfold bd; omega, by omega, by rw [show k - (k - lp f k) = lp f k by omega]; exact h3⟩, fun j hj hp _ => ?_⟩
    have := h4 (k - j) (by omega) hp
    unfold bd
    omega
theorem cand_next {f : Nat → Bool} {k j : Nat} (h : Cand f k (j : Int)) (hne : f j ≠ f k) : j < k ∧ Cand f k (bd f j) := by
  obtain ⟨j', ej, hj, hp⟩ : ∃ j' : Nat, (j : Int) = (j' : Int) ∧ j' < k ∧ Pd f k (k - j') = true := by
    rcases h.ok with h | h
    · omega
    · exact h
  have e : j' = j := by omega
  subst e
  have hp := pd_iff.mp hp
  refine ⟨hj, ⟨?_, fun i hi hq he => ?_⟩⟩
  · by_cases z : j' = 0
    · left
      rw [z]
      unfold bd
      rw [lp_zero]
      rfl
    · obtain ⟨h1, h2, h3, h4⟩ := lp_spec (f := f) (k := j') (by omega)
      have h3 := pd_iff.mp h3
      refine .inr ⟨j' - lp f j', by unfold bd; omega, by omega, pd_iff.mpr fun i hi => ?_⟩
      have a := h3 i (by omega)
      have b := hp (i + lp f j') (by omega)
      rw [a, b]
      congr 1
      omega
  · have le := h.all i hi hq he
    have ne : i ≠ j' := fun z => hne (by rw [← z]; exact he)
    have hq := pd_iff.mp hq
    have per : Pd f j' (j' - i) = true := pd_iff.mpr fun x hx => by
      have a := hq x (by omega)
      have b := hp (x + (j' - i)) (by omega)
      rw [a, b]
      congr 1
      omega
    have := (lp_spec (f := f) (k := j') (by omega)).2.2.2 (j' - i) (by omega) per
    unfold bd
    omega
theorem cand_end {f : Nat → Bool} {k : Nat} {b : Int} (h : Cand f k b) (stop : b < 0 ∨ ∃ j : Nat, b = (j : Int) ∧ f j = f k) : b + 1 = bd f (k + 1) := by
  have key : ∀ r : Nat, 1 ≤ r → (b : Int) = (k : Int) - r → Pd f (k + 1) r = true → (∀ q, 1 ≤ q → q ≤ k + 1 → Pd f (k + 1) q = true → r ≤ q) → b + 1 = bd f (k + 1) := fun r r1 e hr hl => by
    unfold bd
    rw [lp_eq (Nat.succ_pos _) r1 hr hl]
    omega
  have low : ∀ q, 1 ≤ q → q ≤ k → Pd f (k + 1) q = true → ((k - q : Nat) : Int) ≤ b := fun q q1 q2 hq => by
    have hq := pd_iff.mp hq
    refine h.all (k - q) (by omega) (pd_iff.mpr fun i hi => ?_) ?_
    · rw [show k - (k - q) = q by omega]
      exact hq i (by omega)
    · rw [hq (k - q) (by omega)]
      congr 1
      omega
  rcases stop with stop | ⟨j, rfl, he⟩
  · have e : b = -1 := by
      rcases h.ok with h | ⟨j, h, _⟩
      · exact h
      · omega
    refine key (k + 1) (by omega) (by omega) (pd_self f _ _ (Nat.le_refl _)) fun q q1 q2 hq => ?_
    by_cases c : q ≤ k
    · have := low q q1 c hq
      omega
    · omega
  · rcases h.ok with h' | ⟨j', ej, hj, hp⟩
    · omega
    · have e : j' = j := by omega
      subst e
      have hp := pd_iff.mp hp
      refine key (k - j') (by omega) (by omega) (pd_iff.mpr fun i hi => ?_) fun q q1 q2 hq => ?_
      · by_cases c : i + (k - j') < k
        · exact hp i c
        · have e : i = j' := by omega
          subst e
          rw [he]
          congr 1
          omega
      · by_cases c : q ≤ k
        · have := low q q1 c hq
          omega
        · omega
theorem nrmF_eq {f : Nat → Bool} : ∀ n s, n ≤ s → nrmF f s n = nrmF f n n := by
  intro n
  induction n using Nat.strongRecOn with
  | ind n ih =>
    intro s hs
    cases n with
    | zero =>
      cases s with
      | zero => rfl
      | succ s =>
        unfold nrmF
        rw [if_neg (by rw [lp_zero]; omega)]
    | succ n =>
      cases s with
      | zero => omega
      | succ s =>
        unfold nrmF
        by_cases c : lp f (n + 1) < n + 1
        · rw [if_pos c, if_pos c, ih _ c s (by omega), ih _ c n (by omega)]
        · rw [if_neg c, if_neg c]
theorem nrm_step (f : Nat → Bool) (n : Nat) : nrm f n = if lp f n < n then lp f n :: nrm f (lp f n) else [] := by
  cases n with
  | zero => rw [if_neg (by rw [lp_zero]; omega)]; rfl
  | succ n =>
    show nrmF f (n + 1) (n + 1) = _
    rw [nrmF]
    by_cases c : lp f (n + 1) < n + 1
    · rw [if_pos c, if_pos c, nrmF_eq _ n (by omega)]
      rfl
    · rw [if_neg c, if_neg c]
theorem nrm_fall {f : Nat → Bool} : ∀ n, Fall (nrm f n) ∧ (∀ d ∈ nrm f n, d < n) ∧ (nrm f n).length ≤ n := by
  intro n
  induction n using Nat.strongRecOn with
  | ind n ih =>
    rw [nrm_step]
    by_cases c : lp f n < n
    · rw [if_pos c]
      obtain ⟨a, b, d⟩ := ih _ c
      have p := (lp_spec (f := f) (k := n) (by omega)).1
      refine ⟨⟨by omega, b, a⟩, fun e he => ?_, by rw [List.length_cons]; omega⟩
      rcases List.mem_cons.mp he with h | h
      · rw [h]
        exact c
      · have := b e h
        omega
    · rw [if_neg c]
      exact ⟨trivial, (fun _ h => by cases h), Nat.zero_le _⟩
end N

end
section
set_option autoImplicit false
set_option linter.all false
/-! ## periods of chains -/
namespace N
/-- whether a place is 0 or a boundary -/
def fm (cs : List Nat) (p : Nat) : Bool := decide (rem cs p = 0)
theorem fm_zero (cs : List Nat) : fm cs 0 = true := decide_eq_true (rem_zero cs)
theorem fm_head (c : Nat) (l : List Nat) (p : Nat) : fm (c :: l) (p + c) = fm (c :: l) p := by
  unfold fm
  rw [rem_cons, rem_cons, Nat.add_mod_right]
theorem fm_low {c : Nat} {l : List Nat} {p : Nat} (h : p < c) : fm (c :: l) p = fm l p := by
  unfold fm
  rw [rem_cons, Nat.mod_eq_of_lt h]
theorem pd_head (c : Nat) (l : List Nat) (k : Nat) : Pd (fm (c :: l)) k c = true := pd_iff.mpr fun i _ => (fm_head c l i).symm
theorem pd_congr {f g : Nat → Bool} {k q : Nat} (h : ∀ i, i < k → f i = g i) : Pd f k q = Pd g k q := by
  rw [Bool.eq_iff_iff, pd_iff, pd_iff]
  exact ⟨fun a i hi => by rw [← h i (by omega), ← h (i + q) hi]; exact a i hi, fun a i hi => by rw [h i (by omega), h (i + q) hi]; exact a i hi⟩
/-- where some place is one, some cut is a period -/
theorem pd_some : ∀ (cs : List Nat), Fall cs → ∀ n, (∃ p, 1 ≤ p ∧ p < n ∧ fm cs p = true) → ∃ c, 1 ≤ c ∧ c < n ∧ Pd (fm cs) n c = true
  | [], _, n, ⟨p, h1, h2, h3⟩ => by
    have : p = 0 := of_decide_eq_true h3
    omega
  | c :: l, hf, n, ⟨p, h1, h2, h3⟩ => by
    by_cases hc : c < n
    · exact ⟨c, hf.1, hc, pd_head c l n⟩
    · obtain ⟨d, d1, d2, d3⟩ := pd_some l hf.2.2 n ⟨p, h1, h2, by rw [← fm_low (c := c) (by omega)]; exact h3⟩
      exact ⟨d, d1, d2, by rw [pd_congr (g := fm l) fun i hi => fm_low (by omega)]; exact d3⟩
/-- the least period below n, if there is a place below n -/
theorem lp_lt {cs : List Nat} (hf : Fall cs) {n : Nat} : lp (fm cs) n < n ↔ ∃ p, 1 ≤ p ∧ p < n ∧ fm cs p = true := by
  constructor
  · intro h
    obtain ⟨h1, h2, h3, _⟩ := lp_spec (f := fm cs) (k := n) (by omega)
    refine ⟨_, h1, h, ?_⟩
    have := pd_iff.mp h3 0 (by omega)
    rw [fm_zero, Nat.zero_add] at this
    exact this.symm
  · intro h
    obtain ⟨c, c1, c2, c3⟩ := pd_some cs hf n h
    exact Nat.lt_of_le_of_lt ((lp_spec (f := fm cs) (k := n) (by omega)).2.2.2 c c1 c3) c2
/-- one place more than two first cuts tells no more -/
theorem lp_more {c : Nat} {l : List Nat} (hc : 0 < c) (m : Nat) (hm : 2 * c ≤ m) : lp (fm (c :: l)) m = lp (fm (c :: l)) (2 * c) := by
  have hcp := pd_head c l (2 * c)
  obtain ⟨h1, h2, h3, h4⟩ := lp_spec (f := fm (c :: l)) (k := 2 * c) (by omega)
  have le := h4 c hc hcp
  have h3' := pd_iff.mp h3
  refine lp_eq (by omega) h1 (pd_iff.mpr fun i hi => ?_) fun q q1 q2 hq => ?_
  · have back : ∀ x, fm (c :: l) x = fm (c :: l) (x % c) := fun x => by
      unfold fm
      rw [rem_cons, rem_cons, Nat.mod_mod]
    rw [back i, back (i + lp (fm (c :: l)) (2 * c)), h3' (i % c) (by have := Nat.mod_lt i hc; omega), back, Nat.mod_add_mod]
  · exact h4 q q1 (pd_iff.mpr fun i hi => pd_iff.mp hq i (by omega))
theorem nrm_more {c : Nat} {l : List Nat} (hc : 0 < c) (m : Nat) (hm : 2 * c ≤ m) : nrm (fm (c :: l)) m = nrm (fm (c :: l)) (2 * c) := by
  have hcp := pd_head c l (2 * c)
  have le := (lp_spec (f := fm (c :: l)) (k := 2 * c) (by omega)).2.2.2 c hc hcp
  rw [nrm_step, nrm_step (fm (c :: l)) (2 * c), lp_more hc m hm, if_pos (by omega), if_pos (by omega)]
theorem nrm_nil (n : Nat) : nrm (fm []) n = [] := by
  rw [nrm_step, if_neg]
  rw [lp_lt (cs := []) trivial]
  rintro ⟨p, h1, h2, h3⟩
  have : p = 0 := of_decide_eq_true h3
  omega
/-- so many places tell all -/
def hd (cs : List Nat) : Nat := match cs with | [] => 0 | c :: _ => c
theorem nrm_cuts {cs : List Nat} (hf : Fall cs) (hb : ∀ c ∈ cs, c ≤ 1000) {n : Nat} (hn : n ≤ 2 * hd cs) : ∀ d ∈ nrm (fm cs) n, d ≤ 1000 := by
  cases cs with
  | nil => rw [nrm_nil]; exact fun _ h => by cases h
  | cons c l =>
    have c1 := hb c List.mem_cons_self
    have hn : n ≤ 2 * c := hn
    rw [nrm_step]
    by_cases h : lp (fm (c :: l)) n < n
    · rw [if_pos h]
      have le : lp (fm (c :: l)) n ≤ c := (lp_spec (f := fm (c :: l)) (k := n) (by omega)).2.2.2 c hf.1 (pd_head c l n)
      intro d hd2
      rcases List.mem_cons.mp hd2 with e | e
      · omega
      · have := (nrm_fall (f := fm (c :: l)) (lp (fm (c :: l)) n)).2.1 d e
        omega
    · rw [if_neg h]
      exact fun _ h => by cases h
theorem fall_len : ∀ {l : List Nat} {m : Nat}, Fall l → (∀ d ∈ l, d ≤ m) → l.length ≤ m
  | [], _, _, _ => Nat.zero_le _
  | c :: r, m, f, h => by
    have h1 := h c List.mem_cons_self
    have := fall_len (l := r) (m := m - 1) f.2.2 fun d hd => by
      have := f.2.1 d hd
      omega
    have := f.1
    rw [List.length_cons]
    omega
end N

end
section
set_option autoImplicit false
set_option Elab.async false
set_option linter.all false
set_option maxRecDepth 100000
set_option maxHeartbeats 4000000
/-! ## borders, least_periods -/
namespace CP
open PySem L2 G Y
abbrev sLeastP : Stmt := S.top 19
abbrev sBorders : Stmt := S.top 20
/-- the borders of the first n - 1 places -/
def bl (f : Nat → Bool) (n : Nat) : List V := (List.range n).map fun k => V.int (N.bd f k)
theorem bl_len (f : Nat → Bool) (n : Nat) : (bl f n).length = n := by
  unfold bl
  rw [List.length_map, List.length_range]
theorem bl_snoc (f : Nat → Bool) (n : Nat) : bl f (n + 1) = bl f n ++ [.int (N.bd f n)] := by
  unfold bl
  rw [List.range_succ, List.map_append]
  rfl
theorem bl_at {f : Nat → Bool} {n k : Nat} (h : k < n) : (bl f n)[k]? = some (.int (N.bd f k)) := by
  unfold bl
  rw [List.getElem?_map, List.getElem?_range h]
  rfl
theorem mv_fm {l : List Nat} {n p : Nat} (h : p < n) : (mv l n)[p]? = some (V.bl (N.fm l p)) := mv_at l h
theorem bl_beq (x y : Bool) : decide (V.bl x = V.bl y) = decide (x = y) := by
  cases x <;> cases y <;> rfl
theorem app_run {K : PySem.W.Frag} {σ : L2.St} {H : Hp} {D : Ends} {R : Addr} {xs : List V} {b : Int} (h1 : σ[1]? = some (some (.ref R))) (h3 : σ[3]? = some (some (.int b))) (hR : H R = some (.lst xs)) (hz : xs.length < sizeLine) (k : D.nx σ (upd H R (.lst (xs ++ [.int (b + 1)])))) :
    tDrop (tBM K "list" rAppend (tVar 1) (tCons (tOp (rI0 fun i j => .int (i + j)) (tVar 3) (tC (.int 1))) tNil)) D σ H :=
  ⟨_, h1, .inl ⟨rfl, _, SqL.of hR⟩, _, h3, _, _, rfl, rfl, R, _, _, rfl, rfl, hR, hz, k⟩
section
variable {P : Program} {w : World} {K : PySem.W.Frag} {mg : Str → Option Value} {base : Heap} {C : Addr}
def spBorders : Sp := fun vs H Q _ => ∃ (D : Addr) (n : Nat) (cs : List Nat), vs = [.ref D] ∧ H D = some (.lst (mv cs n)) ∧ n ≤ 5000 ∧ ∀ E H', Same H H' → H' E = some (.lst (bl (N.fm cs) (n + 1))) → Q (.ref E) H'
theorem scBo : FnScope ["marks", "found", "mark", "border"] ["marks"] (defScope sBorders) := ⟨rfl, rfl, rfl, by decide +kernel, rfl, by decide +kernel, by decide +kernel⟩
theorem ok_borders {f : Addr} {fd : FuncData} (F : Fun K "borders" "borders" sBorders f fd) : FnOk P w K mg base CX0 1 f fd ["marks"] spBorders := by
  refine F.ok scBo (fun vs H Q E h => ?_) (fun cdv A outer s H vs Q E hr h => ?_)
  · obtain ⟨D, n, cs, rfl, _⟩ := h
    rfl
  · obtain ⟨D, n, cs, rfl, hD, hn, k⟩ := h
    refine ⟨_, pss_cons (ps_set (i := 1) scBo.nd rfl (Or.inl rfl) (pe_lst (pa_cons (pe_un un_neg pe_int) pa_nil)))
      (pss_cons (ps_for PassesOwn.never rfl (pi_list (pv 0)) (pg_name (i := 2) scBo.nd rfl (Or.inl rfl))
        (pss_cons (ps_set (i := 3) scBo.nd rfl (Or.inl rfl) (pe_ix ix_list (pv 1) (pe_un un_neg pe_int) (fun _ _ => rfl)))
        (pss_cons (ps_while PassesOwn.never (PW.pt (pw_and (pt_cmpR op_ge (pv 3) pe_int (nomark _)) (pw_and1 (pt_cmpR op_ne (pe_ix ix_list (pv 0) (pv 3) (fun _ _ => rfl)) (pv 2) (nomark _)))))
          (pss_one (ps_set (i := 3) scBo.nd rfl (Or.inl rfl) (pe_ix ix_list (pv 1) (pv 3) (fun _ _ => rfl)))))
        (pss_one (ps_expr (pe_bm PySem.F.plainAttrs_list PySem.F.slot_list_append PySem.F.type_list_append mt_append (pv 1) (pa_cons (pe_op op_add (pv 3) pe_int) pa_nil)))))))
      (pss_one (ps_ret (pv 1)))), ?_⟩
    refine set_then (i := 1) ⟨_, rfl, line2.2.2.1, fun R hR => ?_⟩
    have s0 : Same H (upd H R (.lst [.int (-1)])) := of_upd hR
    refine ⟨_, rfl, D, rfl, ⟨_, SqL.of (s0 _ _ hD)⟩, for_list (K := K) (a := D) (xs := mv cs n) (fun i σ G => Same H G ∧ G R = some (.lst (bl (N.fm cs) (i + 1))) ∧ ∃ q2 q3, σ = [some (.ref D), some (.ref R), q2, q3])
      ⟨s0, upd_same, _, _, rfl⟩ (fun i σ G _ z => SqL.of (z.1 _ _ hD)) ?_ ?_⟩
    · rintro i x σ G hx ⟨s1, hG, q2, q3, rfl⟩
      have hi : i < n := by
        have := (List.getElem?_eq_some_iff.mp hx).1
        rw [mv_len] at this
        exact this
      obtain rfl : x = .bl (N.fm cs i) := Option.some.inj (hx.symm.trans (mv_fm hi))
      have hD1 := s1 _ _ hD
      refine set_then (i := 3) ⟨_, rfl, _, rfl, R, _, _, .int (N.bd (N.fm cs) i), rfl, rfl, SqL.of hG, by rw [bl_snoc]; exact atI_last _ _, ?_⟩
      refine ⟨fun m σ G' => G' = G ∧ ∃ b : Int, σ = [some (.ref D), some (.ref R), some (.bl (N.fm cs i)), some (.int b)] ∧ N.Cand (N.fm cs) i b ∧ m = (b + 1).toNat, ⟨_, rfl, _, rfl, N.cand_first _ _, rfl⟩, ?_⟩
      rintro m σ G' ⟨rfl, b, rfl, hb, rfl⟩
      have fin : b + 1 = N.bd (N.fm cs) (i + 1) → Same H (upd G' R (.lst (bl (N.fm cs) (i + 1) ++ [.int (b + 1)]))) ∧ (upd G' R (.lst (bl (N.fm cs) (i + 1) ++ [.int (b + 1)]))) R = some (.lst (bl (N.fm cs) (i + 1 + 1))) ∧ ∃ q2 q3, [some (V.ref D), some (.ref R), some (.bl (N.fm cs i)), some (.int b)] = [some (.ref D), some (.ref R), q2, q3] := fun e => by
        refine ⟨add_upd hR s1, ?_, _, _, rfl⟩
        rw [upd_same, bl_snoc _ (i + 1), e]
      have sz : (bl (N.fm cs) (i + 1)).length < sizeLine := by
        rw [bl_len]
        exact Nat.lt_of_le_of_lt (show i + 1 ≤ 5001 by omega) (by decide)
      refine ⟨_, rfl, _, _, rfl, rfl, _, rfl, ite2 (fun c => ?_) (fun c => ?_)⟩
      · have c2 : 0 ≤ b := of_decide_eq_true c
        obtain ⟨j, rfl⟩ := Int.eq_ofNat_of_zero_le c2
        have hj : j < i := by
          rcases hb.ok with h | ⟨j', e, h, _⟩
          · omega
          · omega
        refine ⟨_, rfl, _, rfl, D, _, _, .bl (N.fm cs j), rfl, rfl, SqL.of hD1, atI_nat (mv_fm (by omega)), _, rfl, rfl, _, rfl, ?_⟩
        rw [bl_beq]
        by_cases e : N.fm cs j = N.fm cs i
        · rw [decide_eq_true e]
          exact iteF (app_run rfl rfl hG sz (fin (N.cand_end hb (.inr ⟨j, rfl, e⟩))))
        · rw [decide_eq_false e]
          obtain ⟨_, hb2⟩ := N.cand_next hb e
          refine iteT ⟨fun σ' G2 => G2 = G' ∧ σ' = [some (.ref D), some (.ref R), some (.bl (N.fm cs i)), some (.int (N.bd (N.fm cs) j))], fun σ' G2 z => ⟨(N.bd (N.fm cs) j + 1).toNat, ?_, z.1, _, z.2, hb2, rfl⟩, ?_⟩
          · by_cases z : j = 0
            · subst z
              unfold N.bd
              rw [N.lp_zero]
              decide
            · have := (N.lp_spec (f := N.fm cs) (k := j) (by omega)).1
              unfold N.bd
              omega
          · exact ⟨_, rfl, _, rfl, R, _, _, .int (N.bd (N.fm cs) j), rfl, rfl, SqL.of hG, atI_nat (bl_at (by omega)), rfl, rfl⟩
      · have c2 : ¬ 0 ≤ b := fun z => c (decide_eq_true z)
        exact iteF (app_run rfl rfl hG sz (fin (N.cand_end hb (.inl (by omega)))))
    · rintro σ G ⟨s1, hG, q2, q3, rfl⟩
      rw [mv_len] at hG
      exact ⟨_, rfl, k R G s1 hG⟩
def spLeastP : Sp := fun vs H Q _ => ∃ (D : Addr) (n : Nat) (cs : List Nat), vs = [.ref D] ∧ H D = some (.lst (mv cs n)) ∧ n ≤ 5000 ∧ ∀ E H', Same H H' → H' E = some (.lst (ni (N.nrm (N.fm cs) n))) → Q (.ref E) H'
theorem scLp : FnScope ["marks", "found_borders", "length", "found"] ["marks"] (defScope sLeastP) := ⟨rfl, rfl, rfl, by decide +kernel, rfl, by decide +kernel, by decide +kernel⟩
theorem ok_leastp {f : Addr} {fd : FuncData} (F : Fun K "least_periods" "least_periods" sLeastP f fd) (B : Bn mg) (DB : Df P w K mg base 1 "borders" ["marks"] spBorders) : FnOk P w K mg base CX0 2 f fd ["marks"] spLeastP := by
  obtain ⟨fB, fdB, GB, gB, kB, bB⟩ := DB.ex
  refine F.ok scLp (fun vs H Q E h => ?_) (fun cdv A outer s H vs Q E hr h => ?_)
  · obtain ⟨D, n, cs, rfl, _⟩ := h
    rfl
  · obtain ⟨D, n, cs, rfl, hD, hn, k⟩ := h
    refine ⟨_, pss_cons (ps_set (i := 1) scLp.nd rfl (Or.inl rfl) (pe_call GB hr rfl gB kB bB .nil pass0 (pa_cons (pv 0) pa_nil)))
      (pss_cons (ps_set (i := 2) scLp.nd rfl (Or.inl rfl) (pe_callB call_len_seq (by rfl) B.len PySem.boot_len (pa_cons (pv 0) pa_nil)))
      (pss_cons (ps_set (i := 3) scLp.nd rfl (Or.inl rfl) (pe_lst pa_nil))
      (pss_cons (ps_while PassesOwn.never (pt_cmpR op_gt (pe_ix ix_list (pv 1) (pv 2) (fun _ _ => rfl)) pe_int (nomark _))
        (pss_cons (ps_set (i := 2) scLp.nd rfl (Or.inl rfl) (pe_op op_sub (pv 2) (pe_ix ix_list (pv 1) (pv 2) (fun _ _ => rfl))))
        (pss_one (ps_expr (pe_bm PySem.F.plainAttrs_list PySem.F.slot_list_append PySem.F.type_list_append mt_append (pv 3) (pa_cons (pv 2) pa_nil))))))
      (pss_one (ps_ret (pv 3)))))), ?_⟩
    refine set_then (i := 1) ⟨_, rfl, D, n, cs, rfl, hD, hn, fun R G s1 hR => ?_⟩
    refine set_then (i := 2) ⟨_, rfl, D, _, rfl, .inl (SqL.of (s1 _ _ hD)), ?_⟩
    rw [mv_len]
    refine set_then (i := 3) ⟨line2.2.2.2, fun R2 hR2 => ?_⟩
    have s2 : Same G (upd G R2 (.lst [])) := of_upd hR2
    refine ⟨fun m σ G2 => Same G G2 ∧ m ≤ n ∧ ∃ l : List Nat, σ = [some (.ref D), some (.ref R), some (.int (m : Int)), some (.ref R2)] ∧ G2 R2 = some (.lst (ni l)) ∧ l.length + m ≤ n ∧ N.nrm (N.fm cs) n = l ++ N.nrm (N.fm cs) m, ⟨n, s2, Nat.le_refl _, [], rfl, upd_same, by simp, rfl⟩, ?_⟩
    rintro m σ G2 ⟨s3, hm, l, rfl, hl, hlm, e⟩
    have hR3 := s3 _ _ hR
    have at1 : atI (bl (N.fm cs) (n + 1)) (m : Int) = some (.int (N.bd (N.fm cs) m)) := atI_nat (bl_at (by omega))
    refine ⟨_, rfl, _, rfl, R, _, _, .int (N.bd (N.fm cs) m), rfl, rfl, SqL.of hR3, at1, _, _, rfl, rfl, _, rfl, ?_⟩
    rw [N.nrm_step (N.fm cs) m] at e
    by_cases c : N.lp (N.fm cs) m < m
    · rw [if_pos c] at e
      rw [decide_eq_true (show (0 : Int) < N.bd (N.fm cs) m by unfold N.bd; omega)]
      refine iteT ⟨fun σ' G' => Same G G' ∧ N.lp (N.fm cs) m ≤ n ∧ ∃ l : List Nat, σ' = [some (.ref D), some (.ref R), some (.int ((N.lp (N.fm cs) m : Nat) : Int)), some (.ref R2)] ∧ G' R2 = some (.lst (ni l)) ∧ l.length + N.lp (N.fm cs) m ≤ n ∧ N.nrm (N.fm cs) n = l ++ N.nrm (N.fm cs) (N.lp (N.fm cs) m), fun σ' G' z => ⟨_, c, z⟩, ?_⟩
      refine set_then (i := 2) ⟨_, rfl, _, rfl, _, rfl, R, _, _, .int (N.bd (N.fm cs) m), rfl, rfl, SqL.of hR3, at1, _, _, rfl, rfl, ?_⟩
      have e2 : (m : Int) - N.bd (N.fm cs) m = ((N.lp (N.fm cs) m : Nat) : Int) := by unfold N.bd; omega
      dsimp only
      rw [e2]
      refine ⟨_, rfl, .inl ⟨rfl, _, SqL.of hl⟩, _, rfl, R2, _, _, rfl, rfl, hl, ?_, add_upd hR2 s3, by omega, l ++ [N.lp (N.fm cs) m], rfl, ?_, ?_, ?_⟩
      · rw [ni_len]
        exact Nat.lt_of_le_of_lt (show l.length ≤ 5000 by omega) (by decide)
      · rw [upd_same, ni_app]
        rfl
      · rw [List.length_append, List.length_singleton]
        omega
      · rw [e, List.append_assoc]
        rfl
    · rw [if_neg c] at e
      rw [decide_eq_false (show ¬ (0 : Int) < N.bd (N.fm cs) m by unfold N.bd; omega)]
      rw [List.append_nil] at e
      refine iteF ⟨_, rfl, k R2 G2 (s1.trans s3) ?_⟩
      rw [e]
      exact hl
end
end CP

end
section
set_option autoImplicit false
set_option Elab.async false
set_option linter.all false
set_option maxRecDepth 100000
set_option maxHeartbeats 4000000
/-! ## normal -/
namespace CP
open PySem L2 G Y
abbrev sNormal : Stmt := S.top 17
abbrev sFirstCut : Stmt := S.top 21
abbrev sLength : Stmt := S.top 22
def lmV : Option Int → V
  | none => .non
  | some L => .int L
/-- so many places, below a limit -/
def nl (n : Nat) : Option Int → Nat
  | none => n
  | some z => min n z.toNat
section
variable {P : Program} {w : World} {K : PySem.W.Frag} {mg : Str → Option Value} {base : Heap} {C : Addr}
def spFirst (C : Addr) : Sp := fun vs H Q _ => ∃ (a : Addr) (cs : List Nat), vs = [.ref a] ∧ ChAt C H cs a ∧ Q (.int ((N.hd cs : Nat) : Int)) H
theorem scFc : FnScope ["chain"] ["chain"] (defScope sFirstCut) := ⟨rfl, rfl, rfl, by decide +kernel, rfl, by decide +kernel, by decide +kernel⟩
theorem ok_first {f : Addr} {fd : FuncData} (F : Fun K "_first_cut" "_first_cut" sFirstCut f fd) (B : Bn mg) (T : Ct K mg C) : FnOk P w K mg base CX0 1 f fd ["chain"] (spFirst C) := by
  refine F.ok scFc (fun vs H Q E h => ?_) (fun cdv A outer s H vs Q E hr h => ?_)
  · obtain ⟨a, cs, rfl, _⟩ := h
    rfl
  · obtain ⟨a, cs, rfl, hc, k⟩ := h
    refine ⟨_, pss_one (ps_ret (pe_ifExp (pt_cmpR op_gt (pe_callB call_len_seq (by rfl) B.len PySem.boot_len (pa_cons (pe_fld (pv 0) rfl) pa_nil)) pe_int (nomark _)) (pe_ix ix_tup (pe_fld (pv 0) rfl) pe_int (fun _ _ => rfl)) pe_int)), ?_⟩
    obtain ⟨dx, t, u, h1, h2, h3⟩ := id hc
    refine ⟨_, rfl, a, C, dx, _, _, rfl, h1, T.cl, T.nC, cfl_cuts t u, t, _, rfl, .inr (SqT.of h2), _, _, rfl, rfl, _, rfl, ?_⟩
    rw [ni_len]
    cases cs with
    | nil => exact iteF k
    | cons c l =>
      rw [decide_eq_true (by rw [List.length_cons]; omega)]
      exact iteT ⟨_, rfl, a, C, dx, _, _, rfl, h1, T.cl, T.nC, cfl_cuts t u, t, _, _, .int (c : Int), rfl, rfl, SqT.of h2, at0, k⟩
def spLen : Sp := fun vs H Q _ => ∃ (n : Nat) (L : Option Int), vs = [.int (n : Int), lmV L] ∧ (∀ z, L = some z → 0 ≤ z) ∧ Q (.int ((nl n L : Nat) : Int)) H
theorem scLn : FnScope ["places", "limit"] ["places", "limit"] (defScope sLength) := ⟨rfl, rfl, rfl, by decide +kernel, rfl, by decide +kernel, by decide +kernel⟩
theorem ok_length {f : Addr} {fd : FuncData} (F : Fun K "_length" "_length" sLength f fd) (B : Bn mg) : FnOk P w K mg base CX0 1 f fd ["places", "limit"] spLen := by
  refine F.ok scLn (fun vs H Q E h => ?_) (fun cdv A outer s H vs Q E hr h => ?_)
  · obtain ⟨n, L, rfl, _⟩ := h
    rfl
  · obtain ⟨n, L, rfl, hL, k⟩ := h
    refine ⟨_, pss_one (ps_ret (pe_ifExp (pt_cmp (pc_isN (pv 1))) (pv 0) (pe_callB (call_min2 rfl) (by rfl) B.min (by decide +kernel) (pa_cons (pv 0) (pa_cons (pv 1) pa_nil))))), ?_⟩
    cases L with
    | none => exact ⟨_, rfl, _, rfl, iteT ⟨_, rfl, k⟩⟩
    | some z =>
      have hz := hL z rfl
      refine ⟨_, rfl, _, rfl, iteF ⟨_, rfl, _, rfl, _, _, rfl, ?_⟩⟩
      have e : (if z < (n : Int) then z else (n : Int)) = ((nl n (some z) : Nat) : Int) := by
        unfold nl
        dsimp only
        split <;> omega
      rw [e]
      exact k
theorem nl_le (n : Nat) (L : Option Int) : nl n L ≤ n := by
  cases L with
  | none => exact Nat.le_refl _
  | some z => exact Nat.min_le_left _ _
/-- how many places normal looks at -/
def nn (cs : List Nat) (L : Option Int) : Nat := nl (2 * N.hd cs) L
theorem hd_le {cs : List Nat} (h : Cuts cs) : N.hd cs ≤ 1000 := by
  cases cs with
  | nil => exact Nat.zero_le _
  | cons c l => exact h.le c List.mem_cons_self
theorem cuts_nrm {cs : List Nat} (h : Cuts cs) (L : Option Int) : Cuts (N.nrm (N.fm cs) (nn cs L)) := by
  obtain ⟨a, b, c⟩ := N.nrm_fall (f := N.fm cs) (nn cs L)
  have d := N.nrm_cuts h.fall h.le (nl_le (2 * N.hd cs) L)
  exact ⟨a, d, N.fall_len a d⟩
def spNormal (C : Addr) : Sp := fun vs H Q _ => ∃ (a : Addr) (L : Option Int) (cs : List Nat), vs = [.ref a, lmV L] ∧ ChAt C H cs a ∧ Cuts cs ∧ (∀ z, L = some z → 0 ≤ z) ∧ ∀ r H', Same H H' → ChAt C H' (N.nrm (N.fm cs) (nn cs L)) r → Q (.ref r) H'
theorem scNo : FnScope ["chain", "limit", "length"] ["chain", "limit"] (defScope sNormal) := ⟨rfl, rfl, rfl, by decide +kernel, rfl, by decide +kernel, by decide +kernel⟩
theorem ok_normal {f : Addr} {fd : FuncData} (F : Fun K "normal" "normal" sNormal f fd) (B : Bn mg) (T : Ct K mg C) (MW : Mw P w K mg base C) (DF : Df P w K mg base 1 "_first_cut" ["chain"] (spFirst C)) (DL : Df P w K mg base 1 "_length" ["places", "limit"] spLen)
    (DM : Df P w K mg base 1 "_marks" ["chain", "length"] (spMarks C)) (DP : Df P w K mg base 2 "least_periods" ["marks"] spLeastP) : FnOk P w K mg base CX0 6 f fd ["chain", "limit"] (spNormal C) := by
  obtain ⟨fI, fdI, GI, MK, bI⟩ := MW.ex
  obtain ⟨fF, fdF, GF, gF, kF, bF⟩ := DF.ex
  obtain ⟨fL, fdL, GL, gL, kL, bL⟩ := DL.ex
  obtain ⟨fM, fdM, GM, gM, kM, bM⟩ := DM.ex
  obtain ⟨fP, fdP, GP, gP, kP, bP⟩ := DP.ex
  refine F.ok scNo (fun vs H Q E h => ?_) (fun cdv A outer s H vs Q E hr h => ?_)
  · obtain ⟨a, L, cs, rfl, _⟩ := h
    rfl
  · obtain ⟨a, L, cs, rfl, hc, hl, hL, k⟩ := h
    refine ⟨_, pss_cons (ps_set (i := 2) scNo.nd rfl (Or.inl rfl) (pe_call GL (hr.mono (by decide)) rfl gL kL bL .nil pass0 (pa_cons (pe_op op_mul pe_int (pe_call GF (hr.mono (by decide)) rfl gF kF bF .nil pass0 (pa_cons (pv 0) pa_nil))) (pa_cons (pv 1) pa_nil))))
      (pss_one (ps_ret (pe_make MK GI (hr.mono (by decide)) rfl T.g bI .nil pass0 (pa_cons (pe_call GP (hr.mono (by decide)) rfl gP kP bP .nil pass0 (pa_cons (pe_call GM (hr.mono (by decide)) rfl gM kM bM .nil pass0 (pa_cons (pv 0) (pa_cons (pv 2) pa_nil))) pa_nil)) pa_nil)))), ?_⟩
    have h1 := hd_le hl
    refine set_then (i := 2) ⟨_, rfl, a, cs, rfl, hc, _, _, rfl, rfl, .inl ⟨by omega, by omega⟩, _, rfl, 2 * N.hd cs, L, rfl, hL, ?_⟩
    have h2 : nn cs L ≤ 2000 := Nat.le_trans (nl_le _ _) (by omega)
    refine ⟨_, rfl, _, rfl, a, nn cs L, cs, rfl, hc, hl, by omega, fun D G s1 hD => ⟨D, nn cs L, cs, rfl, hD, by omega, fun R G2 s2 hR => ?_⟩⟩
    exact fun x dx hx hdx ne => made_ch hx hdx ne (.inl hR) (cuts_nrm hl L) fun G3 s3 hr3 => ⟨rfl, k x G3 ((s1.trans s2).trans s3) hr3⟩
end
end CP

end
section
set_option autoImplicit false
set_option Elab.async false
set_option linter.all false
set_option maxRecDepth 100000
set_option maxHeartbeats 4000000
/-! ## breaking, is_period -/
namespace CP
open PySem L2 G Y
abbrev sPeriod : Stmt := S.top 15
abbrev sBreak : Stmt := S.top 16
/-- whether a place speaks against a period -/
def mism (cs : List Nat) (n p : Nat) : Bool := decide (N.rem cs p = 0) != decide (N.rem cs (p + n) = 0)
def room (cs : List Nat) (n : Nat) : Option Int → Nat
  | none => match cs with | [] => 1 | c :: _ => c
  | some L => (min (((match cs with | [] => 1 | c :: _ => c) : Nat) : Int) (L - (n : Int))).toNat
def brk (cs : List Nat) (n : Nat) (L : Option Int) : Option Nat := (List.range (room cs n L)).find? (mism cs n)
def limV : Option Int → V
  | none => .non
  | some L => .int L
def resV : Option Nat → V
  | none => .non
  | some p => .int ((p : Nat) : Int)
theorem find_at {f : Nat → Bool} {n p : Nat} (h : ∀ q, q < p → f q = false) (hp : f p = true) (hn : p < n) : (List.range n).find? f = some p := by
  rw [List.find?_range_eq_some]
  exact ⟨hp, List.mem_range.mpr hn, fun j hj => by simpa using h j hj⟩
theorem find_no {f : Nat → Bool} {n : Nat} (h : ∀ q, q < n → f q = false) : (List.range n).find? f = none := by
  rw [List.find?_eq_none]
  intro x hx
  simpa using h x (List.mem_range.mp hx)
theorem lim_then {t2 : TS} {D : Ends} {σ : L2.St} {H : Hp} {L : Option Int} {n : Int} {v : V} (h1 : σ[1]? = some (some (.int n))) (h2 : σ[2]? = some (some (limV L))) (hno : (∃ z, L = some z ∧ z ≤ n) → D.rt v H) (hgo : (L = none ∨ ∃ z, L = some z ∧ n < z) → t2 D σ H) :
    tSeq (tIfS (tAnd (tB (tNotN (tVar 2))) (tTest (tOp (rI0 fun i j => .bl (decide (j ≤ i))) (tVar 1) (tVar 2)))) (tRet (tC v)) tNext) t2 D σ H := by
  cases L with
  | none => exact ⟨_, h2, _, rfl, iteF (iteF (hgo (.inl rfl)))⟩
  | some z =>
    refine ⟨_, h2, _, rfl, iteT ⟨_, h1, _, h2, _, _, rfl, rfl, _, rfl, ite2 (fun c => ?_) (fun c => ?_)⟩⟩
    · exact hno ⟨z, rfl, of_decide_eq_true c⟩
    · exact hgo (.inr ⟨z, rfl, by
        have : ¬ z ≤ n := fun y => c (decide_eq_true y)
        omega⟩)
theorem bl_ne : ∀ {x y : Bool}, (!decide (V.bl x = V.bl y)) = true → (x != y) = true
  | true, true, h => by simp at h
  | false, false, h => by simp at h
  | true, false, _ => rfl
  | false, true, _ => rfl
theorem bl_eq : ∀ {x y : Bool}, ¬ (!decide (V.bl x = V.bl y)) = true → (x != y) = false
  | true, true, _ => rfl
  | false, false, _ => rfl
  | true, false, h => by simp at h
  | false, true, h => by simp at h
theorem places_run {σ : L2.St} {H : Hp} {Q : VK} {L : Option Int} {n c : Nat} {r : List Nat} (h1 : σ[1]? = some (some (.int (n : Int)))) (h2 : σ[2]? = some (some (limV L))) (h3 : σ[3]? = some (some (.int (c : Int)))) (hz : L = none ∨ ∃ z, L = some z ∧ (n : Int) < z) (k : Q (.int ((room (c :: r) n L : Nat) : Int)) H) :
    tIf (tB (tIsN (tVar 2))) (tVar 3) (tCB (fun xs H Q => ∃ i j, xs = [V.int i, V.int j] ∧ Q (.int (if j < i then j else i)) H) (tCons (tVar 3) (tCons (tOp (rI0 fun i j => .int (i - j)) (tVar 2) (tVar 1)) tNil))) σ H Q := by
  cases L with
  | none => exact ⟨_, h2, _, rfl, iteT ⟨_, h3, k⟩⟩
  | some z =>
    have zn : (n : Int) < z := by
      rcases hz with h | ⟨y, h, h'⟩
      · cases h
      · cases h
        exact h'
    refine ⟨_, h2, _, rfl, iteF ⟨_, h3, _, h2, _, h1, _, _, rfl, rfl, _, _, rfl, ?_⟩⟩
    have e : (if z - (n : Int) < (c : Int) then z - (n : Int) else (c : Int)) = ((room (c :: r) n (some z) : Nat) : Int) := by
      unfold room
      dsimp only
      split <;> omega
    rw [e]
    exact k
theorem room_le (c : Nat) (r : List Nat) (n : Nat) (L : Option Int) : room (c :: r) n L ≤ c := by
  cases L with
  | none => exact Nat.le_refl _
  | some z =>
    unfold room
    dsimp only
    omega
section
variable {P : Program} {w : World} {K : PySem.W.Frag} {mg : Str → Option Value} {base : Heap} {C : Addr}
def spBreak (C : Addr) : Sp := fun vs H Q _ => ∃ (a : Addr) (n : Nat) (L : Option Int) (cs : List Nat), vs = [.ref a, .int (n : Int), limV L] ∧ ChAt C H cs a ∧ Cuts cs ∧ 0 < n ∧ (n : Int) ≤ 2000000000000000000 ∧ (∀ z, L = some z → 0 ≤ z ∧ z ≤ 2000000000000000000) ∧ ∀ H', Same H H' → Q (resV (brk cs n L)) H'
abbrev NBk : List Str := ["chain", "number", "limit", "cut", "marks", "places", "place"]
theorem scBk : FnScope NBk ["chain", "number", "limit"] (defScope sBreak) := ⟨rfl, rfl, rfl, by decide +kernel, rfl, by decide +kernel, by decide +kernel⟩
theorem ok_break {f : Addr} {fd : FuncData} (F : Fun K "breaking" "breaking" sBreak f fd) (B : Bn mg) (T : Ct K mg C) (DM : Df P w K mg base 1 "_marks" ["chain", "length"] (spMarks C)) : FnOk P w K mg base CX0 2 f fd ["chain", "number", "limit"] (spBreak C) := by
  obtain ⟨fM, fdM, GM, gM, kM, bM⟩ := DM.ex
  refine F.ok scBk (fun vs H Q E h => ?_) (fun cdv A outer s H vs Q E hr h => ?_)
  · obtain ⟨a, n, L, cs, rfl, _⟩ := h
    rfl
  · obtain ⟨a, n, L, cs, rfl, hc, hl, n0, n1, hL, k⟩ := h
    refine ⟨_, pss_cons (ps_if (PW.pt (pw_and (pt_cmp (pc_notN (pv 2))) (pw_and1 (pt_cmpR op_ge (pv 1) (pv 2) (nomark _))))) (pss_one (ps_ret pe_non)) pss_nil)
      (pss_cons (ps_if (pt_cmpR op_eq (pe_callB call_len_seq (by rfl) B.len PySem.boot_len (pa_cons (pe_fld (pv 0) rfl) pa_nil)) pe_int (nomark _)) (pss_one (ps_ret pe_int)) pss_nil)
      (pss_cons (ps_set (i := 3) scBk.nd rfl (Or.inl rfl) (pe_ix ix_tup (pe_fld (pv 0) rfl) pe_int (fun _ _ => rfl)))
      (pss_cons (ps_set (i := 4) scBk.nd rfl (Or.inl rfl) (pe_call GM hr rfl gM kM bM .nil pass0 (pa_cons (pv 0) (pa_cons (pv 3) pa_nil))))
      (pss_cons (ps_set (i := 5) scBk.nd rfl (Or.inl rfl) (pe_ifExp (pt_cmp (pc_isN (pv 2))) (pv 3) (pe_callB (call_min2 rfl) (by rfl) B.min (by decide +kernel) (pa_cons (pv 3) (pa_cons (pe_op op_sub (pv 2) (pv 1)) pa_nil)))))
      (pss_cons (ps_for PassesOwn.never rfl (pi_range1 (by rfl) B.range (pa_cons (pv 5) pa_nil)) (pg_name (i := 6) scBk.nd rfl (Or.inl rfl))
        (pss_one (ps_if (pt_cmpR op_ne (pe_ix ix_list (pv 4) (pv 6) (fun _ _ => rfl)) (pe_ix ix_list (pv 4) (pe_op op_mod (pe_op op_add (pv 6) (pv 1)) (pv 3)) (fun _ _ => rfl)) (nomark _)) (pss_one (ps_ret (pv 6))) pss_nil)))
      (pss_one (ps_ret pe_non))))))), ?_⟩
    obtain ⟨dx, t, u, h1, h2, h3⟩ := id hc
    have none0 : room cs n L = 0 → ∀ G, Same H G → Q .non G := fun e G s => by
      have := k G s
      unfold brk at this
      rw [e] at this
      exact this
    refine lim_then (v := .non) (n := (n : Int)) rfl rfl (fun hz => ?_) (fun hz => ?_)
    · obtain ⟨z, rfl, hz⟩ := hz
      refine none0 ?_ H (Same.refl H)
      unfold room
      dsimp only
      omega
    · -- no cuts
      refine ⟨_, rfl, a, C, dx, _, _, rfl, h1, T.cl, T.nC, cfl_cuts t u, t, _, rfl, .inr (SqT.of h2), rfl, _, rfl, ?_⟩
      cases cs with
      | nil =>
        have e : brk [] n L = some 0 := by
          unfold brk
          refine find_at (fun q hq => by omega) ?_ ?_
          · unfold mism
            rw [N.rem_nil, N.rem_nil, Nat.zero_add, decide_eq_true rfl, decide_eq_false (by omega)]
            rfl
          · rcases hz with rfl | ⟨z, rfl, hz⟩
            · exact Nat.lt_succ_self 0
            · unfold room
              dsimp only
              omega
        have := k H (Same.refl H)
        rw [e] at this
        exact this
      | cons c r =>
        rw [decide_eq_false (fun z => by injection z with z; rw [ni_len, List.length_cons] at z; omega)]
        refine iteF ?_
        unfold tNext
        dsimp only
        have pc : 0 < c ∧ c ≤ 1000 := hl.at (i := 0) rfl
        refine set_then (i := 3) ⟨_, rfl, a, C, dx, _, _, rfl, h1, T.cl, T.nC, cfl_cuts t u, t, _, _, .int (c : Int), rfl, rfl, SqT.of h2, at0, ?_⟩
        refine set_then (i := 4) ⟨_, rfl, _, rfl, a, c, c :: r, rfl, hc, hl, by omega, fun D G s hD => ?_⟩
        refine set_then (i := 5) (places_run (c := c) (r := r) rfl rfl rfl hz ?_)
        have rl := room_le c r n L
        have hk := k
        generalize hR : room (c :: r) n L = R at rl
        have res : ∀ G', Same H G' → (∀ q, q < R → mism (c :: r) n q = false) → Q .non G' := fun G' s' h => by
          have := k G' s'
          unfold brk at this
          rw [hR, find_no h] at this
          exact this
        have res2 : ∀ G' p, Same H G' → p < R → (∀ q, q < p → mism (c :: r) n q = false) → mism (c :: r) n p = true → Q (.int ((p : Nat) : Int)) G' := fun G' p s' hp h h' => by
          have := k G' s'
          unfold brk at this
          rw [hR, find_at h h' hp] at this
          exact this
        refine ⟨_, rfl, _, rfl, by omega, by omega, for_range (n := Int.toNat _) (fun i σ G2 => Same H G2 ∧ G2 D = some (.lst (mv (c :: r) c)) ∧ (∀ q, q < i → mism (c :: r) n q = false) ∧ ∃ q6, σ = [some (.ref a), some (.int (n : Int)), some (limV L), some (.int (c : Int)), some (.ref D), some (.int (R : Int)), q6])
          ⟨s, hD, fun q hq => by omega, _, rfl⟩ ?_ ?_⟩
        · rintro i σ G2 hi ⟨s2, hD2, hq, q6, rfl⟩
          rw [Int.toNat_natCast] at hi
          have ei : (0 : Int) + (i : Int) = (i : Int) := Int.zero_add _
          dsimp only
          rw [ei]
          have em : ((i : Int) + (n : Int)) % (c : Int) = (((i + n) % c : Nat) : Int) := rfl
          have lt2 := Nat.mod_lt (i + n) pc.1
          refine ⟨_, rfl, _, rfl, D, _, _, _, rfl, rfl, SqL.of hD2, atI_nat (mv_at (c :: r) (show i < c by omega)), _, rfl, _, rfl, _, rfl, _, _, rfl, rfl, _, rfl, _, _, rfl, rfl, by show (0 : Int) < (c : Int); omega, D, _, _, .bl (decide (N.rem (c :: r) ((i + n) % c) = 0)), rfl, rfl, SqL.of hD2, ?_, rfl, _, rfl, ite2 (fun w1 => ?_) (fun w1 => ?_)⟩
          · show atI _ (((i : Int) + (n : Int)) % (c : Int)) = _
            rw [em]
            exact atI_nat (mv_at (c :: r) lt2)
          · refine ⟨_, rfl, res2 G2 i s2 hi hq ?_⟩
            unfold mism
            rw [per_cons c r (i + n)]
            exact bl_ne w1
          · refine ⟨s2, hD2, fun q hq2 => ?_, _, rfl⟩
            by_cases e : q < i
            · exact hq q e
            · have e2 : q = i := by omega
              subst e2
              unfold mism
              rw [per_cons c r (q + n)]
              exact bl_eq w1
        · rintro σ G2 ⟨s2, hD2, hq, q6, rfl⟩
          rw [Int.toNat_natCast] at hq
          exact res G2 s2 hq
end
end CP

end
section
set_option autoImplicit false
set_option Elab.async false
set_option linter.all false
set_option maxRecDepth 100000
set_option maxHeartbeats 4000000
/-! ## enumerate(zip(one list, another)), its pairs unpacked in the target -/
namespace EZ
open PySem L2 PyProof.Rows
abbrev ZAt (h : Heap) (z TI TO : Addr) (f0 : Value) (f : Bool) : Prop := h.get? z = some { cls := .type "zip", dict := none, data := .fields #[f0, .bool f, .bool false, .ref TI, .ref TO], slots := #[] }
/-- a zip between two turns: nothing has been handed out, or some pair has, which may be gone -/
def Zs (h : Heap) (z TI TO : Addr) : Prop := ZAt h z TI TO .none false ∨ ∃ (T : Addr) (f : Bool), ZAt h z TI TO (rawInt T) f
theorem Zs.at {h h' : Heap} {z TI TO : Addr} (q : Zs h z TI TO) (k : ∀ o, h.get? z = some o → h'.get? z = some o) : Zs h' z TI TO := by
  rcases q with q | ⟨T, f, q⟩
  · exact .inl (k _ q)
  · exact .inr ⟨T, f, k _ q⟩
theorem Zs.obj {h : Heap} {z TI TO : Addr} (q : Zs h z TI TO) : ∃ o, h.get? z = some o ∧ o.cls = .type "zip" ∧ ∀ v, o.data ≠ .cell v := by
  rcases q with q | ⟨T, f, q⟩
  · exact ⟨_, q, rfl, fun v r => nomatch r⟩
  · exact ⟨_, q, rfl, fun v r => nomatch r⟩
section
variable {prog : Program} {w : World} {A : Around} {E : Value → Shared → Prop} {s : Shared}
theorem gone {a : Addr} {Q : Option Obj → Shared → Prop} (ho : s.heap.get? a = none) (h : Q none s) : wpAny (model prog w) A (loadIfAlive a) Q E s := by
  have e : Q (s.heap.get? a) s := by rw [ho]; exact h
  exact fun _ _ _ => e
theorem free_gone {z TI TO T : Addr} {f : Bool} {Q : Bool → Shared → Prop} (hz : ZAt s.heap z TI TO (rawInt T) f) (hT : s.heap.get? T = none) (h : Q true s) : wpAny (model prog w) A (Builtin.SmallTypes.ownedTupleIsFree (.ref z)) Q E s := by
  unfold Builtin.SmallTypes.ownedTupleIsFree
  refine wpAny_bind (wpAny_field hz rfl (x := rawInt T) rfl ?_)
  show wpAny _ _ (loadIfAlive ((T : Int).toNat) >>= _) _ _ _
  rw [Int.toNat_natCast]
  refine wpAny_bind (gone hT ?_)
  simp only [Option.isNone_none, if_true]
  exact wpAny_pure h
/-- the next pair, when the last one is gone -/
theorem item_gone {z TI TO i1 i2 l1 l2 T : Addr} {f : Bool} {k1 k2 : Nat} {xs ys : Array Value} {x y a b : Value} {Q : Value → Shared → Prop} (D : ZipApart z TI TO i1 i2 l1 l2)
    (hz : ZAt s.heap z TI TO (rawInt T) f) (hT : s.heap.get? T = none) (hTI : IsPair s.heap TI (.ref i1) (.ref i2)) (hTO : IsPair s.heap TO a b)
    (h1 : s.heap.IsListIter i1 l1 k1) (h2 : s.heap.IsListIter i2 l2 k2) (hl1 : s.heap.IsList l1 xs) (hl2 : s.heap.IsList l2 ys) (hx : xs[k1]? = some x) (hy : ys[k2]? = some y)
    (hQ : ∀ u, ZAt u z TI TO (rawInt s.heap.objs.size) false → IsPair u TO x y → u.IsListIter i1 l1 (k1 + 1) → u.IsListIter i2 l2 (k2 + 1) → IsPair u s.heap.objs.size x y → u.objs.size = s.heap.objs.size + 1 →
      (∀ c o, c ≠ z → c ≠ TO → c ≠ i1 → c ≠ i2 → s.heap.get? c = some o → u.get? c = some o) → Q (.ref s.heap.objs.size) { s with heap := u }) :
    wpAny (model prog w) A (Builtin.«zip.__next__» ⟨[.ref z], []⟩) (fun fin s' => ∃ v, fin = .done (.ret v) ∧ Q v s') E s := by
  show wpAny _ _ (field (.ref z) 2 >>= _) _ _ _
  refine wpAny_bind (wpAny_field hz rfl (x := .bool false) rfl ?_)
  show wpAny _ _ (field (.ref z) 3 >>= _) _ _ _
  refine wpAny_bind (wpAny_field hz rfl (x := .ref TI) rfl (wpAny_bind (wpAny_seqItems hTI rfl ?_)))
  show wpAny _ _ (Builtin.SmallTypes.ownedTupleIsFree (.ref z) >>= _) _ _ _
  refine wpAny_bind (free_gone hz hT ?_)
  simp only [if_true]
  refine wpAny_bind (wpAny_rule (wpAny_bind (wpAny_field hz rfl (x := .ref TO) rfl (wpAny_bind (wpAny_setField_rec hz (by simp) fun u1 z1 s1 => wpAny_bind ?_)))))
  simp only [List.zipIdx_cons, List.zipIdx_nil, List.forIn_cons, List.forIn_nil]
  have k1' : ∀ c o, c ≠ z → s.heap.get? c = some o → u1.get? c = some o := fun c o q e => s1.extBut _ _ q e
  refine wpAny_bind (wpAny_bind (wpAny_onRaise ?_))
  show wpAny _ _ (Builtin.SmallTypes.nextOf (.ref i1) >>= _) _ _ _
  refine wpAny_bind (wpAny_nextOf_list_item (h1.at fun o e => k1' _ o D.i1z e) (hl1.at fun o e => k1' _ o D.l1z e) hx fun u2 j1 s2 => wpAny_pure ?_)
  replace s2 : Heap.SameBut i1 u1 u2 := s2
  have k2' : ∀ c o, c ≠ z → c ≠ i1 → s.heap.get? c = some o → u2.get? c = some o := fun c o q r e => s2.extBut _ _ r (k1' c o q e)
  have t2 : IsPair u2 TO a b := k2' _ _ D.TOz D.TOi1 hTO
  refine wpAny_bind (wpAny_seqItems t2 rfl (wpAny_bind (wpAny_updateSeq_pair t2 fun u3 t3 s3 => wpAny_bind (wpAny_letGo (wpAny_pure ?_)))))
  replace t3 : IsPair u3 TO x b := t3
  replace s3 : Heap.SameBut TO u2 u3 := s3
  have k3' : ∀ c o, c ≠ z → c ≠ i1 → c ≠ TO → s.heap.get? c = some o → u3.get? c = some o := fun c o q r t e => s3.extBut _ _ t (k2' c o q r e)
  refine wpAny_bind (wpAny_bind (wpAny_onRaise ?_))
  show wpAny _ _ (Builtin.SmallTypes.nextOf (.ref i2) >>= _) _ _ _
  refine wpAny_bind (wpAny_nextOf_list_item (h2.at fun o e => k3' _ o D.i2z D.i12.symm D.TOi2.symm e) (hl2.at fun o e => k3' _ o D.l2z D.l2i1 D.l2TO e) hy fun u4 j2 s4 => wpAny_pure ?_)
  replace s4 : Heap.SameBut i2 u3 u4 := s4
  have t4 : IsPair u4 TO x b := s4.extBut _ _ D.TOi2 t3
  refine wpAny_bind (wpAny_seqItems t4 rfl (wpAny_bind (wpAny_updateSeq_pair t4 fun u5 t5 s5 => wpAny_bind (wpAny_letGo (wpAny_pure (wpAny_pure ?_))))))
  replace t5 : IsPair u5 TO x y := t5
  replace s5 : Heap.SameBut TO u4 u5 := s5
  refine wpAny_bind (wpAny_seqItems t5 rfl (wpAny_bind (wpAny_newTuple ?_)))
  have hsz : u5.objs.size = s.heap.objs.size := by rw [s5.1, s4.1, s3.1, s2.1, s1.1]
  have z5 : ZAt u5 z TI TO .ellipsis f := s5.extBut _ _ D.TOz.symm (s4.extBut _ _ D.i2z.symm (s3.extBut _ _ D.TOz.symm (s2.extBut _ _ D.i1z.symm z1)))
  have k5 : ∀ c o, c ≠ z → c ≠ TO → c ≠ i1 → c ≠ i2 → s.heap.get? c = some o → u5.get? c = some o := fun c o q r t v e => s5.extBut _ _ r (s4.extBut _ _ v (k3' c o q t r e))
  have j15 : u5.IsListIter i1 l1 (k1 + 1) := j1.at fun o e => s5.extBut _ _ D.TOi1.symm (s4.extBut _ _ D.i12 (s3.extBut _ _ D.TOi1.symm e))
  have j25 : u5.IsListIter i2 l2 (k2 + 1) := j2.at fun o e => s5.extBut _ _ D.TOi2.symm e
  have lz : z < u5.objs.size := Heap.lt_size z5
  show wpAny _ _ (Builtin.SmallTypes.ownedTupleHandOut (.ref z) (.ref u5.objs.size) >>= _) _ _ _
  refine wpAny_bind ?_
  unfold Builtin.SmallTypes.ownedTupleHandOut
  have z6 : ZAt (u5.push { cls := .type "tuple", data := .seq #[x, y] }) z TI TO .ellipsis f := Heap.get?_push_of_some _ z5
  refine wpAny_bind (wpAny_setField_rec z6 (by simp) fun u7 z7 s7 => ?_)
  replace z7 : ZAt u7 z TI TO (rawInt u5.objs.size) f := z7
  refine wpAny_setField_rec z7 (by simp) fun u8 z8 s8 => ?_
  replace z8 : ZAt u8 z TI TO (rawInt u5.objs.size) false := z8
  have up : ∀ c o, c ≠ z → u5.get? c = some o → u8.get? c = some o := fun c o q e => s8.extBut _ _ q (s7.extBut _ _ q (Heap.get?_push_of_some _ e))
  have t8 : IsPair u8 u5.objs.size x y := s8.extBut _ _ (Nat.ne_of_gt lz) (s7.extBut _ _ (Nat.ne_of_gt lz) (Heap.get?_push_size _ rfl))
  have n8 : u8.objs.size = u5.objs.size + 1 := by rw [s8.1, s7.1, Heap.size_push]
  rw [hsz] at z8 t8 n8
  refine wpAny_pure ⟨_, rfl, ?_⟩
  show Q (.ref u5.objs.size) _
  rw [hsz]
  exact hQ u8 z8 (up _ _ D.TOz t5) (j15.at fun o e => up _ o D.i1z e) (j25.at fun o e => up _ o D.i2z e) t8 n8 fun c o q r t v e => up c o q (k5 c o q r t v e)
/-- the end, when the last pair is gone -/
theorem end_gone {z TI TO i1 i2 l1 l2 T : Addr} {f : Bool} {k1 k2 : Nat} {xs ys : Array Value} {a b : Value} {Q : Fin → Shared → Prop} (hh : A.handled = none) (D : ZipApart z TI TO i1 i2 l1 l2)
    (hz : ZAt s.heap z TI TO (rawInt T) f) (hT : s.heap.get? T = none) (hTI : IsPair s.heap TI (.ref i1) (.ref i2)) (hTO : IsPair s.heap TO a b)
    (h1 : s.heap.IsListIter i1 l1 k1) (h2 : s.heap.IsListIter i2 l2 k2) (hl1 : s.heap.IsList l1 xs) (hl2 : s.heap.IsList l2 ys) (he : xs[k1]? = none ∨ ys[k2]? = none)
    (hE : ∀ u e, (∀ c o, c ≠ z → c ≠ TO → c ≠ i1 → c ≠ i2 → s.heap.get? c = some o → u.get? c = some o) → (∃ o, u.get? e = some o ∧ o.cls = .type "StopIteration") → E (.ref e) { s with heap := u }) :
    wpAny (model prog w) A (Builtin.«zip.__next__» ⟨[.ref z], []⟩) Q E s := by
  show wpAny _ _ (field (.ref z) 2 >>= _) _ _ _
  refine wpAny_bind (wpAny_field hz rfl (x := .bool false) rfl ?_)
  show wpAny _ _ (field (.ref z) 3 >>= _) _ _ _
  refine wpAny_bind (wpAny_field hz rfl (x := .ref TI) rfl (wpAny_bind (wpAny_seqItems hTI rfl ?_)))
  show wpAny _ _ (Builtin.SmallTypes.ownedTupleIsFree (.ref z) >>= _) _ _ _
  refine wpAny_bind (free_gone hz hT ?_)
  simp only [if_true]
  refine wpAny_bind (wpAny_rule (wpAny_bind (wpAny_field hz rfl (x := .ref TO) rfl (wpAny_bind (wpAny_setField_rec hz (by simp) fun u1 z1 s1 => wpAny_bind ?_)))))
  replace z1 : ZAt u1 z TI TO .ellipsis f := z1
  simp only [List.zipIdx_cons, List.zipIdx_nil, List.forIn_cons, List.forIn_nil]
  have k1' : ∀ c o, c ≠ z → s.heap.get? c = some o → u1.get? c = some o := fun c o q e => s1.extBut _ _ q e
  refine wpAny_bind (wpAny_bind (wpAny_onRaise ?_))
  show wpAny _ _ (Builtin.SmallTypes.nextOf (.ref i1) >>= _) _ _ _
  cases hx : xs[k1]? with
  | none =>
    refine wpAny_bind (wpAny_nextOf_list_end hh (h1.at fun o e => k1' _ o D.i1z e) (hl1.at fun o e => k1' _ o D.l1z e) hx fun u2 e s2 he => ?_)
    obtain ⟨oe, ge, ce⟩ := he
    have z2 : ZAt u2 z TI TO .ellipsis f := s2 _ _ D.i1z.symm z1
    have ez : e ≠ z := fun q => by subst q; rw [z2] at ge; cases ge; simp at ce
    exact wpAny_setField_rec z2 (by simp) fun u3 _ s3 => hE u3 e (fun c o q _ t _ g => s3.extBut _ _ q (s2 _ _ t (k1' c o q g))) ⟨oe, s3.extBut _ _ ez ge, ce⟩
  | some x =>
    have hy : ys[k2]? = none := by
      rcases he with q | q
      · rw [hx] at q; cases q
      · exact q
    refine wpAny_bind (wpAny_nextOf_list_item (h1.at fun o e => k1' _ o D.i1z e) (hl1.at fun o e => k1' _ o D.l1z e) hx fun u2 j1 s2 => wpAny_pure ?_)
    replace s2 : Heap.SameBut i1 u1 u2 := s2
    have k2' : ∀ c o, c ≠ z → c ≠ i1 → s.heap.get? c = some o → u2.get? c = some o := fun c o q r e => s2.extBut _ _ r (k1' c o q e)
    have t2 : IsPair u2 TO a b := k2' _ _ D.TOz D.TOi1 hTO
    refine wpAny_bind (wpAny_seqItems t2 rfl (wpAny_bind (wpAny_updateSeq_pair t2 fun u3 t3 s3 => wpAny_bind (wpAny_letGo (wpAny_pure ?_)))))
    replace s3 : Heap.SameBut TO u2 u3 := s3
    have k3' : ∀ c o, c ≠ z → c ≠ i1 → c ≠ TO → s.heap.get? c = some o → u3.get? c = some o := fun c o q r t e => s3.extBut _ _ t (k2' c o q r e)
    refine wpAny_bind (wpAny_bind (wpAny_onRaise ?_))
    show wpAny _ _ (Builtin.SmallTypes.nextOf (.ref i2) >>= _) _ _ _
    refine wpAny_bind (wpAny_nextOf_list_end hh (h2.at fun o e => k3' _ o D.i2z D.i12.symm D.TOi2.symm e) (hl2.at fun o e => k3' _ o D.l2z D.l2i1 D.l2TO e) hy fun u4 e s4 he => ?_)
    obtain ⟨oe, ge, ce⟩ := he
    have z4 : ZAt u4 z TI TO .ellipsis f := s4 _ _ D.i2z.symm (s3.extBut _ _ D.TOz.symm (s2.extBut _ _ D.i1z.symm z1))
    have ez : e ≠ z := fun q => by subst q; rw [z4] at ge; cases ge; simp at ce
    exact wpAny_setField_rec z4 (by simp) fun u5 _ s5 => hE u5 e (fun c o q r t v g => s5.extBut _ _ q (s4 _ _ v (k3' c o q t r g))) ⟨oe, s5.extBut _ _ ez ge, ce⟩
/-- the next pair, whatever became of the last one -/
theorem nx {z TI TO i1 i2 l1 l2 : Addr} {k1 k2 : Nat} {xs ys : Array Value} {x y a b : Value} {Q : Value → Shared → Prop} (D : ZipApart z TI TO i1 i2 l1 l2)
    (hz : Zs s.heap z TI TO) (hTI : IsPair s.heap TI (.ref i1) (.ref i2)) (hTO : IsPair s.heap TO a b)
    (h1 : s.heap.IsListIter i1 l1 k1) (h2 : s.heap.IsListIter i2 l2 k2) (hl1 : s.heap.IsList l1 xs) (hl2 : s.heap.IsList l2 ys) (hx : xs[k1]? = some x) (hy : ys[k2]? = some y)
    (hQ : ∀ u, Zs u z TI TO → (∃ a b, IsPair u TO a b) → u.IsListIter i1 l1 (k1 + 1) → u.IsListIter i2 l2 (k2 + 1) → IsPair u s.heap.objs.size x y → u.objs.size = s.heap.objs.size + 1 →
      (∀ c o, c ≠ z → c ≠ TO → c ≠ i1 → c ≠ i2 → s.heap.get? c = some o → u.get? c = some o) → Q (.ref s.heap.objs.size) { s with heap := u }) :
    wpAny (model prog w) A (Builtin.SmallTypes.nextOf (.ref z)) Q E s := by
  obtain ⟨oz, gz, cz, _⟩ := hz.obj
  have hTy : s.TypeIs (.ref z) "zip" := ⟨oz, gz, cz⟩
  unfold Builtin.SmallTypes.nextOf
  refine wpAny_bind (wpAny_callSpecial?_slot (name := Str.ofString "__next__") hTy F.slot_zip_next (wpAny_call_entry F.slot_zip_next hTy F.entry_zip_next ?_ (F.args_zip_next_1 _)))
  rcases hz with q | ⟨T, f, q⟩
  · exact zip_next_item D q hTI hTO h1 h2 hl1 hl2 hx hy fun u a1 a2 a3 a4 a5 a6 a7 => wpAny_pure (hQ u (.inr ⟨_, _, a1⟩) ⟨_, _, a2⟩ a3 a4 a5 a6 a7)
  · cases hT : s.heap.get? T with
    | some oT => exact zip_next_item_held D q hT hTI h1 h2 hl1 hl2 hx hy fun u a1 a3 a4 a5 a6 a7 => wpAny_pure (hQ u (.inr ⟨_, _, a1⟩) ⟨a, b, a7 _ _ D.TOz D.TOi1 D.TOi2 hTO⟩ a3 a4 a5 a6 fun c o q1 _ q3 q4 e => a7 c o q1 q3 q4 e)
    | none => exact item_gone D q hT hTI hTO h1 h2 hl1 hl2 hx hy fun u a1 a2 a3 a4 a5 a6 a7 => wpAny_pure (hQ u (.inr ⟨_, _, a1⟩) ⟨_, _, a2⟩ a3 a4 a5 a6 a7)
theorem nx_end {z TI TO i1 i2 l1 l2 : Addr} {k1 k2 : Nat} {xs ys : Array Value} {a b : Value} {Q : Value → Shared → Prop} (hh : A.handled = none) (D : ZipApart z TI TO i1 i2 l1 l2)
    (hz : Zs s.heap z TI TO) (hTI : IsPair s.heap TI (.ref i1) (.ref i2)) (hTO : IsPair s.heap TO a b)
    (h1 : s.heap.IsListIter i1 l1 k1) (h2 : s.heap.IsListIter i2 l2 k2) (hl1 : s.heap.IsList l1 xs) (hl2 : s.heap.IsList l2 ys) (he : xs[k1]? = none ∨ ys[k2]? = none)
    (hE : ∀ u e, (∀ c o, c ≠ z → c ≠ TO → c ≠ i1 → c ≠ i2 → s.heap.get? c = some o → u.get? c = some o) → (∃ o, u.get? e = some o ∧ o.cls = .type "StopIteration") → E (.ref e) { s with heap := u }) :
    wpAny (model prog w) A (Builtin.SmallTypes.nextOf (.ref z)) Q E s := by
  obtain ⟨oz, gz, cz, _⟩ := hz.obj
  have hTy : s.TypeIs (.ref z) "zip" := ⟨oz, gz, cz⟩
  unfold Builtin.SmallTypes.nextOf
  refine wpAny_bind (wpAny_callSpecial?_slot (name := Str.ofString "__next__") hTy F.slot_zip_next (wpAny_call_entry F.slot_zip_next hTy F.entry_zip_next ?_ (F.args_zip_next_1 _)))
  rcases hz with q | ⟨T, f, q⟩
  · exact zip_next_end hh D q hTI hTO h1 h2 hl1 hl2 he hE
  · cases hT : s.heap.get? T with
    | some oT => exact zip_next_end_held hh D q hT hTI h1 h2 hl1 hl2 he fun u e k g => hE u e (fun c o q1 _ q3 q4 y => k c o q1 q3 q4 y) g
    | none => exact end_gone hh D q hT hTI hTO h1 h2 hl1 hl2 he hE
/-- the next pair of an enumerate over what makes an object of its own -/
theorem en_nx {e it : Addr} {i : Int} {old x : Value} {G : Heap → Prop} {Q : Value → Shared → Prop} (he : IsEnum s.heap e it i old)
    (hn : ∀ (P : Value → Shared → Prop), (∀ u, IsEnum u e it i old → G u → P x { s with heap := u }) → wpAny (model prog w) A (Builtin.SmallTypes.nextOf (.ref it)) P E s)
    (hQ : ∀ u u', G u → IsEnumOut u' e it (i + 1) x u.objs.size → u'.get? u.objs.size = some { cls := .type "tuple", data := .seq #[.int i s.toks, x] } → u'.objs.size = u.objs.size + 1 →
      (∀ b o, b ≠ e → u.get? b = some o → u'.get? b = some o) → Q (.ref u.objs.size) { s with heap := u', toks := s.toks + 1 }) :
    wpAny (model prog w) A (Builtin.«enumerate.__next__» ⟨[.ref e], []⟩) (fun fin s' => ∃ v, fin = .done (.ret v) ∧ Q v s') E s := by
  show wpAny _ _ (field (.ref e) 2 >>= _) _ _ _
  refine wpAny_bind (wpAny_field he rfl (x := .ref it) rfl (wpAny_bind (hn _ fun u e1 gu => ?_)))
  show wpAny _ _ (field (.ref e) 3 >>= _) _ _ _
  refine wpAny_bind (wpAny_field e1 rfl (x := rawInt i) rfl ?_)
  show wpAny _ _ (field (.ref e) 4 >>= _) _ _ _
  refine wpAny_bind (wpAny_field e1 rfl (x := .none) rfl ?_)
  show wpAny _ _ (mkInt i >>= _) _ _ _
  refine wpAny_bind (wpAny_mkInt ?_)
  show wpAny _ _ (setField (.ref e) 3 (rawInt (i + 1)) >>= _) _ _ _
  refine wpAny_bind (wpAny_setField_rec (s := { s with heap := u, toks := s.toks + 1 }) e1 (by simp) fun u2 e2 s2 => ?_)
  replace s2 : Heap.SameBut e u u2 := s2
  replace e2 : IsEnum u2 e it (i + 1) old := e2
  show wpAny _ _ (setField (.ref e) 4 .none >>= _) _ _ _
  refine wpAny_bind (wpAny_setField_rec (s := { s with heap := u2, toks := s.toks + 1 }) e2 (by simp) fun u3 e3 s3 => ?_)
  replace s3 : Heap.SameBut e u2 u3 := s3
  replace e3 : IsEnum u3 e it (i + 1) old := e3
  show wpAny _ _ (newTuple [.int i s.toks, x] >>= _) _ _ _
  refine wpAny_bind (wpAny_newTuple ?_)
  have n3 : u3.objs.size = u.objs.size := by rw [s3.1, s2.1]
  have le : e < u3.objs.size := Heap.lt_size e3
  show wpAny _ _ (Builtin.SmallTypes.ownedTupleIsFree (.ref e) >>= _) _ _ { s with heap := u3.push { cls := .type "tuple", data := .seq #[.int i s.toks, x] }, toks := s.toks + 1 }
  have e4 : IsEnum (u3.push { cls := .type "tuple", data := .seq #[.int i s.toks, x] }) e it (i + 1) old := Heap.get?_push_of_some _ e3
  have g4 : (u3.push { cls := .type "tuple", data := .seq #[.int i s.toks, x] }).get? u.objs.size = some { cls := .type "tuple", data := .seq #[.int i s.toks, x] } := by rw [← n3]; exact Heap.get?_push_size _ rfl
  have n4 : (u3.push { cls := .type "tuple", data := .seq #[.int i s.toks, x] }).objs.size = u.objs.size + 1 := by rw [Heap.size_push, n3]
  have k4 : ∀ b o, b ≠ e → u.get? b = some o → (u3.push { cls := .type "tuple", data := .seq #[.int i s.toks, x] }).get? b = some o := fun b o q r => Heap.get?_push_of_some _ (s3.extBut b o q (s2.extBut b o q r))
  rw [n3] at le ⊢
  generalize u3.push { cls := .type "tuple", data := .seq #[.int i s.toks, x] } = u4 at e4 g4 n4 k4 ⊢
  refine wpAny_bind ?_
  unfold Builtin.SmallTypes.ownedTupleIsFree
  refine wpAny_bind (wpAny_field e4 rfl (x := .none) rfl (wpAny_pure ?_))
  simp only [if_true]
  refine wpAny_bind (wpAny_rule (wpAny_bind (wpAny_field e4 rfl (x := old) rfl (wpAny_bind (wpAny_setField_rec e4 (by simp) fun u5 e5 s5 => ?_)))))
  replace s5 : Heap.SameBut e u4 u5 := s5
  replace e5 : IsEnum u5 e it (i + 1) x := e5
  show wpAny _ _ (Builtin.SmallTypes.ownedTupleHandOut (.ref e) (.ref u.objs.size) >>= _) _ _ _
  refine wpAny_bind ?_
  unfold Builtin.SmallTypes.ownedTupleHandOut
  refine wpAny_bind (wpAny_setField_rec e5 (by simp) fun u6 e6 s6 => ?_)
  replace s6 : Heap.SameBut e u5 u6 := s6
  replace e6 : IsEnumOut u6 e it (i + 1) x u.objs.size := e6
  refine wpAny_setField_rec e6 (by simp) fun u7 e7 s7 => ?_
  replace s7 : Heap.SameBut e u6 u7 := s7
  replace e7 : IsEnumOut u7 e it (i + 1) x u.objs.size := e7
  refine wpAny_bind (wpAny_letGo (wpAny_pure ⟨_, rfl, hQ u u7 gu e7 ?_ ?_ fun b o q r => s7.extBut b o q (s6.extBut b o q (s5.extBut b o q (k4 b o q r)))⟩))
  · exact s7.extBut _ _ (Nat.ne_of_gt le) (s6.extBut _ _ (Nat.ne_of_gt le) (s5.extBut _ _ (Nat.ne_of_gt le) g4))
  · rw [s7.1, s6.1, s5.1, n4]
end
end EZ

end
section
set_option autoImplicit false
set_option Elab.async false
set_option linter.all false
set_option maxRecDepth 100000
set_option maxHeartbeats 4000000
namespace EZ
open PySem L2 PyProof.Rows
/-- the lists at a and b side by side, each pair in a new pair behind its place -/
def Iez (K : PySem.W.Frag) (a b : Addr) : It where
  go := fun i H => ∃ (xs ys : List V) (x y : V), SqL K H a xs ∧ SqL K H b ys ∧ xs[i]? = some x ∧ ys[i]? = some y
  yld := fun i H v H' => ∃ T U x y, v = .ref U ∧ H T = none ∧ H U = none ∧ U ≠ T ∧ H' = upd (upd H T (.tup [x, y])) U (.tup [.int (i : Nat), .ref T]) ∧ (∀ xs, SqL K H a xs → xs[i]? = some x) ∧ ∀ ys, SqL K H b ys → ys[i]? = some y
  stop := fun i H => ∃ xs ys : List V, SqL K H a xs ∧ SqL K H b ys ∧ (xs.length ≤ i ∨ ys.length ≤ i)
structure Apart (e z TI TO i1 i2 : Addr) : Prop where
  z : e ≠ z
  TI : e ≠ TI
  TO : e ≠ TO
  i1 : e ≠ i1
  i2 : e ≠ i2
theorem apart5 {m n : Nat} (h : m = n + 5) : Apart m (n + 4) (n + 2) (n + 3) n (n + 1) := by
  subst h
  exact ⟨Nat.ne_of_gt (Nat.lt_succ_self _), Nat.ne_of_gt (by show n + 2 < n + 5; omega), Nat.ne_of_gt (by show n + 3 < n + 5; omega), Nat.ne_of_gt (by show n < n + 5; omega), Nat.ne_of_gt (by show n + 1 < n + 5; omega)⟩
theorem above5 {m n c : Nat} (h : m = n + 5) (q : c = m ∨ c = n + 4 ∨ c = n + 2 ∨ c = n + 3 ∨ c = n ∨ c = n + 1) : n ≤ c := by omega
def Tn (e z TI TO i1 i2 a b : Addr) (i : Nat) (h : Heap) : Prop := (∃ x, IsEnum h e z ((i : Nat) : Int) x) ∧ Zs h z TI TO ∧ IsPair h TI (.ref i1) (.ref i2) ∧ (∃ x y, IsPair h TO x y) ∧ h.IsListIter i1 a i ∧ h.IsListIter i2 b i
theorem six {e z TI TO i1 i2 c : Addr} (h : c ∈ [e, z, TI, TO, i1, i2]) : c = e ∨ c = z ∨ c = TI ∨ c = TO ∨ c = i1 ∨ c = i2 := by simpa using h
theorem Tn.there {e z TI TO i1 i2 a b c : Addr} {i : Nat} {h : Heap} (q : Tn e z TI TO i1 i2 a b i h) (hc : c ∈ [e, z, TI, TO, i1, i2]) : ∃ o, h.get? c = some o ∧ ∀ v, o.data ≠ .cell v := by
  obtain ⟨⟨x, q1⟩, q2, q3, ⟨x2, y2, q4⟩, ⟨o5, q5, _, d5⟩, ⟨o6, q6, _, d6⟩⟩ := q
  rcases six hc with r | r | r | r | r | r <;> subst r
  · exact ⟨_, q1, fun v r => nomatch r⟩
  · obtain ⟨o, g, _, n⟩ := q2.obj
    exact ⟨o, g, n⟩
  · exact ⟨_, q3, fun v r => nomatch r⟩
  · exact ⟨_, q4, fun v r => nomatch r⟩
  · exact ⟨o5, q5, fun v r => by rw [d5] at r; cases r⟩
  · exact ⟨o6, q6, fun v r => by rw [d6] at r; cases r⟩
theorem turn {P : Program} {w : World} {K : PySem.W.Frag} {elts : List Expr} {kk : Nat} {tpos : Pos} {e z TI TO i1 i2 a b : Addr} (D : ZipApart z TI TO i1 i2 a b) (B : Apart e z TI TO i1 i2) :
    Turn P w K (.Tuple elts kk tpos) (Iez K a b) [e, z, TI, TO, i1, i2] e (Tn e z TI TO i1 i2 a b) where
  mem := List.mem_cons_self
  obj := fun i h st c hc => st.there hc
  keep := fun i h h' st k => by
    obtain ⟨⟨x, q1⟩, q2, q3, ⟨x2, y2, q4⟩, q5, q6⟩ := st
    exact ⟨⟨x, k e (by simp) _ q1⟩, q2.at fun o => k z (by simp) o, k TI (by simp) _ q3, ⟨x2, y2, k TO (by simp) _ q4⟩, q5.at fun o g => k i1 (by simp) o g, q6.at fun o g => k i2 (by simp) o g⟩
  item := by
    intro X hP hw hK hc i pins s σ H E I hf st hg
    subst hP hw hK
    have lt : ∀ c ∈ [e, z, TI, TO, i1, i2], c < s.heap.objs.size := fun c m => by
      obtain ⟨o, g, _⟩ := st.there m
      exact Heap.lt_size g
    obtain ⟨⟨old, he⟩, hz, hTI, ⟨x0, y0, hTO⟩, h1, h2⟩ := st
    obtain ⟨xs, ys, x, y, hqx, hqy, hx, hy⟩ := hg
    obtain ⟨its, rv, p, _⟩ := I.list hqx
    obtain ⟨its2, rv2, p2, _⟩ := I.list hqy
    obtain ⟨u, hu, ru⟩ := rv.get hx
    obtain ⟨u2, hu2, ru2⟩ := rv2.get hy
    have hTe : s.TypeIs (.ref e) "enumerate" := ⟨_, he, rfl⟩
    unfold pyNext
    refine wpAny_bind (wpAny_attempt (wpAny_callSpecial?_slot (name := Str.ofString "__next__") hTe F.slot_enumerate_next (wpAny_call_entry F.slot_enumerate_next hTe F.entry_enumerate_next ?_ (F.args_enumerate_next_1 _))))
    refine en_nx (x := .ref s.heap.objs.size) (G := fun h => Zs h z TI TO ∧ (∃ a b, IsPair h TO a b) ∧ h.IsListIter i1 a (i + 1) ∧ h.IsListIter i2 b (i + 1) ∧ IsPair h s.heap.objs.size u u2 ∧ h.objs.size = s.heap.objs.size + 1 ∧ ∀ c o, c ≠ z → c ≠ TO → c ≠ i1 → c ≠ i2 → s.heap.get? c = some o → h.get? c = some o) he
      (fun P hP => nx D hz hTI hTO h1 h2 p.isList p2.isList (x := u) (y := u2) (by simpa using hu) (by simpa using hu2) fun g a1 a2 a3 a4 a5 a6 a7 => hP g (a7 _ _ B.z B.TO B.i1 B.i2 he) ⟨a1, a2, a3, a4, a5, a6, a7⟩) ?_
    rintro g g' ⟨a1, a2, a3, a4, a5, a6, a7⟩ eo ht hsz hk
    refine wpAny_pure ?_
    refine ⟨_, rfl, wpAny_letOwnedTupleGo_enum (s := { s with heap := g', toks := s.toks + 1 }) eo fun h2' he2 sb => ?_⟩
    have new1 : ObjOk X.prog X.w (upd H s.heap.objs.size (.tup [x, y])) g s.heap.objs.size (.tup [x, y]) :=
      ⟨by show 2 ≤ sizeLine; decide, [u, u2], .cons ru (.cons ru2 .nil), ⟨_, a5, rfl, _, rfl⟩⟩
    have I1 : Inv X pins σ (upd H s.heap.objs.size (.tup [x, y])) { s with heap := g } :=
      I.turnedNew (t' := s.toks) (ch := [e, z, TI, TO, i1, i2]) (fun c o hb q => a7 c o (fun r => hb (by simp [r])) (fun r => hb (by simp [r])) (fun r => hb (by simp [r])) (fun r => hb (by simp [r])) q) hf (Nat.le_refl _) new1
    have hf1 : ∀ c ∈ [e, z, TI, TO, i1, i2], FpOk X pins (upd H s.heap.objs.size (.tup [x, y])) c := fun c m => by
      obtain ⟨f0, fr⟩ := hf c m
      exact ⟨by rw [upd_ne (Nat.ne_of_lt (lt c m))]; exact f0, fr⟩
    have le : e < g.objs.size := by rw [a6]; exact Nat.lt_succ_of_lt (lt e List.mem_cons_self)
    have hT2 : h2'.get? g.objs.size = some { cls := .type "tuple", data := .seq #[.int i s.toks, .ref s.heap.objs.size] } := (sb.2 _ (Nat.ne_of_gt le)).trans ht
    have new2 : ObjOk X.prog X.w (upd (upd H s.heap.objs.size (.tup [x, y])) g.objs.size (.tup [.int (i : Nat), .ref s.heap.objs.size])) h2' g.objs.size (.tup [.int (i : Nat), .ref s.heap.objs.size]) :=
      ⟨by show 2 ≤ sizeLine; decide, [.int i s.toks, .ref s.heap.objs.size], .cons ⟨_, rfl⟩ (.cons rfl .nil), ⟨_, hT2, rfl, _, rfl⟩⟩
    have I2 : Inv X pins σ (upd (upd H s.heap.objs.size (.tup [x, y])) g.objs.size (.tup [.int (i : Nat), .ref s.heap.objs.size])) { s with heap := h2', toks := s.toks + 1 } :=
      I1.turnedNew (t' := s.toks + 1) (ch := [e, z, TI, TO, i1, i2]) (fun c o hb q => (sb.2 c (fun r => hb (by simp [r]))).trans (hk c o (fun r => hb (by simp [r])) q)) hf1 (Nat.le_refl _) new2
    have up : ∀ c o, c ≠ e → g.get? c = some o → h2'.get? c = some o := fun c o q r => (sb.2 c q).trans (hk c o q r)
    obtain ⟨aa, bb, a2⟩ := a2
    refine ⟨.ref g.objs.size, _, I2, rfl, ⟨s.heap.objs.size, g.objs.size, x, y, rfl, I.hok.fresh (Nat.le_refl _), I.hok.fresh (by rw [a6]; exact Nat.le_succ _), by rw [a6]; exact Nat.succ_ne_self _, rfl, fun l hl => by rw [I.list_inj hl hqx]; exact hx, fun l hl => by rw [I.list_inj hl hqy]; exact hy⟩, ⟨⟨.ref s.heap.objs.size, ?_⟩, a1.at fun o q => up _ o B.z.symm q, up _ _ B.TI.symm (a7 _ _ D.TIz D.TITO D.TIi1 D.TIi2 hTI), ⟨aa, bb, up _ _ B.TO.symm a2⟩, a3.at fun o q => up _ o B.i1.symm q, a4.at fun o q => up _ o B.i2.symm q⟩, fun c m => ?_⟩
    · rw [show ((i + 1 : Nat) : Int) = (i : Int) + 1 by omega]
      exact he2
    · have l := lt c m
      rw [upd_ne (Nat.ne_of_lt (by rw [a6]; exact Nat.lt_succ_of_lt l)), upd_ne (Nat.ne_of_lt l)]
      exact (hf c m).1
  done := by
    intro X hP hw hK hc i pins s σ H E I hf st hg
    subst hP hw hK
    obtain ⟨⟨old, he⟩, hz, hTI, ⟨x0, y0, hTO⟩, h1, h2⟩ := st
    obtain ⟨xs, ys, hqx, hqy, hend⟩ := hg
    obtain ⟨its, rv, p, _⟩ := I.list hqx
    obtain ⟨its2, rv2, p2, _⟩ := I.list hqy
    have l1 := rv.length
    have l2 := rv2.length
    have hE : its.toArray[i]? = none ∨ its2.toArray[i]? = none := by
      rcases hend with q | q
      · exact .inl (by simp; omega)
      · exact .inr (by simp; omega)
    have hTe : s.TypeIs (.ref e) "enumerate" := ⟨_, he, rfl⟩
    unfold pyNext
    refine wpAny_bind (wpAny_attempt (wpAny_callSpecial?_slot (name := Str.ofString "__next__") hTe F.slot_enumerate_next (wpAny_call_entry F.slot_enumerate_next hTe F.entry_enumerate_next ?_ (F.args_enumerate_next_1 _))))
    refine (show wpAny _ _ (field (.ref e) 2 >>= _) _ _ _ from ?_)
    refine wpAny_bind (wpAny_field he rfl (x := .ref z) rfl (wpAny_bind (nx_end (I.ok.hd hc) D hz hTI hTO h1 h2 p.isList p2.isList hE fun g x k hx => ?_)))
    obtain ⟨o, ho, hc2⟩ := hx
    exact wpAny_bind (wpAny_isInstance (T := "StopIteration") (b := true) ⟨o, ho, hc2⟩ isSubtype_stop (wpAny_pure ⟨rfl, I.turnedL (t' := s.toks) (ch := [e, z, TI, TO, i1, i2]) (fun c o hb q => k c o (fun r => hb (by simp [r])) (fun r => hb (by simp [r])) (fun r => hb (by simp [r])) (fun r => hb (by simp [r])) q) hf⟩))
  self := fun _ _ s Q E st h => by
    obtain ⟨⟨x, he⟩, _⟩ := st
    exact wpAny_pyIter_enum he h
theorem en_newO {v : Value} {Hd : Heap → Prop} (B : ∀ (prog : Program) (w : World) (A : Around) (E : Value → Shared → Prop) (s : Shared) (Q : Value → Shared → Prop), Hd s.heap → Q v s → wpAny (model prog w) A (pyIter v) Q E s) :
    Meets (Builtin.«enumerate.__new__» ⟨[.type "enumerate", v], []⟩) (fun _ R u => Hd u.heap ∧ R (.ok (.ret (.ref u.heap.objs.size))) { u with heap := u.heap.push { cls := .type "enumerate", data := .fields #[.none, .bool false, v, rawInt 0, .none, .none] } }) :=
  .of_wp fun prog w A R u h => by
    obtain ⟨x, g, d, k, os⟩ := u
    obtain ⟨h1, h⟩ := h
    have sb := sub_enumerate
    have q1 : ∀ {A2 : Around} {E : Value → Shared → Prop} {Q : Value → Shared → Prop}, Q v ⟨x, g, d, k, os⟩ → wpAny (model prog w) A2 (pyIter v) Q E ⟨x, g, d, k, os⟩ := fun q => B prog w _ _ ⟨x, g, d, k, os⟩ _ h1 q
    wp_walk using q1
    refine wpAny_stack_any fun _ => wpAny_pure ?_
    split
    · rename_i c _ _ _ _ _
      cases (c == Value.type "enumerate") <;> (wp_walk using q1; exact ⟨_, rfl, h⟩)
    · (wp_walk using q1; exact ⟨_, rfl, h⟩)
theorem en_callO {prog : Program} {w : World} {A : Around} {E : Value → Shared → Prop} {s : Shared} {z : Addr} {Hd : Heap → Prop} {Q : Value → Shared → Prop}
    (B : ∀ (prog : Program) (w : World) (A : Around) (E : Value → Shared → Prop) (s : Shared) (Q : Value → Shared → Prop), Hd s.heap → Q (.ref z) s → wpAny (model prog w) A (pyIter (.ref z)) Q E s) (h1 : Hd s.heap)
    (h : ∀ u, IsEnum u s.heap.objs.size z 0 .none → (∀ b p, s.heap.get? b = some p → u.get? b = some p) → Q (.ref s.heap.objs.size) { s with heap := u }) : wpAny (model prog w) A (call (.type "enumerate") [.ref z]) Q E s := by
  refine callType_new F.called_enumerate (by decide) (F.typeCall_enumerate_1 _) (F.newCall_enumerate_1 _) (fun x => F.args_object_init_2 x _) F.entry_enumerate_new (en_newO B) ⟨h1, ?_⟩
  have he := Heap.get?_push_size s.heap (o := { cls := .type "enumerate", data := .fields #[.none, .bool false, .ref z, rawInt 0, .none, .none] }) rfl
  exact ⟨⟨_, he, rfl⟩, h _ he fun b p e => Heap.get?_push_of_some _ e⟩
def iEz (K : PySem.W.Frag) (ta : TA) : TI := fun σ H R => ta σ H fun vs H1 => ∃ a b xs ys, vs = [.ref a, .ref b] ∧ SqL K H1 a xs ∧ SqL K H1 b ys ∧ R (Iez K a b) H1
theorem pi_ez {X : Cx} {e e2 : Expr} {ta : TA} {p p2 pos pos2 tpos : Pos} {elts : List Expr} {kk : Nat} (hg : Gl X "enumerate") (hm : X.mg "enumerate" = none) (hg2 : Gl X "zip") (hm2 : X.mg "zip" = none) (ha : PA X [e, e2] ta)
    (na : starEach [.Call (.Name "zip" p2) [e, e2] [] pos2] X.env = (false, eval (.Call (.Name "zip" p2) [e, e2] [] pos2) X.env) :: starEach [] X.env := by rfl)
    (hs : starEach [e, e2] X.env = (false, eval e X.env) :: starEach [e2] X.env := by rfl) (hpl : (backTo pos2 (starEach [e2] X.env)).any (·.1) = false := by rfl) :
    PI X (.Tuple elts kk tpos) (.Call (.Name "enumerate" p) [.Call (.Name "zip" p2) [e, e2] [] pos2] [] pos) (iEz X.K ta) := by
  refine ⟨fun pins s σ H R I h => ?_⟩
  refine Call_ (ld_blt I hg hm boot_enumerate ?_)
  refine PyProof.Rows.callWith_type1 (PyProof.Rows.args_cons ?_ rfl) na rfl
  refine Call_ (ld_blt I hg2 hm2 PyProof.Rows.boot_zip (PyProof.Rows.callWith_type1 (thn (ha.run pos2 pins s σ H _ I h) fun us s1 ⟨vs, H1, I1, r1, q1⟩ => ?_) hs hpl))
  obtain ⟨a, b, xs, ys, ex, hqx, hqy, q⟩ := q1
  subst ex
  cases r1 with
  | cons r rr =>
    cases rr with
    | cons r' rr =>
      cases rr
      cases r
      cases r'
      obtain ⟨its, rv, q1, _⟩ := I1.list hqx
      obtain ⟨its2, rv2, q2, _⟩ := I1.list hqy
      refine call_zip_2 q1.isList q2.isList fun g hz hTI hTO h1 h2 hsz hk => PyProof.Rows.args_nil ?_
      refine en_callO (s := { s1 with heap := g }) (Hd := fun h => IsZip h (s1.heap.objs.size + 4) (s1.heap.objs.size + 2) (s1.heap.objs.size + 3) .none) (fun prog w A E s Q x y => wpAny_pyIter_zip x y) hz fun g' he hk' => wpAny_pyIter_enum he ?_
      have I2 : Inv X pins σ H1 { s1 with heap := g' } := I1.kept (t' := s1.toks) fun c o e => hk' c o (hk c o e)
      have n : g.objs.size = s1.heap.objs.size + 5 := hsz
      refine ⟨g.objs.size, [g.objs.size, s1.heap.objs.size + 4, s1.heap.objs.size + 2, s1.heap.objs.size + 3, s1.heap.objs.size, s1.heap.objs.size + 1], _, _, H1, rfl, I2, turn (PySem.W.ktu_apart s1.heap.objs.size a b q1.lt q2.lt) (apart5 n),
        ⟨⟨.none, he⟩, .inl (hk' _ _ hz), hk' _ _ hTI, ⟨_, _, hk' _ _ hTO⟩, h1.at fun o x => hk' _ o x, h2.at fun o x => hk' _ o x⟩, fun c m => ?_, q⟩
      have le : s1.heap.objs.size ≤ c := above5 n (six m)
      exact I1.fpOk le (I1.hok.fresh le)
/-- a loop over enumerate(zip(..)) of two lists of one length -/
theorem for_ez {K : PySem.W.Frag} {a b : Addr} {xs ys : List V} {g : TG} {tb : TS} {D : Ends} {σ : L2.St} {H : Hp} (hl : xs.length = ys.length) (Pv : Nat → L2.St → Hp → Prop) (h0 : Pv 0 σ H) (hq : ∀ i σ H, Pv i σ H → SqL K H a xs ∧ SqL K H b ys)
    (hs : ∀ (i : Nat) (x y : V) (T U : Addr) (σ : L2.St) (H : Hp), xs[i]? = some x → ys[i]? = some y → Pv i σ H → H T = none → H U = none → U ≠ T → g (.ref U) σ (upd (upd H T (.tup [x, y])) U (.tup [.int (i : Nat), .ref T])) fun σ2 H2 => tb { D with nx := Pv (i + 1), ct := Pv (i + 1), bk := D.nx } σ2 H2) (hd : ∀ σ H, Pv xs.length σ H → D.nx σ H) :
    ∃ W : Nat → Nat → L2.St → Hp → Prop, (∃ m, W 0 m σ H) ∧ ∀ i m σ H, W i m σ H →
      ((Iez K a b).stop i H ∧ D.nx σ H) ∨ ((Iez K a b).go i H ∧ ∃ N : L2.St → Hp → Prop, (∀ σ' H', N σ' H' → ∃ m', m' < m ∧ W (i + 1) m' σ' H') ∧ ∀ v H', (Iez K a b).yld i H v H' → g v σ H' fun σ2 H2 => tb { D with nx := N, ct := N, bk := D.nx } σ2 H2) := by
  refine ⟨fun i m σ H => m = xs.length - i ∧ i ≤ xs.length ∧ Pv i σ H, ⟨xs.length, rfl, Nat.zero_le _, h0⟩, ?_⟩
  rintro i m σ H ⟨rfl, hi, p⟩
  obtain ⟨qx, qy⟩ := hq i σ H p
  by_cases hlt : i < xs.length
  · refine .inr ⟨⟨xs, ys, _, _, qx, qy, List.getElem?_eq_getElem hlt, List.getElem?_eq_getElem (hl ▸ hlt)⟩, Pv (i + 1), fun σ' H' p' => ⟨xs.length - (i + 1), by omega, rfl, hlt, p'⟩, fun v H' r => ?_⟩
    obtain ⟨T, U, x, y, rfl, n1, n2, n3, rfl, f1, f2⟩ := r
    exact hs i x y T U σ H (f1 xs qx) (f2 ys qy) p n1 n2 n3
  · exact .inl ⟨⟨xs, ys, qx, qy, .inl (Nat.le_of_not_lt hlt)⟩, hd σ H (by rw [show xs.length = i by omega]; exact p)⟩
end EZ

end
section
set_option autoImplicit false
set_option Elab.async false
set_option linter.all false
set_option maxRecDepth 100000
set_option maxHeartbeats 4000000
/-! ## least_difference -/
namespace CP
open PySem L2 G Y
abbrev sLeastD : Stmt := S.top 18
/-- so many places are looked at -/
def ldn (c1 c2 : List Nat) (L : Option Int) : Nat := nl (N.hd c1 + N.hd c2 + 1) L
def ldm (c1 c2 : List Nat) (p : Nat) : Bool := decide (N.rem c1 p = 0) != decide (N.rem c2 p = 0)
def ldf (c1 c2 : List Nat) (L : Option Int) : Option Nat := (List.range (ldn c1 c2 L)).find? (ldm c1 c2)
theorem ldn_le {c1 c2 : List Nat} (h1 : Cuts c1) (h2 : Cuts c2) (L : Option Int) : ldn c1 c2 L ≤ 2001 := by
  have a := hd_le h1
  have b := hd_le h2
  exact Nat.le_trans (nl_le _ L) (by omega)
theorem ldf_le {c1 c2 : List Nat} (h1 : Cuts c1) (h2 : Cuts c2) {L : Option Int} {p : Nat} (h : ldf c1 c2 L = some p) : p ≤ 4000 := by
  have a := ldn_le h1 h2 L
  have b := List.mem_range.mp (List.mem_of_find?_eq_some h)
  omega
section
variable {P : Program} {w : World} {K : PySem.W.Frag} {mg : Str → Option Value} {base : Heap} {C : Addr}
def spLeastD (C : Addr) : Sp := fun vs H Q _ => ∃ (a b : Addr) (L : Option Int) (c1 c2 : List Nat), vs = [.ref a, .ref b, lmV L] ∧ ChAt C H c1 a ∧ ChAt C H c2 b ∧ Cuts c1 ∧ Cuts c2 ∧ (∀ z, L = some z → 0 ≤ z) ∧ ∀ H', Same H H' → Q (resV (ldf c1 c2 L)) H'
abbrev NLd : List Str := ["first", "second", "limit", "length", "place", "one", "other"]
theorem scLd : FnScope NLd ["first", "second", "limit"] (defScope sLeastD) := ⟨rfl, rfl, rfl, by decide +kernel, rfl, by decide +kernel, by decide +kernel⟩
theorem ok_leastd {f : Addr} {fd : FuncData} (F : Fun K "least_difference" "least_difference" sLeastD f fd) (B : Bn mg) (DF : Df P w K mg base 1 "_first_cut" ["chain"] (spFirst C)) (DL : Df P w K mg base 1 "_length" ["places", "limit"] spLen)
    (DM : Df P w K mg base 1 "_marks" ["chain", "length"] (spMarks C)) : FnOk P w K mg base CX0 2 f fd ["first", "second", "limit"] (spLeastD C) := by
  obtain ⟨fF, fdF, GF, gF, kF, bF⟩ := DF.ex
  obtain ⟨fL, fdL, GL, gL, kL, bL⟩ := DL.ex
  obtain ⟨fM, fdM, GM, gM, kM, bM⟩ := DM.ex
  refine F.ok scLd (fun vs H Q E h => ?_) (fun cdv A outer s H vs Q E hr h => ?_)
  · obtain ⟨a, b, L, c1, c2, rfl, _⟩ := h
    rfl
  · obtain ⟨a, b, L, c1, c2, rfl, ha, hb, l1, l2, hL, k⟩ := h
    refine ⟨_, pss_cons (ps_set (i := 3) scLd.nd rfl (Or.inl rfl) (pe_call GL hr rfl gL kL bL .nil pass0 (pa_cons (pe_op op_add (pe_op op_add (pe_call GF hr rfl gF kF bF .nil pass0 (pa_cons (pv 0) pa_nil)) (pe_call GF hr rfl gF kF bF .nil pass0 (pa_cons (pv 1) pa_nil))) pe_int) (pa_cons (pv 2) pa_nil))))
      (pss_cons (ps_for PassesOwn.never rfl (EZ.pi_ez (by rfl) B.enum (by rfl) B.zip (pa_cons (pe_call GM hr rfl gM kM bM .nil pass0 (pa_cons (pv 0) (pa_cons (pv 3) pa_nil))) (pa_cons (pe_call GM hr rfl gM kM bM .nil pass0 (pa_cons (pv 1) (pa_cons (pv 3) pa_nil))) pa_nil)))
          (pg_tup (by rfl) (pgs_cons (pg_name (i := 4) scLd.nd rfl (.inl rfl)) (pgs_cons (pg_tup (by rfl) (pgs_cons (pg_name (i := 5) scLd.nd rfl (.inl rfl)) (pgs_cons (pg_name (i := 6) scLd.nd rfl (.inl rfl)) pgs_nil))) pgs_nil)))
        (pss_one (ps_if (pt_cmpR op_ne (pv 5) (pv 6) (nomark _)) (pss_one (ps_ret (pv 4))) pss_nil)))
      (pss_one (ps_ret pe_non))), ?_⟩
    have h1 := hd_le l1
    have h2 := hd_le l2
    refine set_then (i := 3) ⟨_, rfl, a, c1, rfl, ha, _, rfl, b, c2, rfl, hb, _, _, rfl, rfl, _, _, rfl, rfl, _, rfl, N.hd c1 + N.hd c2 + 1, L, rfl, hL, ?_⟩
    have nle : ldn c1 c2 L ≤ 2001 := ldn_le l1 l2 L
    have hk := k
    show tSeq _ _ _ _ _
    refine ⟨_, rfl, _, rfl, a, ldn c1 c2 L, c1, rfl, ha, l1, by omega, fun D1 G1 s1 hD1 => ?_⟩
    refine ⟨_, rfl, _, rfl, b, ldn c1 c2 L, c2, rfl, hb.mono s1, l2, by omega, fun D2 G2 s2 hD2 => ?_⟩
    refine ⟨D1, D2, _, _, rfl, SqL.of (s2 _ _ hD1), SqL.of hD2, ?_⟩
    refine EZ.for_ez (by rw [mv_len, mv_len]) (fun i σ G => Same G2 G ∧ (∃ q4 q5 q6, σ = [some (.ref a), some (.ref b), some (lmV L), some (.int ((ldn c1 c2 L : Nat) : Int)), q4, q5, q6]) ∧ ∀ q, q < i → ldm c1 c2 q = false)
      ⟨Same.refl _, ⟨_, _, _, rfl⟩, fun q hq => by omega⟩ (fun i σ G z => ⟨SqL.of (z.1 _ _ (s2 _ _ hD1)), SqL.of (z.1 _ _ hD2)⟩) ?_ ?_
    · rintro i x y T U σ G hx hy ⟨s3, ⟨q4, q5, q6, rfl⟩, hno⟩ hT hU hUT
      have hi : i < ldn c1 c2 L := by
        have := (List.getElem?_eq_some_iff.mp hx).1
        rwa [mv_len] at this
      rw [mv_at c1 hi] at hx
      rw [mv_at c2 hi] at hy
      cases hx
      cases hy
      have sT : Same G (upd G T (.tup [V.bl (decide (N.rem c1 i = 0)), V.bl (decide (N.rem c2 i = 0))])) := of_upd hT
      have sU : Same (upd G T (.tup [V.bl (decide (N.rem c1 i = 0)), V.bl (decide (N.rem c2 i = 0))])) (upd (upd G T (.tup [V.bl (decide (N.rem c1 i = 0)), V.bl (decide (N.rem c2 i = 0))])) U (.tup [.int (i : Nat), .ref T])) := of_upd (by rw [upd_ne hUT]; exact hU)
      have ss := s3.trans (sT.trans sU)
      refine ⟨U, _, rfl, SqT.of upd_same, rfl, _, _, rfl, _, _, rfl, ⟨T, _, rfl, SqT.of (sU _ _ upd_same), rfl, _, _, rfl, _, _, rfl, rfl, rfl, ?_⟩⟩
      refine ⟨_, rfl, _, rfl, rfl, _, rfl, ite2 (fun c => ?_) (fun c => ?_)⟩
      · have e : ldf c1 c2 L = some i := find_at hno (bl_ne c) hi
        have := k _ ((s1.trans s2).trans ss)
        rw [e] at this
        exact ⟨_, rfl, this⟩
      · refine ⟨ss, ⟨_, _, _, rfl⟩, fun q hq => ?_⟩
        by_cases z : q = i
        · rw [z]
          exact bl_eq c
        · exact hno q (by omega)
    · rintro σ G ⟨s3, ⟨q4, q5, q6, rfl⟩, hno⟩
      rw [mv_len] at hno
      have e : ldf c1 c2 L = none := find_no hno
      have := k G ((s1.trans s2).trans s3)
      rw [e] at this
      exact this
end
end CP

end
section
set_option autoImplicit false
set_option Elab.async false
set_option linter.all false
set_option maxRecDepth 100000
set_option maxHeartbeats 4000000
/-! ## is_period; how both are called -/
namespace CP
open PySem L2 G Y
def g21 : List Value → List Value → List Value
  | [a, b], [c] => [a, b, c]
  | _, _ => []
def gV21 : List V → List V → List V
  | [a, b], [c] => [a, b, c]
  | _, _ => []
theorem rel21 {vs : List V} {us : List Value} {zs : List V} {ws : List Value} (r : Vals vs us) (rz : Vals zs ws) : Vals (gV21 vs zs) (g21 us ws) := by
  cases r with
  | nil => cases rz <;> exact .nil
  | cons r1 r => cases r with
    | nil => cases rz <;> exact .nil
    | cons r2 r => cases r with
      | nil => cases rz with
        | nil => exact .nil
        | cons z1 rz => cases rz with
          | nil => exact .cons r1 (.cons r2 (.cons z1 .nil))
          | cons _ _ => exact .nil
      | cons _ _ => cases rz <;> exact .nil
section
variable {P : Program} {w : World} {K : PySem.W.Frag} {mg : Str → Option Value} {base : Heap} {C : Addr}
theorem kb_of {x : Str} {st : Stmt} {f : Addr} {fd : FuncData} (F : Fun K x x st f fd) (h : ∀ (kV doc pm : Value) (an : Option Addr) (cdv ct : Value) (a b c : Value), bindArgs (PySem.W.fnOf x x (defArgs st) (defBody st) (defScope st) .none kV doc pm an cdv ct) ⟨[a, b], (["limit"] : List Str).zip [c]⟩ = pure ((["chain", "number", "limit"] : List Str).zip [a, b, c])) : KBinds K fd ["chain", "number", "limit"] ["limit"] g21 gV21 := by
  obtain ⟨oc, od, kV, doc, pm, an, cdv, ct, osl, rfl, lk, hcd⟩ := F.ex
  refine ⟨fun s us ws _ hl => ?_, fun {vs us zs ws} r rz => rel21 r rz⟩
  match us, ws, hl with
  | [a, b], [c], _ => exact .of_eq (h kV doc pm an cdv ct a b c)
/-- a def with limit= behind a star, called with it and without -/
structure Dk (P : Program) (w : World) (K : PySem.W.Frag) (mg : Str → Option Value) (base : Heap) (k : Nat) (x : Str) (sp : Sp) : Prop where
  ex : ∃ (f : Addr) (fd : FuncData), FnOk P w K mg base CX0 k f fd ["chain", "number", "limit"] sp ∧ mg x = some (.ref f) ∧ PySem.W.keepIn K (.ref f) = true ∧ KBinds K fd ["chain", "number", "limit"] ["limit"] g21 gV21
def spPeriod (C : Addr) : Sp := fun vs H Q _ => ∃ (a : Addr) (n : Nat) (L : Option Int) (cs : List Nat), vs = [.ref a, .int (n : Int), limV L] ∧ ChAt C H cs a ∧ Cuts cs ∧ 0 < n ∧ (n : Int) ≤ 2000000000000000000 ∧ (∀ z, L = some z → 0 ≤ z ∧ z ≤ 2000000000000000000) ∧
  ∀ H' v, Same H H' → v = (decide (∀ z, L = some z → (n : Int) < z) && decide (brk cs n L = none)) → Q (.bl v) H'
theorem scPd : FnScope ["chain", "number", "limit"] ["chain", "number", "limit"] (defScope sPeriod) := ⟨rfl, rfl, rfl, by decide +kernel, rfl, by decide +kernel, by decide +kernel⟩
theorem ok_period {f : Addr} {fd : FuncData} (F : Fun K "is_period" "is_period" sPeriod f fd) (DB : Dk P w K mg base 2 "breaking" (spBreak C)) : FnOk P w K mg base CX0 3 f fd ["chain", "number", "limit"] (spPeriod C) := by
  obtain ⟨fB, fdB, GB, gB, kB, bK⟩ := DB.ex
  refine F.ok scPd (fun vs H Q E h => ?_) (fun cdv A outer s H vs Q E hr h => ?_)
  · obtain ⟨a, n, L, cs, rfl, _⟩ := h
    rfl
  · obtain ⟨a, n, L, cs, rfl, hc, hl, n0, n1, hL, k⟩ := h
    refine ⟨_, pss_cons (ps_if (PW.pt (pw_and (pt_cmp (pc_notN (pv 2))) (pw_and1 (pt_cmpR op_ge (pv 1) (pv 2) (nomark _))))) (pss_one (ps_ret pe_bl)) pss_nil)
      (pss_one (ps_ret (pe_cmp (pc_isN (pe_callK GB hr rfl gB kB bK pass0 (pa_cons (pv 0) (pa_cons (pv 1) pa_nil)) (pk_cons (pv 2) pk_nil)))))), ?_⟩
    refine lim_then (v := .bl false) (n := (n : Int)) rfl rfl (fun hz => ?_) (fun hz => ?_)
    · obtain ⟨z, rfl, hz⟩ := hz
      refine k H false (Same.refl H) ?_
      rw [decide_eq_false (fun h => by have := h z rfl; omega)]
      rfl
    · have e : decide (∀ z, L = some z → (n : Int) < z) = true := decide_eq_true fun z hz2 => by
        rcases hz with h | ⟨y, h, h'⟩
        · rw [h] at hz2
          cases hz2
        · rw [h] at hz2
          cases hz2
          exact h'
      rw [e] at k
      refine ⟨_, rfl, _, rfl, _, rfl, a, n, L, cs, rfl, hc, hl, n0, n1, hL, fun G s => k G _ s ?_⟩
      rw [Bool.true_and]
      cases brk cs n L with
      | none => rfl
      | some p => rfl
end
end CP

end
section
set_option autoImplicit false
set_option Elab.async false
set_option linter.all false
set_option maxRecDepth 100000
set_option maxHeartbeats 4000000
/-! ## a call that keeps the guards; what repr shows of results -/
namespace G
open PySem PySem.Spec PyProof.Rows L2
section
variable {X : Cx} {CX : CXT} {k : Nat} {f : Addr} {fd : FuncData} {ps : List Str} {sp : Sp} {E : XK} {x : Str} {p pos : Pos} {e : Expr} {es : List Expr} {t : TA}
theorem go_fn {pins : List (Addr × Obj)} {σ : L2.St} {H : Hp} {s : Shared} {Q : VK} {us : List Value} {vs : List V} (hg : X.A.guards = some []) (F : Ok X.prog X.w X.K X.mg X.base CX k f fd ps sp) (hr : Room k X.A) (hb : Binds X.K fd ps [])
    (hx : Passes CX X E) (I : Inv X pins σ H s) (rv : Vals vs us) (h : sp vs H Q E) : wpAny (model X.prog X.w) X.A (call (.ref f) us) (EP X pins σ Q) X.xe s := by
  have b := hb s us I.kIn (by rw [List.append_nil, ← rv.length]; exact F.len _ _ _ _ h)
  rw [List.append_nil] at b
  refine wpAny_call (codeAny_mono (F.go X.A hg X.stack s H ⟨us, []⟩ us vs Q E hr I.env0 b rv h) ?_)
  intro r s' z
  match r, z with
  | .error e, z => exact hx pins σ H s e s' I z
  | .ok (.ret u), z => exact I.after z
  | .ok .next, z => exact z.elim
  | .ok .brk, z => exact z.elim
  | .ok .cont, z => exact z.elim
theorem pe_callG (hgu : X.A.guards = some []) (F : Ok X.prog X.w X.K X.mg X.base CX k f fd ps sp) (hr : Room k X.A) (hl : Gl X x) (hm : X.mg x = some (.ref f)) (hk : PySem.W.keepIn X.K (.ref f) = true) (hb : Binds X.K fd ps []) (hx : Passes CX X E)
    (ha : PA X (e :: es) t) (hdb : (x == ("__debug__" : Str)) = false := by decide) (he : starEach (e :: es) X.env = (false, eval e X.env) :: starEach es X.env := by rfl) (hpl : (backTo pos (starEach es X.env)).any (·.1) = false := by rfl) :
    PE X (.Call (.Name x p) (e :: es) [] pos) (tCall sp [] E t) := ⟨fun pins s σ H Q I h =>
  wpAny_Call_Name_kw (ld_glob I hl hm (PySem.W.callWith_K (h₀ := X.base) I.ok.mod.kin hk (thn (ha.run pos pins s σ H _ I h) fun us s1 ⟨vs, H1, I1, r, q⟩ => ⟨I1.kIn,
    go_fn hgu F hr hb hx I1 r ((congrArg (fun z => sp z H1 Q E) (List.append_nil vs)).mp q)⟩) he hpl) hdb)⟩
end
/-- a def with a promise under guards -/
structure Dg (P : Program) (w : World) (K : PySem.W.Frag) (mg : Str → Option Value) (base : Heap) (k : Nat) (x : Str) (ps : List Str) (sp : Sp) : Prop where
  ex : ∃ (f : Addr) (fd : FuncData), Ok P w K mg base CX0 k f fd ps sp ∧ mg x = some (.ref f) ∧ PySem.W.keepIn K (.ref f) = true ∧ Binds K fd ps []
end G
namespace CP
open PySem L2 G Y
def resD : Option Nat → PyData
  | none => .none
  | some p => .int ((p : Nat) : Int)
theorem small_int {n : Nat} (h : n ≤ 4000) : (PyData.int (n : Int)).showable = true ∧ (PyData.int (n : Int)).leavesShort 13 = true := by
  constructor
  · simp only [PyData.showable]
    exact decide_eq_true (Nat.lt_of_lt_of_le (PySem.Flt.log2_lt_of (k := 20) (by decide) (by omega : (n : Int).natAbs < 2 ^ 20)) (by decide))
  · simp only [PyData.leavesShort]
    exact decide_eq_true (PyData.shown_int_le2 (by omega) (by omega))
theorem resD_sm {o : Option Nat} (h : ∀ p, o = some p → p ≤ 4000) : (resD o).showable = true ∧ (resD o).leavesShort 13 = true ∧ (resD o).depth ≤ 4 ∧ (resD o).bulk ≤ 9 := by
  cases o with
  | none => exact ⟨by decide +kernel, by decide +kernel, by decide +kernel, by decide +kernel⟩
  | some p =>
    obtain ⟨a, b⟩ := small_int (h p rfl)
    exact ⟨a, b, by simp only [resD, PyData.depth]; omega, by simp only [resD, PyData.bulk]; omega⟩
theorem resD_dr {K : PySem.W.Frag} {H : Hp} : ∀ o : Option Nat, Dr K H true (resV o) (resD o)
  | none => .non
  | some p => .int _
theorem sh_res {K : PySem.W.Frag} {H : Hp} {o : Option Nat} (h : ∀ p, o = some p → p ≤ 4000) : ∃ t, QR.Sh K H (resV o) t := by
  cases o with
  | none => exact ⟨_, .non⟩
  | some p => exact ⟨_, .int _ (Nat.lt_of_lt_of_le (PySem.Flt.log2_lt_of (k := 20) (by decide) (by have := h p rfl; omega : (p : Int).natAbs < 2 ^ 20)) (by decide))⟩
theorem sh_two {K : PySem.W.Frag} {H : Hp} {o : Option Nat} {b : Bool} {D : Addr} (h : ∀ p, o = some p → p ≤ 4000) (hD : H D = some (.lst [resV o, .bl b])) : QR.Sh K H (.ref D) (PyData.list [resD o, .bool b]).shown := by
  obtain ⟨h1, h2, h3, h4⟩ := resD_sm h
  have s : (PyData.bool b).showable = true ∧ (PyData.bool b).leavesShort 13 = true ∧ (PyData.bool b).depth ≤ 4 ∧ (PyData.bool b).bulk ≤ 9 := by
    cases b <;> exact ⟨by decide +kernel, by decide +kernel, by decide +kernel, by decide +kernel⟩
  obtain ⟨s1, s2, s3, s4⟩ := s
  refine .ref (.lst (SqL.of hD) (.cons (resD_dr o) (.cons (.bl b) .nil))) ?_ ?_ ?_ ?_
  · simp only [PyData.showable, PyData.showableAll, h1, Bool.and_true]
  · simp only [PyData.depth, PyData.depthAll] at s3 ⊢
    omega
  · simp only [PyData.leavesShort, PyData.leavesShortAll, Bool.and_true] at h2 s2 ⊢
    exact h2
  · refine Nat.le_trans (show _ ≤ 1000 from ?_) (by decide)
    simp only [PyData.bulk, PyData.bulkAll] at s4 ⊢
    omega
theorem nat_all : ∀ {cs : List Nat}, (∀ c ∈ cs, c ≤ 4000) → PyData.showableAll (cs.map dI) = true ∧ PyData.leavesShortAll 13 (cs.map dI) = true ∧ PyData.depthAll (cs.map dI) ≤ 4 ∧ PyData.bulkAll (cs.map dI) ≤ cs.length * 10
  | [], _ => ⟨by decide +kernel, by decide +kernel, by decide +kernel, by decide +kernel⟩
  | c :: cs, h => by
    obtain ⟨a, b⟩ := small_int (h c List.mem_cons_self)
    obtain ⟨i1, i2, i3, i4⟩ := nat_all fun x hx => h x (List.mem_cons_of_mem _ hx)
    rw [List.map_cons, List.length_cons]
    have e : dI c = PyData.int (c : Int) := rfl
    rw [e]
    refine ⟨?_, ?_, ?_, ?_⟩
    · simp only [PyData.showableAll, a, i1, Bool.and_true]
    · simp only [PyData.leavesShortAll, b, i2, Bool.and_true]
    · simp only [PyData.depthAll, PyData.depth]
      omega
    · simp only [PyData.bulkAll, PyData.bulk]
      omega
theorem sh_nats {K : PySem.W.Frag} {H : Hp} {t : Addr} {cs : List Nat} (h : ∀ c ∈ cs, c ≤ 4000) (hl : cs.length ≤ 1000) (ht : SqT K H t (ni cs)) : QR.Sh K H (.ref t) (PyData.tuple (cs.map dI)).shown := by
  obtain ⟨i1, i2, i3, i4⟩ := nat_all h
  have dr : ∀ l : List Nat, DrA K H true (ni l) (l.map dI) := fun l => by
    induction l with
    | nil => exact .nil
    | cons x l ih => exact .cons (.int _) ih
  refine .ref (.tup ht (dr cs)) ?_ ?_ ?_ ?_
  · simp only [PyData.showable]
    exact i1
  · simp only [PyData.depth]
    omega
  · simp only [PyData.leavesShort]
    exact i2
  · refine Nat.le_trans (show _ ≤ 20000 from ?_) (by decide)
    simp only [PyData.bulk]
    omega
end CP

end
section
set_option autoImplicit false
set_option Elab.async false
set_option linter.all false
set_option maxRecDepth 100000
set_option maxHeartbeats 4000000
/-! ## != of an own class that says only == -/
namespace WO
open PySem PySem.Spec PyProof.Rows L2
section
variable {prog : Program} {w : World} {A : Around} {E : Value → Shared → Prop} {s : Shared} {K : PySem.W.Frag} {x y C f : Addr} {ox : Obj} {od : Option Obj}
theorem bound_ne {M : Model} {args : List Value} {Q : Option Value → Shared → Prop} (X : K.In s.heap) (I : PySem.W.InstAt s.heap x ox C od) (hs : PySem.W.findIn K (.ref C) "__ne__" = some (some (.builtin "object.__ne__")))
    (h : wpAny M A (call (.builtin "object.__ne__") (.ref x :: args)) (fun v => Q (some v)) E s) : wpAny M A (callSpecialIfBound? (.ref x) "__ne__" args) Q E s := by
  simp only [callSpecialIfBound?, bindSpecialIfBound?]
  refine wpAny_holding (wpAny_bind (wpAny_bind (wpAny_bind (I.type.here ((PySem.W.looks_findIn X hs).here ?_)))))
  refine wpAny_bind (wpAny_askSetting (wpAny_ite ?_))
  have e : wpAny M A (call (.builtin "object.__ne__") ([.ref x] ++ args) >>= fun v => pure (some v)) Q E s := wpAny_bind (wpAny_mono h (fun v s' q => wpAny_pure q) fun _ _ q => q)
  split
  · exact wpAny_bind (wpAny_of_eq (F.cmp_object.ne.bind _) (wpAny_pure (by exact e)))
  · exact wpAny_tryCatch (wpAny_bind (wpAny_of_eq (F.cmp_object.ne.bind _) (wpAny_pure (by exact e))))
theorem entry_ne {Q : Fin → Shared → Prop} (hu : A.units < cLine) (X : K.In s.heap) (I : PySem.W.InstAt s.heap x ox C od) (he : PySem.W.findIn K (.ref C) "__eq__" = some (some (.ref f))) (hf : PySem.W.isFn K (.ref f) = true)
    (h : wpAny (model prog w) A (call (.ref f) [.ref x, .ref y]) (fun v s' => ∃ b, v = .bool b ∧ Q (.done (.ret (.bool (!b)))) s') E s) : wpAny (model prog w) A (Builtin.«object.__ne__» ⟨[.ref x, .ref y], []⟩) Q E s := by
  unfold Builtin.«object.__ne__»
  repeat (first
    | with_reducible refine wpAny_cRoomFor hu ?_
    | (refine wpAny_bind (m := callSpecialIfBound? (.ref x) (Str.ofString "__eq__") [.ref y]) (PySem.W.ifBound_K X I he hf (wpAny_mono h (fun r s' hr => by
          obtain ⟨b, rfl, hq⟩ := hr
          repeat (first | exact hq | exact wpAny_pure hq | exact wpAny_truthy_bool hq | (refine wpAny_bind (m := truthy (.bool _)) (wpAny_truthy_bool ?_)) | wp_step)) fun _ _ e => e)))
    | wp_step)
theorem rich_ne {Q : Value → Shared → Prop} (hu : A.units + 1 < cLine) (X : K.In s.heap) (I : PySem.W.InstAt s.heap x ox C od) (hy : PySem.W.Looks (model prog w) s.heap (typeOf (.ref y)) (.ref C)) (hm : PySem.W.mroIn K C (.type "object") = some true)
    (hs : PySem.W.findIn K (.ref C) "__ne__" = some (some (.builtin "object.__ne__"))) (he : PySem.W.findIn K (.ref C) "__eq__" = some (some (.ref f))) (hf : PySem.W.isFn K (.ref f) = true)
    (h : wpAny (model prog w) A.in1 (call (.ref f) [.ref x, .ref y]) (fun v s' => ∃ b, v = .bool b ∧ Q (.bool (!b)) s') E s) : wpAny (model prog w) A (richCompare .NotEq (.ref x) (.ref y)) Q E s := by
  have one : wpAny (model prog w) A (tryCompare (.ref x) "__ne__" (.ref y)) (fun r s' => ∃ v, r = some v ∧ Q v s') E s := by
    unfold tryCompare
    refine wpAny_bind (bound_ne X I hs (wpAny_call (codeAny_call_builtin F.cmp_object.ne.plain F.cmpEntry_ne (PySem.W.check_slot F.cmpKind_ne F.cmpSplit_ne (I.type.andThen (PySem.W.looks_mroIn X hm)) (F.cmpArgs_ne _ _)
      (entry_ne (A := A.in1) hu X I he hf (wpAny_mono h (fun v s' hv => ?_) fun _ _ e => e))))))
    obtain ⟨b, rfl, hq⟩ := hv
    exact ⟨b, rfl, wpAny_pure ⟨_, rfl, hq⟩⟩
  unfold richCompare
  simp only [oneThing_ref]
  refine wpAny_holding (wpAny_bind (wpAny_cRoomFor (Nat.lt_of_succ_lt hu) ?_))
  refine wpAny_bind (I.type.here (wpAny_bind (hy.here ?_)))
  split
  · rename_i q
    simp at q
  · refine wpAny_bind (wpAny_pure ?_)
    simp only [Bool.false_eq_true, if_false]
    refine wpAny_bind (wpAny_mono one (fun r s' z => ?_) fun _ _ e => e)
    obtain ⟨v, rfl, hq⟩ := z
    exact wpAny_pure hq
end
section
variable {X : Cx} {CX : CXT} {n : Nat} {C f : Addr} {fd : FuncData} {ps : List Str} {sp : Sp} {E : XK}
/-- != by the own __eq__ -/
def rNeO (C : Addr) (sp : Sp) (E : XK) : R2 := fun x y H Q => ∃ a b, x = .ref a ∧ y = .ref b ∧ InsC C H a ∧ InsC C H b ∧ sp [.ref a, .ref b] H (fun v H1 => ∃ c, v = .bl c ∧ Q (.bl (!c)) H1) E
theorem op_neO (F : FnOk X.prog X.w X.K X.mg X.base CX n f fd ps sp) (hr : Room (n + 1) X.A) (O : Own X.K C f "__eq__") (hm : PySem.W.mroIn X.K C (.type "object") = some true) (hs : PySem.W.findIn X.K (.ref C) "__ne__" = some (some (.builtin "object.__ne__")))
    (hb : Binds X.K fd ps []) (hx : Passes CX X E) : OpR X (compareOp .NotEq) (rNeO C sp E) := by
  intro pins s σ H x y v u Q I rx ry h
  obtain ⟨a, b, rfl, rfl, ⟨dx, fs, ha⟩, ⟨dy, gs, hb'⟩, hsp⟩ := h
  cases rx
  cases ry
  obtain ⟨_, J, _⟩ := ins_get I.hok ha
  obtain ⟨_, J', _⟩ := ins_get I.hok hb'
  obtain ⟨od, J, _⟩ := J.look
  obtain ⟨od', J', _⟩ := J'.look
  show wpAny (model X.prog X.w) X.A (richCompare .NotEq (.ref a) (.ref b)) (EP X pins σ Q) X.xe s
  refine rich_ne hr.in1.units0 I.kIn J J'.type hm hs O.at' O.fn (run_own F (A := X.A.in1) (xs := [.ref a, .ref b]) ⟨hr.in1, rfl⟩ hb hx I (.cons rfl (.cons rfl .nil)) hsp fun z u H1 s1 I1 rz q => ?_)
  obtain ⟨c, rfl, q⟩ := q
  cases rz
  exact ⟨c, rfl, .bl (!c), H1, I1, rfl, q⟩
end
end WO

end
section
set_option autoImplicit false
set_option Elab.async false
set_option linter.all false
set_option maxRecDepth 100000
set_option maxHeartbeats 4000000
/-! ## calls by keywords alone; == and != of chains -/
namespace QK
open PySem PySem.Spec PyProof.Rows L2
section
variable {X : Cx} {CX : CXT} {k : Nat} {f : Addr} {fd : FuncData} {ps ks : List Str} {sp : Sp} {E : XK} {x : Str} {p pos : Pos} {kws : List Keyword} {tk : TA} {g : List Value → List Value → List Value} {gV : List V → List V → List V}
theorem pe_kall (F : FnOk X.prog X.w X.K X.mg X.base CX k f fd ps sp) (hr : Room k X.A) (hg : Gl X x) (hm : X.mg x = some (.ref f)) (hk : PySem.W.keepIn X.K (.ref f) = true) (hb : KBinds X.K fd ps ks g gV) (hx : Passes CX X E) (hkw : PK X kws tk)
    (hall : (backToKw pos (keywordEach kws X.env)).all (·.1.isSome) = true := by rfl) (hks : (backToKw pos (keywordEach kws X.env)).filterMap (·.1) = ks := by rfl) (hdb : (x == ("__debug__" : Str)) = false := by decide)
    (hpl : ((backTo pos (starEach [] X.env)).any (·.1) || (backToKw pos (keywordEach kws X.env)).any (·.1.isNone)) = false := by rfl) : PE X (.Call (.Name x p) [] kws pos) (tCallK sp gV E tNil tk) := ⟨fun pins s σ H Q I h =>
  wpAny_Call_Name_kw (ld_glob I hg hm (PySem.W.callWith_KW0 (h₀ := X.base) I.ok.mod.kin hk hall (thn (hkw.run pos pins s σ H _ I h) fun ws s2 ⟨zs, H2, I2, rz, q2⟩ => ⟨I2.kIn, by
    rw [hks]
    exact run_fnk (us := []) (vs := []) F hr hb hx I2 .nil rz q2⟩) hpl) hdb)⟩
end
end QK
namespace CP
open PySem L2 G Y
section
variable {α : Type}
def o3 : List α → List α
  | [l, n, c] => [c, n, l]
  | _ => []
def o2 : List α → List α
  | [n, c, l] => [c, n, l]
  | _ => []
def o1 : List α → List α
  | [l, c] => [c, l]
  | _ => []
def m2 (d : α) : List α → List α
  | [c, n] => [c, n, d]
  | _ => []
def m1 (d : α) : List α → List α
  | [c] => [c, d]
  | _ => []
def g0 (f : List α → List α) : List α → List α → List α
  | [], ws => f ws
  | _ :: _, _ => []
def g11 : List α → List α → List α
  | [a], [c] => [a, c]
  | _, _ => []
end
theorem rel0 {fV : List V → List V} {f : List Value → List Value} (h : ∀ {zs : List V} {ws : List Value}, Vals zs ws → Vals (fV zs) (f ws)) {vs : List V} {us : List Value} {zs : List V} {ws : List Value} (r : Vals vs us) (rz : Vals zs ws) : Vals (g0 fV vs zs) (g0 f us ws) := by
  cases r with
  | nil => exact h rz
  | cons _ _ => exact .nil
theorem r3 {zs : List V} {ws : List Value} (rz : Vals zs ws) : Vals (o3 zs) (o3 ws) := by
  cases rz with
  | nil => exact .nil
  | cons a rz => cases rz with
    | nil => exact .nil
    | cons b rz => cases rz with
      | nil => exact .nil
      | cons c rz => cases rz with
        | nil => exact .cons c (.cons b (.cons a .nil))
        | cons _ _ => exact .nil
theorem r2 {zs : List V} {ws : List Value} (rz : Vals zs ws) : Vals (o2 zs) (o2 ws) := by
  cases rz with
  | nil => exact .nil
  | cons a rz => cases rz with
    | nil => exact .nil
    | cons b rz => cases rz with
      | nil => exact .nil
      | cons c rz => cases rz with
        | nil => exact .cons b (.cons a (.cons c .nil))
        | cons _ _ => exact .nil
theorem r1 {zs : List V} {ws : List Value} (rz : Vals zs ws) : Vals (o1 zs) (o1 ws) := by
  cases rz with
  | nil => exact .nil
  | cons a rz => cases rz with
    | nil => exact .nil
    | cons b rz => cases rz with
      | nil => exact .cons b (.cons a .nil)
      | cons _ _ => exact .nil
theorem q2 {zs : List V} {ws : List Value} (rz : Vals zs ws) : Vals (m2 V.non zs) (m2 Value.none ws) := by
  cases rz with
  | nil => exact .nil
  | cons a rz => cases rz with
    | nil => exact .nil
    | cons b rz => cases rz with
      | nil => exact .cons a (.cons b (.cons (show RelV .non .none from rfl) .nil))
      | cons _ _ => exact .nil
theorem q1 {zs : List V} {ws : List Value} (rz : Vals zs ws) : Vals (m1 V.non zs) (m1 Value.none ws) := by
  cases rz with
  | nil => exact .nil
  | cons a rz => cases rz with
    | nil => exact .cons a (.cons (show RelV .non .none from rfl) .nil)
    | cons _ _ => exact .nil
theorem rel11 {vs : List V} {us : List Value} {zs : List V} {ws : List Value} (r : Vals vs us) (rz : Vals zs ws) : Vals (g11 vs zs) (g11 us ws) := by
  cases r with
  | nil => cases rz <;> exact .nil
  | cons r1 r => cases r with
    | nil => cases rz with
      | nil => exact .nil
      | cons z1 rz => cases rz with
        | nil => exact .cons r1 (.cons z1 .nil)
        | cons _ _ => exact .nil
    | cons _ _ => cases rz <;> exact .nil
section
variable {P : Program} {w : World} {K : PySem.W.Frag} {mg : Str → Option Value} {base : Heap} {C : Addr}
/-- a def of two and limit=, called in three ways: limit by name, all by name, limit left out -/
structure D3 (P : Program) (w : World) (K : PySem.W.Frag) (mg : Str → Option Value) (base : Heap) (k : Nat) (x : Str) (ps ka km : List Str) (oa : List Value → List Value) (oaV : List V → List V) (sp : Sp) : Prop where
  ex : ∃ (f : Addr) (fd : FuncData), FnOk P w K mg base CX0 k f fd ps sp ∧ mg x = some (.ref f) ∧ PySem.W.keepIn K (.ref f) = true ∧ KBinds K fd ps ["limit"] g21 gV21 ∧ KBinds K fd ps ka (g0 oa) (g0 oaV) ∧ KBinds K fd ps km (g0 (m2 Value.none)) (g0 (m2 V.non))
/-- the same of a def of one -/
structure D2 (P : Program) (w : World) (K : PySem.W.Frag) (mg : Str → Option Value) (base : Heap) (k : Nat) (x : Str) (ps ka km : List Str) (oa : List Value → List Value) (oaV : List V → List V) (sp : Sp) : Prop where
  ex : ∃ (f : Addr) (fd : FuncData), FnOk P w K mg base CX0 k f fd ps sp ∧ mg x = some (.ref f) ∧ PySem.W.keepIn K (.ref f) = true ∧ KBinds K fd ps ["limit"] g11 g11 ∧ KBinds K fd ps ka (g0 oa) (g0 oaV) ∧ KBinds K fd ps km (g0 (m1 Value.none)) (g0 (m1 V.non))
structure Cn2 (K : PySem.W.Frag) (C : Addr) : Prop where
  iA : PySem.W.findIn K (.ref C) "__class__" = some (some (.builtin "object.__class__"))
  iN : PySem.W.specialIn K (.builtin "object.__class__") "__get__" = some (some (.builtin "getset_descriptor.__get__"))
  iT : PySem.W.takesIn K (.builtin "object.__class__") = some true
  iM : PySem.W.mroIn K C (.type "object") = some true
  ne : PySem.W.findIn K (.ref C) "__ne__" = some (some (.builtin "object.__ne__"))
  sf : PySem.W.selfFirst K C = true
structure Oq (P : Program) (w : World) (K : PySem.W.Frag) (mg : Str → Option Value) (base : Heap) (C : Addr) (k : Nat) (m : Str) (ps : List Str) (sp : Sp) : Prop where
  ex : ∃ (f : Addr) (fd : FuncData), FnOk P w K mg base CX0 k f fd ps sp ∧ WO.Own K C f m ∧ Binds K fd ps []
abbrev sCEq : Stmt := inClass (S.top 10) 4
theorem eqv_all : ∀ l m : List Nat, PyData.eqvAll (l.map dI) (m.map dI) = decide (l = m)
  | [], [] => by simp [PyData.eqvAll]
  | [], x :: m => by simp [PyData.eqvAll]
  | x :: l, [] => by simp [PyData.eqvAll]
  | x :: l, y :: m => by
    have e : PyData.eqv (dI x) (dI y) = decide (x = y) := by
      show PyData.eqv (.int (x : Int)) (.int (y : Int)) = _
      rw [show PyData.eqv (.int (x : Int)) (.int (y : Int)) = ((x : Int) == (y : Int)) by simp [PyData.eqv]]
      by_cases h : x = y
      · simp [h]
      · have : (x : Int) ≠ (y : Int) := by omega
        simp [h, this]
    simp only [List.map_cons, PyData.eqvAll, eqv_all l m, e]
    by_cases h : x = y <;> by_cases h2 : l = m <;> simp [h, h2]
theorem eqv_tups (l m : List Nat) : PyData.eqv (.tuple (l.map dI)) (.tuple (m.map dI)) = decide (l = m) := by
  rw [show PyData.eqv (.tuple (l.map dI)) (.tuple (m.map dI)) = PyData.eqvAll (l.map dI) (m.map dI) by simp [PyData.eqv], eqv_all]
def spCEq (C : Addr) : Sp := fun vs H Q _ => ∃ (a b : Addr) (l m : List Nat), vs = [.ref a, .ref b] ∧ ChAt C H l a ∧ ChAt C H m b ∧ ∀ H', Same H H' → Q (.bl (decide (l = m))) H'
theorem scEq : FnScope ["self", "other"] ["self", "other"] (defScope sCEq) := ⟨rfl, rfl, rfl, by decide +kernel, rfl, by decide +kernel, by decide +kernel⟩
theorem ok_ceq {f : Addr} {fd : FuncData} (F : Fun K "__eq__" "Chain.__eq__" sCEq f fd) (B : Bn mg) (T : Ct K mg C) (T2 : Cn2 K C) : FnOk P w K mg base CX0 1 f fd ["self", "other"] (spCEq C) := by
  refine F.ok scEq (fun vs H Q E h => ?_) (fun cdv A outer s H vs Q E hr h => ?_)
  · obtain ⟨a, b, l, m, rfl, _⟩ := h
    rfl
  · obtain ⟨a, b, l, m, rfl, ha, hb, k⟩ := h
    refine ⟨_, pss_one (ps_ret (pe_and (pe_callB call_isi (by rfl) B.isi (by decide +kernel) (pa_cons (pv 1) (pa_cons (pe_glob (v := .ref C) rfl T.g rfl) pa_nil)))
      (pe_one (pe_cmpR (op_eqD hr.units) (pe_fld (pv 0) rfl) (pe_fld (pv 1) rfl) (nomark _))))), ?_⟩
    obtain ⟨dx, t, u, h1, h2, h3⟩ := ha
    obtain ⟨dy, t', u', g1, g2, g3⟩ := hb
    refine ⟨_, rfl, _, _, _, _, true, rfl, .own C, .base (.ins g1 T.cl T2.iA T2.iN T2.iT T2.iM), ?_, _, rfl, iteT ⟨_, rfl, a, C, dx, _, _, rfl, h1, T.cl, T.nC, cfl_cuts t u, _, rfl, b, C, dy, _, _, rfl, g1, T.cl, T.nC, cfl_cuts t' u', ?_⟩⟩
    · unfold PySem.W.kitOne
      rw [if_pos (by simp)]
    · exact ⟨_, _, .tup (SqT.of h2) (dp_ints l), .tup (SqT.of g2) (dp_ints m), shp_tup l, shp_tup m, by rw [eqv_tups]; exact k _ (Same.refl _)⟩
theorem ChAt.isC {C : Addr} {H : Hp} {l : List Nat} {a : Addr} (h : ChAt C H l a) : WO.InsC C H a := by
  obtain ⟨dx, t, u, h1, _, _⟩ := h
  exact ⟨dx, _, h1⟩
theorem ne_ch {H : Hp} {Q : VK} {x y : Addr} {l m : List Nat} (hx : ChAt C H l x) (hy : ChAt C H m y) (k : ∀ G, Same H G → Q (.bl (!decide (l = m))) G) : WO.rNeO C (spCEq C) E0 (.ref x) (.ref y) H Q :=
  ⟨x, y, rfl, rfl, hx.isC, hy.isC, x, y, l, m, rfl, hx, hy, fun G s => ⟨_, rfl, k G s⟩⟩
theorem eq_ch {H : Hp} {Q : VK} {x y : Addr} {l m : List Nat} (hx : ChAt C H l x) (hy : ChAt C H m y) (k : ∀ G, Same H G → Q (.bl (decide (l = m))) G) : WO.rEqO C (spCEq C) E0 (.ref x) (.ref y) H Q :=
  ⟨x, y, rfl, rfl, hx.isC, hy.isC, x, y, l, m, rfl, hx, hy, fun G s => ⟨_, rfl, k G s⟩⟩
theorem brk_le {cs : List Nat} {n : Nat} {L : Option Int} {p : Nat} (hl : Cuts cs) (h : brk cs n L = some p) : p ≤ 4000 := by
  have b := List.mem_range.mp (List.mem_of_find?_eq_some h)
  have : room cs n L ≤ 1000 := by
    cases cs with
    | nil => cases L with
      | none => exact (by decide : (1 : Nat) ≤ 1000)
      | some z =>
        unfold room
        dsimp only
        omega
    | cons c r => exact Nat.le_trans (room_le c r n L) (hl.le c List.mem_cons_self)
  omega
theorem sh_sc {o : Option Nat} (h : ∀ p, o = some p → p ≤ 4000) : ∃ t, ∀ (K : PySem.W.Frag) (H : Hp), QR.Sh K H (resV o) t := by
  cases o with
  | none => exact ⟨_, fun _ _ => .non⟩
  | some p => exact ⟨_, fun _ _ => .int _ (Nat.lt_of_lt_of_le (PySem.Flt.log2_lt_of (k := 20) (by decide) (by have := h p rfl; omega : (p : Int).natAbs < 2 ^ 20)) (by decide))⟩
theorem sh_pair {H : Hp} {o u : Option Nat} {D : Addr} (h : ∀ p, o = some p → p ≤ 4000) (hu : ∀ p, u = some p → p ≤ 4000) (hD : H D = some (.lst [resV o, resV u])) : QR.Sh K H (.ref D) (PyData.list [resD o, resD u]).shown := by
  obtain ⟨h1, h2, h3, h4⟩ := resD_sm h
  obtain ⟨s1, s2, s3, s4⟩ := resD_sm hu
  refine .ref (.lst (SqL.of hD) (.cons (resD_dr o) (.cons (resD_dr u) .nil))) ?_ ?_ ?_ ?_
  · simp only [PyData.showable, PyData.showableAll, h1, s1, Bool.and_true]
  · simp only [PyData.depth, PyData.depthAll]
    omega
  · simp only [PyData.leavesShort, PyData.leavesShortAll, h2, s2, Bool.and_true]
  · refine Nat.le_trans (show _ ≤ 1000 from ?_) (by decide)
    simp only [PyData.bulk, PyData.bulkAll]
    omega
end
end CP

end
section
set_option autoImplicit false
set_option linter.all false
/-! ## stretches and their ends -/
namespace N
/-- how far a place lies behind the begin of its stretch -/
def off : List Nat → Nat → Nat
  | [], p => p
  | s :: r, p => if p < s then p else off r (p - s)
/-- whether a stretch begins at a place -/
def st (ss : List Nat) (p : Nat) : Bool := off ss p == 0
theorem off_lt {s p : Nat} (r : List Nat) (h : p < s) : off (s :: r) p = p := by
  rw [off, if_pos h]
theorem off_ge {s p : Nat} (r : List Nat) (h : s ≤ p) : off (s :: r) p = off r (p - s) := by
  rw [off, if_neg (by omega)]
theorem off_app : ∀ (a b : List Nat) (p : Nat), a.sum ≤ p → off (a ++ b) p = off b (p - a.sum)
  | [], b, p, _ => rfl
  | s :: a, b, p, h => by
    rw [List.sum_cons] at h ⊢
    rw [List.cons_append, off_ge _ (by omega), off_app a b (p - s) (by omega)]
    congr 1
    omega
theorem off_cu {c : Nat} (h : 0 < c) (X : List Nat) : ∀ (s p : Nat), p < s → off (cu c s ++ X) p = p % c := by
  intro s
  induction s using Nat.strongRecOn with
  | ind s ih =>
    intro p hp
    by_cases h2 : c < s
    · rw [cu_lt h h2, List.cons_append]
      by_cases h3 : p < c
      · rw [off_lt _ h3, Nat.mod_eq_of_lt h3]
      · rw [off_ge _ (by omega), ih (s - c) (by omega) (p - c) (by omega), ← Nat.mod_eq_sub_mod (by omega)]
    · rw [cu_le (by omega), List.singleton_append, off_lt _ hp, Nat.mod_eq_of_lt (by omega)]
theorem off_flat {c : Nat} (h : 0 < c) : ∀ (ss : List Nat) (p : Nat), p < ss.sum → off (ss.flatMap (cu c)) p = off ss p % c
  | [], p, hp => by simp at hp
  | s :: r, p, hp => by
    rw [List.sum_cons] at hp
    rw [List.flatMap_cons]
    by_cases h2 : p < s
    · rw [off_cu h _ s p h2, off_lt _ h2]
    · rw [off_app _ _ _ (by rw [cu_sum h]; omega), cu_sum h, off_flat h r _ (by omega), off_ge _ (by omega)]
theorem off_pt : ∀ {cs : List Nat}, (∀ c ∈ cs, 0 < c) → ∀ (ss : List Nat) (p : Nat), p < ss.sum → off (pt cs ss) p = rem cs (off ss p)
  | [], _, ss, p, _ => rfl
  | c :: r, f, ss, p, hp => by
    have hc := f c List.mem_cons_self
    show off (pt r (ss.flatMap (cu c))) p = _
    rw [off_pt (fun d hd => f d (List.mem_cons_of_mem _ hd)) _ p (by rw [flat_sum hc]; exact hp), off_flat hc ss p hp, rem_cons]
theorem st_pt {cs : List Nat} (f : ∀ c ∈ cs, 0 < c) {n p : Nat} (hp : p < n) : st (pt cs [n]) p = fm cs p := by
  unfold st fm
  rw [off_pt f [n] p (by simpa using hp), off_lt _ hp]
  rfl
theorem st_zero {s : Nat} (r : List Nat) (h : 0 < s) : st (s :: r) 0 = true := by
  unfold st
  rw [off_lt _ h]
  rfl
theorem st_inj : ∀ {a b : List Nat}, (∀ s ∈ a, 0 < s) → (∀ s ∈ b, 0 < s) → a.sum = b.sum → (∀ p, p < a.sum → st a p = st b p) → a = b
  | [], [], _, _, _, _ => rfl
  | [], s :: r, _, hb, h, _ => by
    have := hb s List.mem_cons_self
    simp at h
    omega
  | s :: r, [], ha, _, h, _ => by
    have := ha s List.mem_cons_self
    simp at h
    omega
  | s :: a, t :: b, ha, hb, h, hp => by
    have s0 := ha s List.mem_cons_self
    have t0 := hb t List.mem_cons_self
    have ha' : ∀ x ∈ a, 0 < x := fun x hx => ha x (List.mem_cons_of_mem _ hx)
    have hb' : ∀ x ∈ b, 0 < x := fun x hx => hb x (List.mem_cons_of_mem _ hx)
    rw [List.sum_cons, List.sum_cons] at h
    have first : ∀ {s t : Nat} {a b : List Nat}, 0 < s → s < t → (∀ x ∈ a, 0 < x) → s + a.sum = t + b.sum → (∀ p, p < s + a.sum → st (s :: a) p = st (t :: b) p) → False := fun {s t a b} s0 lt ha h hp => by
      have := hp s (by omega)
      unfold st at this
      rw [off_ge _ (Nat.le_refl s), off_lt _ lt, Nat.sub_self] at this
      cases a with
      | nil => simp at h; omega
      | cons x a =>
        rw [off_lt _ (ha x List.mem_cons_self)] at this
        have e : s = 0 := by simpa using this
        omega
    rw [List.sum_cons] at hp
    have e : s = t := by
      rcases Nat.lt_trichotomy s t with q | q | q
      · exact (first s0 q ha' h hp).elim
      · exact q
      · exact (first t0 q hb' h.symm fun p h2 => (hp p (by omega)).symm).elim
    subst e
    rw [st_inj ha' hb' (by omega) fun p h2 => by
      have := hp (s + p) (by omega)
      unfold st at this ⊢
      rw [off_ge _ (by omega), off_ge _ (by omega), Nat.add_sub_cancel_left] at this
      exact this]
theorem off_at : ∀ (row : List Nat) (i s j : Nat), row[i]? = some s → j < s → off row ((row.take i).sum + j) = j
  | [], i, s, j, h, _ => by cases i <;> cases h
  | x :: r, 0, s, j, h, hj => by
    cases h
    simp [off_lt _ hj]
  | x :: r, i + 1, s, j, h, hj => by
    rw [List.take_succ_cons, List.sum_cons, off_ge _ (by omega), show x + (r.take i).sum + j - x = (r.take i).sum + j by omega]
    exact off_at r i s j h hj
/-! ### a row of periods that stops too early -/
def an (φ : Nat → Bool) (n : Nat) : Bool := (List.range n).any fun p => decide (1 ≤ p) && φ p
theorem an_iff {φ : Nat → Bool} {n : Nat} : an φ n = true ↔ ∃ p, 1 ≤ p ∧ p < n ∧ φ p = true := by
  unfold an
  rw [List.any_eq_true]
  constructor
  · rintro ⟨p, h1, h2⟩
    rw [Bool.and_eq_true, decide_eq_true_iff] at h2
    exact ⟨p, h2.1, List.mem_range.mp h1, h2.2⟩
  · rintro ⟨p, h1, h2, h3⟩
    exact ⟨p, List.mem_range.mpr h2, by rw [Bool.and_eq_true, decide_eq_true_iff]; exact ⟨h1, h3⟩⟩
def skF (φ : Nat → Bool) : Nat → Nat → Bool
  | 0, _ => false
  | s + 1, n => if lp φ n < n then skF φ s (lp φ n) else an φ n
/-- whether a place is left where there is no period any more -/
def sk (φ : Nat → Bool) (n : Nat) : Bool := skF φ n n
theorem skF_eq {φ : Nat → Bool} : ∀ n s, n ≤ s → skF φ s n = skF φ n n := by
  intro n
  induction n using Nat.strongRecOn with
  | ind n ih =>
    intro s hs
    cases n with
    | zero =>
      cases s with
      | zero => rfl
      | succ s =>
        unfold skF
        rw [if_neg (by rw [lp_zero]; omega)]
        rfl
    | succ n =>
      cases s with
      | zero => omega
      | succ s =>
        unfold skF
        by_cases c : lp φ (n + 1) < n + 1
        · rw [if_pos c, if_pos c, ih _ c s (by omega), ih _ c n (by omega)]
        · rw [if_neg c, if_neg c]
theorem sk_step (φ : Nat → Bool) (n : Nat) : sk φ n = if lp φ n < n then sk φ (lp φ n) else an φ n := by
  cases n with
  | zero => rw [if_neg (by rw [lp_zero]; omega)]; rfl
  | succ n =>
    show skF φ (n + 1) (n + 1) = _
    rw [skF]
    by_cases c : lp φ (n + 1) < n + 1
    · rw [if_pos c, if_pos c, skF_eq _ n (by omega)]
      rfl
    · rw [if_neg c, if_neg c]
theorem nrm_tells {φ : Nat → Bool} (h0 : φ 0 = true) : ∀ n, sk φ n = false → ∀ p, p < n → φ p = fm (nrm φ n) p := by
  intro n
  induction n using Nat.strongRecOn with
  | ind n ih =>
    intro hs p hp
    rw [sk_step] at hs
    rw [nrm_step]
    by_cases c : lp φ n < n
    · rw [if_pos c] at hs ⊢
      obtain ⟨h1, h2, h3, h4⟩ := lp_spec (f := φ) (k := n) (by omega)
      have per := pd_iff.mp h3
      have back : ∀ k i, i + k * lp φ n < n → φ i = φ (i + k * lp φ n) := by
        intro k
        induction k with
        | zero => intro i _; rw [Nat.zero_mul, Nat.add_zero]
        | succ k ik =>
          intro i hi
          rw [Nat.add_mul, Nat.one_mul] at hi ⊢
          rw [ik i (by omega), per (i + k * lp φ n) (by omega)]
          congr 1
          omega
      have e := Nat.mod_add_div p (lp φ n)
      rw [Nat.mul_comm] at e
      have := back (p / lp φ n) (p % lp φ n) (by omega)
      rw [e] at this
      have ml := Nat.mod_lt p (show 0 < lp φ n by omega)
      rw [← this, ih _ c hs (p % lp φ n) ml]
      unfold fm
      rw [rem_cons]
    · rw [if_neg c] at hs ⊢
      unfold fm
      rw [rem_nil]
      by_cases z : p = 0
      · rw [z, h0]
        rfl
      · rw [decide_eq_false z]
        cases e : φ p with
        | false => rfl
        | true =>
          rw [an_iff.mpr ⟨p, by omega, hp, e⟩] at hs
          cases hs
theorem lp_congr {φ ψ : Nat → Bool} {n : Nat} (h : ∀ i, i < n → φ i = ψ i) (hn : 0 < n) : lp φ n = lp ψ n := by
  obtain ⟨h1, h2, h3, h4⟩ := lp_spec (f := ψ) (k := n) hn
  exact lp_eq hn h1 (by rw [pd_congr h]; exact h3) fun q q1 _ hq => h4 q q1 (by rw [← pd_congr h]; exact hq)
theorem chain_sk {φ : Nat → Bool} {cs : List Nat} (hf : Fall cs) : ∀ n, (∀ p, p < n → φ p = fm cs p) → sk φ n = false := by
  intro n
  induction n using Nat.strongRecOn with
  | ind n ih =>
    intro h
    rw [sk_step]
    by_cases c : lp φ n < n
    · rw [if_pos c]
      exact ih _ c fun p hp => h p (by omega)
    · rw [if_neg c]
      cases e : an φ n with
      | false => rfl
      | true =>
        exfalso
        obtain ⟨p, h1, h2, h3⟩ := an_iff.mp e
        apply c
        rw [lp_congr h (by omega), lp_lt hf]
        exact ⟨p, h1, h2, by rw [← h p h2]; exact h3⟩
/-- what is parted so: just if no place is left -/
theorem parts_so {row : List Nat} (h : ∀ s ∈ row, 0 < s) (hr : row ≠ []) : pt (nrm (st row) row.sum) [row.sum] = row ↔ sk (st row) row.sum = false := by
  have h0 : st row 0 = true := by
    cases row with
    | nil => exact (hr rfl).elim
    | cons s r => exact st_zero r (h s List.mem_cons_self)
  have hsum : 0 < row.sum := by
    cases row with
    | nil => exact (hr rfl).elim
    | cons s r =>
      have := h s List.mem_cons_self
      rw [List.sum_cons]
      omega
  obtain ⟨f1, f2, f3⟩ := nrm_fall (f := st row) row.sum
  constructor
  · intro e
    refine chain_sk f1 _ fun p hp => ?_
    rw [← st_pt f1.pos hp, e]
  · intro e
    refine st_inj (pt_pos f1.pos _ (by simpa using hsum)) h ((pt_sum f1.pos _).trans (by simp)) fun p hp => ?_
    rw [pt_sum f1.pos] at hp
    have hp : p < row.sum := by simpa using hp
    rw [st_pt f1.pos hp, nrm_tells h0 _ e p hp]
end N

end
section
set_option autoImplicit false
set_option Elab.async false
set_option linter.all false
set_option maxRecDepth 100000
set_option maxHeartbeats 4000000
/-! ## normal chains, their boundaries and one another -/
namespace N
theorem nrm_congr {f g : Nat → Bool} : ∀ n, (∀ i, i < n → f i = g i) → nrm f n = nrm g n := by
  intro n
  induction n using Nat.strongRecOn with
  | _ n ih =>
    intro h
    rw [nrm_step f n, nrm_step g n]
    by_cases hn : 0 < n
    · have e := lp_congr h hn
      rw [e]
      by_cases c : lp g n < n
      · rw [if_pos c, if_pos c, ih _ c fun i hi => h i (by omega)]
      · rw [if_neg c, if_neg c]
    · have e : n = 0 := by omega
      subst e
      rw [lp_zero, lp_zero, if_neg (by omega), if_neg (by omega)]
/-- the normal chain tells the marks -/
theorem nrm_fm {cs : List Nat} (hf : Fall cs) (n : Nat) {p : Nat} (hp : p < n) : fm cs p = fm (nrm (fm cs) n) p :=
  nrm_tells (fm_zero cs) n (chain_sk hf n fun _ _ => rfl) p hp
/-- the normal chain of all places -/
def nm (cs : List Nat) : List Nat := nrm (fm cs) (2 * hd cs)
theorem nrm_far {cs : List Nat} (hf : Fall cs) {m : Nat} (hm : 2 * hd cs ≤ m) : nrm (fm cs) m = nm cs := by
  cases cs with
  | nil => rw [nrm_nil, nm, nrm_nil]
  | cons c l => exact nrm_more hf.1 m hm
theorem nm_fm {cs : List Nat} (hf : Fall cs) (p : Nat) : fm cs p = fm (nm cs) p := by
  rw [← nrm_far hf (m := 2 * hd cs + p + 1) (by omega)]
  exact nrm_fm hf _ (by omega)
theorem nm_eq {a b : List Nat} (ha : Fall a) (hb : Fall b) : nm a = nm b ↔ ∀ p, fm a p = fm b p := by
  constructor
  · intro e p
    rw [nm_fm ha, nm_fm hb, e]
  · intro h
    rw [← nrm_far ha (m := 2 * hd a + 2 * hd b) (by omega), ← nrm_far hb (m := 2 * hd a + 2 * hd b) (by omega)]
    exact nrm_congr _ fun i _ => h i
theorem fm_nil {p : Nat} (h : 0 < p) : fm [] p = false := by
  unfold fm
  rw [rem_nil]
  exact decide_eq_false (by omega)
/-- what agrees on both first cuts and one place more agrees everywhere -/
theorem fm_all {a b : List Nat} (ha : Fall a) (hb : Fall b) (h : ∀ p, p < hd a + hd b + 1 → fm a p = fm b p) : ∀ p, fm a p = fm b p := by
  cases a with
  | nil =>
    cases b with
    | nil => exact fun p => rfl
    | cons d r =>
      have := h d (by show d < 0 + d + 1; omega)
      have e := fm_head d r 0
      rw [Nat.zero_add, fm_zero] at e
      rw [fm_nil hb.1, e] at this
      cases this
  | cons c l =>
    cases b with
    | nil =>
      have := h c (by show c < c + 0 + 1; omega)
      have e := fm_head c l 0
      rw [Nat.zero_add, fm_zero] at e
      rw [fm_nil ha.1, e] at this
      cases this
    | cons d r =>
      have c0 := ha.1
      have d0 := hb.1
      intro p
      induction p using Nat.strongRecOn with
      | _ p ih =>
        by_cases hp : p < c + d + 1
        · exact h p hp
        · have e1 := fm_head c l (p - c)
          have e2 := fm_head d r (p - c - d)
          have e3 := fm_head c l (p - d - c)
          have e4 := fm_head d r (p - d)
          rw [show p - c + c = p by omega] at e1
          rw [show p - c - d + d = p - c by omega] at e2
          rw [show p - d - c + c = p - d by omega] at e3
          rw [show p - d + d = p by omega] at e4
          rw [e1, ih (p - c) (by omega), e2, ← ih (p - c - d) (by omega), show p - c - d = p - d - c by omega, ← e3, ih (p - d) (by omega), ← e4]
/-- place by place, the normal chain is at most the chain -/
theorem nrm_le : ∀ {cs : List Nat}, Fall cs → ∀ n, (nrm (fm cs) n).length ≤ cs.length ∧ ∀ (i x c : Nat), (nrm (fm cs) n)[i]? = some x → cs[i]? = some c → x ≤ c
  | [], _, n => by
    rw [nrm_nil]
    exact ⟨Nat.le_refl _, fun i x c h => by cases h⟩
  | c :: l, hf, n => by
    rw [nrm_step]
    by_cases h : lp (fm (c :: l)) n < n
    · rw [if_pos h]
      have c0 := hf.1
      obtain ⟨_, _, _, least⟩ := lp_spec (f := fm (c :: l)) (k := n) (by omega)
      have hc := least c c0 (pd_head c l n)
      obtain ⟨i1, i2⟩ := nrm_le hf.2.2 (lp (fm (c :: l)) n)
      rw [nrm_congr (f := fm (c :: l)) (g := fm l) (lp (fm (c :: l)) n) fun i hi => fm_low (by omega)]
      refine ⟨by rw [List.length_cons, List.length_cons]; omega, fun i x y h1 h2 => ?_⟩
      cases i with
      | zero =>
        cases h1
        cases h2
        exact hc
      | succ i => exact i2 i x y h1 h2
    · rw [if_neg h]
      exact ⟨Nat.zero_le _, fun i x c h => by cases h⟩
end N

end
section
set_option autoImplicit false
set_option Elab.async false
set_option linter.all false
set_option maxRecDepth 100000
set_option maxHeartbeats 4000000
/-! ## normal chains below a limit -/
namespace CP
open PySem L2 G Y
/-- the normal chain below a limit -/
def nr (cs : List Nat) : Option Int → List Nat
  | none => N.nm cs
  | some z => N.nrm (N.fm cs) z.toNat
theorem nrm_nn {cs : List Nat} (hf : N.Fall cs) (L : Option Int) : N.nrm (N.fm cs) (nn cs L) = nr cs L := by
  cases L with
  | none => rfl
  | some z =>
    show N.nrm (N.fm cs) (min (2 * N.hd cs) z.toNat) = N.nrm (N.fm cs) z.toNat
    by_cases h : z.toNat ≤ 2 * N.hd cs
    · rw [Nat.min_eq_right h]
    · rw [Nat.min_eq_left (by omega), N.nrm_far hf (Nat.le_refl _), N.nrm_far hf (m := z.toNat) (by omega)]
theorem nr_fall (cs : List Nat) (L : Option Int) : N.Fall (nr cs L) := by
  cases L with
  | none => exact (N.nrm_fall _).1
  | some z => exact (N.nrm_fall _).1
theorem nr_fm {cs : List Nat} (hf : N.Fall cs) (L : Option Int) {p : Nat} (hp : ∀ z, L = some z → p < z.toNat) : N.fm cs p = N.fm (nr cs L) p := by
  cases L with
  | none => exact N.nm_fm hf p
  | some z => exact N.nrm_fm hf _ (hp z rfl)
theorem ldn_lt {a b : List Nat} {L : Option Int} {p : Nat} (h : p < ldn a b L) : ∀ z, L = some z → p < z.toNat := fun z e => by
  subst e
  have : ldn a b (some z) = min (N.hd a + N.hd b + 1) z.toNat := rfl
  omega
theorem ldf_nr {cs : List Nat} (hf : N.Fall cs) (L : Option Int) : ldf cs (nr cs L) L = none := find_no fun q hq => by
  have e := nr_fm hf L (ldn_lt hq)
  unfold N.fm at e
  unfold ldm
  rw [e]
  cases decide (N.rem (nr cs L) q = 0) <;> rfl
theorem nr_nr {cs : List Nat} (hf : N.Fall cs) (L : Option Int) : nr (nr cs L) L = nr cs L := by
  cases L with
  | none => exact (N.nm_eq (nr_fall cs none) hf).mpr fun p => (N.nm_fm hf p).symm
  | some z => exact N.nrm_congr _ fun i hi => (N.nrm_fm hf _ hi).symm
theorem ldm_eq {a b : List Nat} {p : Nat} : ldm a b p = false ↔ N.fm a p = N.fm b p := by
  unfold ldm N.fm
  cases decide (N.rem a p = 0) <;> cases decide (N.rem b p = 0) <;> decide
theorem ldf_none {a b : List Nat} (ha : N.Fall a) (hb : N.Fall b) : ldf a b none = none ↔ nr a none = nr b none := by
  constructor
  · intro h
    unfold ldf at h
    rw [List.find?_eq_none] at h
    refine (N.nm_eq ha hb).mpr (N.fm_all ha hb fun p hp => ?_)
    exact ldm_eq.mp (by simpa using h p (List.mem_range.mpr hp))
  · intro h
    exact find_no fun q _ => ldm_eq.mpr ((N.nm_eq ha hb).mp h q)
theorem ldf_some {a b : List Nat} (ha : N.Fall a) (hb : N.Fall b) {p : Nat} (h : ldf a b none = some p) : 0 < p ∧ N.fm a p ≠ N.fm b p ∧ nr a (some (p : Int)) = nr b (some (p : Int)) ∧ nr a (some ((p : Int) + 1)) ≠ nr b (some ((p : Int) + 1)) := by
  unfold ldf at h
  rw [List.find?_range_eq_some] at h
  obtain ⟨h1, _, h3⟩ := h
  have ne : N.fm a p ≠ N.fm b p := fun e => by
    rw [ldm_eq.mpr e] at h1
    cases h1
  refine ⟨Nat.pos_of_ne_zero fun z => ?_, ne, ?_, fun e => ?_⟩
  · subst z
    exact ne (by rw [N.fm_zero, N.fm_zero])
  · show N.nrm (N.fm a) ((p : Int)).toNat = N.nrm (N.fm b) ((p : Int)).toNat
    rw [Int.toNat_natCast]
    exact N.nrm_congr _ fun i hi => ldm_eq.mp (by simpa using h3 i hi)
  · have q : ∀ z, some ((p : Int) + 1) = some z → p < z.toNat := fun z hz => by
      cases hz
      omega
    exact ne (by rw [nr_fm ha _ q, e, ← nr_fm hb _ q])
/-- the first cut of a normal chain is a period -/
theorem nr_period {cs : List Nat} (hf : N.Fall cs) {L : Option Int} {n : Nat} {r : List Nat} (h : nr cs L = n :: r) : 0 < n ∧ n ≤ N.hd cs ∧ (∀ z, L = some z → (n : Int) < z) ∧ brk cs n L = none := by
  cases cs with
  | nil =>
    cases L with
    | none => rw [show nr [] none = N.nrm (N.fm []) _ from rfl, N.nrm_nil] at h; cases h
    | some z => rw [show nr [] (some z) = N.nrm (N.fm []) _ from rfl, N.nrm_nil] at h; cases h
  | cons c l =>
    have c0 := hf.1
    have main : ∀ m, N.nrm (N.fm (c :: l)) m = n :: r → 0 < n ∧ n ≤ c ∧ n < m ∧ ∀ i, i + n < m → N.fm (c :: l) i = N.fm (c :: l) (i + n) := fun m h => by
      rw [N.nrm_step] at h
      by_cases q : N.lp (N.fm (c :: l)) m < m
      · rw [if_pos q] at h
        obtain ⟨l1, _, l3, l4⟩ := N.lp_spec (f := N.fm (c :: l)) (k := m) (by omega)
        have hc := l4 c c0 (N.pd_head c l m)
        have e : N.lp (N.fm (c :: l)) m = n := by injection h
        rw [e] at l1 l3 hc q
        exact ⟨l1, hc, q, N.pd_iff.mp l3⟩
      · rw [if_neg q] at h
        cases h
    have fin : ∀ q, N.fm (c :: l) q = N.fm (c :: l) (q + n) → mism (c :: l) n q = false := fun q e => by
      unfold N.fm at e
      unfold mism
      rw [e]
      cases decide (N.rem (c :: l) (q + n) = 0) <;> rfl
    cases L with
    | none =>
      obtain ⟨h1, h2, h3, h4⟩ := main (2 * c) h
      refine ⟨h1, h2, fun z hz => (by cases hz), find_no fun q hq => fin q (h4 q ?_)⟩
      have := Nat.lt_of_lt_of_le hq (room_le c l n none)
      omega
    | some z =>
      obtain ⟨h1, h2, h3, h4⟩ := main z.toNat h
      refine ⟨h1, h2, fun y hy => (by cases hy; omega), find_no fun q hq => fin q (h4 q ?_)⟩
      have e : room (c :: l) n (some z) = (min ((c : Nat) : Int) (z - (n : Int))).toNat := rfl
      rw [e] at hq
      omega
end CP

end
section
set_option autoImplicit false
set_option Elab.async false
set_option linter.all false
set_option maxRecDepth 100000
set_option maxHeartbeats 4000000
/-! ## min of a tuple with default= -/
namespace GF
open PySem PySem.Spec PyProof.Rows L2 PySem.W
theorem ints_reads {h : Heap} : ∀ {ns : List Int} {us : List Value}, Vals (ns.map V.int) us → ReadsAll h us (ns.map PyData.int) []
  | [], _, r => by cases r; exact .nil
  | n :: ns, _, r => by
    cases r with
    | cons a b =>
      obtain ⟨t, rfl⟩ := a
      exact .cons (as := []) (bs := []) (.int n t) (ints_reads b)
theorem ints_alike : ∀ ns : List Int, AlikeAll (ns.map PyData.int) := by
  intro ns
  refine ⟨fun x hx y hy => ?_, fun x hx => ?_⟩
  · obtain ⟨a, _, rfl⟩ := List.mem_map.mp hx
    obtain ⟨b, _, rfl⟩ := List.mem_map.mp hy
    rfl
  · obtain ⟨a, _, rfl⟩ := List.mem_map.mp hx
    intro z
    cases z
theorem ints_depth : ∀ ns : List Int, PyData.depthAll (ns.map PyData.int) = 0
  | [] => by simp only [List.map_nil, PyData.depthAll]
  | n :: ns => by simp only [List.map_cons, PyData.depthAll, PyData.depth, ints_depth ns, Nat.max_self]
theorem int_reads {h : Heap} {v : Value} {n : Int} {bs : List Addr} (r : Reads h v (.int n) bs) : RelV (.int n) v := by
  cases r
  exact ⟨_, rfl⟩
def rMinTD (K : PySem.W.Frag) : List V → List V → Hp → VK → Prop := fun xs zs H Q => ∃ (a : Addr) (ns : List Int) (d : Int), xs = [.ref a] ∧ zs = [.int d] ∧ SqT K H a (ns.map V.int) ∧ (ns = [] → Q (.int d) H) ∧ (∀ n r, ns = n :: r → Q (.int (r.foldl min n)) H)
section
variable {X : Cx}
theorem call_minTD (hc : X.calm = true) (hu : X.A.units + 64 < cLine) : CallRK X (.builtin "min") ["default"] (rMinTD X.K) := by
  intro pins s σ H xs zs us ws Q I r rz h
  obtain ⟨a, ns, d, rfl, rfl, hL, q0, q1⟩ := h
  cases r with
  | cons rx rr =>
    cases rr
    cases rx
    cases rz with
    | cons ra rb =>
      cases rb
      obtain ⟨td, rfl⟩ := ra
      obtain ⟨its, rv, pl, _⟩ := I.tuple hL
      have hr := ints_reads (h := s.heap) rv
      refine min_tuple_default (xs := ns.map .int) (d := .int d td) (I.ok.hd hc) (show s.heap.IsTuple a its.toArray from pl) (by simpa using hr) (ints_alike ns) (by rw [ints_depth]; omega) (fun e h' tk k => ?_) fun y ys i v h' tk bs e hv hR k => ?_
      · cases ns with
        | nil => exact ⟨.int d, H, I.kept (t' := tk) k, ⟨td, rfl⟩, q0 rfl⟩
        | cons n r => cases e
      · cases ns with
        | nil => cases e
        | cons n r =>
          injection e with e1 e2
          subst e1 e2
          rw [minD_ints] at hR
          exact ⟨.int _, H, I.kept (t' := tk) k, int_reads hR, q1 n r rfl⟩
end
def rMaxT (K : PySem.W.Frag) : List V → Hp → VK → Prop := fun xs H Q => ∃ (a : Addr) (n : Int) (ns : List Int), xs = [.ref a] ∧ SqT K H a ((n :: ns).map V.int) ∧ Q (.int (ns.foldl max n)) H
section
variable {X : Cx}
theorem call_maxT (hc : X.calm = true) (hu : X.A.units + 64 < cLine) : CallR X (.builtin "max") (rMaxT X.K) := by
  intro pins s σ H xs us Q I r h
  obtain ⟨a, n, ns, rfl, hL, q⟩ := h
  cases r with
  | cons rx rr =>
    cases rr
    cases rx
    obtain ⟨its, rv, pl, _⟩ := I.tuple hL
    have hr := ints_reads (h := s.heap) rv
    refine max_tuple_data (x := .int n) (xs := ns.map .int) (I.ok.hd hc) (show s.heap.IsTuple a its.toArray from pl) (by simpa using hr) (ints_alike (n :: ns)) (by rw [show PyData.int n :: ns.map PyData.int = (n :: ns).map PyData.int from rfl, ints_depth]; omega) fun i v h' tk bs hv hR k => ?_
    rw [maxD_ints] at hR
    exact ⟨.int _, H, I.kept (t' := tk) k, int_reads hR, q⟩
end
theorem foldl_max_bd {lo hi : Int} : ∀ (ns : List Int) (n : Int), lo ≤ n → n ≤ hi → (∀ y ∈ ns, y ≤ hi) → lo ≤ ns.foldl max n ∧ ns.foldl max n ≤ hi
  | [], n, h1, h2, _ => ⟨h1, h2⟩
  | m :: ns, n, h1, h2, h => by
    have hm := h m List.mem_cons_self
    exact foldl_max_bd ns (max n m) (by omega) (by omega) fun y hy => h y (List.mem_cons_of_mem _ hy)
end GF

/-! ## sums of chains; parts of cuts -/
namespace CP
open PySem L2 G Y
abbrev sCAdd : Stmt := inClass (S.top 10) 5
theorem fold_cast : ∀ (l : List Nat) (n : Nat), (l.map fun n => ((n : Nat) : Int)).foldl min (n : Int) = ((l.foldl min n : Nat) : Int)
  | [], n => rfl
  | x :: l, n => by
    rw [List.map_cons, List.foldl_cons, List.foldl_cons, ← fold_cast l (min n x)]
    congr 1
    omega
theorem fall_sub : ∀ {l r : List Nat}, List.Sublist r l → N.Fall l → N.Fall r
  | _, _, .slnil, h => h
  | _ :: _, _, .cons _ s, h => fall_sub s h.2.2
  | _ :: _, _ :: _, .cons₂ _ s, h => ⟨h.1, fun d hd => h.2.1 d (s.subset hd), fall_sub s h.2.2⟩
theorem cuts_sub {l r : List Nat} (s : List.Sublist r l) (h : Cuts l) : Cuts r := ⟨fall_sub s h.fall, fun c hc => h.le c (s.subset hc), Nat.le_trans s.length_le h.len⟩
theorem fold_up : ∀ (ns : List Int) (n : Int), n ≤ ns.foldl max n ∧ ∀ y ∈ ns, y ≤ ns.foldl max n
  | [], n => ⟨Int.le_refl _, fun y hy => by cases hy⟩
  | m :: ns, n => by
    obtain ⟨a, b⟩ := fold_up ns (max n m)
    refine ⟨by show n ≤ ns.foldl max (max n m); omega, fun y hy => ?_⟩
    show y ≤ ns.foldl max (max n m)
    rcases List.mem_cons.mp hy with r | r
    · omega
    · exact b y r
/-- the greatest of some cuts and one number more -/
theorem max_cuts {cs : List Nat} (h : Cuts cs) {k : Int} (k0 : 0 ≤ k) (k1 : k ≤ 1) : ∃ (n : Int) (ns : List Int), (n :: ns).map V.int = ni cs ++ [V.int k] ∧ ns.foldl max n = (if cs = [] then k else ((N.hd cs : Nat) : Int)) := by
  cases cs with
  | nil => exact ⟨k, [], rfl, rfl⟩
  | cons c l =>
    refine ⟨(c : Int), l.map (fun n => ((n : Nat) : Int)) ++ [k], ?_, ?_⟩
    · rw [List.map_cons, List.map_append]
      show V.int (c : Int) :: (List.map V.int (l.map fun n => ((n : Nat) : Int)) ++ [V.int k]) = V.int (c : Int) :: (ni l ++ [V.int k])
      unfold ni
      rfl
    · have c0 := h.fall.1
      have := GF.foldl_max_bd (lo := (c : Int)) (hi := (c : Int)) (l.map (fun n => ((n : Nat) : Int)) ++ [k]) (c : Int) (Int.le_refl _) (Int.le_refl _) fun y hy => by
        rcases List.mem_append.mp hy with r | r
        · obtain ⟨d, hd, rfl⟩ := List.mem_map.mp r
          have := h.fall.2.1 d hd
          omega
        · rw [List.mem_singleton.mp r]
          omega
      rw [if_neg (by simp)]
      show _ = (c : Int)
      omega
theorem catA_any {K : PySem.W.Frag} {H : Hp} {Q : VK} {a b : Addr} {xs ys : List V} (ha : SqT K H a xs) (hb : SqT K H b ys) (hl : xs.length + ys.length ≤ sizeLine) (k : ∀ c H', Same H H' → SqT K H' c (xs ++ ys) → Q (.ref c) H') : rCatA K (.ref a) (.ref b) H Q :=
  ⟨a, b, xs, ys, rfl, rfl, ha, hb, hl, fun z => k b H (Same.refl H) (by rw [z]; exact hb), fun _ z => k a H (Same.refl H) (by rw [z, List.append_nil]; exact ha), fun _ _ p hp => k p _ (of_upd hp) (SqT.of upd_same)⟩
/-- t + u of two tuples of the program's own -/
theorem catA_own {K : PySem.W.Frag} {H : Hp} {Q : VK} {a b : Addr} {xs ys : List V} (ha : H a = some (.tup xs)) (hb : H b = some (.tup ys)) (hl : xs.length + ys.length ≤ sizeLine) (k : ∀ c H', Same H H' → H' c = some (.tup (xs ++ ys)) → Q (.ref c) H') : rCatA K (.ref a) (.ref b) H Q :=
  ⟨a, b, xs, ys, rfl, rfl, SqT.of ha, SqT.of hb, hl, fun z => k b H (Same.refl H) (by rw [z]; exact hb), fun _ z => k a H (Same.refl H) (by rw [z, List.append_nil]; exact ha), fun _ _ p hp => k p _ (of_upd hp) upd_same⟩
theorem ni_append (a b : List Nat) : ni (a ++ b) = ni a ++ ni b := by
  unfold ni
  rw [List.map_append, List.map_append]
section
variable {P : Program} {w : World} {K : PySem.W.Frag} {mg : Str → Option Value} {base : Heap} {C : Addr}
/-- first + second -/
def spCAdd (C : Addr) : Sp := fun vs H Q _ => ∃ (a b : Addr) (l m : List Nat), vs = [.ref a, .ref b] ∧ ChAt C H l a ∧ ChAt C H m b ∧ Cuts l ∧ Cuts m ∧ l.length + m.length ≤ 1000 ∧ ∀ c H', Same H H' → ChAt C H' (N.add l m) c → Q (.ref c) H'
theorem cuts_add {l m : List Nat} (hl : Cuts l) (hm : Cuts m) (h : l.length + m.length ≤ 1000) : Cuts (N.add l m) := ⟨N.add_fall hl.fall hm.fall, N.add_le hl.le hm.le, Nat.le_trans (N.add_len l m) h⟩
abbrev NAd : List Str := ["self", "other", "least", "cut"]
theorem scAd : FnScope NAd ["self", "other"] (defScope sCAdd) := ⟨rfl, rfl, rfl, by decide +kernel, rfl, by decide +kernel, by decide +kernel⟩
theorem ok_cadd {f : Addr} {fd : FuncData} (F : Fun K "__add__" "Chain.__add__" sCAdd f fd) (B : Bn mg) (T : Ct K mg C) (gC : ∃ t, mg "GREATEST_CUT" = some (.int 1000 t)) (MW : Mw P w K mg base C) : FnOk P w K mg base CX0 6 f fd ["self", "other"] (spCAdd C) := by
  obtain ⟨fI, fdI, GI, MK, bI⟩ := MW.ex
  obtain ⟨tkC, gC⟩ := gC
  refine F.ok scAd (fun vs H Q E h => ?_) (fun cdv A outer s H vs Q E hr h => ?_)
  · obtain ⟨a, b, l, m, rfl, _⟩ := h
    rfl
  · obtain ⟨a, b, l, m, rfl, ha, hb, hl, hm, hlen, k⟩ := h
    refine ⟨_, pss_cons (ps_set (i := 2) scAd.nd rfl (Or.inr rfl) (pe_callBK (GF.call_minTD rfl hr.units) (by rfl) B.min (by decide +kernel) (pa_cons (pe_fld (pv 0) rfl) pa_nil) (pk_cons (pe_op op_add (pe_glob (v := .int 1000) rfl gC ⟨_, rfl⟩) pe_int) pk_nil)))
      (pss_one (ps_ret (pe_make MK GI hr rfl T.g bI .nil pass0 (pa_cons (pe_op op_catA (pe_fld (pv 0) rfl) (pe_callTy call_tuple_of (by rfl) B.tuple (by decide +kernel) (pa_cons
        (pe_lc (own := [("cut", 3)]) (g := gName 3) (tt := tTest (tOp (rI0 fun i j => .bl (decide (i < j))) (tVar 3) (tVar 2))) (te := tVar 3) rfl scAd.nd (pi_tup (pe_fld (pv 1) rfl)) (blkOk_by (N := NAd) (sc := defScope sCAdd) (by decide +kernel))
          (fun _ _ _ _ _ => pg_name (i := 3) scAd.nd rfl (Or.inl rfl)) (fun _ _ _ _ _ => pts_one (by exact pt_cmpR op_lt (pv 3) (pv 2) (nomark _))) (fun _ _ _ _ _ => by exact pv 3)) pa_nil))) pa_nil)))), ?_⟩
    obtain ⟨dx, t, u, h1, h2, h3⟩ := id ha
    obtain ⟨dy, t', u', g1, g2, g3⟩ := id hb
    have fin : ∀ (c0 : Addr) (G2 : Hp), Same H G2 → G2 c0 = some (.tup (ni (N.add l m))) → ∀ x dx, G2 x = none → G2 dx = none → dx ≠ x → spCInit C (.ref x :: ([.ref c0] ++ [])) (upd (upd G2 dx (.own x)) x (.ins C dx [])) (fun v H2 => v = .non ∧ Q (.ref x) H2) E0 :=
      fun c0 G2 s2 hc0 x dx hx hdx ne => made_ch hx hdx ne (.inr hc0) (cuts_add hl hm hlen) fun G3 s3 hch => ⟨rfl, k x G3 (s2.trans s3) hch⟩
    have rest : tRet (tMake C (spCInit C) [] E0 (tCons (tOp (rCatA K) (tFld K (tVar 0) "cuts") (tCB (fun xs H Q => ∃ p ys, xs = [V.ref p] ∧ ((SqL K H p ys ∧ ∀ l, H l = none → Q (.ref l) (upd H l (.tup ys))) ∨ (SqT K H p ys ∧ Q (.ref p) H))) (tCons (tLc (iTup K (tFld K (tVar 1) "cuts")) (gName 3) (tTest (tOp (rI0 fun i j => .bl (decide (i < j))) (tVar 3) (tVar 2))) (tVar 3) [3]) tNil))) tNil)) { nx := fun _ H' => Q .non H', rt := Q } [some (.ref a), some (.ref b), some (.int ((N.lo l : Nat) : Int)), none] H := by
      refine ⟨_, rfl, a, C, dx, _, _, rfl, h1, T.cl, T.nC, cfl_cuts t u, ?_⟩
      refine ⟨_, rfl, b, C, dy, _, _, rfl, g1, T.cl, T.nC, cfl_cuts t' u', t', rfl, ⟨_, SqT.of g2⟩, fun D hD => ?_⟩
      refine lc_it walk_tup (fun i G => Same H G ∧ G D = some (.lst (ni ((m.take i).filter fun d => decide (d < N.lo l))))) ⟨of_upd hD, upd_same⟩ (fun i G _ z => SqT.of (z.1 _ _ g2)) ?_ ?_
      · rintro i x G G' hi ⟨s1, hG⟩ ⟨rfl, hx⟩
        obtain ⟨c, hc, rfl⟩ := ni_get hx
        have e : m.take (i + 1) = m.take i ++ [c] := take_snoc hc
        refine ⟨rfl, _, rfl, _, rfl, _, _, rfl, rfl, _, rfl, ite2 (fun c1 => ?_) (fun c1 => ?_)⟩
        · have c2 : (c : Int) < ((N.lo l : Nat) : Int) := of_decide_eq_true c1
          refine ⟨_, rfl, _, hG, ?_, add_upd hD s1, ?_⟩
          · rw [ni_len] at hi ⊢
            have := List.length_filter_le (fun d => decide (d < N.lo l)) (m.take i)
            have := List.length_take_le i m
            have := hm.len
            exact small1000 (by omega)
          · rw [upd_same, e, List.filter_append, ni_app, List.filter_cons_of_pos (by simpa using (by omega : c < N.lo l))]
            rfl
        · have c2 : ¬ (c : Int) < ((N.lo l : Nat) : Int) := fun z => c1 (decide_eq_true z)
          refine ⟨s1, ?_⟩
          rw [hG, e, List.filter_append, List.filter_cons_of_neg (by simpa using (by omega : ¬ c < N.lo l)), List.filter_nil, List.append_nil]
      · rintro G ⟨s1, hG⟩
        rw [ni_len, List.take_length] at hG
        refine ⟨D, _, rfl, .inl ⟨SqL.of hG, fun t2 ht2 => ?_⟩⟩
        have s2 : Same G (upd G t2 (.tup (ni (m.filter fun d => decide (d < N.lo l))))) := of_upd ht2
        have h2' := s2 _ _ (s1 _ _ h2)
        have el : ni (N.add l m) = ni l ++ ni (m.filter fun d => decide (d < N.lo l)) := by
          unfold N.add
          rw [ni_app]
        refine ⟨t, t2, _, _, rfl, rfl, SqT.of h2', SqT.of upd_same, ?_, fun e => ?_, fun _ e => ?_, fun _ _ v hv => ?_⟩
        · rw [ni_len, ni_len]
          have := List.length_filter_le (fun d => decide (d < N.lo l)) m
          exact Nat.le_trans (show _ ≤ 1000 by omega) (by decide)
        · refine fin t2 _ (s1.trans s2) ?_
          rw [upd_same, el, e, List.nil_append]
        · refine fin t _ (s1.trans s2) ?_
          rw [h2', el, e, List.append_nil]
        · refine fin v _ ((s1.trans s2).trans (of_upd hv)) ?_
          rw [upd_same, el]
    refine ⟨_, rfl, a, C, dx, _, _, rfl, h1, T.cl, T.nC, cfl_cuts t u, _, _, rfl, rfl, ?_⟩
    refine ⟨t, l.map fun n => ((n : Nat) : Int), _, rfl, rfl, SqT.of h2, fun e => ?_, fun n r e => ?_⟩
    · have el : l = [] := List.map_eq_nil_iff.mp e
      have e2 : (1000 : Int) + 1 = ((N.lo l : Nat) : Int) := by
        rw [el]
        rfl
      rw [e2]
      exact rest
    · have e2 : r.foldl min n = ((N.lo l : Nat) : Int) := by
        cases l with
        | nil => cases e
        | cons c l =>
          rw [List.map_cons] at e
          injection e with e1 e3
          subst e1 e3
          rw [fold_cast]
          have := hl.le c List.mem_cons_self
          show ((l.foldl min c : Nat) : Int) = ((l.foldl min (min 1001 c) : Nat) : Int)
          rw [show min 1001 c = c by omega]
      rw [e2]
      exact rest
end
end CP

end
section
set_option autoImplicit false
set_option Elab.async false
set_option linter.all false
set_option maxRecDepth 100000
set_option maxHeartbeats 4000000
/-! ## the law's great cuts -/
namespace CP
open PySem L2 G Y
abbrev sLGreat : Stmt := S.top 29
def PrAt (H : Hp) (xs : List V) : Prop := ∀ x ∈ xs, ∃ (t : Addr) (a b : Nat), x = .ref t ∧ H t = some (.tup (ni [a, b])) ∧ 1 ≤ a ∧ a ≤ 30 ∧ 1 ≤ b ∧ b ≤ 1000
theorem PrAt.nil {H : Hp} : PrAt H [] := fun x h => by cases h
theorem PrAt.snoc {H : Hp} {xs : List V} {t : Addr} (a b : Nat) (h : PrAt H xs) (ht : H t = none) (hb : 1 ≤ a ∧ a ≤ 30 ∧ 1 ≤ b ∧ b ≤ 1000) : PrAt (upd H t (.tup (ni [a, b]))) (xs ++ [.ref t]) := fun x hx => by
  rcases List.mem_append.mp hx with q | q
  · obtain ⟨u, a', b', e, h1, h2⟩ := h x q
    exact ⟨u, a', b', e, (of_upd ht) _ _ h1, h2⟩
  · exact ⟨t, a, b, List.mem_singleton.mp q, upd_same, hb⟩
theorem choose_prs {K : PySem.W.Frag} {G : Hp} {Q : VK} {E : XK} {p l : Addr} {xs : List V} (hA : S.At G p) (hl : G l = none) (hx : PrAt G xs) (h1 : 1 ≤ xs.length) (h2 : xs.length ≤ 1000)
    (k : ∀ t (a b : Nat) H', Bt p G H' → H' t = some (.tup (ni [a, b])) → 1 ≤ a → a ≤ 30 → 1 ≤ b → b ≤ 1000 → Q (.ref t) H') : S.spChoose K [.ref p, .ref l] (upd G l (.lst xs)) Q E :=
  choose_at (sameAt (of_upd hl) hA) (at_ne hA hl) (.inl (SqL.of upd_same)) h1 h2 fun x H' hx2 b => by
    obtain ⟨t, m, h, rfl, ht, m1, m2, h1, h2⟩ := hx x hx2
    have b2 := (Bt.new (.lst xs) hA hl).trans b
    refine k t m h H' b2 (b2.1 t _ (fun z => ?_) ht) m1 m2 h1 h2
    obtain ⟨r, m, e, _⟩ := hA
    rw [z, e] at ht
    cases ht
section
variable {P : Program} {w : World} {K : PySem.W.Frag} {mg : Str → Option Value} {base : Heap} {C : Addr}
def spLGt : Sp := fun vs H Q _ => ∃ p : Addr, vs = [.ref p] ∧ S.At H p ∧ ∀ t cs H', Bt p H H' → H' t = some (.tup (ni cs)) → Cuts cs → cs.length ≤ 32 → Q (.ref t) H'
abbrev NGt : List Str := ["stream", "many", "high", "some", "turn"]
theorem scGt : FnScope NGt ["stream"] (defScope sLGreat) := ⟨rfl, rfl, rfl, by decide +kernel, rfl, by decide +kernel, by decide +kernel⟩
theorem ok_lgt {f : Addr} {fd : FuncData} (F : Fun K "_law_great_cuts" "_law_great_cuts" sLGreat f fd) (B : Bn mg) (D : Df P w K mg base 1 "_law_draw" ["stream", "size"] S.spDraw) (DC : Df P w K mg base 2 "_law_choose" ["stream", "items"] (S.spChoose K)) : FnOk P w K mg base CX0 3 f fd ["stream"] spLGt := by
  obtain ⟨fD, fdD, GD, gD, kD, bD⟩ := D.ex
  obtain ⟨fC, fdC, GC, gC, kC, bC⟩ := DC.ex
  refine F.ok scGt (fun vs H Q E h => ?_) (fun cdv A outer s H vs Q E hr h => ?_)
  · obtain ⟨p, rfl, _⟩ := h
    rfl
  · obtain ⟨p, rfl, hp, k⟩ := h
    refine ⟨_, pss_cons (ps_asg (pe_call GC (hr.mono (by decide)) rfl gC kC bC .nil pass0 (pa_cons (pv 0) (pa_cons (pe_lst (pa_cons (pe_tup (pa_cons (pe_int) (pa_cons (pe_int) pa_nil))) (pa_cons (pe_tup (pa_cons (pe_int) (pa_cons (pe_int) pa_nil))) (pa_cons (pe_tup (pa_cons (pe_int) (pa_cons (pe_int) pa_nil))) (pa_cons (pe_tup (pa_cons (pe_int) (pa_cons (pe_int) pa_nil))) pa_nil))))) pa_nil))) (pg_tup (by rfl) (pgs_cons (pg_name (i := 1) scGt.nd rfl (Or.inl rfl)) (pgs_cons (pg_name (i := 2) scGt.nd rfl (Or.inr rfl)) pgs_nil))))
      (pss_cons (ps_setLc (i := 3) (own := [("turn", 4)]) (g := gName 4) (tt := tYes) (te := tOp (rI0 fun i j => .int (i + j)) (tC (.int 1)) (tCall S.spDraw [] E0 (tCons (tVar 0) (tCons (tVar 2) tNil)))) rfl scGt.nd rfl rfl (sw_true rfl rfl rfl (by decide +kernel)) (pi_range1 (by rfl) B.range (pa_cons (pe_op op_add (pe_int) (pe_call GD (hr.mono (by decide)) rfl gD kD bD .nil pass0 (pa_cons (pv 0) (pa_cons (pv 1) pa_nil)))) pa_nil)) (blkOk_by (N := NGt) (sc := defScope sLGreat) (by decide +kernel))
          (fun _ _ _ _ _ => pg_name (i := 4) scGt.nd rfl (Or.inl rfl)) (fun _ _ _ _ _ => pts_nil) (fun _ _ _ _ _ => by exact pe_op op_add pe_int (pe_call GD (hr.mono (by decide)) rfl gD kD bD .nil pass0 (pa_cons (pv 0) (pa_cons (pv 2) pa_nil)))))
      (pss_cons (ps_if (pt_cmpR (op_lt) (pv 2) (pe_int) (nomark _)) (pss_one (ps_ret (pe_callTy call_tuple_of (by rfl) B.tuple (by decide +kernel) (pa_cons (pe_revL (pe_callB (cr_sortedSet rfl) (by rfl) B.sorted (by decide +kernel) (pa_cons (pe_callTy (WS.cr_setL rfl) (by rfl) B.set (by decide +kernel) (pa_cons (pv 3) pa_nil)) pa_nil))) pa_nil)))) (pss_nil))
      (pss_one (ps_ret (pe_callTy call_tuple_of (by rfl) B.tuple (by decide +kernel) (pa_cons (pe_revL (pe_callB (cr_sortedSet rfl) (by rfl) B.sorted (by decide +kernel) (pa_cons (pe_callTy (WS.cr_setL rfl) (by rfl) B.set (by decide +kernel) (pa_cons (pe_op op_cat (pv 3) (pe_op op_rep (pe_lst (pa_cons (pe_int) pa_nil)) (pe_call GD (hr.mono (by decide)) rfl gD kD bD .nil pass0 (pa_cons (pv 0) (pa_cons (pe_int) pa_nil))))) pa_nil)) pa_nil))) pa_nil)))))), ?_⟩
    refine ⟨_, rfl, by decide, fun t0 e0 => ⟨by decide, fun t1 e1 => ⟨by decide, fun t2 e2 => ⟨by decide, fun t3 e3 => ⟨Nat.le_trans (show _ ≤ 7 by simp) (by decide), fun l hl => ?_⟩⟩⟩⟩⟩
    have hc := ((((PrAt.nil (H := H)).snoc 3 1000 e0 (by decide)).snoc 3 1000 e1 (by decide)).snoc 20 40 e2 (by decide)).snoc 30 200 e3 (by decide)
    have sm := ((((Same.refl H).trans (of_upd (o := .tup (ni [3, 1000])) e0)).trans (of_upd (o := .tup (ni [3, 1000])) e1)).trans (of_upd (o := .tup (ni [20, 40])) e2)).trans (of_upd (o := .tup (ni [30, 200])) e3)
    dsimp only [tCons, tNil, List.cons_append, List.nil_append]
    refine choose_prs (E := E0) (sameAt sm hp) hl hc (by simp) (by simp) fun t m h H1 b ht m1 m2 h1 h2 => ?_
    have b1 : Bt p H H1 := (Bt.same sm hp).trans b
    clear hc sm hl b e0 e1 e2 e3
    refine ⟨t, _, rfl, SqT.of ht, rfl, _, _, rfl, _, _, rfl, rfl, ?_⟩
    dsimp only
    have lg : ∀ z : Int, 1 ≤ z → z ≤ 3000 → z.natAbs.log2 < 9000 := fun z h1 h2 => PySem.Flt.log2_lt_of (k := 9000) (by decide) (Nat.lt_of_lt_of_le (by omega : _ < 2 ^ 60) (Nat.pow_le_pow_right (by decide) (by decide)))
    refine set_then (i := 3) (draw_w rfl rfl b1.2 (by omega) (lg _ (by omega) (by omega)) fun j H2 j0 j1 b2 => ⟨_, rfl, by omega, by omega, fun D0 nD => ?_⟩)
    replace b2 := b1.trans b2
    have ne := at_ne b2.2 nD
    refine lc_range (lo := 0) (n := (1 + j).toNat) (fun i G => Bt p H2 G ∧ ∃ l : List Nat, G D0 = some (.lst (ni l)) ∧ l.length = i ∧ ∀ z ∈ l, 1 ≤ z ∧ z ≤ 1000) ⟨Bt.new (.lst []) b2.2 nD, [], upd_same, rfl, fun z hz => by cases hz⟩ ?_ ?_
    · rintro i G hi2 ⟨bG, l, hD, hn, hz⟩
      refine ⟨rfl, draw_w rfl rfl bG.2 (by omega) (lg _ (by omega) (by omega)) fun d G1 d0 d1 b3 => ⟨_, bt_lst b3 ne hD, ?_, ?_⟩⟩
      · rw [ni_len]
        exact small1000 (by omega)
      · obtain ⟨n, rfl⟩ := Int.eq_ofNat_of_zero_le d0
        have b4 := bG.trans b3
        refine ⟨⟨fun a o n e => ?_, ?_⟩, l ++ [1 + n], by rw [upd_same, ni_app]; rfl, by simp; exact hn, ?_⟩
        · rw [upd_ne (fun z => by rw [z, nD] at e; cases e)]
          exact b4.1 a o n e
        · obtain ⟨r, m, e, f⟩ := b4.2
          exact ⟨r, m, by rw [upd_ne ne.symm]; exact e, f⟩
        · intro z hz2
          rcases List.mem_append.mp hz2 with q | q
          · exact hz z q
          · rw [List.mem_singleton.mp q]
            omega
    rintro G ⟨bG, l, hD, hn, hz⟩
    have b3 := b2.trans bG
    have l5 : l.length ≤ 30 := by omega
    have fin : ∀ (σ : L2.St) (te : TE), (∀ Q2 : VK, (∀ (G' : Hp) (l' : List Nat) (D1 : Addr), Bt p H G' → G' D1 = some (.lst (ni l')) → l'.length ≤ 32 → (∀ z ∈ l', 1 ≤ z ∧ z ≤ 1000) → Q2 (.ref D1) G') → te σ G Q2) → tRet (tCB (fun xs H Q => ∃ p ys, xs = [V.ref p] ∧ ((SqL K H p ys ∧ ∀ l, H l = none → Q (.ref l) (upd H l (.tup ys))) ∨ (SqT K H p ys ∧ Q (.ref p) H))) (tCons (tRevL K (tCB (rSortedSet w) (tCons (tCB (WS.rSetL K w) (tCons te tNil)) tNil))) tNil)) { nx := fun _ H' => Q .non H', rt := Q } σ G := fun σ te hte => by
      refine hte _ fun G' l' D1 b4 hD' l6 hz' => ?_
      have alls : ∀ z ∈ l'.map fun n => ((n : Nat) : Int), 1 ≤ z ∧ z ≤ 1000 := fun z hz2 => by
        obtain ⟨n, hn2, rfl⟩ := List.mem_map.mp hz2
        have := hz' n hn2
        omega
      refine ⟨D1, l'.map fun n => ((n : Nat) : Int), rfl, SqL.of hD', by simp; omega, fun S1 c nS hc => ⟨S1, _, c, rfl, upd_same, by simp at hc; omega, fun os D1 hpw hmem hln nD1 => ?_⟩⟩
      obtain ⟨cs, e1, e2, e3, e4⟩ := cuts_rev hpw (fun z hz2 => alls z (of_decide_eq_true ((hmem z).mp hz2))) (by omega) (by simp at hc; omega)
      refine ⟨_, _, rfl, SqL.of upd_same, fun D2 nD2 => ?_⟩
      rw [e1]
      refine ⟨D2, _, rfl, .inl ⟨SqL.of upd_same, fun t nt => ?_⟩⟩
      have b5 := b4.trans (Bt.new (SetO w S1 (fun k => decide (k ∈ l'.map fun n => ((n : Nat) : Int))) c) b4.2 nS)
      have b6 := b5.trans (Bt.new (.lst (os.map V.int)) b5.2 nD1)
      have b7 := b6.trans (Bt.new (.lst (ni cs)) b6.2 nD2)
      exact k t cs _ (b7.trans (Bt.new (.tup (ni cs)) b7.2 nt)) upd_same e2 (by simp at hc; omega)
    refine ⟨_, rfl, _, _, rfl, rfl, _, rfl, ite2 (fun c => ?_) (fun c => ?_)⟩
    · exact fin _ (tVar 3) fun Q2 q => ⟨_, rfl, q G l D0 b3 hD (by omega) hz⟩
    · unfold tNext
      dsimp only
      refine fin _ _ fun Q2 q => ?_
      refine ⟨_, rfl, line2.2.2.1, fun o ho => ?_⟩
      have b4 := b3.trans (Bt.new (.lst [.int 1000]) b3.2 ho)
      have ho1 : upd G o (.lst [.int 1000]) o = some (.lst [.int 1000]) := upd_same
      have hD1 := (of_upd (o := .lst [.int 1000]) ho) _ _ hD
      have neo := at_ne b3.2 ho
      refine draw_vv (E := E0) rfl b4.2 (by decide) (by decide +kernel) fun d G2 d0 d1 b5 => ?_
      have ho2 := bt_lst b5 neo ho1
      obtain ⟨n, rfl⟩ := Int.eq_ofNat_of_zero_le d0
      have hD2 := bt_lst b5 ne hD1
      refine ⟨o, _, _, rfl, rfl, ho2, by omega, by omega, Nat.le_trans (show 1 * n ≤ 2 by omega) (by decide), fun r hr => ⟨D0, r, _, _, rfl, rfl, (of_upd hr) _ _ hD2, upd_same, ?_, fun e he => ?_⟩⟩
      · rw [ni_len]
        show l.length + (List.replicate n [V.int 1000]).flatten.length ≤ _
        exact Nat.le_trans (show _ ≤ 40 by simp; omega) (by decide)
      have b6 := b4.trans b5
      have b7 := b6.trans (Bt.new (.lst (List.replicate n [V.int 1000]).flatten) b6.2 hr)
      have en : (List.replicate n [V.int 1000]).flatten = ni (List.replicate n 1000) := by
        rcases (by omega : n = 0 ∨ n = 1) with rfl | rfl <;> rfl
      refine q _ (l ++ List.replicate n 1000) e (b7.trans (Bt.new _ b7.2 he)) ?_ (by simp; omega) fun z hz2 => ?_
      · rw [upd_same, ni_app, ← en]
        rfl
      · rcases List.mem_append.mp hz2 with q | q
        · exact hz z q
        · rw [List.eq_of_mem_replicate q]
          omega
end
end CP

end
section
set_option autoImplicit false
set_option Elab.async false
set_option linter.all false
set_option maxRecDepth 100000
set_option maxHeartbeats 4000000
/-! ## what the law asks of one chain, and of two -/
namespace RZ
open PySem PySem.Spec PyProof.Rows L2
/-- zip of two tuples, as far as the shorter one goes -/
theorem walk_zipT {K : PySem.W.Frag} {a b : Addr} {xs ys : List V} : Walk (ItzT K a b) (min xs.length ys.length) (fun H => SqT K H a xs ∧ SqT K H b ys) (fun i H v H' => ∃ T x y, v = .ref T ∧ H T = none ∧ H' = upd H T (.tup [x, y]) ∧ xs[i]? = some x ∧ ys[i]? = some y) :=
  ⟨fun i _ hi q => ⟨xs, ys, xs[i]'(by omega), ys[i]'(by omega), q.1, q.2, List.getElem?_eq_getElem _, List.getElem?_eq_getElem _⟩, fun _ q => ⟨xs, ys, q.1, q.2, by omega⟩, fun _ _ _ _ _ q y => by
    obtain ⟨T, x, y, rfl, hT, rfl, f1, f2⟩ := y
    exact ⟨T, x, y, rfl, hT, rfl, f1 xs q.1, f2 ys q.2⟩⟩
end RZ
namespace CP
open PySem L2 G Y
theorem vnon : Vals [V.non] [Value.none] := .cons (show RelV .non .none from rfl) .nil
abbrev sLOne : Stmt := S.top 30
abbrev sLTwo : Stmt := S.top 31
section
variable {P : Program} {w : World} {K : PySem.W.Frag} {mg : Str → Option Value} {base : Heap} {C : Addr}
/-- a def with limit= behind a star, called with it and without -/
structure Dq (P : Program) (w : World) (K : PySem.W.Frag) (mg : Str → Option Value) (base : Heap) (k : Nat) (x : Str) (ps : List Str) (g : List Value → List Value → List Value) (gV : List V → List V → List V) (sp : Sp) : Prop where
  ex : ∃ (f : Addr) (fd : FuncData), FnOk P w K mg base CX0 k f fd ps sp ∧ mg x = some (.ref f) ∧ PySem.W.keepIn K (.ref f) = true ∧ KBinds K fd ps ["limit"] g gV ∧ Binds K fd ps [.none]
theorem cuts_nr {cs : List Nat} (h : Cuts cs) (L : Option Int) : Cuts (nr cs L) := by
  rw [← nrm_nn h.fall L]
  exact cuts_nrm h L
theorem nr_le {cs : List Nat} (h : Cuts cs) (L : Option Int) : (nr cs L).length ≤ cs.length ∧ ∀ (i x c : Nat), (nr cs L)[i]? = some x → cs[i]? = some c → x ≤ c := by
  rw [← nrm_nn h.fall L]
  exact N.nrm_le h.fall _
def spOne (C : Addr) : Sp := fun vs H Q _ => ∃ (a : Addr) (L : Option Int) (cs : List Nat), vs = [.ref a, lmV L] ∧ ChAt C H cs a ∧ Cuts cs ∧ (∀ z, L = some z → 0 ≤ z ∧ z ≤ 2000000000000000000) ∧ ∀ H', Same H H' → Q (.bl true) H'
abbrev NOn : List Str := ["chain", "below", "found", "cut", "other"]
theorem scOn : FnScope NOn ["chain", "below"] (defScope sLOne) := ⟨rfl, rfl, rfl, by decide +kernel, rfl, by decide +kernel, by decide +kernel⟩
theorem ok_one {f : Addr} {fd : FuncData} (F : Fun K "_law_one_right" "_law_one_right" sLOne f fd) (B : Bn mg) (T : Ct K mg C) (T2 : Cn2 K C)
    (DP : Dq P w K mg base 3 "is_period" ["chain", "number", "limit"] g21 gV21 (spPeriod C)) (DN : Dq P w K mg base 6 "normal" ["chain", "limit"] g11 g11 (spNormal C)) (DM : Dq P w K mg base 2 "least_difference" ["first", "second", "limit"] g21 gV21 (spLeastD C))
    (DE : Oq P w K mg base C 1 "__eq__" ["self", "other"] (spCEq C)) : FnOk P w K mg base CX0 7 f fd ["chain", "below"] (spOne C) := by
  obtain ⟨fP, fdP, GP, gP, kP, kbP, bP⟩ := DP.ex
  obtain ⟨fN, fdN, GN, gN, kN, kbN, bN⟩ := DN.ex
  obtain ⟨fM, fdM, GM, gM, kM, kbM, bM⟩ := DM.ex
  obtain ⟨fE, fdE, GE, OE, bE⟩ := DE.ex
  refine F.ok scOn (fun vs H Q E h => ?_) (fun cdv A outer s H vs Q E hr h => ?_)
  · obtain ⟨a, L, cs, rfl, _⟩ := h
    rfl
  · obtain ⟨a, L, cs, rfl, hc, hl, hL, k⟩ := h
    refine ⟨_, pss_cons (ps_set (i := 2) scOn.nd rfl (Or.inl rfl) (pe_callK GN (hr.mono (by decide)) rfl gN kN kbN pass0 (pa_cons (pv 0) pa_nil) (pk_cons (pv 1) pk_nil)))
      (pss_cons (ps_if (PW.pt (pw_or (pt_cmp (pc_notN (pe_callK GM (hr.mono (by decide)) rfl gM kM kbM pass0 (pa_cons (pv 0) (pa_cons (pv 2) pa_nil)) (pk_cons (pv 1) pk_nil)))) (pw_or1 (pt_cmpR (WO.op_neO GE (hr.mono (by decide)) OE T2.iM T2.ne bE pass0) (pe_callK GN (hr.mono (by decide)) rfl gN kN kbN pass0 (pa_cons (pv 2) pa_nil) (pk_cons (pv 1) pk_nil)) (pv 2) (nomark _))))) (pss_one (ps_ret pe_bl)) (pss_nil))
      (pss_cons (ps_if (pt_cmpR (op_gt) (pe_callB call_len_seq (by rfl) B.len PySem.boot_len (pa_cons (pe_fld (pv 2) rfl) pa_nil)) (pe_callB call_len_seq (by rfl) B.len PySem.boot_len (pa_cons (pe_fld (pv 0) rfl) pa_nil)) (nomark _)) (pss_one (ps_ret pe_bl)) (pss_nil))
      (pss_cons (ps_if (pt_cmpR (op_neD hr.units) (pe_lc (own := [("cut", 3), ("other", 4)]) (g := gTup K 2 (gCons (gName 3) (gCons (gName 4) gNil))) (tt := tTest (tOp (rI0 fun i j => .bl (decide (j < i))) (tVar 3) (tVar 4))) (te := tVar 3) rfl scOn.nd (RZ.pi_zipA (by rfl) B.zip (pa_cons (pe_fld (pv 2) rfl) (pa_cons (pe_fld (pv 0) rfl) pa_nil))) (blkOk_by (N := NOn) (sc := defScope sLOne) (by decide +kernel))
          (fun _ _ _ _ _ => by exact pg_tup (by rfl) (pgs_cons (pg_name (i := 3) scOn.nd rfl (Or.inl rfl)) (pgs_cons (pg_name (i := 4) scOn.nd rfl (Or.inl rfl)) pgs_nil))) (fun _ _ _ _ _ => pts_one (by exact pt_cmpR op_gt (pv 3) (pv 4) (nomark _))) (fun _ _ _ _ _ => by exact pv 3)) (pe_lst pa_nil) (nomark _)) (pss_one (ps_ret pe_bl)) (pss_nil))
      (pss_one (ps_ret (pe_or (pe_cmpR (op_eqD hr.units) (pe_fld (pv 2) rfl) (pe_tup pa_nil) (nomark _)) (pe_one (pe_callK GP (hr.mono (by decide)) rfl gP kP kbP pass0 (pa_cons (pv 0) (pa_cons (pe_ix ix_tup (pe_fld (pv 2) rfl) pe_int (fun _ _ => rfl)) pa_nil)) (pk_cons (pv 1) pk_nil))))))))), ?_⟩
    have hL0 : ∀ z, L = some z → 0 ≤ z := fun z hz => (hL z hz).1
    have hn := cuts_nr hl L
    refine set_then (i := 2) ⟨_, rfl, _, rfl, a, L, cs, rfl, hc, hl, hL0, fun r G1 s1 hr1 => ?_⟩
    rw [nrm_nn hl.fall L] at hr1
    replace hc := hc.mono s1
    refine ⟨_, rfl, _, rfl, _, rfl, a, r, L, cs, nr cs L, rfl, hc, hr1, hl, hn, hL0, fun G2 s2 => ?_⟩
    rw [ldf_nr hl.fall L]
    replace hc := hc.mono s2
    replace hr1 := hr1.mono s2
    refine ⟨_, rfl, iteF ⟨_, rfl, _, rfl, r, L, nr cs L, rfl, hr1, hn, hL0, fun r2 G3 s3 h3 => ⟨_, rfl, ?_⟩⟩⟩
    rw [nrm_nn hn.fall L, nr_nr hl.fall L] at h3
    refine ne_ch h3 (hr1.mono s3) fun G4 s4 => ?_
    rw [decide_eq_true rfl]
    refine ⟨_, rfl, iteF ?_⟩
    have s5 := ((s1.trans s2).trans s3).trans s4
    replace hc := hc.mono (s3.trans s4)
    replace hr1 := hr1.mono (s3.trans s4)
    have k' : ∀ H', Same G4 H' → Q (.bl true) H' := fun H' s => k H' (s5.trans s)
    clear k s5 s1 s2 s3 s4 h3
    first | (unfold tNext; dsimp only) | dsimp only
    obtain ⟨dx, t, u, i1, i2, i3⟩ := id hc
    obtain ⟨dy, t', u', j1, j2, j3⟩ := id hr1
    obtain ⟨n1, n2⟩ := nr_le hl L
    refine ⟨_, rfl, r, C, dy, _, _, rfl, j1, T.cl, T.nC, cfl_cuts t' u', t', _, rfl, .inr (SqT.of j2), _, rfl, a, C, dx, _, _, rfl, i1, T.cl, T.nC, cfl_cuts t u, t, _, rfl, .inr (SqT.of i2), _, _, rfl, rfl, _, rfl, ?_⟩
    rw [ni_len, ni_len, decide_eq_false (by omega)]
    refine iteF ?_
    first | (unfold tNext; dsimp only) | dsimp only
    refine ⟨_, rfl, r, C, dy, _, _, rfl, j1, T.cl, T.nC, cfl_cuts t' u', _, rfl, a, C, dx, _, _, rfl, i1, T.cl, T.nC, cfl_cuts t u, t', t, _, _, rfl, .inr ⟨SqT.of j2, SqT.of i2, fun D hD => ?_⟩⟩
    refine lc_it RZ.walk_zipT (fun i G => Same G4 G ∧ G D = some (.lst [])) ⟨of_upd hD, upd_same⟩ (fun i G _ z => ⟨SqT.of (z.1 _ _ j2), SqT.of (z.1 _ _ i2)⟩) ?_ ?_
    · rintro i x G G' hi ⟨s1, hG⟩ ⟨T0, x1, y1, rfl, hT, rfl, e1, e2⟩
      obtain ⟨c1, hc1, rfl⟩ := ni_get e1
      obtain ⟨c2, hc2, rfl⟩ := ni_get e2
      have le := n2 i c1 c2 hc1 hc2
      refine ⟨T0, _, rfl, SqT.of upd_same, rfl, _, _, rfl, _, _, rfl, rfl, rfl, _, rfl, _, rfl, _, _, rfl, rfl, _, rfl, ?_⟩
      rw [decide_eq_false (by omega)]
      refine iteF ⟨s1.trans (of_upd hT), (of_upd hT) _ _ hG⟩
    rintro G ⟨s1, hG⟩
    refine ⟨line2.2.2.2, fun e he => ?_⟩
    refine ne_nil (l := []) (SqL.of ((of_upd (o := .lst []) he) _ _ hG)) (SqL.of upd_same) ⟨_, rfl, iteF ?_⟩
    have s2 := s1.trans (of_upd (o := .lst []) he)
    first | (unfold tNext; dsimp only) | dsimp only
    refine ⟨_, rfl, r, C, dy, _, _, rfl, s2 _ _ j1, T.cl, T.nC, cfl_cuts t' u', line2.2.2.2, fun e2 he2 => ?_⟩
    have s3 := s2.trans (of_upd (o := .tup []) he2)
    refine ⟨_, _, .tup (SqT.of (s3 _ _ j2)) (dp_ints (nr cs L)), .tup (SqT.of upd_same) .nil, shp_tup _, by decide +kernel, ?_⟩
    rw [show PyData.eqv (.tuple ((nr cs L).map dI)) (.tuple []) = decide (nr cs L = []) from eqv_tups (nr cs L) []]
    refine ⟨_, rfl, ite2 (fun c => k' _ s3) (fun c => ?_)⟩
    obtain ⟨n, q, en⟩ : ∃ n q, nr cs L = n :: q := by
      cases hq : nr cs L with
      | nil => exact absurd (decide_eq_true hq) c
      | cons n q => exact ⟨n, q, rfl⟩
    obtain ⟨p1, p2, p3, p4⟩ := nr_period hl.fall en
    have hd := hd_le hl
    refine ⟨_, rfl, _, rfl, r, C, dy, _, _, rfl, s3 _ _ j1, T.cl, T.nC, cfl_cuts t' u', t', _, _, .int (n : Int), rfl, rfl, SqT.of (s3 _ _ j2), by rw [en]; exact at0, _, rfl, a, n, L, cs, rfl, hc.mono s3, hl, p1, by omega, hL, fun G5 v s5 ev => ?_⟩
    have : v = true := by
      rw [ev, p4, decide_eq_true p3]
      rfl
    rw [this]
    exact k' G5 (s3.trans s5)
def spTwo (C : Addr) : Sp := fun vs H Q _ => ∃ (a b : Addr) (c1 c2 : List Nat), vs = [.ref a, .ref b] ∧ ChAt C H c1 a ∧ ChAt C H c2 b ∧ Cuts c1 ∧ Cuts c2 ∧ ∀ H', Same H H' → Q (.bl true) H'
theorem scTw : FnScope ["first", "second", "place"] ["first", "second"] (defScope sLTwo) := ⟨rfl, rfl, rfl, by decide +kernel, rfl, by decide +kernel, by decide +kernel⟩
theorem ok_two {f : Addr} {fd : FuncData} (F : Fun K "_law_two_right" "_law_two_right" sLTwo f fd) (T : Ct K mg C) (T2 : Cn2 K C)
    (DN : Dq P w K mg base 6 "normal" ["chain", "limit"] g11 g11 (spNormal C)) (DM : Dq P w K mg base 2 "least_difference" ["first", "second", "limit"] g21 gV21 (spLeastD C))
    (DE : Oq P w K mg base C 1 "__eq__" ["self", "other"] (spCEq C)) (DH : Oq P w K mg base C 2 "__contains__" ["self", "place"] (spCHas C)) : FnOk P w K mg base CX0 7 f fd ["first", "second"] (spTwo C) := by
  obtain ⟨fN, fdN, GN, gN, kN, kbN, bN⟩ := DN.ex
  obtain ⟨fM, fdM, GM, gM, kM, kbM, bM⟩ := DM.ex
  obtain ⟨fE, fdE, GE, OE, bE⟩ := DE.ex
  obtain ⟨fH, fdH, GH, OH, bH⟩ := DH.ex
  refine F.ok scTw (fun vs H Q E h => ?_) (fun cdv A outer s H vs Q E hr h => ?_)
  · obtain ⟨a, b, c1, c2, rfl, _⟩ := h
    rfl
  · obtain ⟨a, b, c1, c2, rfl, ha, hb, h1, h2, k⟩ := h
    refine ⟨_, pss_cons (ps_set (i := 2) scTw.nd rfl (Or.inl rfl) (pe_call GM (hr.mono (by decide)) rfl gM kM bM vnon pass0 (pa_cons (pv 0) (pa_cons (pv 1) pa_nil))))
      (pss_cons (ps_if (pt_cmpR (op_ne) (pe_cmp (pc_isN (pv 2))) (pe_cmpR (WO.op_eqO GE (hr.mono (by decide)) OE bE pass0) (pe_call GN (hr.mono (by decide)) rfl gN kN bN vnon pass0 (pa_cons (pv 0) pa_nil)) (pe_call GN (hr.mono (by decide)) rfl gN kN bN vnon pass0 (pa_cons (pv 1) pa_nil)) (nomark _)) (nomark _)) (pss_one (ps_ret pe_bl)) (pss_nil))
      (pss_cons (ps_if (pt_cmp (pc_isN (pv 2))) (pss_one (ps_ret pe_bl)) (pss_nil))
      (pss_cons (ps_if (pt_cmpR (WO.op_neO GE (hr.mono (by decide)) OE T2.iM T2.ne bE pass0) (pe_callK GN (hr.mono (by decide)) rfl gN kN kbN pass0 (pa_cons (pv 0) pa_nil) (pk_cons (pv 2) pk_nil)) (pe_callK GN (hr.mono (by decide)) rfl gN kN kbN pass0 (pa_cons (pv 1) pa_nil) (pk_cons (pv 2) pk_nil)) (nomark _)) (pss_one (ps_ret pe_bl)) (pss_nil))
      (pss_one (ps_ret (pe_and (pe_cmpR (WO.op_neO GE (hr.mono (by decide)) OE T2.iM T2.ne bE pass0) (pe_callK GN (hr.mono (by decide)) rfl gN kN kbN pass0 (pa_cons (pv 0) pa_nil) (pk_cons (pe_op op_add (pv 2) (pe_int)) pk_nil)) (pe_callK GN (hr.mono (by decide)) rfl gN kN kbN pass0 (pa_cons (pv 1) pa_nil) (pk_cons (pe_op op_add (pv 2) (pe_int)) pk_nil)) (nomark _)) (pe_one (pe_cmpR (op_ne) (pe_cmpR (WO.op_inO GH (hr.mono (by decide)) OH bH pass0) (pv 2) (pv 0) (by rfl)) (pe_cmpR (WO.op_inO GH (hr.mono (by decide)) OH bH pass0) (pv 2) (pv 1) (by rfl)) (nomark _))))))))), ?_⟩
    have hN0 : ∀ z : Int, none = some z → 0 ≤ z := fun z hz => nomatch hz
    refine set_then (i := 2) ⟨_, rfl, _, rfl, a, b, none, c1, c2, rfl, ha, hb, h1, h2, hN0, fun G1 s1 => ?_⟩
    replace ha := ha.mono s1
    replace hb := hb.mono s1
    refine ⟨_, rfl, _, rfl, a, none, c1, rfl, ha, h1, hN0, fun r1 G2 s2 k1 => ⟨_, rfl, b, none, c2, rfl, hb.mono s2, h2, hN0, fun r2 G3 s3 k2 => ?_⟩⟩
    rw [nrm_nn h1.fall none] at k1
    rw [nrm_nn h2.fall none] at k2
    refine eq_ch (k1.mono s3) k2 fun G4 s4 => ?_
    have s5 := (s2.trans s3).trans s4
    replace ha := ha.mono s5
    replace hb := hb.mono s5
    have k' : ∀ H', Same G4 H' → Q (.bl true) H' := fun H' s => k H' ((s1.trans s5).trans s)
    clear k s5 s1 s2 s3 s4 k1 k2
    have hle : ∀ p, ldf c1 c2 none = some p → p ≤ 4000 := fun p h => ldf_le h1 h2 h
    have hno := ldf_none h1.fall h2.fall
    have hso := fun p h => ldf_some h1.fall h2.fall (p := p) h
    generalize ldf c1 c2 none = o at hle hno hso ⊢
    cases o with
    | none =>
      rw [decide_eq_true (hno.mp rfl)]
      refine ⟨rfl, _, rfl, iteF ?_⟩
      first | (unfold tNext; dsimp only) | dsimp only
      exact ⟨_, rfl, _, rfl, iteT (k' _ (Same.refl _))⟩
    | some p =>
      rw [decide_eq_false (fun z => nomatch hno.mpr z)]
      refine ⟨rfl, _, rfl, iteF ?_⟩
      first | (unfold tNext; dsimp only) | dsimp only
      refine ⟨_, rfl, _, rfl, iteF ?_⟩
      first | (unfold tNext; dsimp only) | dsimp only
      obtain ⟨q0, q1, q2, q3⟩ := hso p rfl
      have p4 := hle p rfl
      have hP : ∀ z : Int, some (p : Int) = some z → 0 ≤ z := fun z hz => by injection hz; omega
      have hP1 : ∀ z : Int, some ((p : Int) + 1) = some z → 0 ≤ z := fun z hz => by injection hz; omega
      refine ⟨_, rfl, _, rfl, a, some (p : Int), c1, rfl, ha, h1, hP, fun r1 G2 s2 k1 => ⟨_, rfl, _, rfl, b, some (p : Int), c2, rfl, hb.mono s2, h2, hP, fun r2 G3 s3 k2 => ?_⟩⟩
      rw [nrm_nn h1.fall] at k1
      rw [nrm_nn h2.fall] at k2
      refine ne_ch (k1.mono s3) k2 fun G5 s4 => ?_
      rw [decide_eq_true q2]
      refine ⟨_, rfl, iteF ?_⟩
      first | (unfold tNext; dsimp only) | dsimp only
      have s5 := (s2.trans s3).trans s4
      replace ha := ha.mono s5
      replace hb := hb.mono s5
      refine ⟨_, rfl, _, rfl, _, _, rfl, rfl, a, some ((p : Int) + 1), c1, rfl, ha, h1, hP1, fun r3 G6 s6 k3 => ⟨_, rfl, _, rfl, _, _, rfl, rfl, b, some ((p : Int) + 1), c2, rfl, hb.mono s6, h2, hP1, fun r4 G7 s7 k4 => ?_⟩⟩
      rw [nrm_nn h1.fall] at k3
      rw [nrm_nn h2.fall] at k4
      refine ne_ch (k3.mono s7) k4 fun G8 s8 => ?_
      rw [decide_eq_false q3]
      have s9 := (s6.trans s7).trans s8
      refine ⟨_, rfl, iteT ⟨_, rfl, _, rfl, a, rfl, (ha.mono s9).isC, a, p, c1, rfl, ha.mono s9, h1, fun G9 t1 => ⟨_, rfl, _, rfl, _, rfl, b, rfl, (hb.mono (s9.trans t1)).isC, b, p, c2, rfl, hb.mono (s9.trans t1), h2, fun G10 t2 => ⟨_, rfl, rfl, ?_⟩⟩⟩⟩
      have e : (!decide (V.bl (decide (0 < p ∧ N.rem c1 p = 0)) = V.bl (decide (0 < p ∧ N.rem c2 p = 0)))) = true := by
        unfold N.fm at q1
        by_cases x1 : N.rem c1 p = 0 <;> by_cases x2 : N.rem c2 p = 0 <;> simp [x1, x2, q0] at q1 ⊢
      first | (rw [e]; exact k' _ ((s5.trans s9).trans (t1.trans t2))) | (refine (congrArg (fun b => Q (.bl b) _) e).mpr (k' _ ((s5.trans s9).trans (t1.trans t2))))
end
end CP

end
section
set_option autoImplicit false
set_option Elab.async false
set_option linter.all false
set_option maxRecDepth 100000
set_option maxHeartbeats 4000000
/-! ## the law -/
namespace N
theorem nm_twice {c : Nat} {l : List Nat} (h : Fall (c :: l)) (h2 : Fall ((2 * c) :: c :: l)) : nm ((2 * c) :: c :: l) = nm (c :: l) := by
  refine (nm_eq h2 h).mpr fun p => ?_
  have e : rem ((2 * c) :: c :: l) p = rem (c :: l) p := by
    show rem l (p % (2 * c) % c) = rem l (p % c)
    rw [Nat.mod_mul_left_mod]
  unfold fm
  rw [e]
end N
namespace CP
open PySem L2 G Y
abbrev sLaw : Stmt := S.top 32
/-- all but lists stays -/
def KeepT (H H' : Hp) : Prop := ∀ a o, (∀ xs, o ≠ .lst xs) → H a = some o → H' a = some o
theorem bt_keepT {p : Addr} {H H' : Hp} (b : Bt p H H') (h : S.At H p) : KeepT H H' := fun a o n e => b.1 a o (fun z => by
  obtain ⟨r, m, e2, _⟩ := h
  rw [z, e2] at e
  cases e
  exact n _ rfl) e
theorem put_keepT {G : Hp} {l : Addr} {xs : List V} {o : HO} (h : G l = some (.lst xs)) : KeepT G (upd G l o) := fun a o n e => by
  rw [upd_ne (fun z => by
    rw [z, h] at e
    cases e
    exact n _ rfl)]
  exact e
theorem ChAt.keep {C : Addr} {H H' : Hp} (s : KeepT H H') {l : List Nat} {a : Addr} (h : ChAt C H l a) : ChAt C H' l a := by
  obtain ⟨dx, t, u, h1, h2, h3⟩ := h
  exact ⟨dx, t, u, s _ _ (fun _ z => by cases z) h1, s _ _ (fun _ z => by cases z) h2, s _ _ (fun _ z => by cases z) h3⟩
/-- some chains -/
def AllCh (C : Addr) (H : Hp) (xs : List V) : Prop := ∀ x ∈ xs, ∃ y cs, x = .ref y ∧ ChAt C H cs y ∧ Cuts cs
theorem AllCh.mono {C : Addr} {H H' : Hp} (s : Same H H') {xs : List V} (h : AllCh C H xs) : AllCh C H' xs := fun x hx => by
  obtain ⟨y, cs, e, h1, h2⟩ := h x hx
  exact ⟨y, cs, e, h1.mono s, h2⟩
theorem AllCh.keep {C : Addr} {H H' : Hp} (s : KeepT H H') {xs : List V} (h : AllCh C H xs) : AllCh C H' xs := fun x hx => by
  obtain ⟨y, cs, e, h1, h2⟩ := h x hx
  exact ⟨y, cs, e, h1.keep s, h2⟩
theorem AllCh.nil {C : Addr} {H : Hp} : AllCh C H [] := fun x h => by cases h
theorem AllCh.cons {C : Addr} {H : Hp} {xs : List V} {y : Addr} {cs : List Nat} (a : ChAt C H cs y) (b : Cuts cs) (h : AllCh C H xs) : AllCh C H (.ref y :: xs) := fun x hx => by
  rcases List.mem_cons.mp hx with q | q
  · exact ⟨y, cs, q, a, b⟩
  · exact h x q
theorem ne_tnil {K : PySem.W.Frag} {H : Hp} {Q : VK} {t e : Addr} {l : List Nat} (ht : SqT K H t (ni l)) (he : SqT K H e []) (q : Q (.bl (!decide (l = []))) H) : rNeD K (.ref t) (.ref e) H Q :=
  ⟨_, _, .tup ht (dp_ints l), .tup he .nil, shp_tup l, by decide +kernel, by rw [show PyData.eqv (.tuple (l.map dI)) (.tuple []) = decide (l = []) from eqv_tups l []]; exact q⟩
theorem if_then {c : TT} {t1 t2 t3 : TS} {D : Ends} {σ : L2.St} {H : Hp} (Z : L2.St → Hp → Prop) (k : ∀ σ' H', Z σ' H' → t3 D σ' H') (h : (∀ σ' H', Z σ' H' → t3 D σ' H') → tIfS c t1 t2 { D with nx := fun σ' H' => t3 D σ' H' } σ H) : tSeq (tIfS c t1 t2) t3 D σ H := h k
theorem draw_cps {σ : L2.St} {H : Hp} {Q : VK} {p : Addr} {E : XK} {i : Nat} {ta : TE} (h1 : σ[i]? = some (some (.ref p))) (h : ta σ H fun x H1 => S.spDraw [.ref p, x] H1 Q E) : tCall S.spDraw [] E (tCons (tVar i) (tCons ta tNil)) σ H Q := ⟨_, h1, h⟩
theorem cut_drop (l : List Nat) (k : Nat) : cutV (ni l) (some (k : Int)) none = ni (l.drop k) := by rw [Y.cut_from, ni_drop]
theorem cut_take (l : List Nat) (k : Nat) : cutV (ni l) none (some (k : Int)) = ni (l.take k) := by rw [cut_to, ni_take]
theorem sl_any {K : PySem.W.Frag} {H : Hp} {Q : VK} {t : Addr} {xs : List V} {lo hi : Option Int} (h : H t = some (.tup xs)) (k : ∀ u G, Same H G → G u = some (.tup (cutV xs lo hi)) → Q (.ref u) G) : rSlA K (.ref t) lo hi H Q :=
  ⟨t, xs, rfl, SqT.of h, fun z => k t H (Same.refl H) (by
    unfold cutV
    rw [z.1, z.2, List.drop_zero, Nat.sub_zero, List.take_length]
    exact h), fun _ p hp => k p _ (of_upd hp) upd_same⟩
theorem without1 {cs : List Nat} (h : Cuts cs) : Cuts (cs.take 1 ++ cs.drop 2) := by
  refine cuts_sub ?_ h
  have a : List.Sublist (cs.drop 2) (cs.drop 1) := by
    rw [show cs.drop 2 = (cs.drop 1).drop 1 by rw [List.drop_drop]]
    exact List.drop_sublist 1 _
  have b := List.Sublist.append (List.Sublist.refl (cs.take 1)) a
  rwa [List.take_append_drop] at b
theorem cuts_twice {c : Nat} {l : List Nat} (h : Cuts (c :: l)) (h2 : 2 * c ≤ 1000) (hl : (c :: l).length ≤ 32) : Cuts (2 * c :: c :: l) := by
  have c0 := h.fall.1
  refine ⟨⟨by omega, fun d hd => ?_, h.fall⟩, fun d hd => ?_, by rw [List.length_cons]; omega⟩
  · rcases List.mem_cons.mp hd with r | r
    · omega
    · have := h.fall.2.1 d r
      omega
  · rcases List.mem_cons.mp hd with r | r
    · omega
    · exact h.le d r
section
variable {P : Program} {w : World} {K : PySem.W.Frag} {mg : Str → Option Value} {base : Heap} {C : Addr}
theorem great_then {σ : L2.St} {H : Hp} {Q : VK} {p : Addr} (h : σ[2]? = some (some (.ref p))) (hA : S.At H p) (k : ∀ g G, Bt p H G → Q (.bl g) G) : tOp rEq (tCall S.spDraw [] E0 (tCons (tVar 2) (tCons (tC (.int 4)) tNil))) (tC (.int 0)) σ H Q :=
  draw_vv (E := E0) h hA (by decide) (by decide +kernel) fun d G _ _ b => ⟨rfl, k _ G b⟩
theorem one_run {σ : L2.St} {H : Hp} {Q : VK} {p : Addr} {g : Bool} (h2 : σ[2]? = some (some (.ref p))) (h3 : σ[3]? = some (some (.bl g))) (hA : S.At H p) (k : ∀ t cs G, Bt p H G → G t = some (.tup (ni cs)) → Cuts cs → cs.length ≤ 32 → Q (.ref t) G) :
    tIf (tB (tVar 3)) (tCall spLGt [] E0 (tCons (tVar 2) tNil)) (tCall spLCt [] E0 (tCons (tVar 2) (tCons (tC (.int 30)) tNil))) σ H Q := by
  refine ⟨_, h3, g, rfl, ?_⟩
  cases g with
  | true => exact iteT ⟨_, h2, p, rfl, hA, k⟩
  | false => exact iteF ⟨_, h2, p, 30, rfl, hA, by decide, by decide, fun t cs G b ht hc hz => k t cs G b ht hc (Nat.le_trans hz.1 (by decide))⟩
theorem list_run {σ : L2.St} {H : Hp} {Q : VK} {l : Addr} {g : Bool} {xs : List V} (h3 : σ[3]? = some (some (.bl g))) (h8 : σ[8]? = some (some (.ref l))) (hl : H l = some (.lst xs)) (k : ∀ l' xs' G, Same H G → G l' = some (.lst xs') → (∀ x ∈ xs', x ∈ xs) → Q (.ref l') G) :
    tIf (tB (tVar 3)) (tSl (rSlL K) (tVar 8) tNoPart (tPart (tC (.int 3)))) (tVar 8) σ H Q := by
  refine ⟨_, h3, g, rfl, ?_⟩
  cases g with
  | true => exact iteT ⟨_, h8, _, rfl, l, xs, rfl, SqL.of hl, fun p hp => k p _ _ (of_upd hp) upd_same fun x hx => List.mem_of_mem_drop (List.mem_of_mem_take hx)⟩
  | false => exact iteF ⟨_, h8, k l xs H (Same.refl H) hl fun x hx => hx⟩
def spLaw (K : PySem.W.Frag) : Sp := fun vs H Q _ => ∃ (a : Addr) (ns : List Int), vs = [.ref a] ∧ SqL K H a (ns.map V.int) ∧ ns.length ≤ 63 ∧ (∀ z ∈ ns, Builtin.Int.intBits z ≤ 1048576) ∧ ∀ H', Q (.bl true) H'
abbrev NLa : List Str := ["script", "start", "stream", "is_great", "one", "chain", "other", "below", "both", "second"]
theorem scLa : FnScope NLa ["script"] (defScope sLaw) := ⟨rfl, rfl, rfl, by decide +kernel, rfl, by decide +kernel, by decide +kernel⟩
theorem ok_law {f : Addr} {fd : FuncData} (F : Fun K "law" "law" sLaw f fd) (B : Bn mg) (T : Ct K mg C) (T2 : Cn2 K C) (MW : Mw P w K mg base C) (DU : Df P w K mg base 1 "_law_stream" ["script", "start"] (S.spSource K)) (DD : Df P w K mg base 1 "_law_draw" ["stream", "size"] S.spDraw)
    (DT : Df P w K mg base 3 "_law_cuts" ["stream", "most"] spLCt) (DR : Df P w K mg base 3 "_law_great_cuts" ["stream"] spLGt) (DX : Df P w K mg base 7 "_law_one_right" ["chain", "below"] (spOne C)) (DY : Df P w K mg base 7 "_law_two_right" ["first", "second"] (spTwo C))
    (DN : Dq P w K mg base 6 "normal" ["chain", "limit"] g11 g11 (spNormal C)) (DE : Oq P w K mg base C 1 "__eq__" ["self", "other"] (spCEq C)) (DA : Oq P w K mg base C 6 "__add__" ["self", "other"] (spCAdd C)) :
    G.Ok P w K mg base CX0 8 f fd ["script"] (spLaw K) := by
  obtain ⟨fI, fdI, GI, MK, bI⟩ := MW.ex
  obtain ⟨fU, fdU, GU, gU, kU, bU⟩ := DU.ex
  obtain ⟨fD, fdD, GD, gD, kD, bD⟩ := DD.ex
  obtain ⟨fT, fdT, GT, gT, kT, bT⟩ := DT.ex
  obtain ⟨fR, fdR, GR, gR, kR, bR⟩ := DR.ex
  obtain ⟨fX, fdX, GX, gX, kX, bX⟩ := DX.ex
  obtain ⟨fY, fdY, GY, gY, kY, bY⟩ := DY.ex
  obtain ⟨fN, fdN, GN, gN, kN, kbN, bN⟩ := DN.ex
  obtain ⟨fE, fdE, GE, OE, bE⟩ := DE.ex
  obtain ⟨fA, fdA, GA, OA, bA⟩ := DA.ex
  refine G.mk F scLa (fun vs H Q E h => ?_) (fun cdv A outer s H vs Q E hg hr h => ?_)
  · obtain ⟨a, ns, rfl, _⟩ := h
    rfl
  · obtain ⟨a, ns, rfl, hS, hl, hb, k⟩ := h
    refine ⟨_, pss_cons (ps_for PassesOwn.never rfl (pi_range1 (by rfl) B.range (pa_cons (pe_callB (call_max2 rfl) (by rfl) B.max (by decide +kernel) (pa_cons pe_int (pa_cons (pe_callB (call_min2 rfl) (by rfl) B.min (by decide +kernel) (pa_cons pe_int (pa_cons (pe_callB call_len_seq (by rfl) B.len PySem.boot_len (pa_cons (pv 0) pa_nil)) pa_nil))) pa_nil))) pa_nil)) (pg_name (i := 1) scLa.nd rfl (Or.inl rfl)) (pss_cons (ps_set (i := 2) scLa.nd rfl (Or.inl rfl) (pe_call GU (hr.mono (by decide)) rfl gU kU bU .nil pass0 (pa_cons (pv 0) (pa_cons (pv 1) pa_nil))))
      (pss_cons (ps_set (i := 3) scLa.nd rfl (Or.inl rfl) (pe_cmpR (op_eq) (pe_call GD (hr.mono (by decide)) rfl gD kD bD .nil pass0 (pa_cons (pv 2) (pa_cons (pe_int) pa_nil))) (pe_int) (nomark _)))
      (pss_cons (ps_set (i := 4) scLa.nd rfl (Or.inl rfl) (pe_ifExp (pt_val (pv 3)) (pe_call GR (hr.mono (by decide)) rfl gR kR bR .nil pass0 (pa_cons (pv 2) pa_nil)) (pe_call GT (hr.mono (by decide)) rfl gT kT bT .nil pass0 (pa_cons (pv 2) (pa_cons (pe_int) pa_nil)))))
      (pss_cons (ps_par (i := 5) (j := 6) (by rfl) scLa.nd rfl rfl (by decide) rfl rfl (pa_cons (pe_make MK GI (hr.mono (by decide)) rfl T.g bI .nil pass0 (pa_cons (pv 4) pa_nil)) (pa_cons (pe_make MK GI (hr.mono (by decide)) rfl T.g bI .nil pass0 (pa_cons (pe_call GT (hr.mono (by decide)) rfl gT kT bT .nil pass0 (pa_cons (pv 2) (pa_cons (pe_int) pa_nil))) pa_nil)) pa_nil)) (by rfl))
      (pss_cons (ps_for PassesOwn.never rfl (pi_list (pe_lst (pa_cons (pe_non) (pa_cons (pe_call GD (hr.mono (by decide)) rfl gD kD bD .nil pass0 (pa_cons (pv 2) (pa_cons (pe_op op_add (pe_callB (GF.call_maxT rfl hr.units) (by rfl) B.max (by decide +kernel) (pa_cons (pe_op op_catA (pv 4) (pe_tup (pa_cons (pe_int) pa_nil))) pa_nil)) (pe_int)) pa_nil))) (pa_cons (pe_op op_pow pe_int pe_int) pa_nil))))) (pg_name (i := 7) scLa.nd rfl (Or.inl rfl)) (pss_one (ps_if (pt_not (pt_val (pe_call GX (hr.mono (by decide)) rfl gX kX bX .nil pass0 (pa_cons (pv 5) (pa_cons (pv 7) pa_nil))))) (pss_one (ps_ret pe_bl)) (pss_nil))))
      (pss_cons (ps_set (i := 8) scLa.nd rfl (Or.inl rfl) (pe_lst (pa_cons (pe_call GN (hr.mono (by decide)) rfl gN kN bN vnon pass0 (pa_cons (pv 5) pa_nil)) (pa_cons (pe_op (WO.op_addO GA (hr.mono (by decide)) OA T2.sf bA pass0) (pv 5) (pv 6)) (pa_cons (pv 6) (pa_cons (pe_op (WO.op_addO GA (hr.mono (by decide)) OA T2.sf bA pass0) (pv 6) (pv 5)) (pa_cons (pe_make MK GI (hr.mono (by decide)) rfl T.g bI .nil pass0 (pa_cons (pe_slice sl_tupA (pv 4) (po_some (pe_int)) po_none) pa_nil)) (pa_cons (pe_make MK GI (hr.mono (by decide)) rfl T.g bI .nil pass0 (pa_cons (pe_op op_catA (pe_slice sl_tupA (pv 4) po_none (po_some (pe_int))) (pe_slice sl_tupA (pv 4) (po_some (pe_int)) po_none)) pa_nil)) pa_nil))))))))
      (pss_cons (ps_if (PW.pt (pw_and (pt_cmpR (op_neD hr.units) (pv 4) (pe_tup pa_nil) (nomark _)) (pw_and1 (pt_cmpR (op_le) (pe_op op_mul (pe_int) (pe_ix ix_tup (pv 4) pe_int (fun _ _ => rfl))) (pe_int) (nomark _))))) (pss_cons (ps_expr (pe_bm PySem.F.plainAttrs_list PySem.F.slot_list_append PySem.F.type_list_append mt_append (pv 8) (pa_cons (pe_make MK GI (hr.mono (by decide)) rfl T.g bI .nil pass0 (pa_cons (pe_op op_catA (pe_tup (pa_cons (pe_op op_mul (pe_int) (pe_ix ix_tup (pv 4) pe_int (fun _ _ => rfl))) pa_nil)) (pv 4)) pa_nil)) pa_nil)))
      (pss_one (ps_if (pt_cmpR (WO.op_neO GE (hr.mono (by decide)) OE T2.iM T2.ne bE pass0) (pe_call GN (hr.mono (by decide)) rfl gN kN bN vnon pass0 (pa_cons (pe_ix ix_list (pv 8) (pe_un un_neg pe_int) (fun _ _ => rfl)) pa_nil)) (pe_call GN (hr.mono (by decide)) rfl gN kN bN vnon pass0 (pa_cons (pv 5) pa_nil)) (nomark _)) (pss_one (ps_ret pe_bl)) (pss_nil)))) (pss_nil))
      (pss_one (ps_for PassesOwn.never rfl (pi_list (pe_ifExp (pt_val (pv 3)) (pe_slice sl_list (pv 8) po_none (po_some (pe_int))) (pv 8))) (pg_name (i := 9) scLa.nd rfl (Or.inl rfl)) (pss_one (ps_if (pt_not (pt_val (pe_call GY (hr.mono (by decide)) rfl gY kY bY .nil pass0 (pa_cons (pv 5) (pa_cons (pv 9) pa_nil))))) (pss_one (ps_ret pe_bl)) (pss_nil)))))))))))))
      (pss_one (ps_ret (pe_bl))), ?_⟩
    refine ⟨_, rfl, a, _, rfl, .inl hS, _, _, rfl, _, _, rfl, _, rfl, by split <;> omega, by split <;> (try split) <;> omega, for_range (n := Int.toNat _) (fun i σ G => Same H G ∧ ∃ q1 q2 q3 q4 q5 q6 q7 q8 q9, σ = [some (.ref a), q1, q2, q3, q4, q5, q6, q7, q8, q9])
      ⟨Same.refl H, _, _, _, _, _, _, _, _, _, rfl⟩ ?_ ?_⟩
    · rintro i σ G hi ⟨s0, q1, q2, q3, q4, q5, q6, q7, q8, q9, rfl⟩
      dsimp only
      refine set_then (i := 2) ⟨_, rfl, _, rfl, a, ns, i, by show [V.ref a, V.int (0 + (i : Int))] = _; rw [Int.zero_add], ?_, s0.seq hS, hl, hb, fun p r m hp hf => ?_⟩
      · split at hi <;> (try split at hi) <;> omega
      have hp0 : H p = none := s0.free hp
      have s1 : Same H (upd G p (.lst (S.Two r m))) := s0.trans (of_upd hp)
      have at1 : S.At (upd G p (.lst (S.Two r m))) p := ⟨r, m, upd_same, hf⟩
      generalize upd G p (.lst (S.Two r m)) = G1 at s1 at1 ⊢
      clear hp
      dsimp only
      refine set_then (i := 3) (great_then (p := p) rfl at1 fun g G2 b2 => ?_)
      refine set_then (i := 4) (one_run (p := p) (g := g) rfl rfl b2.2 fun t1 c1 G3 b3 ht1 hc1 hz1 => ?_)
      have s3 := sameBt (sameBt s1 hp0 b2) hp0 b3
      have a3 := b3.2
      clear s1 at1 b2 b3
      refine ⟨_, rfl, fun x1 dx hx hdx ne => made_ch hx hdx ne (.inr ht1) hc1 fun G4 s4 h1 => ⟨rfl, ?_⟩⟩
      replace ht1 := s4 _ _ ht1
      replace a3 := sameAt s4 a3
      replace s3 := s3.trans s4
      clear s4 hx hdx ne
      refine ⟨_, rfl, p, 30, rfl, a3, by decide, by decide, fun t2 c2 G5 b5 ht2 hc2 hz2 => fun x2 dx hx hdx ne => made_ch hx hdx ne (.inr ht2) hc2 fun G6 s6 h2 => ⟨rfl, _, _, rfl, ?_⟩⟩
      have kt := bt_keepT b5 a3
      replace h1 := (h1.keep kt).mono s6
      replace ht1 := s6 _ _ (kt _ _ (fun _ z => by cases z) ht1)
      have s7 := (sameBt s3 hp0 b5).trans s6
      have a7 := sameAt s6 b5.2
      clear kt b5 s3 a3 hx hdx ne s6 ht2
      dsimp only
      have l1 := hc1.len
      have d1 := hd_le hc1
      obtain ⟨m1, ms1, em1, ef1⟩ := max_cuts hc1 (k := 1) (by decide) (by decide)
      have mb : 1 ≤ ms1.foldl max m1 ∧ ms1.foldl max m1 ≤ 1000 := by
        rw [ef1]
        cases c1 with
        | nil => exact ⟨by decide, by decide⟩
        | cons c l =>
          rw [if_neg (by simp)]
          have := hc1.fall.1
          have : N.hd (c :: l) = c := rfl
          omega
      have lg : ∀ z : Int, 1 ≤ z → z ≤ 3000 → z.natAbs.log2 < 9000 := fun z h1 h2 => PySem.Flt.log2_lt_of (k := 9000) (by decide) (Nat.lt_of_lt_of_le (by omega : _ < 2 ^ 60) (Nat.pow_le_pow_right (by decide) (by decide)))
      -- below limits
      refine draw_cps (p := p) (E := E0) (i := 2) rfl ⟨_, rfl, line2.2.2.1, fun u1 hu1 => catA_any (SqT.of ((of_upd hu1) _ _ ht1)) (SqT.of upd_same) (by rw [ni_len]; exact Nat.le_trans (show c1.length + 1 ≤ 33 by omega) (by decide)) fun v1 G8 s8 hv1 => ⟨v1, m1, ms1, rfl, by rw [em1]; exact hv1, ?_⟩⟩
      have x8 := (of_upd (o := .tup [.int 1]) hu1).trans s8
      generalize ms1.foldl max m1 = M at mb ⊢
      refine ⟨_, _, rfl, rfl, draw_at (E := E0) (sameAt x8 a7) (by omega) (lg _ (by omega) (by omega)) fun d G9 d0 dn b9 => ?_⟩
      have kt := bt_keepT b9 (sameAt x8 a7)
      replace h1 := (h1.mono x8).keep kt
      replace h2 := (h2.mono x8).keep kt
      replace ht1 := kt _ _ (fun _ z => by cases z) (x8 _ _ ht1)
      have s9 := sameBt (s7.trans x8) hp0 b9
      clear kt b9 x8 s8 hv1 hu1 s7 a7 em1 ef1
      refine ⟨_, _, rfl, rfl, ⟨by decide, by decide, by decide⟩, (by decide : 3 ≤ sizeLine), fun l hl0 => ⟨l, rfl, ⟨_, SqL.of upd_same⟩, ?_⟩⟩
      have okL : ∀ x ∈ [V.non, V.int d, V.int (10 ^ (18 : Int).toNat)], ∃ L, x = lmV L ∧ ∀ z, L = some z → 0 ≤ z ∧ z ≤ 2000000000000000000 := fun x hx => by
        simp only [List.mem_cons, List.not_mem_nil, or_false] at hx
        rcases hx with rfl | rfl | rfl
        · exact ⟨none, rfl, fun z hz => nomatch hz⟩
        · exact ⟨some d, rfl, fun z hz => by injection hz; omega⟩
        · exact ⟨some (10 ^ (18 : Int).toNat), rfl, fun z hz => by injection hz with hz; subst hz; decide⟩
      have xl := of_upd (o := .lst [V.non, V.int d, V.int (10 ^ (18 : Int).toNat)]) hl0
      replace h1 := h1.mono xl
      replace h2 := h2.mono xl
      replace ht1 := xl _ _ ht1
      replace s9 := s9.trans xl
      have gl : upd G9 l (.lst [V.non, V.int d, V.int (10 ^ (18 : Int).toNat)]) l = some (.lst [V.non, V.int d, V.int (10 ^ (18 : Int).toNat)]) := upd_same
      generalize upd G9 l (.lst [V.non, V.int d, V.int (10 ^ (18 : Int).toNat)]) = Ga at h1 h2 ht1 s9 gl ⊢
      clear xl hl0
      refine for_list (K := K) (a := l) (xs := [V.non, V.int d, V.int (10 ^ (18 : Int).toNat)]) (fun _ σ G => Same Ga G ∧ ∃ q7 q8 q9, σ = [some (.ref a), some (.int (0 + (i : Int))), some (.ref p), some (.bl g), some (.ref t1), some (.ref x1), some (.ref x2), q7, q8, q9])
        ⟨Same.refl _, _, _, _, rfl⟩ (fun i σ G _ z => SqL.of (z.1 _ _ gl)) ?_ ?_
      · rintro i3 x σ G hx ⟨sx, q7, q8, q9, rfl⟩
        obtain ⟨L, rfl, hL⟩ := okL x (List.mem_of_getElem? hx)
        exact ⟨_, rfl, _, rfl, x1, L, c1, rfl, h1.mono sx, hc1, hL, fun GA sA => ⟨_, rfl, iteF ⟨sx.trans sA, _, _, _, rfl⟩⟩⟩
      rintro σ G ⟨sx, q7, q8, q9, rfl⟩
      replace h1 := h1.mono sx
      replace h2 := h2.mono sx
      replace ht1 := sx _ _ ht1
      replace s9 := s9.trans sx
      clear sx gl okL
      dsimp only
      have hN0 : ∀ z : Int, none = some z → 0 ≤ z := fun z hz => nomatch hz
      have ad1 := cuts_add hc1 hc2 (by have := hz2.1; omega)
      have ad2 := cuts_add hc2 hc1 (by have := hz2.1; omega)
      refine set_then (i := 8) ⟨_, rfl, x1, none, c1, rfl, h1, hc1, hN0, fun y1 Gb sb hy1 => ?_⟩
      refine ⟨_, rfl, _, rfl, x1, x2, rfl, rfl, (h1.mono sb).isC, (h2.mono sb).isC, x1, x2, c1, c2, rfl, h1.mono sb, h2.mono sb, hc1, hc2, by have := hz2.1; omega, fun y2 Gc sc hy2 => ⟨y2, rfl, _, rfl, ?_⟩⟩
      have sbc := sb.trans sc
      refine ⟨_, rfl, _, rfl, x2, x1, rfl, rfl, (h2.mono sbc).isC, (h1.mono sbc).isC, x2, x1, c2, c1, rfl, h2.mono sbc, h1.mono sbc, hc2, hc1, by have := hz2.1; omega, fun y3 Gd sd hy3 => ⟨y3, rfl, ?_⟩⟩
      refine ⟨_, rfl, _, rfl, ?_⟩
      dsimp only [tNoPart]
      refine sl_any ((sbc.trans sd) _ _ ht1) fun u1 Ge se hu1 => fun y4 dx hx hdx ne => made_ch hx hdx ne (.inr (by rw [show cutV (ni c1) (some 1) none = ni (c1.drop 1) from cut_drop c1 1] at hu1; exact hu1)) (hc1.drop 1) fun Gf sf hy4 => ⟨rfl, ?_⟩
      have sbf := ((sbc.trans sd).trans se).trans sf
      refine ⟨_, rfl, ?_⟩
      dsimp only [tNoPart]
      refine ⟨_, rfl, ?_⟩
      refine sl_any (sbf _ _ ht1) fun u2 Gg sg hu2 => ⟨_, rfl, _, rfl, ?_⟩
      dsimp only [tNoPart]
      refine sl_any ((sbf.trans sg) _ _ ht1) fun u3 Gh sh hu3 => ?_
      rw [show cutV (ni c1) none (some 1) = ni (c1.take 1) from cut_take c1 1] at hu2
      rw [show cutV (ni c1) (some 2) none = ni (c1.drop 2) from cut_drop c1 2] at hu3
      refine catA_own (sh _ _ hu2) hu3 (by rw [ni_len, ni_len, List.length_take, List.length_drop]; exact Nat.le_trans (show _ ≤ 33 by omega) (by decide)) fun u4 Gi si hu4 => fun y5 dx hx hdx ne => made_ch hx hdx ne (.inr (by rw [← ni_app] at hu4; exact hu4)) (without1 hc1) fun Gj sj hy5 => ⟨rfl, ?_⟩
      have sfj := ((sg.trans sh).trans si).trans sj
      have sbj := sbf.trans sfj
      refine ⟨(by decide : 6 ≤ sizeLine), fun l hl1 => ?_⟩
      have sl := of_upd (o := .lst [V.ref y1, V.ref y2, V.ref x2, V.ref y3, V.ref y4, V.ref y5]) hl1
      have all : AllCh C (upd Gj l (.lst [V.ref y1, V.ref y2, V.ref x2, V.ref y3, V.ref y4, V.ref y5])) [V.ref y1, V.ref y2, V.ref x2, V.ref y3, V.ref y4, V.ref y5] := by
        have hd3 := ((se.trans sf).trans sfj)
        refine AllCh.mono sl (.cons (hy1.mono ((sc.trans sd).trans hd3)) (cuts_nrm hc1 none) (.cons (hy2.mono (sd.trans hd3)) ad1 (.cons (h2.mono sbj) hc2 (.cons (hy3.mono hd3) ad2 (.cons (hy4.mono sfj) (hc1.drop 1) (.cons hy5 (without1 hc1) .nil))))))
      have sz : [V.ref y1, V.ref y2, V.ref x2, V.ref y3, V.ref y4, V.ref y5].length = 6 := rfl
      replace h1 := (h1.mono sbj).mono sl
      replace ht1 := sl _ _ (sbj _ _ ht1)
      have hl0 : H l = none := (s9.trans sbj).free hl1
      replace s9 := (s9.trans sbj).trans sl
      have gl : upd Gj l (.lst [V.ref y1, V.ref y2, V.ref x2, V.ref y3, V.ref y4, V.ref y5]) l = some (.lst [V.ref y1, V.ref y2, V.ref x2, V.ref y3, V.ref y4, V.ref y5]) := upd_same
      generalize upd Gj l (.lst [V.ref y1, V.ref y2, V.ref x2, V.ref y3, V.ref y4, V.ref y5]) = Gk at h1 ht1 s9 gl all ⊢
      generalize [V.ref y1, V.ref y2, V.ref x2, V.ref y3, V.ref y4, V.ref y5] = ys at gl all sz ⊢
      clear hl1 sl sbj sfj sj hy5 hu4 si hu3 sh hu2 sg sbf sf hy4 hu1 se hy3 sd sbc sc hy2 sb hy1 h2
      first | dsimp only | skip
      -- twice the first cut
      refine if_then (fun σ' G => (∃ q9, σ' = [some (.ref a), some (.int (0 + (i : Int))), some (.ref p), some (.bl g), some (.ref t1), some (.ref x1), some (.ref x2), q7, some (.ref l), q9]) ∧ Same H G ∧ ChAt C G c1 x1 ∧ ∃ zs, G l = some (.lst zs) ∧ AllCh C G zs) ?rest (fun kk => ?_)
      case rest =>
        rintro σ G ⟨⟨q9, rfl⟩, s1, h1, zs, gz, all⟩
        refine list_run (g := g) (l := l) rfl rfl gz fun l' xs' G' s2 gl' sub => ⟨l', rfl, ⟨_, SqL.of gl'⟩, ?_⟩
        replace h1 := h1.mono s2
        have all' : AllCh C G' xs' := fun x hx => all.mono s2 x (sub x hx)
        have s3 := s1.trans s2
        refine for_list (K := K) (a := l') (xs := xs') (fun _ σ G => Same G' G ∧ ∃ q7 q9, σ = [some (.ref a), some (.int (0 + (i : Int))), some (.ref p), some (.bl g), some (.ref t1), some (.ref x1), some (.ref x2), q7, some (.ref l), q9])
          ⟨Same.refl _, _, _, rfl⟩ (fun i σ G _ z => SqL.of (z.1 _ _ gl')) ?_ ?_
        · rintro i3 x σ G hx ⟨sx, q7, q9, rfl⟩
          obtain ⟨y, cs, rfl, hy, hyc⟩ := all' x (List.mem_of_getElem? hx)
          exact ⟨_, rfl, _, rfl, x1, y, c1, cs, rfl, h1.mono sx, hy.mono sx, hc1, hyc, fun GA sA => ⟨_, rfl, iteF ⟨sx.trans sA, _, _, rfl⟩⟩⟩
        · rintro σ G ⟨sx, q7, q9, rfl⟩
          exact ⟨s3.trans sx, _, _, _, _, _, _, _, _, _, rfl⟩
      refine ⟨_, rfl, line2.2.2.2, fun e he => ?_⟩
      have xe := of_upd (o := .tup []) he
      refine ne_tnil (l := c1) (SqT.of (xe _ _ ht1)) (SqT.of upd_same) ⟨_, rfl, ?_⟩
      replace s9 := s9.trans xe
      replace h1 := h1.mono xe
      replace ht1 := xe _ _ ht1
      replace gl := xe _ _ gl
      replace all := all.mono xe
      generalize upd Gk e (.tup []) = Gm at s9 h1 ht1 gl all ⊢
      clear xe he
      cases c1 with
      | nil => exact iteF (kk _ _ ⟨⟨_, rfl⟩, s9, h1, ys, gl, all⟩)
      | cons c cl =>
        rw [decide_eq_false (by simp)]
        have c0 := hc1.fall.1
        have cb := hc1.le c List.mem_cons_self
        refine iteT ⟨_, rfl, t1, _, _, .int (c : Int), rfl, rfl, SqT.of ht1, at0, _, _, rfl, rfl, .inl ⟨by omega, by omega⟩, _, _, rfl, rfl, _, rfl, ite2 (fun z => ?_) (fun z => ?_)⟩
        · have z2 : 2 * c ≤ 1000 := by
            have := of_decide_eq_true z
            omega
          have hc2 := cuts_twice hc1 z2 hz1
          refine ⟨_, rfl, .inl ⟨rfl, _, SqL.of gl⟩, _, rfl, t1, _, _, .int (c : Int), rfl, rfl, SqT.of ht1, at0, _, _, rfl, rfl, .inl ⟨by omega, by omega⟩, line2.2.2.1, fun v hv => ⟨_, rfl, ?_⟩⟩
          have xv := of_upd (o := .tup [V.int (2 * (c : Int))]) hv
          refine catA_own (xs := [V.int (2 * (c : Int))]) upd_same (xv _ _ ht1) (by rw [ni_len]; exact Nat.le_trans (show 1 + (c :: cl).length ≤ 33 by omega) (by decide)) fun r Gn sn hr2 => fun x6 dx hx hdx ne => made_ch (cs := 2 * c :: c :: cl) hx hdx ne (.inr hr2) hc2 fun Go so h6 => ⟨rfl, ?_⟩
          have xs3 := (xv.trans sn).trans so
          have gl3 := xs3 _ _ gl
          have all3 := all.mono xs3
          have s9' := (s9.trans xs3)
          have hl9 : H l = none := hl0
          have kp := put_keepT (o := .lst (ys ++ [.ref x6])) gl3
          refine ⟨l, _, _, rfl, rfl, gl3, by rw [sz]; exact (by decide : 6 < sizeLine), ?_⟩
          have h1' := (h1.mono xs3).keep kp
          have h6' := h6.keep kp
          have all' : AllCh C (upd Go l (.lst (ys ++ [.ref x6]))) (ys ++ [.ref x6]) := fun x hx => by
            rcases List.mem_append.mp hx with q | q
            · exact all3.keep kp x q
            · exact ⟨x6, _, List.mem_singleton.mp q, h6', hc2⟩
          have s10 : Same H (upd Go l (.lst (ys ++ [.ref x6]))) := add_upd hl0 s9'
          have gl4 : upd Go l (.lst (ys ++ [.ref x6])) l = some (.lst (ys ++ [.ref x6])) := upd_same
          generalize upd Go l (.lst (ys ++ [.ref x6])) = Gp at h1' h6' all' s10 gl4 ⊢
          refine ⟨_, rfl, 1, rfl, l, _, _, .ref x6, rfl, rfl, SqL.of gl4, atI_last _ _, ?_⟩
          refine ⟨x6, none, 2 * c :: c :: cl, rfl, h6', hc2, hN0, fun r1 GA sA k1 => ⟨_, rfl, x1, none, c :: cl, rfl, h1'.mono sA, hc1, hN0, fun r2 GB sB k2 => ?_⟩⟩
          rw [nrm_nn hc2.fall none] at k1
          rw [nrm_nn hc1.fall none] at k2
          refine ne_ch (k1.mono sB) k2 fun GC sC => ?_
          rw [decide_eq_true (show nr (2 * c :: c :: cl) none = nr (c :: cl) none from N.nm_twice hc1.fall hc2.fall)]
          have sABC := (sA.trans sB).trans sC
          exact ⟨_, rfl, iteF (kk _ _ ⟨⟨_, rfl⟩, s10.trans sABC, h1'.mono sABC, _, sABC _ _ gl4, all'.mono sABC⟩)⟩
        · exact kk _ _ ⟨⟨_, rfl⟩, s9, h1, ys, gl, all⟩
    · rintro σ G ⟨s0, q1, q2, q3, q4, q5, q6, q7, q8, q9, rfl⟩
      exact k _
end
end CP

end
section
set_option autoImplicit false
set_option Elab.async false
set_option linter.all false
set_option maxRecDepth 100000
set_option maxHeartbeats 4000000
/-! ## what the top leaves -/
namespace CP
open PySem L2 G Y
section
variable {K : PySem.W.Frag} {mg : Str → Option Value} {h : Heap} {f : Addr} {fd : FuncData}
theorem fd_I (X : K.In h) (Gn : h.Ns mainGlobals mg) (a : PySem.W.nsIn K mainGlobals "is_integer" = some (some (.ref f))) (F : Fun K "is_integer" "is_integer" sInteger f fd) : Fd K mg "is_integer" sInteger ["value"] :=
  ⟨f, fd, F, PySem.W.mg_of X Gn a, F.kp, F.binds fun _ _ _ _ _ _ us hl => match us, hl with | [_], _ => rfl⟩
theorem fd_W (X : K.In h) (Gn : h.Ns mainGlobals mg) (a : PySem.W.nsIn K mainGlobals "is_within" = some (some (.ref f))) (F : Fun K "is_within" "is_within" sWithin f fd) : Fd K mg "is_within" sWithin ["value", "least", "greatest"] :=
  ⟨f, fd, F, PySem.W.mg_of X Gn a, F.kp, F.binds fun _ _ _ _ _ _ us hl => match us, hl with | [_, _, _], _ => rfl⟩
theorem fd_ar (X : K.In h) (Gn : h.Ns mainGlobals mg) (a : PySem.W.nsIn K mainGlobals "_are_cuts" = some (some (.ref f))) (F : Fun K "_are_cuts" "_are_cuts" sAreCuts f fd) : Fd K mg "_are_cuts" sAreCuts ["value"] :=
  ⟨f, fd, F, PySem.W.mg_of X Gn a, F.kp, F.binds fun _ _ _ _ _ _ us hl => match us, hl with | [_], _ => rfl⟩
theorem fd_co (X : K.In h) (Gn : h.Ns mainGlobals mg) (a : PySem.W.nsIn K mainGlobals "_piece_counts" = some (some (.ref f))) (F : Fun K "_piece_counts" "_piece_counts" sCounts f fd) : Fd K mg "_piece_counts" sCounts ["cuts"] :=
  ⟨f, fd, F, PySem.W.mg_of X Gn a, F.kp, F.binds fun _ _ _ _ _ _ us hl => match us, hl with | [_], _ => rfl⟩
theorem fd_pi (X : K.In h) (Gn : h.Ns mainGlobals mg) (a : PySem.W.nsIn K mainGlobals "_pieces" = some (some (.ref f))) (F : Fun K "_pieces" "_pieces" sPieces f fd) : Fd K mg "_pieces" sPieces ["body", "cuts", "counts"] :=
  ⟨f, fd, F, PySem.W.mg_of X Gn a, F.kp, F.binds fun _ _ _ _ _ _ us hl => match us, hl with | [_, _, _], _ => rfl⟩
theorem fd_mk (X : K.In h) (Gn : h.Ns mainGlobals mg) (a : PySem.W.nsIn K mainGlobals "_marks" = some (some (.ref f))) (F : Fun K "_marks" "_marks" sMarks f fd) : Fd K mg "_marks" sMarks ["chain", "length"] :=
  ⟨f, fd, F, PySem.W.mg_of X Gn a, F.kp, F.binds fun _ _ _ _ _ _ us hl => match us, hl with | [_, _], _ => rfl⟩
theorem fd_lp (X : K.In h) (Gn : h.Ns mainGlobals mg) (a : PySem.W.nsIn K mainGlobals "least_periods" = some (some (.ref f))) (F : Fun K "least_periods" "least_periods" sLeastP f fd) : Fd K mg "least_periods" sLeastP ["marks"] :=
  ⟨f, fd, F, PySem.W.mg_of X Gn a, F.kp, F.binds fun _ _ _ _ _ _ us hl => match us, hl with | [_], _ => rfl⟩
theorem fd_bo (X : K.In h) (Gn : h.Ns mainGlobals mg) (a : PySem.W.nsIn K mainGlobals "borders" = some (some (.ref f))) (F : Fun K "borders" "borders" sBorders f fd) : Fd K mg "borders" sBorders ["marks"] :=
  ⟨f, fd, F, PySem.W.mg_of X Gn a, F.kp, F.binds fun _ _ _ _ _ _ us hl => match us, hl with | [_], _ => rfl⟩
theorem fd_fc (X : K.In h) (Gn : h.Ns mainGlobals mg) (a : PySem.W.nsIn K mainGlobals "_first_cut" = some (some (.ref f))) (F : Fun K "_first_cut" "_first_cut" sFirstCut f fd) : Fd K mg "_first_cut" sFirstCut ["chain"] :=
  ⟨f, fd, F, PySem.W.mg_of X Gn a, F.kp, F.binds fun _ _ _ _ _ _ us hl => match us, hl with | [_], _ => rfl⟩
theorem fd_le (X : K.In h) (Gn : h.Ns mainGlobals mg) (a : PySem.W.nsIn K mainGlobals "_length" = some (some (.ref f))) (F : Fun K "_length" "_length" sLength f fd) : Fd K mg "_length" sLength ["places", "limit"] :=
  ⟨f, fd, F, PySem.W.mg_of X Gn a, F.kp, F.binds fun _ _ _ _ _ _ us hl => match us, hl with | [_, _], _ => rfl⟩
theorem fd_ls (X : K.In h) (Gn : h.Ns mainGlobals mg) (a : PySem.W.nsIn K mainGlobals "_law_stream" = some (some (.ref f))) (F : Fun K "_law_stream" "_law_stream" S.sSource f fd) : Fd K mg "_law_stream" S.sSource ["script", "start"] :=
  ⟨f, fd, F, PySem.W.mg_of X Gn a, F.kp, F.binds fun _ _ _ _ _ _ us hl => match us, hl with | [_, _], _ => rfl⟩
theorem fd_ld (X : K.In h) (Gn : h.Ns mainGlobals mg) (a : PySem.W.nsIn K mainGlobals "_law_draw" = some (some (.ref f))) (F : Fun K "_law_draw" "_law_draw" S.sDraw f fd) : Fd K mg "_law_draw" S.sDraw ["stream", "size"] :=
  ⟨f, fd, F, PySem.W.mg_of X Gn a, F.kp, F.binds fun _ _ _ _ _ _ us hl => match us, hl with | [_, _], _ => rfl⟩
theorem fd_lch (X : K.In h) (Gn : h.Ns mainGlobals mg) (a : PySem.W.nsIn K mainGlobals "_law_choose" = some (some (.ref f))) (F : Fun K "_law_choose" "_law_choose" S.sPick f fd) : Fd K mg "_law_choose" S.sPick ["stream", "items"] :=
  ⟨f, fd, F, PySem.W.mg_of X Gn a, F.kp, F.binds fun _ _ _ _ _ _ us hl => match us, hl with | [_, _], _ => rfl⟩
theorem fd_lc (X : K.In h) (Gn : h.Ns mainGlobals mg) (a : PySem.W.nsIn K mainGlobals "_law_cuts" = some (some (.ref f))) (F : Fun K "_law_cuts" "_law_cuts" sLCt f fd) : Fd K mg "_law_cuts" sLCt ["stream", "most"] :=
  ⟨f, fd, F, PySem.W.mg_of X Gn a, F.kp, F.binds fun _ _ _ _ _ _ us hl => match us, hl with | [_, _], _ => rfl⟩
theorem fd_lg (X : K.In h) (Gn : h.Ns mainGlobals mg) (a : PySem.W.nsIn K mainGlobals "_law_great_cuts" = some (some (.ref f))) (F : Fun K "_law_great_cuts" "_law_great_cuts" sLGreat f fd) : Fd K mg "_law_great_cuts" sLGreat ["stream"] :=
  ⟨f, fd, F, PySem.W.mg_of X Gn a, F.kp, F.binds fun _ _ _ _ _ _ us hl => match us, hl with | [_], _ => rfl⟩
theorem fd_lx (X : K.In h) (Gn : h.Ns mainGlobals mg) (a : PySem.W.nsIn K mainGlobals "_law_one_right" = some (some (.ref f))) (F : Fun K "_law_one_right" "_law_one_right" sLOne f fd) : Fd K mg "_law_one_right" sLOne ["chain", "below"] :=
  ⟨f, fd, F, PySem.W.mg_of X Gn a, F.kp, F.binds fun _ _ _ _ _ _ us hl => match us, hl with | [_, _], _ => rfl⟩
theorem fd_ly (X : K.In h) (Gn : h.Ns mainGlobals mg) (a : PySem.W.nsIn K mainGlobals "_law_two_right" = some (some (.ref f))) (F : Fun K "_law_two_right" "_law_two_right" sLTwo f fd) : Fd K mg "_law_two_right" sLTwo ["first", "second"] :=
  ⟨f, fd, F, PySem.W.mg_of X Gn a, F.kp, F.binds fun _ _ _ _ _ _ us hl => match us, hl with | [_, _], _ => rfl⟩
/-- a def with limit= as it stands behind the top -/
structure Fq (K : PySem.W.Frag) (mg : Str → Option Value) (x : Str) (st : Stmt) (ps : List Str) (g : List Value → List Value → List Value) (gV : List V → List V → List V) : Prop where
  ex : ∃ (f : Addr) (fd : FuncData), Fun K x x st f fd ∧ mg x = some (.ref f) ∧ KBinds K fd ps ["limit"] g gV ∧ Binds K fd ps [.none]
theorem Fq.d {P : Program} {w : World} {base : Heap} {x : Str} {st : Stmt} {ps : List Str} {g : List Value → List Value → List Value} {gV : List V → List V → List V} {k : Nat} {sp : Sp} (F : Fq K mg x st ps g gV) (ok : ∀ f fd, Fun K x x st f fd → FnOk P w K mg base CX0 k f fd ps sp) : Dq P w K mg base k x ps g gV sp := by
  obtain ⟨f, fd, h1, h2, h3, h4⟩ := F.ex
  exact ⟨f, fd, ok f fd h1, h2, h1.kp, h3, h4⟩
theorem fund_mk {x : Str} {st : Stmt} {oc : Value} {od an : Option Addr} {osl : Array (Option Value)} {D : Addr} {doc pm cdv ct : Value} (l : K.lookup f = some ⟨oc, od, .func (PySem.W.fnOf x x (defArgs st) (defBody st) (defScope st) .none (.ref D) doc pm an cdv ct), osl⟩)
    (c : PySem.W.codeIn K cdv x = true) (k : PySem.W.keepIn K (.ref f) = true) (n : PySem.W.nsIn K D "limit" = some (some .none)) : FunD K x x (defArgs st) (defBody st) (defScope st) [] [("limit", .non)] f (PySem.W.fnOf x x (defArgs st) (defBody st) (defScope st) .none (.ref D) doc pm an cdv ct) :=
  ⟨⟨oc, od, _, _, doc, pm, an, cdv, ct, osl, rfl, l, c, .inl ⟨rfl, rfl⟩, .inr ⟨D, rfl, fun q hq => by
    rw [List.mem_singleton.mp hq]
    exact ⟨_, n, rfl⟩⟩⟩, k⟩
theorem none_of {ds : List Value} (r : Vals [V.non] ds) : ds = [.none] := by
  cases r with
  | cons a b =>
    cases b
    cases a
    rfl
theorem kl_br (F : Fun K "breaking" "breaking" sBreak f fd) : KBinds K fd ["chain", "number", "limit"] ["limit"] g21 gV21 := by
  obtain ⟨oc, od, kV, doc, pm, an, cdv, ct, osl, rfl, lk, hcd⟩ := F.ex
  refine ⟨fun _ us ws _ hl => ?_, fun {vs us zs ws} r rz => rel21 r rz⟩
  match us, ws, hl with
  | [_, _], [_], _ => exact .of_eq rfl
theorem fk_br {oc : Value} {od an : Option Addr} {osl : Array (Option Value)} {D : Addr} {doc pm cdv ct : Value} (X : K.In h) (Gn : h.Ns mainGlobals mg) (a : PySem.W.nsIn K mainGlobals "breaking" = some (some (.ref f))) (l : K.lookup f = some ⟨oc, od, .func (PySem.W.fnOf "breaking" "breaking" (defArgs sBreak) (defBody sBreak) (defScope sBreak) .none (.ref D) doc pm an cdv ct), osl⟩)
    (c : PySem.W.codeIn K cdv "breaking" = true) (k : PySem.W.keepIn K (.ref f) = true) (n : PySem.W.nsIn K D "limit" = some (some .none)) : Fq K mg "breaking" sBreak ["chain", "number", "limit"] g21 gV21 := by
  obtain ⟨ds, r, b⟩ := (fund_mk l c k n).binds0 (ps := ["chain", "number", "limit"]) 2 (by simp) rfl fun D doc pm an cdv ct us ks hu hk => match us, ks, hu, hk with
    | [_, _], [_], _, _ => ⟨_, _, _, _, _, _, rfl, rfl, rfl⟩
  rw [none_of r] at b
  exact ⟨f, _, fun_mk l c k, PySem.W.mg_of X Gn a, kl_br (fun_mk l c k), b⟩
theorem kl_ip (F : Fun K "is_period" "is_period" sPeriod f fd) : KBinds K fd ["chain", "number", "limit"] ["limit"] g21 gV21 := by
  obtain ⟨oc, od, kV, doc, pm, an, cdv, ct, osl, rfl, lk, hcd⟩ := F.ex
  refine ⟨fun _ us ws _ hl => ?_, fun {vs us zs ws} r rz => rel21 r rz⟩
  match us, ws, hl with
  | [_, _], [_], _ => exact .of_eq rfl
theorem fk_ip {oc : Value} {od an : Option Addr} {osl : Array (Option Value)} {D : Addr} {doc pm cdv ct : Value} (X : K.In h) (Gn : h.Ns mainGlobals mg) (a : PySem.W.nsIn K mainGlobals "is_period" = some (some (.ref f))) (l : K.lookup f = some ⟨oc, od, .func (PySem.W.fnOf "is_period" "is_period" (defArgs sPeriod) (defBody sPeriod) (defScope sPeriod) .none (.ref D) doc pm an cdv ct), osl⟩)
    (c : PySem.W.codeIn K cdv "is_period" = true) (k : PySem.W.keepIn K (.ref f) = true) (n : PySem.W.nsIn K D "limit" = some (some .none)) : Fq K mg "is_period" sPeriod ["chain", "number", "limit"] g21 gV21 := by
  obtain ⟨ds, r, b⟩ := (fund_mk l c k n).binds0 (ps := ["chain", "number", "limit"]) 2 (by simp) rfl fun D doc pm an cdv ct us ks hu hk => match us, ks, hu, hk with
    | [_, _], [_], _, _ => ⟨_, _, _, _, _, _, rfl, rfl, rfl⟩
  rw [none_of r] at b
  exact ⟨f, _, fun_mk l c k, PySem.W.mg_of X Gn a, kl_ip (fun_mk l c k), b⟩
theorem kl_l2 (F : Fun K "least_difference" "least_difference" sLeastD f fd) : KBinds K fd ["first", "second", "limit"] ["limit"] g21 gV21 := by
  obtain ⟨oc, od, kV, doc, pm, an, cdv, ct, osl, rfl, lk, hcd⟩ := F.ex
  refine ⟨fun _ us ws _ hl => ?_, fun {vs us zs ws} r rz => rel21 r rz⟩
  match us, ws, hl with
  | [_, _], [_], _ => exact .of_eq rfl
theorem fk_l2 {oc : Value} {od an : Option Addr} {osl : Array (Option Value)} {D : Addr} {doc pm cdv ct : Value} (X : K.In h) (Gn : h.Ns mainGlobals mg) (a : PySem.W.nsIn K mainGlobals "least_difference" = some (some (.ref f))) (l : K.lookup f = some ⟨oc, od, .func (PySem.W.fnOf "least_difference" "least_difference" (defArgs sLeastD) (defBody sLeastD) (defScope sLeastD) .none (.ref D) doc pm an cdv ct), osl⟩)
    (c : PySem.W.codeIn K cdv "least_difference" = true) (k : PySem.W.keepIn K (.ref f) = true) (n : PySem.W.nsIn K D "limit" = some (some .none)) : Fq K mg "least_difference" sLeastD ["first", "second", "limit"] g21 gV21 := by
  obtain ⟨ds, r, b⟩ := (fund_mk l c k n).binds0 (ps := ["first", "second", "limit"]) 2 (by simp) rfl fun D doc pm an cdv ct us ks hu hk => match us, ks, hu, hk with
    | [_, _], [_], _, _ => ⟨_, _, _, _, _, _, rfl, rfl, rfl⟩
  rw [none_of r] at b
  exact ⟨f, _, fun_mk l c k, PySem.W.mg_of X Gn a, kl_l2 (fun_mk l c k), b⟩
theorem kl_no (F : Fun K "normal" "normal" sNormal f fd) : KBinds K fd ["chain", "limit"] ["limit"] g11 g11 := by
  obtain ⟨oc, od, kV, doc, pm, an, cdv, ct, osl, rfl, lk, hcd⟩ := F.ex
  refine ⟨fun _ us ws _ hl => ?_, fun {vs us zs ws} r rz => rel11 r rz⟩
  match us, ws, hl with
  | [_], [_], _ => exact .of_eq rfl
theorem fk_no {oc : Value} {od an : Option Addr} {osl : Array (Option Value)} {D : Addr} {doc pm cdv ct : Value} (X : K.In h) (Gn : h.Ns mainGlobals mg) (a : PySem.W.nsIn K mainGlobals "normal" = some (some (.ref f))) (l : K.lookup f = some ⟨oc, od, .func (PySem.W.fnOf "normal" "normal" (defArgs sNormal) (defBody sNormal) (defScope sNormal) .none (.ref D) doc pm an cdv ct), osl⟩)
    (c : PySem.W.codeIn K cdv "normal" = true) (k : PySem.W.keepIn K (.ref f) = true) (n : PySem.W.nsIn K D "limit" = some (some .none)) : Fq K mg "normal" sNormal ["chain", "limit"] g11 g11 := by
  obtain ⟨ds, r, b⟩ := (fund_mk l c k n).binds0 (ps := ["chain", "limit"]) 1 (by simp) rfl fun D doc pm an cdv ct us ks hu hk => match us, ks, hu, hk with
    | [_], [_], _, _ => ⟨_, _, _, _, _, _, rfl, rfl, rfl⟩
  rw [none_of r] at b
  exact ⟨f, _, fun_mk l c k, PySem.W.mg_of X Gn a, kl_no (fun_mk l c k), b⟩
theorem bn_mk (X : K.In h) (Gn : h.Ns mainGlobals mg) (a0 : PySem.W.nsIn K mainGlobals "isinstance" = some none) (a1 : PySem.W.nsIn K mainGlobals "bool" = some none) (a2 : PySem.W.nsIn K mainGlobals "int" = some none) (a3 : PySem.W.nsIn K mainGlobals "tuple" = some none) (a4 : PySem.W.nsIn K mainGlobals "list" = some none) (a5 : PySem.W.nsIn K mainGlobals "len" = some none) (a6 : PySem.W.nsIn K mainGlobals "range" = some none) (a7 : PySem.W.nsIn K mainGlobals "zip" = some none) (a8 : PySem.W.nsIn K mainGlobals "min" = some none) (a9 : PySem.W.nsIn K mainGlobals "max" = some none) (a10 : PySem.W.nsIn K mainGlobals "sorted" = some none) (a11 : PySem.W.nsIn K mainGlobals "set" = some none) (a12 : PySem.W.nsIn K mainGlobals "enumerate" = some none) : Bn mg := ⟨PySem.W.mg_none_of X Gn a0, PySem.W.mg_none_of X Gn a1, PySem.W.mg_none_of X Gn a2, PySem.W.mg_none_of X Gn a3, PySem.W.mg_none_of X Gn a4, PySem.W.mg_none_of X Gn a5, PySem.W.mg_none_of X Gn a6, PySem.W.mg_none_of X Gn a7, PySem.W.mg_none_of X Gn a8, PySem.W.mg_none_of X Gn a9, PySem.W.mg_none_of X Gn a10, PySem.W.mg_none_of X Gn a11, PySem.W.mg_none_of X Gn a12⟩
theorem ct_mk {C : Addr} (X : K.In h) (Gn : h.Ns mainGlobals mg) (cg : PySem.W.nsIn K mainGlobals "Chain" = some (some (.ref C))) (c1 : PySem.W.plainGet K C Str.empty = true) (c2 : PySem.W.hasDictIn K C = true) (c3 : PySem.W.plainOver K C = true) (c4 : PySem.W.findIn K (.ref C) "__setattr__" = some (some (.builtin "object.__setattr__")))
    (c5 : PySem.W.findIn K (.ref C) "cuts" = some none) (c6 : PySem.W.findIn K (.ref C) "_counts" = some none) : Ct K mg C := ⟨PySem.W.mg_of X Gn cg, ⟨c1, c2, c3, c4⟩, c5, c6⟩
theorem cut_mk {t : Tok} (X : K.In h) (Gn : h.Ns mainGlobals mg) (d : PySem.W.nsIn K mainGlobals "GREATEST_CUT" = some (some (.int 1000 t))) : ∃ t, mg "GREATEST_CUT" = some (.int 1000 t) := ⟨t, PySem.W.mg_of X Gn d⟩
end
theorem all_mk {l : PySem.W.OpenLaw} {w : World} {K : PySem.W.Frag} {h : Heap} {mg : Str → Option Value} {fa C fIn fDg fE fA fH fLaw : Addr} {dIn dDg dE dA dH dLaw : FuncData} (X : K.In h) (Gn : h.Ns mainGlobals mg) (hfa : mg "law" = some (.ref fa)) (B : Bn mg) (T : Ct K mg C) (gC : ∃ t, mg "GREATEST_CUT" = some (.int 1000 t)) (T2 : Cn2 K C)
    (z_I : Fd K mg "is_integer" sInteger ["value"])
    (z_W : Fd K mg "is_within" sWithin ["value", "least", "greatest"])
    (z_ar : Fd K mg "_are_cuts" sAreCuts ["value"])
    (z_co : Fd K mg "_piece_counts" sCounts ["cuts"])
    (z_pi : Fd K mg "_pieces" sPieces ["body", "cuts", "counts"])
    (z_mk : Fd K mg "_marks" sMarks ["chain", "length"])
    (z_lp : Fd K mg "least_periods" sLeastP ["marks"])
    (z_bo : Fd K mg "borders" sBorders ["marks"])
    (z_fc : Fd K mg "_first_cut" sFirstCut ["chain"])
    (z_le : Fd K mg "_length" sLength ["places", "limit"])
    (z_ls : Fd K mg "_law_stream" S.sSource ["script", "start"])
    (z_ld : Fd K mg "_law_draw" S.sDraw ["stream", "size"])
    (z_lch : Fd K mg "_law_choose" S.sPick ["stream", "items"])
    (z_lc : Fd K mg "_law_cuts" sLCt ["stream", "most"])
    (z_lg : Fd K mg "_law_great_cuts" sLGreat ["stream"])
    (z_lx : Fd K mg "_law_one_right" sLOne ["chain", "below"])
    (z_ly : Fd K mg "_law_two_right" sLTwo ["first", "second"])
    (z_br : Fq K mg "breaking" sBreak ["chain", "number", "limit"] g21 gV21)
    (z_ip : Fq K mg "is_period" sPeriod ["chain", "number", "limit"] g21 gV21)
    (z_l2 : Fq K mg "least_difference" sLeastD ["first", "second", "limit"] g21 gV21)
    (z_no : Fq K mg "normal" sNormal ["chain", "limit"] g11 g11)
    (MI : Mk K C fIn) (FIn : Fun K "__init__" "Chain.__init__" sCInit fIn dIn)
    (mDg : Meth K C "digits" fDg) (FDg : Fun K "digits" "Chain.digits" sCDigits fDg dDg)
    (oE : WO.Own K C fE "__eq__") (FE : Fun K "__eq__" "Chain.__eq__" sCEq fE dE) 
    (oA : WO.Own K C fA "__add__") (FA : Fun K "__add__" "Chain.__add__" sCAdd fA dA) 
    (oH : WO.Own K C fH "__contains__") (FH : Fun K "__contains__" "Chain.__contains__" sCHas fH dH) 
    (aL : PySem.W.nsIn K mainGlobals "law" = some (some (.ref fLaw))) (FLaw : Fun K "law" "law" sLaw fLaw dLaw) :
    ∃ fd : FuncData, (∀ (s : Shared) (u : Value), BindsTo s fd ⟨[u], []⟩ [("script", u)]) ∧ ∀ base : Heap, K.In base → base.Ns mainGlobals mg → G.Ok l.prog w K mg base CX0 8 fa fd ["script"] (spLaw K) := by
  have e := hfa.symm.trans (PySem.W.mg_of X Gn aL)
  cases e
  refine ⟨dLaw, ?_, fun base _ _ => ?_⟩
  · obtain ⟨_, _, _, _, _, _, _, _, _, rfl, _, _⟩ := FLaw.ex
    exact fun s u => .of_eq rfl
  have DI : Df l.prog w K mg base 1 "is_integer" ["value"] spInteger := z_I.df fun f fd F => ok_integer F B
  have DW : Df l.prog w K mg base 2 "is_within" ["value", "least", "greatest"] spWithin := z_W.df fun f fd F => ok_within F DI
  have DP : Df l.prog w K mg base 1 "_pieces" ["body", "cuts", "counts"] (spPieces K) := z_pi.df fun f fd F => ok_pieces F B
  have DC : Df l.prog w K mg base 2 "_piece_counts" ["cuts"] (spCounts K) := z_co.df fun f fd F => ok_counts F B DP
  have DA : Df l.prog w K mg base 3 "_are_cuts" ["value"] spAre := z_ar.df fun f fd F => ok_are F B gC DW
  have MW : Mw l.prog w K mg base C := ⟨fIn, dIn, ok_cinit FIn B T DA DC, MI, FIn.binds fun _ _ _ _ _ _ us hl => match us, hl with | [_, _], _ => rfl⟩
  have MD : Me l.prog w K mg base C 1 "digits" ["self", "place"] (spCDigits C) := ⟨fDg, dDg, ok_cdigits FDg T, mDg, FDg.binds fun _ _ _ _ _ _ us hl => match us, hl with | [_, _], _ => rfl⟩
  have DE : Oq l.prog w K mg base C 1 "__eq__" ["self", "other"] (spCEq C) := ⟨fE, dE, ok_ceq FE B T T2, oE, FE.binds fun _ _ _ _ _ _ us hl => match us, hl with | [_, _], _ => rfl⟩
  have DAd : Oq l.prog w K mg base C 6 "__add__" ["self", "other"] (spCAdd C) := ⟨fA, dA, ok_cadd FA B T gC MW, oA, FA.binds fun _ _ _ _ _ _ us hl => match us, hl with | [_, _], _ => rfl⟩
  have DH : Oq l.prog w K mg base C 2 "__contains__" ["self", "place"] (spCHas C) := ⟨fH, dH, ok_chas FH T DI MD, oH, FH.binds fun _ _ _ _ _ _ us hl => match us, hl with | [_, _], _ => rfl⟩
  have Bi : S.Bi mg := ⟨B.int, B.len⟩
  have DU : Df l.prog w K mg base 1 "_law_stream" ["script", "start"] (S.spSource K) := z_ls.df fun f fd F => S.ok_source F Bi
  have DR : Df l.prog w K mg base 1 "_law_draw" ["stream", "size"] S.spDraw := z_ld.df fun f fd F => S.ok_draw F Bi
  have DC2 : Df l.prog w K mg base 2 "_law_choose" ["stream", "items"] (S.spChoose K) := z_lch.df fun f fd F => S.ok_choose F B.len DR
  have DT : Df l.prog w K mg base 3 "_law_cuts" ["stream", "most"] spLCt := z_lc.df fun f fd F => ok_lct F B DR DC2
  have DGt : Df l.prog w K mg base 3 "_law_great_cuts" ["stream"] spLGt := z_lg.df fun f fd F => ok_lgt F B DR DC2
  have DM : Df l.prog w K mg base 1 "_marks" ["chain", "length"] (spMarks C) := z_mk.df fun f fd F => ok_marks F B T
  have DBo : Df l.prog w K mg base 1 "borders" ["marks"] spBorders := z_bo.df fun f fd F => ok_borders F
  have DLp : Df l.prog w K mg base 2 "least_periods" ["marks"] spLeastP := z_lp.df fun f fd F => ok_leastp F B DBo
  have DFc : Df l.prog w K mg base 1 "_first_cut" ["chain"] (spFirst C) := z_fc.df fun f fd F => ok_first F B T
  have DLe : Df l.prog w K mg base 1 "_length" ["places", "limit"] spLen := z_le.df fun f fd F => ok_length F B
  have DN : Dq l.prog w K mg base 6 "normal" ["chain", "limit"] g11 g11 (spNormal C) := z_no.d fun f fd F => ok_normal F B T MW DFc DLe DM DLp
  have DB : Dq l.prog w K mg base 2 "breaking" ["chain", "number", "limit"] g21 gV21 (spBreak C) := z_br.d fun f fd F => ok_break F B T DM
  have DBk : Dk l.prog w K mg base 2 "breaking" (spBreak C) := by
    obtain ⟨f, fd, h1, h2, h3, h4, h5⟩ := DB.ex
    exact ⟨f, fd, h1, h2, h3, h4⟩
  have DP3 : Dq l.prog w K mg base 3 "is_period" ["chain", "number", "limit"] g21 gV21 (spPeriod C) := z_ip.d fun f fd F => ok_period F DBk
  have DMd : Dq l.prog w K mg base 2 "least_difference" ["first", "second", "limit"] g21 gV21 (spLeastD C) := z_l2.d fun f fd F => ok_leastd F B DFc DLe DM
  have DX : Df l.prog w K mg base 7 "_law_one_right" ["chain", "below"] (spOne C) := z_lx.df fun f fd F => ok_one F B T T2 DP3 DN DMd DE
  have DY : Df l.prog w K mg base 7 "_law_two_right" ["first", "second"] (spTwo C) := z_ly.df fun f fd F => ok_two F T T2 DN DMd DE DH
  exact ok_law FLaw B T T2 MW DU DR DT DGt DX DY DN DE DAd
end CP

end
section
open PySem PySem.W PyProof.Rows
set_option Elab.async false
set_option pp.deepTerms false
set_option pp.maxSteps 60
set_option maxRecDepth 100000 in
set_option maxHeartbeats 0 in
theorem PySem.Challenge.cw_roadsizes_k24_whole_normal_chains_holds : PySem.Challenge.rw_roadsizes_k24_whole_normal_chains.Holds := by
  w_on; o_law; k_head; (case hw => w_witness2)
  k_fill
  refine G.walk (l := PySem.Challenge.rw_roadsizes_k24_whole_normal_chains) (n := 63) (k := 8) (sp := CP.spLaw) (x := "script") rfl (by decide) rfl ⟨rfl, by decide, by decide⟩ (fun w h Y => PySem.W.kIn_of Y) ?F (fun K H a ns hl hb hS => ⟨a, ns, rfl, hS, hl, hb, fun _ => rfl⟩)
  case F =>
    intro w mg fa h KX hNs hmg
    refine' CP.all_mk KX hNs hmg (CP.bn_mk KX hNs ?y0 ?y1 ?y2 ?y3 ?y4 ?y5 ?y6 ?y7 ?y8 ?y9 ?y10 ?y11 ?y12) (CP.ct_mk KX hNs ?cg ?c1 ?c2 ?c3 ?c4 ?c5 ?c6) (CP.cut_mk KX hNs ?d0) ⟨?n0, ?n1, ?n2, ?n3, ?n4, ?n5⟩
      (CP.fd_I KX hNs ?aI (L2.fun_mk (st := CP.sInteger) ?lI ?oI ?kI))
      (CP.fd_W KX hNs ?aW (L2.fun_mk (st := CP.sWithin) ?lW ?oW ?kW))
      (CP.fd_ar KX hNs ?aar (L2.fun_mk (st := CP.sAreCuts) ?lar ?oar ?kar))
      (CP.fd_co KX hNs ?aco (L2.fun_mk (st := CP.sCounts) ?lco ?oco ?kco))
      (CP.fd_pi KX hNs ?api (L2.fun_mk (st := CP.sPieces) ?lpi ?opi ?kpi))
      (CP.fd_mk KX hNs ?amk (L2.fun_mk (st := CP.sMarks) ?lmk ?omk ?kmk))
      (CP.fd_lp KX hNs ?alp (L2.fun_mk (st := CP.sLeastP) ?llp ?olp ?klp))
      (CP.fd_bo KX hNs ?abo (L2.fun_mk (st := CP.sBorders) ?lbo ?obo ?kbo))
      (CP.fd_fc KX hNs ?afc (L2.fun_mk (st := CP.sFirstCut) ?lfc ?ofc ?kfc))
      (CP.fd_le KX hNs ?ale (L2.fun_mk (st := CP.sLength) ?lle ?ole ?kle))
      (CP.fd_ls KX hNs ?als (L2.fun_mk (st := S.sSource) ?lls ?ols ?kls))
      (CP.fd_ld KX hNs ?ald (L2.fun_mk (st := S.sDraw) ?lld ?old ?kld))
      (CP.fd_lch KX hNs ?alch (L2.fun_mk (st := S.sPick) ?llch ?olch ?klch))
      (CP.fd_lc KX hNs ?alc (L2.fun_mk (st := CP.sLCt) ?llc ?olc ?klc))
      (CP.fd_lg KX hNs ?alg (L2.fun_mk (st := CP.sLGreat) ?llg ?olg ?klg))
      (CP.fd_lx KX hNs ?alx (L2.fun_mk (st := CP.sLOne) ?llx ?olx ?klx))
      (CP.fd_ly KX hNs ?aly (L2.fun_mk (st := CP.sLTwo) ?lly ?oly ?kly))
      (CP.fk_br KX hNs ?abr ?lbr ?obr ?kbr ?nbr)
      (CP.fk_ip KX hNs ?aip ?lip ?oip ?kip ?nip)
      (CP.fk_l2 KX hNs ?al2 ?ll2 ?ol2 ?kl2 ?nl2)
      (CP.fk_no KX hNs ?ano ?lno ?ono ?kno ?nno)
      ⟨?i1, ?i2, ?i3, ?i4⟩ (L2.fun_mk (st := CP.sCInit) ?lIn ?oIn ?kIn)
      ⟨?maDg, ?mfDg, ?mkDg⟩ (L2.fun_mk (st := CP.sCDigits) ?lmDg ?omDg ?kmDg)
      ⟨?oaE, ?ofE⟩ (L2.fun_mk (st := CP.sCEq) ?lqE ?oqE ?kqE)
      ⟨?oaA, ?ofA⟩ (L2.fun_mk (st := CP.sCAdd) ?lqA ?oqA ?kqA)
      ⟨?oaH, ?ofH⟩ (L2.fun_mk (st := CP.sCHas) ?lqH ?oqH ?kqH)
      ?aLaw (L2.fun_mk (st := CP.sLaw) ?lLaw ?oLaw ?kLaw)
    (case y0 => k_is)
    (case y1 => k_is)
    (case y2 => k_is)
    (case y3 => k_is)
    (case y4 => k_is)
    (case y5 => k_is)
    (case y6 => k_is)
    (case y7 => k_is)
    (case y8 => k_is)
    (case y9 => k_is)
    (case y10 => k_is)
    (case y11 => k_is)
    (case y12 => k_is)
    (case cg => k_is)
    (case c1 => k_is)
    (case c2 => k_is)
    (case c3 => k_is)
    (case c4 => k_is)
    (case c5 => k_is)
    (case c6 => k_is)
    (case d0 => k_is)
    (case n0 => k_is)
    (case n1 => k_is)
    (case n2 => k_is)
    (case n3 => k_is)
    (case n4 => k_is)
    (case n5 => k_is)
    (case aI => k_is)
    (case lI => k_is)
    (case oI => k_is)
    (case kI => k_is)
    (case aW => k_is)
    (case lW => k_is)
    (case oW => k_is)
    (case kW => k_is)
    (case aar => k_is)
    (case lar => k_is)
    (case oar => k_is)
    (case kar => k_is)
    (case aco => k_is)
    (case lco => k_is)
    (case oco => k_is)
    (case kco => k_is)
    (case api => k_is)
    (case lpi => k_is)
    (case opi => k_is)
    (case kpi => k_is)
    (case amk => k_is)
    (case lmk => k_is)
    (case omk => k_is)
    (case kmk => k_is)
    (case alp => k_is)
    (case llp => k_is)
    (case olp => k_is)
    (case klp => k_is)
    (case abo => k_is)
    (case lbo => k_is)
    (case obo => k_is)
    (case kbo => k_is)
    (case afc => k_is)
    (case lfc => k_is)
    (case ofc => k_is)
    (case kfc => k_is)
    (case ale => k_is)
    (case lle => k_is)
    (case ole => k_is)
    (case kle => k_is)
    (case als => k_is)
    (case lls => k_is)
    (case ols => k_is)
    (case kls => k_is)
    (case ald => k_is)
    (case lld => k_is)
    (case old => k_is)
    (case kld => k_is)
    (case alch => k_is)
    (case llch => k_is)
    (case olch => k_is)
    (case klch => k_is)
    (case alc => k_is)
    (case llc => k_is)
    (case olc => k_is)
    (case klc => k_is)
    (case alg => k_is)
    (case llg => k_is)
    (case olg => k_is)
    (case klg => k_is)
    (case alx => k_is)
    (case llx => k_is)
    (case olx => k_is)
    (case klx => k_is)
    (case aly => k_is)
    (case lly => k_is)
    (case oly => k_is)
    (case kly => k_is)
    (case abr => k_is)
    (case lbr => k_is)
    (case obr => k_is)
    (case kbr => k_is)
    (case nbr => k_is)
    (case aip => k_is)
    (case lip => k_is)
    (case oip => k_is)
    (case kip => k_is)
    (case nip => k_is)
    (case al2 => k_is)
    (case ll2 => k_is)
    (case ol2 => k_is)
    (case kl2 => k_is)
    (case nl2 => k_is)
    (case ano => k_is)
    (case lno => k_is)
    (case ono => k_is)
    (case kno => k_is)
    (case nno => k_is)
    (case i1 => k_is)
    (case i2 => k_is)
    (case i3 => k_is)
    (case i4 => k_is)
    (case lIn => k_is)
    (case oIn => k_is)
    (case kIn => k_is)
    (case maDg => k_is)
    (case mfDg => k_is)
    (case mkDg => k_is)
    (case lmDg => k_is)
    (case omDg => k_is)
    (case kmDg => k_is)
    (case oaE => k_is)
    (case ofE => k_is)
    (case lqE => k_is)
    (case oqE => k_is)
    (case kqE => k_is)
    (case oaA => k_is)
    (case ofA => k_is)
    (case lqA => k_is)
    (case oqA => k_is)
    (case kqA => k_is)
    (case oaH => k_is)
    (case ofH => k_is)
    (case lqH => k_is)
    (case oqH => k_is)
    (case kqH => k_is)
    (case aLaw => k_is)
    (case lLaw => k_is)
    (case oLaw => k_is)
    (case kLaw => k_is)

end
