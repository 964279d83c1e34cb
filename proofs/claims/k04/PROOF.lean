import PyProof.Rows.All
import Wide.All
import OpenK.AllK
import Wide.FinOn
import HandS.ForMost
import HandS.EndBits
import HandS.Wide
import PyProof.ReprRoads
import HandS.SortKw
import KE.DataMinMax
import HandS.IsInst
import HandS.More
import KE.GoesEnum
import HandS.Walk
import HandS.Flow
import HandS.TupAny
import HandS.DictComp
import HandS.OwnEq
import HandS.SetFor
import HandS.Strs
import PySem.Challenge.RW_roadsizes_k04_whole_first_pieces_decide
section
set_option Elab.async false
set_option linter.all false
set_option maxRecDepth 100000
set_option maxHeartbeats 4000000
/-! ## G: defs that are entered with no repr under way (guards known), so that repr of containers can be told -/
namespace G
open PySem PySem.Spec PyProof.Rows L2

/-- a def's promise, kept where no repr is under way -/
structure Ok (P : Program) (w : World) (K : PySem.W.Frag) (mg : Str → Option Value) (base : Heap) (CX : CXT) (k : Nat) (f : Addr) (fd : FuncData) (ps : List Str) (sp : Sp) : Prop where
  len : ∀ vs H Q E, sp vs H Q E → vs.length = ps.length
  go : ∀ (A : Around), A.guards = some [] → ∀ (outer : List Env) (s : Shared) (H : Hp) (args : Args) (us : List Value) (vs : List V) (Q : VK) (E : XK),
    Room k A → Env0 P w K mg base A outer s H → BindsTo s fd args (ps.zip us) → Vals vs us → sp vs H Q E → codeAny (model P w) A (.call (.ref f) args) (CR CX outer P w H s Q E) s
section
variable {P : Program} {w : World} {K : PySem.W.Frag} {mg : Str → Option Value} {base : Heap} {CX : CXT}
theorem Ok.mono {j k : Nat} {f : Addr} {fd : FuncData} {ps : List Str} {sp : Sp} (F : Ok P w K mg base CX j f fd ps sp) (h : j ≤ k) : Ok P w K mg base CX k f fd ps sp :=
  ⟨F.len, fun A hg outer s H args us vs Q E hr => F.go A hg outer s H args us vs Q E (hr.mono h)⟩
theorem Ok.of {k : Nat} {f : Addr} {fd : FuncData} {ps : List Str} {sp : Sp} (F : FnOk P w K mg base CX k f fd ps sp) : Ok P w K mg base CX k f fd ps sp :=
  ⟨F.len, fun A _ => F.run A⟩

theorem mk {k : Nat} {x qual : Str} {st : Stmt} {f : Addr} {fd : FuncData} {N ps : List Str} {sp : Sp} (F : Fun K x qual st f fd) (S : FnScope N ps (defScope st)) (len : ∀ vs H Q E, sp vs H Q E → vs.length = ps.length)
    (walk : ∀ (cdv : Value) (A : Around) (outer : List Env) (s : Shared) (H : Hp) (vs : List V) (Q : VK) (E : XK), A.guards = some [] → Room k (A.deeper (envOfC qual (defScope st) s.heap.objs.size f cdv)) → sp vs H Q E →
      ∃ t, PSs (cxOf CX P w K mg base N qual (defScope st) f cdv A outer s H E).nox (defBody st) t ∧ t { nx := fun _ H' => Q .non H', rt := Q } (start N vs) H) :
    Ok P w K mg base CX (k + 1) f fd ps sp := by
  refine ⟨len, ?_⟩
  obtain ⟨oc, od, kV, doc, pm, an, cdv, ct, osl, hfd, lk, cd⟩ := F.ex
  intro A hg outer s H args us vs Q E hr e0 hb rv hsp
  subst hfd
  have stay : ∀ b o, base.get? b = some o → s.heap.get? b = some o := fun b o e => (e0.bs b o e).1
  have KX : K.In s.heap := e0.mod.kin.keeps stay
  have par : ∀ y ∈ ps.zip us, (defScope st).names.lookup y.1 = some .local ∨ ((defScope st).names.lookup y.1 = some .cell ∧ ((cellsFrom (s.heap.objs.size + 1) (defScope st).names []).lookup y.1).isSome = true) := by
    rintro ⟨n, v⟩ hy
    cases S.par n (List.of_mem_zip hy).1 with
    | inl q => exact .inl q
    | inr q => exact .inr ⟨q, PySem.W.cellsFrom_some _ _ _ (.inl q)⟩
  refine codeAny_call_function hr.depth (KX _ _ lk) rfl S.co S.gen rfl (PySem.W.codeRec_of KX cd) (hb _ _ _ _ (wpAny_newFunctionEnv_cells S.kind par ?_))
  intro env he s1 x
  subst he
  refine ⟨(e0.mod.nolimit.keeps stay).keeps x.toInCall.keep, codeAny_func ?_⟩
  obtain ⟨t, ht, hq⟩ := walk cdv A outer s H vs Q E hg (hr.deeper _) hsp
  refine wpAny_mono (ht.nox.run [] s1 (start N vs) H _ (inv_start S hr.hd e0 (len _ _ _ _ hsp) rv x) hq) ?_ fun e s' hs => hs
  intro fl s' hs
  cases fl with
  | ret u => obtain ⟨v, σ', H', J, ru, q⟩ := hs; exact ⟨v, H', J.os, J.bare, J.base, J.hok, ru, q⟩
  | next => obtain ⟨σ', H', J, q⟩ := hs; exact ⟨.non, H', J.os, J.bare, J.base, J.hok, rfl, q⟩
  | brk => obtain ⟨_, _, _, q⟩ := hs; exact q.elim
  | cont => obtain ⟨_, _, _, q⟩ := hs; exact q.elim

/-- the law's entry: callerA has no guard -/
theorem enter {mb : Str → Option Value} {k : Nat} {fa a : Addr} {fd : FuncData} {x : Str} {sp : Sp} {s₁ : Shared} {vs : List Value} {H : Hp}
    (KX : K.In s₁.heap) (hns : s₁.heap.Ns mainGlobals mg) (hb : s₁.heap.Ns builtinsNs mb) (hbb : ∀ x : Str, x ≠ "__name__" → mb x = bootBuiltins x) (hlim : s₁.heap.NoLimit) (hgen : s₁.gens = #[])
    (ha : s₁.heap.get? a = some { cls := .type "list", data := .seq vs.toArray }) (hr : Room k callerA)
    (F : ∀ base : Heap, K.In base → base.Ns mainGlobals mg → Ok P w K mg base CX k fa fd [x] sp) (hbind : ∀ (s : Shared) (u : Value), BindsTo s fd ⟨[u], []⟩ [(x, u)])
    (hO : Only H) (hok : HOk P w H s₁.heap) (only_a : ∀ b o, H b = some o → b = a) (notK : (∃ o, H a = some o) → K.lookup a = none)
    (hsp : sp [.ref a] H (fun v _ => v = .bl true) fun _ _ _ => False) (hCX : ∀ H e s', CX [] H s₁ (fun _ _ _ => False) e s' → False) :
    codeAny (model P w) callerA (.call (.ref fa) ⟨[.ref a], []⟩) (fun r s' => r = .ok (.ret (.bool true)) ∧ OldK s₁.heap s'.heap ∧ s'.os = s₁.os ∧ AllBare s'.gens) s₁ := by
  have free : ∀ {b : Addr}, b ≠ a → H b = none := fun {b} hne => by
    cases q : H b with
    | none => rfl
    | some u => exact absurd (only_a b u q) hne
  have dic : ∀ {b : Addr} {m : Str → Option Value}, s₁.heap.Ns b m → (hidT s₁.heap H).Ns b m := by
    rintro b m ⟨o, es, ep, e, d, r⟩
    refine ⟨o, es, ep, hidT_get e (free ?_), d, r⟩
    rintro rfl
    rw [ha] at e
    cases e
    cases d
  have kin : K.In (hidT s₁.heap H) := by
    intro b o e
    refine hidT_get (KX b o e) ?_
    cases q : H b with
    | none => rfl
    | some u =>
      have hba := only_a b u q
      subst hba
      rw [notK ⟨u, q⟩] at e
      cases e
  obtain ⟨mc, l1, l2⟩ := hlim
  have e0 : Env0 P w K mg (hidT s₁.heap H) callerA [] s₁ H :=
    { frames := rfl, mod := ⟨kin, dic hns, ⟨mb, dic hb, hbb⟩, ⟨mc, dic l1, l2⟩⟩, bs := fun b o e => of_hidT e, bsz := Nat.le_of_eq (hidT_size _ _), funs := trivial, frf := fun b z => (List.not_mem_nil z).elim, hok := hok, bare := .of_eq hgen }
  refine codeAny_mono ((F _ kin (dic hns)).go callerA rfl [] s₁ H _ [.ref a] _ _ _ hr e0 (hbind s₁ (.ref a)) (.cons (show RelV (.ref a) (.ref a) from rfl) .nil) hsp) ?_
  intro r s' h
  match r, h with
  | .error e, h => exact (hCX H e s' h).elim
  | .ok .next, h => exact h.elim
  | .ok .brk, h => exact h.elim
  | .ok .cont, h => exact h.elim
  | .ok (.ret u), ⟨v, H', os, bare, un, hok', rv, q⟩ =>
    cases (q : v = .bl true)
    cases (rv : u = .bool true)
    refine ⟨rfl, OldK.of_keep fun b o e => ?_, os, bare⟩
    by_cases q : H b = none
    · exact un.keep b o e q List.not_mem_nil List.not_mem_nil
    · rcases hO b with z | ⟨ob, xs, z⟩
      · exact absurd z q
      · have k1 := (hok b _ z).1
        rw [e] at k1
        cases k1
        exact (hok' b _ (un.frzs b _ _ z)).1

theorem walk {l : PySem.W.OpenLaw} {n k : Nat} {q : Program} {loose : List Str} {XP : (Str → Option Value) → Heap → Prop} {YP : World → Heap → Prop} {d : DefRec} {K : Params → PySem.W.Frag} {sp : PySem.W.Frag → Sp} {x : Str}
    (hn : l.most = some n) (hn2 : n ≤ sizeLine) (hdf : d.params.defaults = []) (hr : Room k callerA) (hY : ∀ (w : World) (h : Heap), YP w h → (K w.params).In h)
    (F : ∀ (w : World) (mg : Str → Option Value) (fa : Addr) (h : Heap), (K w.params).In h → h.Ns mainGlobals mg → mg d.name = some (.ref fa) →
      ∃ fd : FuncData, (∀ (s : Shared) (u : Value), BindsTo s fd ⟨[u], []⟩ [(x, u)]) ∧ ∀ base : Heap, (K w.params).In base → base.Ns mainGlobals mg → Ok l.prog w (K w.params) mg base CX0 k fa fd [x] (sp (K w.params)))
    (hsp : ∀ (K : PySem.W.Frag) (H : Hp) (a : Addr) (ns : List Int), ns.length ≤ n → (∀ z ∈ ns, Builtin.Int.intBits z ≤ 1048576) → SqL K H a (ns.map V.int) → sp K [.ref a] H (fun v _ => v = .bl true) fun _ _ _ => False) :
    PySem.W.WalkO q loose XP YP l.row.toRowW d [] (fun f vs => PySem.call f vs) := by
  refine Att.attach_callB hn hdf ?_
  intro w s₀ s₁ mg mb fa o pm cd doc a vs ns G Y ho hd hcd hmg hobj hints hlen hbits hg
  have KX := hY w _ Y
  obtain ⟨fd, hb, hF⟩ := F w mg fa _ KX G.T.g hmg
  have rv := vals_ints hints
  have zl : ns.length ≤ sizeLine := Nat.le_trans hlen hn2
  have wish := fun (H : Hp) (S : SqL (K w.params) H a (ns.map V.int)) => hsp (K w.params) H a ns hlen hbits S
  by_cases hk : (K w.params).lookup a = none
  · refine enter (H := fun b => if b = a then some (.frz { cls := .type "list", data := .seq vs.toArray } (.lst (ns.map V.int))) else none) KX G.T.g G.T.b G.T.builtins G.T.nolimit hg hobj hr hF hb ?_ ?_ ?_ (fun _ => hk) (wish _ ?_) fun _ _ _ z => z
    · intro b
      by_cases e : b = a
      · exact .inr ⟨_, _, if_pos e⟩
      · exact .inl (if_neg e)
    · intro b o e
      by_cases z : b = a
      · subst z
        cases (if_pos rfl).symm.trans e
        exact ⟨hobj, by rw [List.length_map]; exact zl, vs, _, rv, hobj⟩
      · cases (if_neg z).symm.trans e
    · intro b o e
      by_cases z : b = a
      · exact z
      · cases (if_neg z).symm.trans e
    · exact .inl (.inr ⟨_, if_pos rfl⟩)
  · obtain ⟨o, ek⟩ := Option.ne_none_iff_exists'.mp hk
    have eo := (KX a o ek).symm.trans hobj
    cases eo
    refine enter (H := fun _ => none) KX G.T.g G.T.b G.T.builtins G.T.nolimit hg hobj hr hF hb (fun _ => .inl rfl) (fun b o e => nomatch e) (fun b o e => nomatch e) (fun ⟨o, e⟩ => nomatch e) (wish _ ?_) fun _ _ _ z => z
    refine .inr ⟨_, vs.toArray, _, ek, rfl, rfl, rfl, ?_, by simpa using rv⟩
    rw [List.size_toArray, hints.length]
    exact zl
end
end G

end
section
set_option Elab.async false
set_option linter.all false
set_option maxRecDepth 100000
set_option maxHeartbeats 4000000
/-! ## repr of containers; int ** int of great ints -/
namespace G
open PySem PySem.Spec PyProof.Rows L2
def keyD : Key → PyData
  | .inl i => .int i
  | .inr x => .str x
mutual
/-- data at a value: as it is read off the abstract heap; lists and no dict (true), or dicts and no list (false) -/
inductive Dr (K : PySem.W.Frag) (H : Hp) : Bool → V → PyData → Prop
  | non {m : Bool} : Dr K H m .non .none
  | bl {m : Bool} (b : Bool) : Dr K H m (.bl b) (.bool b)
  | int {m : Bool} (i : Int) : Dr K H m (.int i) (.int i)
  | str {m : Bool} (x : Str) : Dr K H m (.str x) (.str x)
  | lst {a : Addr} {xs : List V} {ds : List PyData} : SqL K H a xs → DrA K H true xs ds → Dr K H true (.ref a) (.list ds)
  | tup {m : Bool} {a : Addr} {xs : List V} {ds : List PyData} : SqT K H a xs → DrA K H m xs ds → Dr K H m (.ref a) (.tuple ds)
  | dic {a : Addr} {kvs : List (Key × V)} {ds : List PyData} : H a = some (.dK kvs) → DrA K H false (kvs.map (·.2)) ds → Dr K H false (.ref a) (.dict ((kvs.map fun p => keyD p.1).zip ds))
inductive DrA (K : PySem.W.Frag) (H : Hp) : Bool → List V → List PyData → Prop
  | nil {m : Bool} : DrA K H m [] []
  | cons {m : Bool} {v : V} {vs : List V} {d : PyData} {ds : List PyData} : Dr K H m v d → DrA K H m vs ds → DrA K H m (v :: vs) (d :: ds)
end
theorem DrA.len {K : PySem.W.Frag} {H : Hp} {m : Bool} : ∀ {vs : List V} {ds : List PyData}, DrA K H m vs ds → vs.length = ds.length
  | _, _, .nil => rfl
  | _, _, .cons _ t => congrArg Nat.succ (DrA.len t)
mutual
theorem Dr.noDict {K : PySem.W.Frag} {H : Hp} : ∀ (d : PyData) (v : V), Dr K H true v d → d.hasDict = false
  | .none, _, _ => by simp only [PyData.hasDict]
  | .bool _, _, _ => by simp only [PyData.hasDict]
  | .int _, _, _ => by simp only [PyData.hasDict]
  | .str _, _, _ => by simp only [PyData.hasDict]
  | .list ds, _, h => by
    cases h with
    | lst _ ha => simp only [PyData.hasDict]; exact DrA.noDict ds _ ha
  | .tuple ds, _, h => by
    cases h with
    | tup _ ha => simp only [PyData.hasDict]; exact DrA.noDict ds _ ha
  | .dict _, _, h => by cases h
theorem DrA.noDict {K : PySem.W.Frag} {H : Hp} : ∀ (ds : List PyData) (vs : List V), DrA K H true vs ds → PyData.hasDictAll ds = false
  | [], _, _ => by simp only [PyData.hasDictAll]
  | d :: ds, _, h => by
    cases h with
    | cons a b => simp only [PyData.hasDictAll, Dr.noDict d _ a, DrA.noDict ds _ b, Bool.or_self]
end
theorem keys_read {P : Program} {w : World} {h : Heap} : ∀ {es : List DictEntry} {kvs : List (Key × V)} {vs : List (Key × Value)}, Pairs (mixKind P w) es vs → KV kvs vs →
    ∃ as, ReadsAll h (es.map (·.key)) (kvs.map fun p => keyD p.1) as ∧ as = []
  | _, _, _, .nil, .nil => ⟨_, .nil, rfl⟩
  | _, _, _, .cons hk hv hp, .cons r t => by
    obtain ⟨as, q, e⟩ := keys_read (P := P) (w := w) (h := h) hp t
    subst e
    have hk' : keyIs _ _ = true := hk
    rw [← r.1] at hk'
    rename_i e' _ _ _ p' _
    rcases keyIs_shape hk' with ⟨i, t, ek, ev⟩ | ⟨x, t, ek, ev⟩
    · refine ⟨[], ?_, rfl⟩
      have z := ReadsAll.cons (h := h) (Reads.int i t) q
      rw [← ev] at z
      have ke : keyD p'.1 = .int i := by rw [ek]; rfl
      rw [List.map_cons, List.map_cons, ke]
      exact z
    · refine ⟨[], ?_, rfl⟩
      have z := ReadsAll.cons (h := h) (Reads.str x t) q
      rw [← ev] at z
      have ke : keyD p'.1 = .str x := by rw [ek]; rfl
      rw [List.map_cons, List.map_cons, ke]
      exact z
theorem vals_of {P : Program} {w : World} : ∀ {es : List DictEntry} {kvs : List (Key × V)} {vs : List (Key × Value)}, Pairs (mixKind P w) es vs → KV kvs vs → Vals (kvs.map (·.2)) (es.map (·.val))
  | _, _, _, .nil, .nil => .nil
  | _, _, _, .cons hk hv hp, .cons r t => .cons (by show RelV _ (DictEntry.val _); rw [hv]; exact r.2) (vals_of hp t)
section
variable {X : Cx} {pins : List (Addr × Obj)} {σ : L2.St} {H : Hp} {s : Shared}
mutual
theorem Dr.reads (I : Inv X pins σ H s) {m : Bool} : ∀ (d : PyData) (v : V) (u : Value), Dr X.K H m v d → RelV v u → ∃ as, Reads s.heap u d as ∧ (m = false → sysModules ∉ as)
  | .none, _, _, h, r => by
    cases h
    cases r
    exact ⟨_, Reads.none, fun _ => List.not_mem_nil⟩
  | .bool b, _, _, h, r => by
    cases h
    cases r
    exact ⟨_, Reads.bool b, fun _ => List.not_mem_nil⟩
  | .int i, _, _, h, r => by
    cases h
    obtain ⟨t, rfl⟩ := r
    exact ⟨_, Reads.int i t, fun _ => List.not_mem_nil⟩
  | .str x, _, _, h, r => by
    cases h
    obtain ⟨t, rfl⟩ := r
    exact ⟨_, Reads.str x t, fun _ => List.not_mem_nil⟩
  | .list ds, _, _, h, r => by
    cases h with
    | @lst a xs _ hs ha =>
      cases r
      obtain ⟨its, rv, ⟨o, n, ho, hc, _, hd⟩, _⟩ := I.list hs
      obtain ⟨as, hr, hn⟩ := DrA.reads I ds _ its ha rv
      exact ⟨_, Reads.list ho hc hd hr, fun z => by cases z⟩
  | .tuple ds, _, _, h, r => by
    cases h with
    | tup hs ha =>
      cases r
      obtain ⟨its, rv, ⟨o, ho, hc, n, hd⟩, _⟩ := I.tuple hs
      obtain ⟨as, hr, hn⟩ := DrA.reads I ds _ its ha rv
      exact ⟨_, Reads.tuple ho hc hd hr, hn⟩
  | .dict kds, _, _, h, r => by
    cases h with
    | @dic a kvs ds hs ha =>
      cases r
      obtain ⟨_, hsys, vs, rk, o, es, ep, ho, hx, hd, _, hp, _⟩ := (show ObjOk X.prog X.w H s.heap a (.dK kvs) from I.hok a _ hs)
      obtain ⟨_, hk, e⟩ := keys_read (h := s.heap) hp rk
      subst e
      have hl : (kvs.map fun p => keyD p.1).length = ds.length := by rw [List.length_map, ← ha.len, List.length_map]
      have e1 : ((kvs.map fun p => keyD p.1).zip ds).map (·.1) = kvs.map fun p => keyD p.1 := List.map_fst_zip (Nat.le_of_eq hl)
      have e2 : ((kvs.map fun p => keyD p.1).zip ds).map (·.2) = ds := List.map_snd_zip (Nat.le_of_eq hl.symm)
      have ha' : DrA X.K H false (kvs.map (·.2)) (((kvs.map fun p => keyD p.1).zip ds).map (·.2)) := by rw [e2]; exact ha
      obtain ⟨bs, hr, hn⟩ := DrA.reads2 I ((kvs.map fun p => keyD p.1).zip ds) _ _ ha' (vals_of hp rk)
      refine ⟨_, Reads.dict ho hx.1 hd (by rw [e1]; exact hk) hr, fun _ z => ?_⟩
      rcases List.mem_append.mp z with z | z
      · rcases List.mem_cons.mp z with e | e
        · rw [← e] at hsys
          simp at hsys
        · exact absurd e List.not_mem_nil
      · exact hn rfl z
theorem DrA.reads (I : Inv X pins σ H s) {m : Bool} : ∀ (ds : List PyData) (vs : List V) (us : List Value), DrA X.K H m vs ds → Vals vs us → ∃ as, ReadsAll s.heap us ds as ∧ (m = false → sysModules ∉ as)
  | [], _, _, h, r => by
    cases h
    cases r
    exact ⟨_, ReadsAll.nil, fun _ => List.not_mem_nil⟩
  | d :: ds, _, _, h, r => by
    cases h with
    | cons h1 h2 =>
      cases r with
      | cons r1 r2 =>
        obtain ⟨as, q1, n1⟩ := Dr.reads I d _ _ h1 r1
        obtain ⟨bs, q2, n2⟩ := DrA.reads I ds _ _ h2 r2
        exact ⟨_, ReadsAll.cons q1 q2, fun e z => (List.mem_append.mp z).elim (n1 e) (n2 e)⟩
theorem DrA.reads2 (I : Inv X pins σ H s) {m : Bool} : ∀ (kds : List (PyData × PyData)) (vs : List V) (us : List Value), DrA X.K H m vs (kds.map (·.2)) → Vals vs us → ∃ as, ReadsAll s.heap us (kds.map (·.2)) as ∧ (m = false → sysModules ∉ as)
  | [], _, _, h, r => by
    cases h
    cases r
    exact ⟨_, ReadsAll.nil, fun _ => List.not_mem_nil⟩
  | (k, d) :: ds, _, _, h, r => by
    cases h with
    | cons h1 h2 =>
      cases r with
      | cons r1 r2 =>
        obtain ⟨as, q1, n1⟩ := Dr.reads I d _ _ h1 r1
        obtain ⟨bs, q2, n2⟩ := DrA.reads2 I ds _ _ h2 r2
        exact ⟨_, ReadsAll.cons q1 q2, fun e z => (List.mem_append.mp z).elim (n1 e) (n2 e)⟩
end
end
/-- repr of a list that is not empty: what is read below it is none of the interpreter's own dict -/
theorem repr_top {prog : Program} {w : World} {A : Around} {E : Value → Shared → Prop} {s : Shared} {a : Addr} {o : Obj} {v : Value} {vs : List Value} {n : Nat} {ds : List PyData} {as : List Addr} {Q : Value → Shared → Prop} (ho : s.heap.get? a = some o) (hc : o.cls = .type "list") (hd : o.data = .seq (v :: vs).toArray n)
    (hr : ReadsAll s.heap (v :: vs) ds as) (hn : sysModules ∉ as) (hs : PyData.showableAll ds = true) (hg : A.guards = some []) (hu : A.units + ((PyData.list ds).depth + 1) < cLine) (hz : (PyData.list ds).shown.length ≤ sizeLine)
    (hQ : ∀ h' u tk, (∀ b o, s.heap.get? b = some o → h'.get? b = some o) → Q (.str (PyData.list ds).shown u) { s with heap := h', toks := tk }) : wpAny (model prog w) A (call (.builtin "repr") [.ref a]) Q E s := by
  have depth : (PyData.list ds).depth = PyData.depthAll ds + 1 := by simp only [PyData.depth]
  have text : (PyData.list ds).shown = listText (PyData.shownAll ds) := by simp only [PyData.shown]
  rw [text] at hz
  rw [depth] at hu
  obtain ⟨bs, most, items⟩ := ReprAllK.of_readsAll (prog := prog) (w := w) hr hs (fun _ => hn) (fun t ht => Nat.le_trans (listText_mem_le ht) hz)
  have apart : a ∉ bs := not_mem_of_deeper (.list ho hc hd (by simpa using hr)) (by rw [depth]; omega) most
  refine call_repr_slot (by omega) ⟨o, ho, hc⟩ F.slot_list_repr.toG ?_
  refine call_list_reprK ho hc hd apart (by simpa using items.length_eq) (fun i y e => items.item i y (by simpa using e)) hg (fun b _ => Clear.nil b) (by show A.units + 1 + _ < cLine; omega) (fun _ _ e => e) (fun h' u tk k => ⟨_, _, rfl, ?_⟩) hz
  rw [← text]
  exact hQ h' u tk k
def rRepr (K : PySem.W.Frag) : List V → Hp → VK → Prop := fun xs H Q => ∃ (a : Addr) (m : Bool) (y : V) (ys : List V) (ds : List PyData), xs = [.ref a] ∧ SqL K H a (y :: ys) ∧ DrA K H m (y :: ys) ds ∧ (PyData.list ds).showable = true ∧ (PyData.list ds).depth ≤ 20 ∧ (PyData.list ds).shown.length ≤ sizeLine ∧ Q (.str (PyData.list ds).shown) H
theorem call_repr {X : Cx} (hg : X.A.guards = some []) (hu : X.A.units + 64 < cLine) : CallR X (.builtin "repr") (rRepr X.K) := by
  intro pins s σ H xs us Q I r h
  obtain ⟨a, m, y, ys, ds, rfl, hL, hd, hs, hl, hz, q⟩ := h
  cases r with
  | cons rx rr =>
    cases rr
    cases rx
    have fin : ∀ (h' : Heap) (u : Tok) (tk : Nat), (∀ b o, s.heap.get? b = some o → h'.get? b = some o) → EP X pins σ Q (.str (PyData.list ds).shown u) { s with heap := h', toks := tk } := fun h' u tk k => ⟨.str (PyData.list ds).shown, H, I.kept (t' := tk) k, ⟨u, rfl⟩, q⟩
    obtain ⟨its, rv, ⟨o, n, ho, hc, _, hd'⟩, _⟩ := I.list hL
    obtain ⟨as, hr, hn⟩ := DrA.reads I ds _ its hd rv
    cases m with
    | true =>
      refine repr_of_reads' (.list ho hc hd' hr) hs (fun z => ?_) hg (by omega) (fun _ _ e => e) fin hz
      rw [show (PyData.list ds).hasDict = PyData.hasDictAll ds by simp only [PyData.hasDict], DrA.noDict ds _ hd] at z
      cases z
    | false =>
      cases rv with
      | cons r1 r2 => exact repr_top ho hc hd' hr (hn rfl) (by simpa only [PyData.showable] using hs) hg (by omega) hz fin
def rReprF : List V → Hp → VK → Prop := fun xs H Q => (xs = [.non] ∧ Q (.str "None") H) ∨ (∃ b, xs = [.bl b] ∧ Q (.str (if b then "True" else "False")) H) ∨ ∃ i, xs = [.int i] ∧ i.natAbs.log2 < 1920 ∧ Q (.str (toString i)) H
theorem call_reprF {X : Cx} : CallR X (.builtin "repr") rReprF := by
  intro pins s σ H xs us Q I r h
  rcases h with ⟨rfl, q⟩ | ⟨b, rfl, q⟩ | ⟨i, rfl, hz, q⟩
  · cases r with
    | cons rx rr => cases rr; cases rx; exact PySem.P.repr_of_none ⟨.str _, H, I.tok _, ⟨_, rfl⟩, q⟩
  · cases r with
    | cons rx rr => cases rr; cases rx; exact PySem.P.repr_of_bool ⟨.str _, H, I.tok _, ⟨_, rfl⟩, q⟩
  · cases r with
    | cons rx rr => cases rr; obtain ⟨t, rfl⟩ := rx; exact PySem.P.repr_of_int hz ⟨.str _, H, I.tok _, ⟨_, rfl⟩, q⟩
/-- a ** n, n a small written number, a of any size -/
theorem op_powN {X : Cx} : OpR X (binaryOp .Pow) (rI (fun i j => 0 ≤ j ∧ (Builtin.Int.intBits i : Int) * j ≤ 2 ^ 27) fun i j => .int (i ^ j.toNat)) := opI fun _ _ _ _ _ _ _ hc q => pow_int hc.1 hc.2 q
end G

end
section
set_option Elab.async false
set_option linter.all false
set_option maxRecDepth 100000
set_option maxHeartbeats 4000000
/-! ## max of a list of ints, with and without default= -/
namespace G
open PySem PySem.Spec PyProof.Rows L2 PySem.W
theorem ints_reads {h : Heap} : ∀ {ns : List Int} {us : List Value}, Vals (ns.map V.int) us → ReadsAll h us (ns.map PyData.int) []
  | [], _, r => by cases r; exact .nil
  | n :: ns, _, r => by
    cases r with
    | cons a b =>
      obtain ⟨t, rfl⟩ := a
      exact .cons (as := []) (bs := []) (.int n t) (ints_reads b)
theorem ints_alike : ∀ ns : List Int, AlikeAll (ns.map PyData.int) := by
  intro ns
  refine ⟨fun x hx y hy => ?_, fun x hx => ?_⟩
  · obtain ⟨a, _, rfl⟩ := List.mem_map.mp hx
    obtain ⟨b, _, rfl⟩ := List.mem_map.mp hy
    rfl
  · obtain ⟨a, _, rfl⟩ := List.mem_map.mp hx
    intro z
    cases z
theorem ints_depth : ∀ ns : List Int, PyData.depthAll (ns.map PyData.int) = 0
  | [] => by simp only [List.map_nil, PyData.depthAll]
  | n :: ns => by simp only [List.map_cons, PyData.depthAll, PyData.depth, ints_depth ns, Nat.max_self]
theorem int_reads {h : Heap} {v : Value} {n : Int} {bs : List Addr} (r : Reads h v (.int n) bs) : RelV (.int n) v := by
  cases r
  exact ⟨_, rfl⟩
def rMaxID (K : PySem.W.Frag) : List V → List V → Hp → VK → Prop := fun xs zs H Q => ∃ (a : Addr) (ns : List Int) (d : Int), xs = [.ref a] ∧ zs = [.int d] ∧ SqL K H a (ns.map V.int) ∧ Q (.int (match ns with | [] => d | n :: r => r.foldl max n)) H
section
variable {X : Cx}
theorem call_maxID (hc : X.calm = true) (hu : X.A.units + 64 < cLine) : CallRK X (.builtin "max") ["default"] (rMaxID X.K) := by
  intro pins s σ H xs zs us ws Q I r rz h
  obtain ⟨a, ns, d, rfl, rfl, hL, q⟩ := h
  cases r with
  | cons rx rr =>
    cases rr
    cases rx
    cases rz with
    | cons ra rb =>
      cases rb
      obtain ⟨td, rfl⟩ := ra
      obtain ⟨its, rv, pl, _⟩ := I.list hL
      have hr := ints_reads (h := s.heap) rv
      refine max_list_default (xs := ns.map .int) (d := .int d td) (I.ok.hd hc) pl.isList (by simpa using hr) (ints_alike ns) (by rw [ints_depth]; omega) (fun e h' tk k => ?_) fun y ys i v h' tk bs e hv hR k => ?_
      · cases ns with
        | nil => exact ⟨.int d, H, I.kept (t' := tk) k, ⟨td, rfl⟩, q⟩
        | cons n r => cases e
      · cases ns with
        | nil => cases e
        | cons n r =>
          injection e with e1 e2
          subst e1 e2
          rw [maxD_ints] at hR
          exact ⟨.int _, H, I.kept (t' := tk) k, int_reads hR, q⟩
end
end G

end
section
set_option autoImplicit false
/-! ## ways and what becomes of letters: a mirror, and that a lesser body fares no worse -/
namespace M
inductive LW where
  | cut | tell | drop
  deriving DecidableEq
inductive TW where
  | turn | keep | lose
  deriving DecidableEq
mutual
inductive Way where
  | mk (head : Nat) (steps : List Step)
inductive Step where
  | road (size : Nat) (tellS : Bool) (loose : LW)
  | join (most : Nat)
  | tunnel (w : Way) (most : Nat) (t : TW)
end
def Way.head : Way → Nat
  | .mk h _ => h
def Way.steps : Way → List Step
  | .mk _ s => s
inductive Fate where
  | comes (l : List Nat)
  | told (size : Int) (place : List Nat)
  | silent (place : List Nat)
  deriving DecidableEq
/-- what a step makes of stretches; an end as it is seen from the step -/
def parts (c x : Nat) : List Nat := (List.range ((x + c - 1) / c)).map fun k => min c (x - k * c)
def cutAll (c : Nat) (l : List Nat) : List Nat := l.flatMap (parts c)
def road (h size : Nat) (tellS : Bool) (lw : LW) (sealed : Bool) (l : List Nat) : Fate :=
  if ∀ x ∈ l, x ≤ size - h then .comes l
  else if sealed then (if tellS then .told size [] else .silent [])
  else match lw with
    | .cut => .comes (cutAll (size - h) l)
    | .tell => .told size []
    | .drop => .silent []
def join (most : Nat) (l : List Nat) : Fate := if l.length > most then .silent [] else .comes [l.sum]
def turned (ih : Nat) (t : TW) : Fate → Fate
  | .told s p => if t = .turn then .told (s - ih) p else .silent p
  | .silent p => .silent p
  | .comes _ => .silent []
def seen (i : Nat) : Fate → Fate
  | .told s p => .told s (i :: p)
  | .silent p => .silent (i :: p)
  | .comes l => .comes l
/-- the tunnel, by what the inner way makes of each stretch -/
def tunnel (inner : Nat → Fate) (ih most : Nat) (t : TW) (l : List Nat) : List Nat → Fate
  | [] => .comes l
  | x :: r => match inner x with
    | .comes m => if m.length > most then .silent [] else tunnel inner ih most t l r
    | f => turned ih t f
mutual
def Way.walk (sealed : Bool) : Way → Nat → Fate
  | .mk h steps, b => Way.from sealed h steps 0 [b]
def Way.from (sealed : Bool) (h : Nat) : List Step → Nat → List Nat → Fate
  | [], _, l => .comes l
  | s :: r, i, l => match Step.does sealed h s l with
    | .comes m => Way.from sealed h r (i + 1) m
    | f => seen i f
def Step.does (sealed : Bool) (h : Nat) : Step → List Nat → Fate
  | .road size ts lw, l => road h size ts lw sealed l
  | .join most, l => join most l
  | .tunnel w most t, l => tunnel (fun x => Way.walk sealed w (h + x)) w.head most t l l
end
/-! ### truncation -/
def tr : List Nat → Nat → List Nat
  | _, 0 => []
  | [], _ + 1 => []
  | x :: l, b + 1 => if b + 1 ≤ x then [b + 1] else x :: tr l (b + 1 - x)
theorem tr_zero (l : List Nat) : tr l 0 = [] := by cases l <;> rfl
theorem tr_cons {x b : Nat} {l : List Nat} (hb : 0 < b) : tr (x :: l) b = if b ≤ x then [b] else x :: tr l (b - x) := by
  cases b with
  | zero => omega
  | succ b => rfl
theorem tr_nil (b : Nat) : tr [] b = [] := by cases b <;> rfl
theorem tr_mem : ∀ (l : List Nat) (b x : Nat), x ∈ tr l b → ∃ y ∈ l, x ≤ y
  | [], b, x, h => by rw [tr_nil] at h; cases h
  | y :: l, b, x, h => by
    by_cases hb : 0 < b
    · rw [tr_cons hb] at h
      split at h
      · rename_i hy
        have e : x = b := by simpa using h
        exact ⟨y, List.mem_cons_self, by omega⟩
      · rcases List.mem_cons.mp h with e | e
        · exact ⟨y, List.mem_cons_self, by omega⟩
        · obtain ⟨z, hz, hx⟩ := tr_mem l _ x e
          exact ⟨z, List.mem_cons_of_mem _ hz, hx⟩
    · have e : b = 0 := by omega
      subst e
      rw [tr_zero] at h
      cases h
theorem tr_len : ∀ (l : List Nat) (b : Nat), (tr l b).length ≤ l.length
  | [], b => by rw [tr_nil]; exact Nat.le_refl _
  | y :: l, b => by
    by_cases hb : 0 < b
    · rw [tr_cons hb]
      split
      · simp
      · have := tr_len l (b - y)
        simp; omega
    · have e : b = 0 := by omega
      subst e
      rw [tr_zero]; simp
theorem tr_sum : ∀ (l : List Nat) (b : Nat), b ≤ l.sum → (tr l b).sum = b
  | [], b, h => by rw [tr_nil]; simp at h ⊢; omega
  | y :: l, b, h => by
    by_cases hb : 0 < b
    · rw [tr_cons hb]
      split
      · simp
      · simp at h ⊢
        have := tr_sum l (b - y) (by omega)
        omega
    · have e : b = 0 := by omega
      subst e
      rw [tr_zero]; rfl
theorem tr_all {l : List Nat} (h : ∀ x ∈ l, 0 < x) : tr l l.sum = l := by
  induction l with
  | nil => rfl
  | cons x l ih =>
    have hx := h x List.mem_cons_self
    rw [tr_cons (by simp; omega)]
    cases l with
    | nil => simp
    | cons y r =>
      have hy := h y (by simp)
      rw [if_neg (by simp; omega)]
      have e : (x :: y :: r).sum - x = (y :: r).sum := by simp
      rw [e, ih fun z hz => h z (List.mem_cons_of_mem _ hz)]
theorem tr_append : ∀ (l m : List Nat) (b : Nat), tr (l ++ m) b = if b ≤ l.sum then tr l b else l ++ tr m (b - l.sum)
  | [], m, b => by
    cases b with
    | zero => simp [tr_zero]
    | succ b => simp
  | x :: l, m, b => by
    by_cases hb : 0 < b
    · rw [List.cons_append, tr_cons hb, tr_cons hb, tr_append l m (b - x), List.sum_cons]
      by_cases h1 : b ≤ x
      · rw [if_pos h1, if_pos (by omega), if_pos h1]
      · rw [if_neg h1, if_neg h1]
        by_cases h2 : b ≤ x + l.sum
        · rw [if_pos (by omega), if_pos h2]
        · rw [if_neg (by omega), if_neg h2]
          have e : b - x - l.sum = b - (x + l.sum) := by omega
          rw [e]; rfl
    · have e : b = 0 := by omega
      subst e
      simp [tr_zero]
/-! ### cutting -/
theorem parts_small {c x : Nat} (h0 : 0 < x) (h : x ≤ c) : parts c x = [x] := by
  unfold parts
  have e : (x + c - 1) / c = 1 := by
    have e1 : x + c - 1 = (x - 1) + c * 1 := by omega
    rw [e1, Nat.add_mul_div_left _ _ (by omega : 0 < c), Nat.div_eq_of_lt (by omega)]
  rw [e]
  show [min c (x - 0 * c)] = [x]
  rw [Nat.zero_mul, Nat.sub_zero, Nat.min_eq_right h]
theorem parts_more {c x : Nat} (hc : 0 < c) (h : c < x) : parts c x = c :: parts c (x - c) := by
  unfold parts
  have e : (x + c - 1) / c = (x - c + c - 1) / c + 1 := by
    have e1 : x + c - 1 = (x - c + c - 1) + c * 1 := by omega
    rw [e1, Nat.add_mul_div_left _ _ hc]
  rw [e, List.range_succ_eq_map, List.map_cons, List.map_map]
  congr 1
  · rw [Nat.zero_mul, Nat.sub_zero, Nat.min_eq_left (by omega)]
  · apply List.map_congr_left
    intro k _
    show min c (x - (k + 1) * c) = min c (x - c - k * c)
    rw [Nat.succ_mul]
    congr 1
    omega
theorem parts_ind {c : Nat} {P : Nat → Prop} (hc : 0 < c) (small : ∀ x, 0 < x → x ≤ c → P x) (more : ∀ x, c < x → P (x - c) → P x) (x : Nat) (hx : 0 < x) : P x := by
  induction x using Nat.strongRecOn with
  | _ x ih =>
    by_cases h : x ≤ c
    · exact small x hx h
    · exact more x (by omega) (ih (x - c) (by omega) (by omega))
theorem parts_sum {c x : Nat} (hc : 0 < c) (hx : 0 < x) : (parts c x).sum = x := by
  refine parts_ind (P := fun x => (parts c x).sum = x) hc (fun x h1 h2 => ?_) (fun x h1 ih => ?_) x hx
  · rw [parts_small h1 h2]; simp
  · rw [parts_more hc h1, List.sum_cons, ih]; omega
theorem parts_pos {c x : Nat} (hc : 0 < c) (hx : 0 < x) : ∀ y ∈ parts c x, 0 < y ∧ y ≤ c ∧ y ≤ x := by
  refine parts_ind (P := fun x => ∀ y ∈ parts c x, 0 < y ∧ y ≤ c ∧ y ≤ x) hc (fun x h1 h2 => ?_) (fun x h1 ih => ?_) x hx
  · rw [parts_small h1 h2]
    intro y hy
    have e : y = x := by simpa using hy
    omega
  · rw [parts_more hc h1]
    intro y hy
    rcases List.mem_cons.mp hy with e | e
    · omega
    · have := ih y e
      omega
/-- the first piece -/
theorem parts_head {c x : Nat} (hc : 0 < c) (hx : 0 < x) : ∃ r, parts c x = min c x :: r := by
  by_cases h : x ≤ c
  · exact ⟨[], by rw [parts_small hx h, Nat.min_eq_right h]⟩
  · exact ⟨_, by rw [parts_more hc (by omega), Nat.min_eq_left (by omega)]⟩
theorem parts_tr {c : Nat} (hc : 0 < c) (x : Nat) (hx : 0 < x) : ∀ b, 0 < b → b ≤ x → tr (parts c x) b = parts c b := by
  refine parts_ind (P := fun x => ∀ b, 0 < b → b ≤ x → tr (parts c x) b = parts c b) hc (fun x h1 h2 b hb hbx => ?_) (fun x h1 ih b hb hbx => ?_) x hx
  · rw [parts_small h1 h2, tr_cons hb, if_pos hbx, parts_small hb (by omega)]
  · rw [parts_more hc h1, tr_cons hb]
    by_cases h : b ≤ c
    · rw [if_pos h, parts_small hb h]
    · rw [if_neg h, parts_more (x := b) hc (by omega), ih (b - c) (by omega) (by omega)]
theorem cut_sum {c : Nat} (hc : 0 < c) : ∀ {l : List Nat}, (∀ x ∈ l, 0 < x) → (cutAll c l).sum = l.sum
  | [], _ => rfl
  | x :: l, h => by
    show (parts c x ++ cutAll c l).sum = _
    rw [List.sum_append, parts_sum hc (h x List.mem_cons_self), cut_sum hc fun y hy => h y (List.mem_cons_of_mem _ hy), List.sum_cons]
theorem cut_tr {c : Nat} (hc : 0 < c) : ∀ {l : List Nat} {b : Nat}, (∀ x ∈ l, 0 < x) → b ≤ l.sum → cutAll c (tr l b) = tr (cutAll c l) b
  | [], b, _, _ => by rw [tr_nil]; show [] = tr [] b; rw [tr_nil]
  | x :: l, b, h, hb => by
    have hx := h x List.mem_cons_self
    show _ = tr (parts c x ++ cutAll c l) b
    by_cases h0 : 0 < b
    · rw [tr_append, parts_sum hc hx, tr_cons h0]
      by_cases h1 : b ≤ x
      · rw [if_pos h1, if_pos h1, parts_tr hc x hx b h0 h1]
        show parts c b ++ [] = _
        rw [List.append_nil]
      · rw [if_neg h1, if_neg h1]
        show parts c x ++ cutAll c (tr l (b - x)) = _
        rw [cut_tr hc (fun y hy => h y (List.mem_cons_of_mem _ hy)) (by simp at hb; omega)]
    · have e : b = 0 := by omega
      subst e
      rw [tr_zero, tr_zero]; rfl
theorem cut_same {c : Nat} : ∀ {l : List Nat}, (∀ x ∈ l, 0 < x ∧ x ≤ c) → cutAll c l = l
  | [], _ => rfl
  | x :: l, h => by
    show parts c x ++ cutAll c l = _
    have hx := h x List.mem_cons_self
    rw [parts_small hx.1 hx.2, cut_same fun y hy => h y (List.mem_cons_of_mem _ hy)]
    rfl
/-! ### the stretches of a letter, and those of a lesser one -/
/-- stretches of a body b -/
structure Good (b : Nat) (l : List Nat) : Prop where
  sum : l.sum = b
  ne : l ≠ []
  pos : 0 < b → ∀ x ∈ l, 0 < x
  zero : b = 0 → l = [0]
  first : ∀ x ∈ l, x ≤ l.headD 0
/-- stretches of b beside those of a body that is not less -/
def Rel (b : Nat) (l l' : List Nat) : Prop := if b = 0 then l = [0] else l = tr l' b
theorem good_one (b : Nat) : Good b [b] where
  sum := by simp
  ne := by simp
  pos := fun h x hx => by
    have e : x = b := by simpa using hx
    omega
  zero := fun h => by rw [h]
  first := fun x hx => by
    have e : x = b := by simpa using hx
    rw [e]
    exact Nat.le_refl b
theorem rel_one {b b' : Nat} (h : b ≤ b') : Rel b [b] [b'] := by
  unfold Rel
  split
  · rename_i e; rw [e]
  · rw [tr_cons (by omega), if_pos h]
/-- lesser stretches: each at most one of the greater, the first at most the first; no more of them -/
theorem rel_mem {b b' : Nat} {l l' : List Nat} (h : Rel b l l') (g : Good b' l') : ∀ x ∈ l, ∃ y ∈ l', x ≤ y := by
  unfold Rel at h
  split at h
  · subst h
    intro x hx
    have e : x = 0 := by simpa using hx
    cases l' with
    | nil => exact absurd rfl g.ne
    | cons y r => exact ⟨y, List.mem_cons_self, by omega⟩
  · subst h
    exact tr_mem l' b
theorem rel_len {b b' : Nat} {l l' : List Nat} (h : Rel b l l') (g : Good b' l') : l.length ≤ l'.length := by
  unfold Rel at h
  split at h
  · subst h
    cases l' with
    | nil => exact absurd rfl g.ne
    | cons y r => simp
  · subst h
    exact tr_len l' b
theorem good_cut {b c : Nat} {l : List Nat} (hc : 0 < c) (hb : 0 < b) (g : Good b l) : Good b (cutAll c l) := by
  have p := g.pos hb
  obtain ⟨y, r, rfl⟩ : ∃ y r, l = y :: r := by
    cases l with
    | nil => exact absurd rfl g.ne
    | cons y r => exact ⟨y, r, rfl⟩
  obtain ⟨r', hr⟩ := parts_head hc (p y List.mem_cons_self)
  have e : cutAll c (y :: r) = min c y :: (r' ++ cutAll c r) := by
    show parts c y ++ cutAll c r = _
    rw [hr]; rfl
  refine ⟨by rw [cut_sum hc p, g.sum], by rw [e]; simp, fun _ x hx => ?_, fun h => by omega, fun x hx => ?_⟩
  · obtain ⟨z, hz, hx⟩ := List.mem_flatMap.mp hx
    exact (parts_pos hc (p z hz) x hx).1
  · rw [e]
    show x ≤ min c y
    obtain ⟨z, hz, hx⟩ := List.mem_flatMap.mp hx
    have q := parts_pos hc (p z hz) x hx
    have f : z ≤ y := g.first z hz
    omega
mutual
/-- what a way's steps are: sizes above heads, at least one piece put together -/
def Way.ok : Way → Prop
  | .mk h steps => 0 < h ∧ Step.okAll h steps
def Step.okAll (h : Nat) : List Step → Prop
  | [] => True
  | s :: r => Step.ok h s ∧ Step.okAll h r
def Step.ok (h : Nat) : Step → Prop
  | .road size _ _ => h < size
  | .join most => 0 < most
  | .tunnel w most _ => Way.ok w ∧ 0 < most
end
theorem road_comes {h size : Nat} {ts : Bool} {lw : LW} {sealed : Bool} {l m : List Nat} (e : road h size ts lw sealed l = .comes m) : (m = l ∧ ∀ x ∈ l, x ≤ size - h) ∨ (m = cutAll (size - h) l ∧ sealed = false ∧ lw = .cut ∧ ¬ ∀ x ∈ l, x ≤ size - h) := by
  unfold road at e
  split at e
  · rename_i q
    injection e with e
    exact .inl ⟨e.symm, q⟩
  · rename_i q
    split at e
    · split at e <;> cases e
    · rename_i qs
      split at e
      · injection e with e
        exact .inr ⟨e.symm, by simpa using qs, rfl, q⟩
      · cases e
      · cases e
theorem tunnel_comes {inner : Nat → Fate} {ih most : Nat} {t : TW} {l m : List Nat} : ∀ {r : List Nat}, tunnel inner ih most t l r = .comes m → m = l ∧ ∀ x ∈ r, ∃ k, inner x = .comes k ∧ k.length ≤ most
  | [], e => by
    unfold tunnel at e
    injection e with e
    exact ⟨e.symm, fun x hx => by cases hx⟩
  | x :: r, e => by
    unfold tunnel at e
    split at e
    · rename_i k hk
      split at e
      · cases e
      · rename_i hl
        obtain ⟨h1, h2⟩ := tunnel_comes e
        refine ⟨h1, fun y hy => ?_⟩
        rcases List.mem_cons.mp hy with z | z
        · exact ⟨k, z ▸ hk, by omega⟩
        · exact h2 y z
    · rename_i f hf
      cases hi : inner x with
      | comes k => exact absurd hi (hf k)
      | told s p =>
        rw [hi] at e
        simp only [turned] at e
        split at e <;> cases e
      | silent p =>
        rw [hi] at e
        cases e
theorem tunnel_pass {inner : Nat → Fate} {ih most : Nat} {t : TW} {l : List Nat} : ∀ {r : List Nat}, (∀ x ∈ r, ∃ k, inner x = .comes k ∧ k.length ≤ most) → tunnel inner ih most t l r = .comes l
  | [], _ => rfl
  | x :: r, h => by
    obtain ⟨k, e, hk⟩ := h x List.mem_cons_self
    unfold tunnel
    rw [e]
    show (if k.length > most then _ else _) = _
    rw [if_neg (by omega)]
    exact tunnel_pass fun y hy => h y (List.mem_cons_of_mem _ hy)
theorem rel_cut {b b' c : Nat} {l l' : List Nat} (hc : 0 < c) (hle : b ≤ b') (h : Rel b l l') (g : Good b' l') (g0 : Good b l) : Rel b (if b = 0 then l else cutAll c l) (cutAll c l') := by
  unfold Rel at h ⊢
  split
  · rename_i e
    rw [if_pos e] at h
    exact h
  · rename_i e
    rw [if_neg e] at h
    subst h
    exact cut_tr hc (g.pos (by omega)) (by rw [g.sum]; exact hle)
/-- one road, both letters -/
theorem road_mono {h size : Nat} {ts : Bool} {lw : LW} {sealed : Bool} {b b' : Nat} {l l' m' : List Nat} (hs : h < size) (hle : b ≤ b') (g : Good b l) (g' : Good b' l') (r : Rel b l l') (e : road h size ts lw sealed l' = .comes m') :
    ∃ m, road h size ts lw sealed l = .comes m ∧ Good b m ∧ Good b' m' ∧ Rel b m m' := by
  have hc : 0 < size - h := by omega
  rcases road_comes e with ⟨rfl, ha⟩ | ⟨rfl, rfl, rfl, hn⟩
  · have hl : ∀ x ∈ l, x ≤ size - h := fun x hx => by
      obtain ⟨y, hy, hxy⟩ := rel_mem r g' x hx
      exact Nat.le_trans hxy (ha y hy)
    exact ⟨l, by unfold road; rw [if_pos hl], g, g', r⟩
  · have hb' : 0 < b' := by
      rcases Nat.eq_zero_or_pos b' with z | z
      · rw [g'.zero z] at hn
        exact absurd (fun x hx => by have e : x = 0 := by simpa using hx
                                     omega) hn
      · exact z
    have gm' := good_cut hc hb' g'
    have rm := rel_cut hc hle r g' g
    by_cases hl : ∀ x ∈ l, x ≤ size - h
    · refine ⟨l, by unfold road; rw [if_pos hl], g, gm', ?_⟩
      by_cases hb : b = 0
      · rw [if_pos hb] at rm; exact rm
      · rw [if_neg hb, cut_same fun x hx => ⟨g.pos (by omega) x hx, hl x hx⟩] at rm
        exact rm
    · have hb : ¬ b = 0 := fun z => hl fun x hx => by
        rw [g.zero z] at hx
        have e : x = 0 := by simpa using hx
        omega
      rw [if_neg hb] at rm
      exact ⟨_, by unfold road; rw [if_neg hl, if_neg (by simp)], good_cut hc (by omega) g, gm', rm⟩
mutual
/-- a letter that comes does so for each lesser body -/
theorem Way.mono (sealed : Bool) : ∀ (w : Way), w.ok → ∀ (b b' : Nat) (m' : List Nat), b ≤ b' → w.walk sealed b' = .comes m' → ∃ m, w.walk sealed b = .comes m ∧ Good b m ∧ Good b' m' ∧ Rel b m m'
  | .mk h steps, hw, b, b', m', hle, e => Way.from_mono sealed h steps hw.1 hw.2 0 b b' [b] [b'] m' hle (good_one b) (good_one b') (rel_one hle) e
theorem Way.from_mono (sealed : Bool) (h : Nat) : ∀ (steps : List Step), 0 < h → Step.okAll h steps → ∀ (i b b' : Nat) (l l' m' : List Nat), b ≤ b' → Good b l → Good b' l' → Rel b l l' → Way.from sealed h steps i l' = .comes m' →
    ∃ m, Way.from sealed h steps i l = .comes m ∧ Good b m ∧ Good b' m' ∧ Rel b m m'
  | [], _, _, i, b, b', l, l', m', hle, g, g', r, e => by
    unfold Way.from at e
    injection e with e
    subst e
    exact ⟨l, by unfold Way.from; rfl, g, g', r⟩
  | s :: rest, h0, hok, i, b, b', l, l', m', hle, g, g', r, e => by
    unfold Way.from at e
    split at e
    · rename_i k' hk
      obtain ⟨k, e1, gk, gk', rk⟩ := Step.mono sealed h s h0 hok.1 b b' l l' k' hle g g' r hk
      obtain ⟨m, e2, q⟩ := Way.from_mono sealed h rest h0 hok.2 (i + 1) b b' k k' m' hle gk gk' rk e
      exact ⟨m, by unfold Way.from; rw [e1]; exact e2, q⟩
    · rename_i f hf
      cases hd : Step.does sealed h s l' with
      | comes k => exact absurd hd (hf k)
      | told a p => rw [hd] at e; cases e
      | silent p => rw [hd] at e; cases e
theorem Step.mono (sealed : Bool) (h : Nat) : ∀ (s : Step), 0 < h → Step.ok h s → ∀ (b b' : Nat) (l l' m' : List Nat), b ≤ b' → Good b l → Good b' l' → Rel b l l' → Step.does sealed h s l' = .comes m' →
    ∃ m, Step.does sealed h s l = .comes m ∧ Good b m ∧ Good b' m' ∧ Rel b m m'
  | .road size ts lw, _, hok, b, b', l, l', m', hle, g, g', r, e => by
    unfold Step.does at e ⊢
    exact road_mono hok hle g g' r e
  | .join most, _, hok, b, b', l, l', m', hle, g, g', r, e => by
    unfold Step.does join at e
    split at e
    · cases e
    · rename_i q
      injection e with e
      subst e
      refine ⟨[b], ?_, good_one b, by rw [g'.sum]; exact good_one b', by rw [g'.sum]; exact rel_one hle⟩
      unfold Step.does join
      rw [if_neg (by have := rel_len r g'; omega), g.sum]
  | .tunnel w most t, _, hok, b, b', l, l', m', hle, g, g', r, e => by
    unfold Step.does at e ⊢
    obtain ⟨rfl, ha⟩ := tunnel_comes e
    refine ⟨l, tunnel_pass fun x hx => ?_, g, g', r⟩
    obtain ⟨y, hy, hxy⟩ := rel_mem r g' x hx
    obtain ⟨k', hk', hl'⟩ := ha y hy
    obtain ⟨k, hk, gk, gk', rk⟩ := Way.mono sealed w hok.1 (h + x) (h + y) k' (by omega) hk'
    exact ⟨k, hk, by have := rel_len rk gk'; omega⟩
end
/-- a sealed letter is one piece -/
theorem Way.from_sealed (h : Nat) : ∀ (steps : List Step) (i b : Nat) (m : List Nat), Way.from true h steps i [b] = .comes m → m = [b]
  | [], i, b, m, e => by
    unfold Way.from at e
    injection e with e
    exact e.symm
  | s :: rest, i, b, m, e => by
    unfold Way.from at e
    split at e
    · rename_i k hk
      have hb : k = [b] := by
        cases s with
        | road size ts lw =>
          unfold Step.does at hk
          rcases road_comes hk with ⟨q, _⟩ | ⟨_, q, _⟩
          · exact q
          · cases q
        | join most =>
          unfold Step.does join at hk
          split at hk
          · cases hk
          · injection hk with hk
            simpa using hk.symm
        | tunnel w most t =>
          unfold Step.does at hk
          exact (tunnel_comes hk).1
      subst hb
      exact Way.from_sealed h rest (i + 1) b m e
    · rename_i f hf
      cases hd : Step.does true h s [b] with
      | comes k => exact absurd hd (hf k)
      | told a p => rw [hd] at e; cases e
      | silent p => rw [hd] at e; cases e
theorem Way.walk_sealed (w : Way) (b : Nat) (m : List Nat) (e : w.walk true b = .comes m) : m = [b] := by
  obtain ⟨h, steps⟩ := w
  exact Way.from_sealed h steps 0 b m e
theorem from_cons (sealed : Bool) (h : Nat) (x : Step) (s : List Step) (i : Nat) (l : List Nat) : Way.from sealed h (x :: s) i l = match Step.does sealed h x l with
    | .comes m => Way.from sealed h s (i + 1) m
    | f => seen i f := by
  conv => lhs; unfold Way.from
/-- one way behind another -/
theorem Way.from_append (sealed : Bool) (h : Nat) (r : List Step) : ∀ (s : List Step) (i : Nat) (l : List Nat), Way.from sealed h (s ++ r) i l = match Way.from sealed h s i l with
    | .comes m => Way.from sealed h r (i + s.length) m
    | f => f
  | [], i, l => by
    show Way.from sealed h r i l = _
    rw [show Way.from sealed h [] i l = .comes l by unfold Way.from; rfl]
    rfl
  | x :: s, i, l => by
    rw [List.cons_append, from_cons, from_cons]
    cases hd : Step.does sealed h x l with
    | comes k =>
      show Way.from sealed h (s ++ r) (i + 1) k = _
      rw [Way.from_append sealed h r s (i + 1) k]
      have e : i + 1 + s.length = i + (x :: s).length := by simp; omega
      rw [e]
    | told a p => rfl
    | silent p => rfl
/-- the places of the steps behind i: as if the way began there -/
def shift (i : Nat) : Fate → Fate
  | .told s (p :: q) => .told s ((p + i) :: q)
  | .silent (p :: q) => .silent ((p + i) :: q)
  | f => f
theorem shift_seen (i j : Nat) (f : Fate) : shift i (seen j f) = seen (j + i) f := by cases f <;> rfl
theorem Way.from_shift (sealed : Bool) (h i : Nat) : ∀ (s : List Step) (j : Nat) (l : List Nat), Way.from sealed h s (j + i) l = shift i (Way.from sealed h s j l)
  | [], j, l => by
    rw [show Way.from sealed h [] j l = .comes l by unfold Way.from; rfl, show Way.from sealed h [] (j + i) l = .comes l by unfold Way.from; rfl]
    rfl
  | x :: s, j, l => by
    rw [from_cons, from_cons]
    cases hd : Step.does sealed h x l with
    | comes k =>
      show Way.from sealed h s (j + i + 1) k = shift i (Way.from sealed h s (j + 1) k)
      rw [show j + i + 1 = j + 1 + i by omega]
      exact Way.from_shift sealed h i s (j + 1) k
    | told a p => exact (shift_seen i j _).symm
    | silent p => exact (shift_seen i j _).symm
end M

end
section
set_option Elab.async false
set_option linter.all false
set_option maxRecDepth 100000
set_option maxHeartbeats 4000000
/-! ## the program's ways: good ones -/
namespace WP
open PySem L2 G
def top (i : Nat) : Stmt := PySem.Challenge.pw_roadsizes_k04_whole_first_pieces_decide.main.body.getD i (.Pass ⟨0, 0, 0, 0⟩)
abbrev sInteger : Stmt := top 3
abbrev sWithin : Stmt := top 4
abbrev sBody : Stmt := top 5
abbrev sMost : Stmt := top 40
abbrev sList : Stmt := top 38
abbrev sStep : Stmt := top 42
abbrev sRoad : Stmt := top 39
abbrev sTells : Stmt := top 41
abbrev sHead : Stmt := top 37
abbrev sInit : Stmt := inClass (top 36) 0
abbrev sLen : Stmt := inClass (top 36) 1
abbrev sAdd : Stmt := inClass (top 36) 5
structure Bn (mg : Str → Option Value) : Prop where
  isi : mg "isinstance" = none
  bool : mg "bool" = none
  int : mg "int" = none
  tuple : mg "tuple" = none
  list : mg "list" = none
  len : mg "len" = none
  enum : mg "enumerate" = none
  max : mg "max" = none
  sum : mg "sum" = none
section
variable {P : Program} {w : World} {K : PySem.W.Frag} {mg : Str → Option Value} {base : Heap}
def spInteger : Sp := fun vs H Q _ => ∃ v : Int, vs = [.int v] ∧ Q (.bl true) H
theorem scIn : FnScope ["value"] ["value"] (defScope sInteger) := ⟨rfl, rfl, rfl, by decide +kernel, rfl, by decide +kernel, by decide +kernel⟩
theorem ok_integer {f : Addr} {fd : FuncData} (F : Fun K "is_integer" "is_integer" sInteger f fd) (B : Bn mg) : FnOk P w K mg base CX0 1 f fd ["value"] spInteger := by
  refine F.ok scIn (fun vs H Q E h => ?_) (fun cdv A outer s H vs Q E hr h => ?_)
  · obtain ⟨v, rfl, _⟩ := h
    rfl
  · obtain ⟨v, rfl, k⟩ := h
    refine ⟨_, pss_one (ps_ret (pe_and (pe_callB call_isi (by rfl) B.isi (by decide +kernel) (pa_cons (pv 0) (pa_cons (pe_bltn (v := .ty "int") (by rfl) B.int (by decide +kernel) rfl) pa_nil)))
      (pe_one (pe_not (pe_callB call_isi (by rfl) B.isi (by decide +kernel) (pa_cons (pv 0) (pa_cons (pe_bltn (v := .ty "bool") (by rfl) B.bool (by decide +kernel) rfl) pa_nil))))))), ?_⟩
    exact ⟨_, rfl, _, _, _, _, _, rfl, .ty _, .base (.int _), kit_ty (r := true) (by decide +kernel), _, rfl, iteT ⟨_, rfl, _, _, _, _, _, rfl, .ty _, .base (.int _), kit_ty (r := false) (by decide +kernel), _, rfl, k⟩⟩
def spWithin : Sp := fun vs H Q _ => ∃ v a b : Int, vs = [.int v, .int a, .int b] ∧ Q (.bl (decide (a ≤ v ∧ v ≤ b))) H
theorem sc3 : FnScope ["value", "least", "greatest"] ["value", "least", "greatest"] (defScope sWithin) := ⟨rfl, rfl, rfl, by decide +kernel, rfl, by decide +kernel, by decide +kernel⟩
theorem ok_within {f fI : Addr} {fd fdI : FuncData} (F : Fun K "is_within" "is_within" sWithin f fd) (B : Bn mg) (FI : Fun K "is_integer" "is_integer" sInteger fI fdI) (gI : mg "is_integer" = some (.ref fI)) (bI : Binds K fdI ["value"] []) : FnOk P w K mg base CX0 2 f fd ["value", "least", "greatest"] spWithin := by
  have GI : FnOk P w K mg base CX0 1 fI fdI ["value"] spInteger := ok_integer FI B
  refine F.ok sc3 (fun vs H Q E h => ?_) (fun cdv A outer s H vs Q E hr h => ?_)
  · obtain ⟨v, a, b, rfl, _⟩ := h
    rfl
  · obtain ⟨v, a, b, rfl, k⟩ := h
    refine ⟨_, pss_one (ps_ret (pe_and (pe_call GI hr rfl gI FI.kp bI .nil pass0 (pa_cons (pv 0) pa_nil)) (pe_one (pe_chain op_le op_le (pv 1) (pv 0) (pv 2))))), ?_⟩
    refine ⟨_, rfl, v, rfl, _, rfl, iteT ?_⟩
    refine ⟨_, rfl, _, rfl, _, _, rfl, rfl, _, rfl, ?_⟩
    refine ite2 (fun h1 => ⟨_, rfl, _, _, rfl, rfl, ?_⟩) (fun h1 => ?_)
    · have e1 : a ≤ v := of_decide_eq_true h1
      have e : decide (a ≤ v ∧ v ≤ b) = decide (v ≤ b) := by
        by_cases z : v ≤ b
        · rw [decide_eq_true z, decide_eq_true ⟨e1, z⟩]
        · rw [decide_eq_false z, decide_eq_false fun q => z q.2]
      rw [e] at k
      exact k
    · have e : decide (a ≤ v ∧ v ≤ b) = false := decide_eq_false fun q => h1 (decide_eq_true q.1)
      rw [e] at k
      exact k
/-- is_body, _is_most of ints -/
def spIn1 (a b : Int) : Sp := fun vs H Q _ => ∃ v : Int, vs = [.int v] ∧ Q (.bl (decide (a ≤ v ∧ v ≤ b))) H
structure Wi (P : Program) (w : World) (K : PySem.W.Frag) (mg : Str → Option Value) (base : Heap) (f : Addr) (fd : FuncData) : Prop where
  ok : FnOk P w K mg base CX0 2 f fd ["value", "least", "greatest"] spWithin
  g : mg "is_within" = some (.ref f)
  k : PySem.W.keepIn K (.ref f) = true
  b : Binds K fd ["value", "least", "greatest"] []
theorem scB : FnScope ["value"] ["value"] (defScope sBody) := ⟨rfl, rfl, rfl, by decide +kernel, rfl, by decide +kernel, by decide +kernel⟩
theorem scM : FnScope ["value"] ["value"] (defScope sMost) := ⟨rfl, rfl, rfl, by decide +kernel, rfl, by decide +kernel, by decide +kernel⟩
theorem ok_body {f fW : Addr} {fd fdW : FuncData} {t : Tok} (F : Fun K "is_body" "is_body" sBody f fd) (W : Wi P w K mg base fW fdW) (g : mg "GREATEST_BODY" = some (.int 1000000000000000000 t)) : FnOk P w K mg base CX0 3 f fd ["value"] (spIn1 0 1000000000000000000) := by
  refine F.ok scB (fun vs H Q E h => ?_) (fun cdv A outer s H vs Q E hr h => ?_)
  · obtain ⟨v, rfl, _⟩ := h
    rfl
  · obtain ⟨v, rfl, k⟩ := h
    exact ⟨_, pss_one (ps_ret (pe_call W.ok hr rfl W.g W.k W.b .nil pass0 (pa_cons (pv 0) (pa_cons pe_int (pa_cons (pe_glob (v := .int 1000000000000000000) rfl g ⟨_, rfl⟩) pa_nil))))), _, rfl, v, 0, 1000000000000000000, rfl, k⟩
theorem ok_most {f fW : Addr} {fd fdW : FuncData} {t : Tok} (F : Fun K "is_most" "is_most" sMost f fd) (W : Wi P w K mg base fW fdW) (g : mg "GREATEST_MOST" = some (.int 1000000000000 t)) : FnOk P w K mg base CX0 3 f fd ["value"] (spIn1 1 1000000000000) := by
  refine F.ok scM (fun vs H Q E h => ?_) (fun cdv A outer s H vs Q E hr h => ?_)
  · obtain ⟨v, rfl, _⟩ := h
    rfl
  · obtain ⟨v, rfl, k⟩ := h
    exact ⟨_, pss_one (ps_ret (pe_call W.ok hr rfl W.g W.k W.b .nil pass0 (pa_cons (pv 0) (pa_cons pe_int (pa_cons (pe_glob (v := .int 1000000000000) rfl g ⟨_, rfl⟩) pa_nil))))), _, rfl, v, 1, 1000000000000, rfl, k⟩
theorem scHd : FnScope ["value"] ["value"] (defScope sHead) := ⟨rfl, rfl, rfl, by decide +kernel, rfl, by decide +kernel, by decide +kernel⟩
theorem ok_head {f fW : Addr} {fd fdW : FuncData} {t : Tok} (F : Fun K "is_head" "is_head" sHead f fd) (W : Wi P w K mg base fW fdW) (g : mg "GREATEST_HEAD" = some (.int 40 t)) : FnOk P w K mg base CX0 3 f fd ["value"] (spIn1 1 40) := by
  refine F.ok scHd (fun vs H Q E h => ?_) (fun cdv A outer s H vs Q E hr h => ?_)
  · obtain ⟨v, rfl, _⟩ := h
    rfl
  · obtain ⟨v, rfl, k⟩ := h
    exact ⟨_, pss_one (ps_ret (pe_call W.ok hr rfl W.g W.k W.b .nil pass0 (pa_cons (pv 0) (pa_cons pe_int (pa_cons (pe_glob (v := .int 40) rfl g ⟨_, rfl⟩) pa_nil))))), _, rfl, v, 1, 40, rfl, k⟩
end
end WP

end
section
set_option Elab.async false
set_option linter.all false
set_option maxRecDepth 100000
set_option maxHeartbeats 4000000
/-! ## ways on the heap -/
namespace M
mutual
def Way.depth : Way → Nat
  | .mk _ s => 1 + Step.deepest s
def Step.deepest : List Step → Nat
  | [] => 0
  | .tunnel w _ _ :: r => max w.depth (Step.deepest r)
  | .road _ _ _ :: r => Step.deepest r
  | .join _ :: r => Step.deepest r
end
mutual
def Way.size : Way → Nat
  | .mk _ s => s.length + Step.inner s
def Step.inner : List Step → Nat
  | [] => 0
  | .tunnel w _ _ :: r => w.size + Step.inner r
  | .road _ _ _ :: r => Step.inner r
  | .join _ :: r => Step.inner r
end
mutual
/-- a way that the program takes -/
def Way.fine : Way → Prop
  | .mk h s => (1 ≤ h ∧ h ≤ 40) ∧ (1 ≤ s.length ∧ s.length ≤ 12) ∧ Step.fineAll h s ∧ 1 + Step.deepest s ≤ 3 ∧ s.length + Step.inner s ≤ 40
def Step.fineAll (h : Nat) : List Step → Prop
  | [] => True
  | s :: r => Step.fine h s ∧ Step.fineAll h r
def Step.fine (h : Nat) : Step → Prop
  | .road size _ _ => h < size ∧ size ≤ 1000
  | .join most => 1 ≤ most ∧ most ≤ 1000000000000
  | .tunnel w most _ => Way.fine w ∧ 1 ≤ most ∧ most ≤ 1000000000000
end
end M
namespace WP
open PySem L2 G
def sdS (b : Bool) : Str := if b then "tell" else "drop"
def lwS : M.LW → Str
  | .cut => "cut"
  | .tell => "tell"
  | .drop => "drop"
def twS : M.TW → Str
  | .turn => "turn"
  | .keep => "keep"
  | .lose => "lose"
def flds (h : Int) (t : Addr) (D Z : Int) : List (Str × V) := putF "size" (.int Z) (putF "depth" (.int D) (putF "steps" (.ref t) (putF "head" (.int h) [])))
theorem nk : ¬ (("head" : Str) = "steps") ∧ ¬ (("head" : Str) = "depth") ∧ ¬ (("head" : Str) = "size") ∧ ¬ (("steps" : Str) = "depth") ∧ ¬ (("steps" : Str) = "size") ∧ ¬ (("depth" : Str) = "size") := by decide +kernel
theorem flds_head (h : Int) (t : Addr) (D Z : Int) : (flds h t D Z).lookup ("head" : Str) = some (.int h) := by
  unfold flds
  rw [lookup_putF, if_neg nk.2.2.1, lookup_putF, if_neg nk.2.1, lookup_putF, if_neg nk.1, lookup_putF, if_pos rfl]
theorem flds_steps (h : Int) (t : Addr) (D Z : Int) : (flds h t D Z).lookup ("steps" : Str) = some (.ref t) := by
  unfold flds
  rw [lookup_putF, if_neg nk.2.2.2.2.1, lookup_putF, if_neg nk.2.2.2.1, lookup_putF, if_pos rfl]
theorem flds_depth (h : Int) (t : Addr) (D Z : Int) : (flds h t D Z).lookup ("depth" : Str) = some (.int D) := by
  unfold flds
  rw [lookup_putF, if_neg nk.2.2.2.2.2, lookup_putF, if_pos rfl]
theorem flds_size (h : Int) (t : Addr) (D Z : Int) : (flds h t D Z).lookup ("size" : Str) = some (.int Z) := by
  unfold flds
  rw [lookup_putF, if_pos rfl]
mutual
/-- a way stands at a -/
def WayAt (C : Addr) (H : Hp) : M.Way → Addr → Prop
  | .mk h s, a => ∃ dx t xs, H a = some (.ins C dx (flds h t ((1 + M.Step.deepest s : Nat) : Int) ((s.length + M.Step.inner s : Nat) : Int))) ∧ H t = some (.tup xs) ∧ StepsAt C H s xs
def StepsAt (C : Addr) (H : Hp) : List M.Step → List V → Prop
  | [], xs => xs = []
  | s :: r, xs => ∃ x ys, xs = x :: ys ∧ StepAt C H s x ∧ StepsAt C H r ys
def StepAt (C : Addr) (H : Hp) : M.Step → V → Prop
  | .road size ts lw, x => ∃ t, x = .ref t ∧ H t = some (.tup [.str "road", .int (size : Int), .str (sdS ts), .str (lwS lw)])
  | .join most, x => ∃ t, x = .ref t ∧ H t = some (.tup [.str "join", .int (most : Int)])
  | .tunnel w most tw, x => ∃ t a, x = .ref t ∧ H t = some (.tup [.str "tunnel", .ref a, .int (most : Int), .str (twS tw)]) ∧ WayAt C H w a
end
mutual
theorem WayAt.mono {C : Addr} {H H' : Hp} (s : Same H H') : ∀ {w : M.Way} {a : Addr}, WayAt C H w a → WayAt C H' w a
  | .mk h st, a, x => by
    unfold WayAt at x ⊢
    obtain ⟨dx, t, xs, h1, h2, h3⟩ := x
    exact ⟨dx, t, xs, s _ _ h1, s _ _ h2, StepsAt.mono s h3⟩
theorem StepsAt.mono {C : Addr} {H H' : Hp} (s : Same H H') : ∀ {st : List M.Step} {xs : List V}, StepsAt C H st xs → StepsAt C H' st xs
  | [], xs, x => by
    unfold StepsAt at x ⊢
    exact x
  | y :: r, xs, x => by
    unfold StepsAt at x ⊢
    obtain ⟨u, ys, e, h1, h2⟩ := x
    exact ⟨u, ys, e, StepAt.mono s h1, StepsAt.mono s h2⟩
theorem StepAt.mono {C : Addr} {H H' : Hp} (s : Same H H') : ∀ {st : M.Step} {x : V}, StepAt C H st x → StepAt C H' st x
  | .road size ts lw, v, x => by
    unfold StepAt at x ⊢
    obtain ⟨t, e, h⟩ := x
    exact ⟨t, e, s _ _ h⟩
  | .join most, v, x => by
    unfold StepAt at x ⊢
    obtain ⟨t, e, h⟩ := x
    exact ⟨t, e, s _ _ h⟩
  | .tunnel w most tw, v, x => by
    unfold StepAt at x ⊢
    obtain ⟨t, a, e, h, h2⟩ := x
    exact ⟨t, a, e, s _ _ h, WayAt.mono s h2⟩
end
theorem StepsAt.get {C : Addr} {H : Hp} : ∀ {st : List M.Step} {xs : List V} {i : Nat} {x : V}, StepsAt C H st xs → xs[i]? = some x → ∃ s, st[i]? = some s ∧ StepAt C H s x
  | [], xs, i, x, h, e => by
    unfold StepsAt at h
    subst h
    cases e
  | y :: r, xs, 0, x, h, e => by
    unfold StepsAt at h
    obtain ⟨u, ys, rfl, h1, _⟩ := h
    cases e
    exact ⟨y, rfl, h1⟩
  | y :: r, xs, i + 1, x, h, e => by
    unfold StepsAt at h
    obtain ⟨u, ys, rfl, _, h2⟩ := h
    obtain ⟨s, a, b⟩ := StepsAt.get (i := i) h2 e
    exact ⟨s, a, b⟩
theorem StepsAt.len {C : Addr} {H : Hp} : ∀ {st : List M.Step} {xs : List V}, StepsAt C H st xs → xs.length = st.length
  | [], xs, h => by
    unfold StepsAt at h
    subst h
    rfl
  | y :: r, xs, h => by
    unfold StepsAt at h
    obtain ⟨u, ys, rfl, _, h2⟩ := h
    exact congrArg Nat.succ h2.len
theorem fine_get {h : Nat} : ∀ {st : List M.Step} {i : Nat} {s : M.Step}, M.Step.fineAll h st → st[i]? = some s → M.Step.fine h s
  | [], i, s, _, e => by cases e
  | y :: r, 0, s, f, e => by
    unfold M.Step.fineAll at f
    cases e
    exact f.1
  | y :: r, i + 1, s, f, e => by
    unfold M.Step.fineAll at f
    exact fine_get (i := i) f.2 e
end WP

end
section
set_option Elab.async false
set_option linter.all false
set_option maxRecDepth 100000
set_option maxHeartbeats 4000000
namespace WP
open PySem L2 G
theorem Same.of_upd {H : Hp} {p : Addr} {o : HO} (h : H p = none) : Same H (upd H p o) := fun a u e => by
  rw [upd_ne (ne_of_none e h)]
  exact e
/-- the class Way, the module's constants -/
structure Wt (K : PySem.W.Frag) (mg : Str → Option Value) (C : Addr) : Prop where
  g : mg "Way" = some (.ref C)
  cl : Cls K C
  nH : NoAttr K C "head"
  nS : NoAttr K C "steps"
  nD : NoAttr K C "depth"
  nZ : NoAttr K C "size"
  iA : PySem.W.findIn K (.ref C) "__class__" = some (some (.builtin "object.__class__"))
  iN : PySem.W.specialIn K (.builtin "object.__class__") "__get__" = some (some (.builtin "getset_descriptor.__get__"))
  iT : PySem.W.takesIn K (.builtin "object.__class__") = some true
  iM : PySem.W.mroIn K C (.type "object") = some true
  gHead : ∃ t, mg "GREATEST_HEAD" = some (.int 40 t)
  gRoad : ∃ t, mg "GREATEST_ROAD" = some (.int 1000 t)
  gMost : ∃ t, mg "GREATEST_MOST" = some (.int 1000000000000 t)
  gSteps : ∃ t, mg "MOST_STEPS" = some (.int 12 t)
  gDepth : ∃ t, mg "GREATEST_DEPTH" = some (.int 3 t)
  gSize : ∃ t, mg "GREATEST_SIZE" = some (.int 40 t)
  wS : ∃ a, mg "SEALED_WORDS" = some (.ref a) ∧ ∀ H, SqT K H a [.str "tell", .str "drop"]
  wL : ∃ a, mg "LOOSE_WORDS" = some (.ref a) ∧ ∀ H, SqT K H a [.str "cut", .str "tell", .str "drop"]
  wT : ∃ a, mg "TELLS_WORDS" = some (.ref a) ∧ ∀ H, SqT K H a [.str "turn", .str "keep", .str "lose"]
/-- a def of the text that is called by its name -/
structure Df (P : Program) (w : World) (K : PySem.W.Frag) (mg : Str → Option Value) (base : Heap) (k : Nat) (x : Str) (ps : List Str) (sp : Sp) : Prop where
  ex : ∃ (f : Addr) (fd : FuncData), FnOk P w K mg base CX0 k f fd ps sp ∧ mg x = some (.ref f) ∧ PySem.W.keepIn K (.ref f) = true ∧ Binds K fd ps []
section
variable {P : Program} {w : World} {K : PySem.W.Frag} {mg : Str → Option Value} {base : Heap} {C : Addr}
def spRoad : Sp := fun vs H Q _ => ∃ (size : Nat) (least : Int) (ts : Bool) (lw : M.LW), vs = [.int (size : Int), .str (sdS ts), .str (lwS lw), .int least] ∧ least ≤ (size : Int) ∧ size ≤ 1000 ∧ Q (.bl true) H
theorem in_sd (b : Bool) : inV (.str (sdS b)) [.str "tell", .str "drop"] = true := by cases b <;> decide +kernel
theorem in_lw (l : M.LW) : inV (.str (lwS l)) [.str "cut", .str "tell", .str "drop"] = true := by cases l <;> decide +kernel
theorem in_tw (l : M.TW) : inV (.str (twS l)) [.str "turn", .str "keep", .str "lose"] = true := by cases l <;> decide +kernel
theorem scR : FnScope ["size", "sealed", "loose", "least"] ["size", "sealed", "loose", "least"] (defScope sRoad) := ⟨rfl, rfl, rfl, by decide +kernel, rfl, by decide +kernel, by decide +kernel⟩
theorem ok_road {f : Addr} {fd : FuncData} (F : Fun K "is_road" "is_road" sRoad f fd) (T : Wt K mg C) (W : Df P w K mg base 2 "is_within" ["value", "least", "greatest"] spWithin) : FnOk P w K mg base CX0 3 f fd ["size", "sealed", "loose", "least"] spRoad := by
  obtain ⟨fW, fdW, GW, gW, kW, bW⟩ := W.ex
  obtain ⟨t1, g1⟩ := T.gRoad
  obtain ⟨aS, g2, q2⟩ := T.wS
  obtain ⟨aL, g3, q3⟩ := T.wL
  refine F.ok scR (fun vs H Q E h => ?_) (fun cdv A outer s H vs Q E hr h => ?_)
  · obtain ⟨size, least, ts, lw, rfl, _⟩ := h
    rfl
  · obtain ⟨size, least, ts, lw, rfl, hs, hs2, k⟩ := h
    refine ⟨_, pss_one (ps_ret (pe_and (pe_call GW hr rfl gW kW bW .nil pass0 (pa_cons (pv 0) (pa_cons (pv 3) (pa_cons (pe_glob (v := .int 1000) rfl g1 ⟨_, rfl⟩) pa_nil)))) (pe_and (pe_cmpR op_in_seq (pv 1) (pe_glob (v := .ref aS) rfl g2 rfl) (by rfl)) (pe_one (pe_cmpR op_in_seq (pv 2) (pe_glob (v := .ref aL) rfl g3 rfl) (by rfl)))))), ?_⟩
    have e : decide (least ≤ (size : Int) ∧ (size : Int) ≤ 1000) = true := decide_eq_true (by omega)
    refine ⟨_, rfl, _, rfl, (size : Int), least, 1000, rfl, ?_⟩
    rw [e]
    refine ⟨_, rfl, ?_⟩
    refine iteT ⟨_, rfl, aS, _, rfl, .inr (q2 _), rfl, rfl, ?_⟩
    rw [in_sd]
    refine ⟨_, rfl, iteT ⟨_, rfl, aL, _, rfl, .inr (q3 _), rfl, rfl, ?_⟩⟩
    rw [in_lw]
    exact k
def spTells : Sp := fun vs H Q _ => ∃ tw : M.TW, vs = [.str (twS tw)] ∧ Q (.bl true) H
theorem scT : FnScope ["value"] ["value"] (defScope sTells) := ⟨rfl, rfl, rfl, by decide +kernel, rfl, by decide +kernel, by decide +kernel⟩
theorem ok_tells {f : Addr} {fd : FuncData} (F : Fun K "is_tells" "is_tells" sTells f fd) (T : Wt K mg C) : FnOk P w K mg base CX0 1 f fd ["value"] spTells := by
  obtain ⟨aT, g2, q2⟩ := T.wT
  refine F.ok scT (fun vs H Q E h => ?_) (fun cdv A outer s H vs Q E hr h => ?_)
  · obtain ⟨tw, rfl, _⟩ := h
    rfl
  · obtain ⟨tw, rfl, k⟩ := h
    refine ⟨_, pss_one (ps_ret (pe_cmpR op_in_seq (pv 0) (pe_glob (v := .ref aT) rfl g2 rfl) (by rfl))), ?_⟩
    refine ⟨_, rfl, aT, _, rfl, .inr (q2 _), rfl, rfl, ?_⟩
    rw [in_tw]
    exact k
/-- is_step_list, of a list or a tuple -/
def spList (K : PySem.W.Frag) : Sp := fun vs H Q _ => ∃ (l : Addr) (xs : List V), vs = [.ref l] ∧ (H l = some (.lst xs) ∨ H l = some (.tup xs)) ∧ 1 ≤ xs.length ∧ xs.length ≤ 12 ∧ ∀ H', Same H H' → Q (.bl true) H'
theorem scLi : FnScope ["value"] ["value"] (defScope sList) := ⟨rfl, rfl, rfl, by decide +kernel, rfl, by decide +kernel, by decide +kernel⟩
theorem ok_list {f : Addr} {fd : FuncData} (F : Fun K "is_step_list" "is_step_list" sList f fd) (B : Bn mg) (T : Wt K mg C) : FnOk P w K mg base CX0 1 f fd ["value"] (spList K) := by
  obtain ⟨t1, g1⟩ := T.gSteps
  refine F.ok scLi (fun vs H Q E h => ?_) (fun cdv A outer s H vs Q E hr h => ?_)
  · obtain ⟨l, xs, rfl, _⟩ := h
    rfl
  · obtain ⟨l, xs, rfl, hl, l1, l2, k⟩ := h
    refine ⟨_, pss_one (ps_ret (pe_and (pe_callB call_isiT (by rfl) B.isi (by decide +kernel) (pa_cons (pv 0) (pa_cons (pe_tup (pa_cons (pe_bltn (v := .ty "list") (by rfl) B.list (by decide +kernel) rfl) (pa_cons (pe_bltn (v := .ty "tuple") (by rfl) B.tuple (by decide +kernel) rfl) pa_nil))) pa_nil)))
      (pe_one (pe_chain op_le op_le pe_int (pe_callB call_len_seq (by rfl) B.len PySem.boot_len (pa_cons (pv 0) pa_nil)) (pe_glob (v := .int 12) rfl g1 ⟨_, rfl⟩))))), ?_⟩
    refine ⟨_, rfl, by show 2 ≤ sizeLine; decide, fun p np => ?_⟩
    have sp : Same H (upd H p (.tup [.ty "list", .ty "tuple"])) := Same.of_upd np
    have fin : ∀ (n : Int), n = (xs.length : Int) → ∀ Q' : VK, (∀ H', Same H H' → Q' (.bl true) H') → (∃ i j, V.int 1 = .int i ∧ V.int n = .int j ∧ ∃ k, V.bl (decide (i ≤ j)) = .bl k ∧ if k = true then ∃ i2 j2, V.int n = .int i2 ∧ V.int 12 = .int j2 ∧ Q' (.bl (decide (i2 ≤ j2))) (upd H p (.tup [.ty "list", .ty "tuple"])) else Q' (.bl false) (upd H p (.tup [.ty "list", .ty "tuple"]))) := by
      intro n hn Q' k'
      refine ⟨_, _, rfl, rfl, _, rfl, ?_⟩
      rw [decide_eq_true (by omega)]
      refine iteT ⟨_, _, rfl, rfl, ?_⟩
      rw [decide_eq_true (by omega)]
      exact k' _ sp
    have kl : PySem.W.kitAny K (.type "list") [.type "list", .type "tuple"] = some true := by
      unfold PySem.W.kitAny
      rw [kit_ty (r := true) (by decide +kernel)]
    have kt : PySem.W.kitAny K (.type "tuple") [.type "list", .type "tuple"] = some true := by
      unfold PySem.W.kitAny
      rw [kit_ty (r := false) (by decide +kernel)]
      unfold PySem.W.kitAny
      rw [kit_ty (r := true) (by decide +kernel)]
    rcases hl with hl | hl
    · exact ⟨_, p, _, _, _, _, rfl, upd_same, .cons (.ty _) (.cons (.ty _) .nil), .base (.lst (sp _ _ hl)), kl, _, rfl, iteT ⟨_, rfl, l, xs, rfl, .inl (SqL.of (sp _ _ hl)), fin _ rfl _ k⟩⟩
    · exact ⟨_, p, _, _, _, _, rfl, upd_same, .cons (.ty _) (.cons (.ty _) .nil), .base (.tup (sp _ _ hl)), kt, _, rfl, iteT ⟨_, rfl, l, xs, rfl, .inr (SqT.of (sp _ _ hl)), fin _ rfl _ k⟩⟩
/-- _is_step of a good step -/
def spStep (C : Addr) : Sp := fun vs H Q _ => ∃ (x : V) (h : Nat) (st : M.Step), vs = [x, .int (h : Int)] ∧ StepAt C H st x ∧ M.Step.fine h st ∧ Q (.bl true) H
theorem scSt : FnScope ["value", "head", "kind"] ["value", "head"] (defScope sStep) := ⟨rfl, rfl, rfl, by decide +kernel, rfl, by decide +kernel, by decide +kernel⟩
theorem kinds : ("road" : Str) ≠ "join" ∧ ("road" : Str) ≠ "tunnel" ∧ ("join" : Str) ≠ "tunnel" ∧ ("join" : Str) ≠ "road" ∧ ("tunnel" : Str) ≠ "road" ∧ ("tunnel" : Str) ≠ "join" := by decide +kernel
theorem ok_step {f : Addr} {fd : FuncData} (F : Fun K "_is_step" "_is_step" sStep f fd) (B : Bn mg) (T : Wt K mg C) (WR : Df P w K mg base 3 "is_road" ["size", "sealed", "loose", "least"] spRoad) (WM : Df P w K mg base 3 "is_most" ["value"] (spIn1 1 1000000000000)) (WT : Df P w K mg base 1 "is_tells" ["value"] spTells) :
    FnOk P w K mg base CX0 5 f fd ["value", "head"] (spStep C) := by
  obtain ⟨fR, fdR, GR, gR, kR, bR⟩ := WR.ex
  obtain ⟨fM, fdM, GM, gM, kM, bM⟩ := WM.ex
  obtain ⟨fT, fdT, GT, gT, kT, bT⟩ := WT.ex
  refine F.ok scSt (fun vs H Q E h => ?_) (fun cdv A outer s H vs Q E hr h => ?_)
  · obtain ⟨x, h, st, rfl, _⟩ := h
    rfl
  · obtain ⟨x, h, st, rfl, hx, hf, k⟩ := h
    refine ⟨_, pss_cons (ps_if (PW.pt (pw_or (pt_not (pt_val (pe_callB call_isi (by rfl) B.isi (by decide +kernel) (pa_cons (pv 0) (pa_cons (pe_bltn (v := .ty "tuple") (by rfl) B.tuple (by decide +kernel) rfl) pa_nil))))) (pw_or1 (pt_cmpR (op_eq) (pe_callB call_len_seq (by rfl) B.len PySem.boot_len (pa_cons (pv 0) pa_nil)) (pe_int) (nomark _))))) (pss_one (ps_ret pe_bl)) (pss_nil))
      (pss_cons (ps_set (i := 2) scSt.nd rfl (Or.inl rfl) (pe_ix ix_tup (pv 0) pe_int (fun _ _ => rfl)))
      (pss_cons (ps_if (pt_cmpR (op_eq) (pv 2) (pe_str) (nomark _)) (pss_one (ps_ret (pe_and (pe_cmpR (op_eq) (pe_callB call_len_seq (by rfl) B.len PySem.boot_len (pa_cons (pv 0) pa_nil)) (pe_int) (nomark _)) (pe_one (pe_call GR (hr.mono (by decide)) rfl gR kR bR .nil pass0 (pa_cons (pe_ix ix_tup (pv 0) pe_int (fun _ _ => rfl)) (pa_cons (pe_ix ix_tup (pv 0) pe_int (fun _ _ => rfl)) (pa_cons (pe_ix ix_tup (pv 0) pe_int (fun _ _ => rfl)) (pa_cons (pe_op op_add (pv 1) (pe_int)) pa_nil))))))))) (pss_nil))
      (pss_cons (ps_if (pt_cmpR (op_eq) (pv 2) (pe_str) (nomark _)) (pss_one (ps_ret (pe_and (pe_cmpR (op_eq) (pe_callB call_len_seq (by rfl) B.len PySem.boot_len (pa_cons (pv 0) pa_nil)) (pe_int) (nomark _)) (pe_one (pe_call GM (hr.mono (by decide)) rfl gM kM bM .nil pass0 (pa_cons (pe_ix ix_tup (pv 0) pe_int (fun _ _ => rfl)) pa_nil)))))) (pss_nil))
      (pss_cons (ps_if (pt_cmpR (op_eq) (pv 2) (pe_str) (nomark _)) (pss_one (ps_ret (pe_and (pe_cmpR (op_eq) (pe_callB call_len_seq (by rfl) B.len PySem.boot_len (pa_cons (pv 0) pa_nil)) (pe_int) (nomark _)) (pe_and (pe_callB call_isi (by rfl) B.isi (by decide +kernel) (pa_cons (pe_ix ix_tup (pv 0) pe_int (fun _ _ => rfl)) (pa_cons (pe_glob (v := .ref C) rfl T.g rfl) pa_nil))) (pe_and (pe_call GM (hr.mono (by decide)) rfl gM kM bM .nil pass0 (pa_cons (pe_ix ix_tup (pv 0) pe_int (fun _ _ => rfl)) pa_nil)) (pe_one (pe_call GT (hr.mono (by decide)) rfl gT kT bT .nil pass0 (pa_cons (pe_ix ix_tup (pv 0) pe_int (fun _ _ => rfl)) pa_nil)))))))) (pss_nil))
      (pss_one (ps_ret pe_bl)))))), ?_⟩
    have pre : ∀ (t : Addr) (y : V) (ys : List V), x = .ref t → H t = some (.tup (y :: ys)) → ∀ (D : Ends) (rest : TS), rest D [some x, some (.int (h : Int)), some y] H →
        tSeq (tIfS (tOr (tNot (tB (tCB (rIsi K) (tCons (tVar 0) (tCons (tC (.ty "tuple")) tNil))))) (tTest (tOp rEq (tCB (fun xs H Q => ∃ p ys, xs = [.ref p] ∧ (SqL K H p ys ∨ SqT K H p ys) ∧ Q (.int ys.length) H) (tCons (tVar 0) tNil)) (tC (.int 0))))) (tRet (tC (.bl false))) tNext)
          (tSeq (tAsg (tOp (rIxT K) (tVar 0) (tC (.int 0))) (gName 2)) rest) D [some x, some (.int (h : Int)), none] H := by
      intro t y ys ex ht D rest q
      subst ex
      refine ⟨_, rfl, _, _, _, _, _, rfl, .ty _, .base (.tup ht), kit_ty (r := true) (by decide +kernel), _, rfl, iteF ⟨_, rfl, t, _, rfl, .inr (SqT.of ht), rfl, _, rfl, ?_⟩⟩
      have e : decide (V.int ((y :: ys).length : Int) = V.int 0) = false := decide_eq_false (by
        intro z
        injection z with z
        simp at z
        omega)
      rw [e]
      exact iteF ⟨_, rfl, t, _, _, y, rfl, rfl, SqT.of ht, (by exact atI_nat (xs := y :: ys) (j := 0) rfl), q⟩
    have yes : ∀ {a : Str}, decide (V.str a = V.str a) = true := decide_eq_true rfl
    have no : ∀ {a b : Str}, a ≠ b → decide (V.str a = V.str b) = false := fun h => decide_eq_false fun z => h (V.str.inj z)
    cases st with
    | road size ts lw =>
      unfold StepAt at hx
      unfold M.Step.fine at hf
      obtain ⟨t, rfl, ht⟩ := hx
      refine pre t _ _ rfl ht _ _ ⟨_, rfl, rfl, _, rfl, ?_⟩
      rw [yes]
      exact iteT ⟨_, rfl, t, _, rfl, .inr (SqT.of ht), rfl, _, rfl, iteT ⟨_, rfl, t, _, _, _, rfl, rfl, SqT.of ht, (by exact atI_nat (xs := [V.str "road", .int (size : Int), .str (sdS ts), .str (lwS lw)]) (j := 1) rfl), _, rfl, t, _, _, _, rfl, rfl, SqT.of ht, (by exact atI_nat (xs := [V.str "road", .int (size : Int), .str (sdS ts), .str (lwS lw)]) (j := 2) rfl), _, rfl, t, _, _, _, rfl, rfl, SqT.of ht, (by exact atI_nat (xs := [V.str "road", .int (size : Int), .str (sdS ts), .str (lwS lw)]) (j := 3) rfl), _, rfl, _, _, rfl, rfl, size, (h : Int) + 1, ts, lw, rfl, by omega, hf.2, k⟩⟩
    | join most =>
      unfold StepAt at hx
      unfold M.Step.fine at hf
      obtain ⟨t, rfl, ht⟩ := hx
      refine pre t _ _ rfl ht _ _ ⟨_, rfl, rfl, _, rfl, ?_⟩
      rw [no kinds.2.2.2.1]
      refine iteF ⟨_, rfl, rfl, _, rfl, ?_⟩
      rw [yes]
      refine iteT ⟨_, rfl, t, _, rfl, .inr (SqT.of ht), rfl, _, rfl, iteT ⟨_, rfl, t, _, _, _, rfl, rfl, SqT.of ht, (by exact atI_nat (xs := [V.str "join", V.int (most : Int)]) (j := 1) rfl), most, rfl, ?_⟩⟩
      rw [decide_eq_true (by omega)]
      exact k
    | tunnel w most tw =>
      unfold StepAt at hx
      unfold M.Step.fine at hf
      obtain ⟨t, a, rfl, ht, hw⟩ := hx
      refine pre t _ _ rfl ht _ _ ⟨_, rfl, rfl, _, rfl, ?_⟩
      rw [no kinds.2.2.2.2.1]
      refine iteF ⟨_, rfl, rfl, _, rfl, ?_⟩
      rw [no kinds.2.2.2.2.2]
      refine iteF ⟨_, rfl, rfl, _, rfl, ?_⟩
      rw [yes]
      obtain ⟨wh, ws⟩ := w
      unfold WayAt at hw
      obtain ⟨dx, u, xs, h1, _, _⟩ := hw
      have kit : PySem.W.kitOne K (.ref C) (.ref C) = some true := by
        unfold PySem.W.kitOne
        rw [if_pos (by simp)]
      refine iteT ⟨_, rfl, t, _, rfl, .inr (SqT.of ht), rfl, _, rfl, iteT ⟨_, rfl, t, _, _, _, rfl, rfl, SqT.of ht, (by exact atI_nat (xs := [V.str "tunnel", .ref a, .int (most : Int), .str (twS tw)]) (j := 1) rfl), _, _, _, _, true, rfl, .own C, .base (.ins h1 T.cl T.iA T.iN T.iT T.iM), kit, _, rfl, iteT ⟨_, rfl, t, _, _, _, rfl, rfl, SqT.of ht, (by exact atI_nat (xs := [V.str "tunnel", .ref a, .int (most : Int), .str (twS tw)]) (j := 2) rfl), most, rfl, ?_⟩⟩⟩
      rw [decide_eq_true (by omega)]
      exact ⟨_, rfl, iteT ⟨_, rfl, t, _, _, _, rfl, rfl, SqT.of ht, (by exact atI_nat (xs := [V.str "tunnel", .ref a, .int (most : Int), .str (twS tw)]) (j := 3) rfl), tw, rfl, k⟩⟩
end
end WP

end
section
set_option autoImplicit false
set_option Elab.async false
set_option linter.all false
set_option maxRecDepth 100000
set_option maxHeartbeats 4000000
namespace WP
open PySem L2 G PyProof.Rows
/-! ### a tuple that is counted through -/
theorem en_new {v : Value} {o : Obj} {Hd : Heap → Prop} (B : Begins v o Hd) : Meets (Builtin.«enumerate.__new__» ⟨[.type "enumerate", v], []⟩) (fun _ R u => Hd u.heap ∧ R (.ok (.ret (.ref (u.heap.push o).objs.size))) { u with heap := (u.heap.push o).push { cls := .type "enumerate", data := .fields #[.none, .bool false, .ref u.heap.objs.size, rawInt 0, .none, .none] } }) :=
  .of_wp fun prog w A R u h => by
    obtain ⟨x, g, d, k, os⟩ := u
    obtain ⟨h1, h⟩ := h
    have sb := sub_enumerate
    have q1 : ∀ {A2 : Around} {E : Value → Shared → Prop} {Q : Value → Shared → Prop}, Q (.ref x.objs.size) ⟨x.push o, g, d, k, os⟩ → wpAny (model prog w) A2 (pyIter v) Q E ⟨x, g, d, k, os⟩ := fun q => B.iter prog w _ _ ⟨x, g, d, k, os⟩ _ h1 q
    wp_walk using q1
    refine wpAny_stack_any fun _ => wpAny_pure ?_
    split
    · rename_i c _ _ _ _ _
      cases (c == Value.type "enumerate") <;> (wp_walk using q1; exact ⟨_, rfl, h⟩)
    · (wp_walk using q1; exact ⟨_, rfl, h⟩)
theorem en_call {prog : Program} {w : World} {A : Around} {E : Value → Shared → Prop} {s : Shared} {v : Value} {o : Obj} {Hd : Heap → Prop} {Q : Value → Shared → Prop} (B : Begins v o Hd) (h1 : Hd s.heap)
    (h : ∀ u, IsEnum u (s.heap.objs.size + 1) s.heap.objs.size 0 .none → u.get? s.heap.objs.size = some o → (∀ b p, s.heap.get? b = some p → u.get? b = some p) → Q (.ref (s.heap.objs.size + 1)) { s with heap := u }) : wpAny (model prog w) A (call (.type "enumerate") [v]) Q E s := by
  refine callType_new F.called_enumerate (by decide) (F.typeCall_enumerate_1 _) (F.newCall_enumerate_1 _) (fun x => F.args_object_init_2 x _) F.entry_enumerate_new (en_new B) ⟨h1, ?_⟩
  have z : (s.heap.push o).objs.size = s.heap.objs.size + 1 := Heap.size_push ..
  show _ ∧ _
  rw [z]
  have he := Heap.get?_push_size (s.heap.push o) (o := { cls := .type "enumerate", data := .fields #[.none, .bool false, .ref s.heap.objs.size, rawInt 0, .none, .none] }) rfl
  rw [z] at he
  exact ⟨⟨_, he, rfl⟩, h _ he (Heap.get?_push_of_some _ (Heap.get?_push_size _ B.free)) fun b p e => Heap.get?_push_of_some _ (Heap.get?_push_of_some _ e)⟩
/-- the tuple at a, each item in a new pair behind its place -/
def Iet (K : PySem.W.Frag) (a : Addr) : It where
  go := fun i H => ∃ (xs : List V) (x : V), SqT K H a xs ∧ xs[i]? = some x
  yld := fun i H v H' => ∃ T x, v = .ref T ∧ H T = none ∧ H' = upd H T (.tup [.int (i : Nat), x]) ∧ ∀ xs, SqT K H a xs → xs[i]? = some x
  stop := fun i H => ∃ xs : List V, SqT K H a xs ∧ xs.length ≤ i
theorem turn_et {P : Program} {w : World} {K : PySem.W.Frag} {elts : List Expr} {kk : Nat} {tpos : Pos} (a e it : Addr) (hae : a ≠ e) (hai : a ≠ it) :
    Turn P w K (.Tuple elts kk tpos) (Iet K a) [e, it] e (fun i h => (∃ x, IsEnum h e it ((i : Nat) : Int) x) ∧ h.IsTupleIter it a i ∧ e ≠ it) where
  mem := List.mem_cons_self
  obj := fun i h st b hb => by
    obtain ⟨⟨x, he⟩, ⟨o, ho, hc, hd⟩, _⟩ := st
    rcases List.mem_cons.mp hb with z | z
    · subst z
      exact ⟨_, he, fun v q => nomatch q⟩
    · have z2 : b = it := by simpa using z
      subst z2
      exact ⟨o, ho, fun v q => by rw [hd] at q; cases q⟩
  keep := fun i h h' st k => by
    obtain ⟨⟨x, he⟩, hi, hn⟩ := st
    exact ⟨⟨x, k e (by simp) _ he⟩, hi.at fun o q => k it (by simp) o q, hn⟩
  item := by
    intro X hP hw hK hc i
    intro pins s σ H E I hf st hg
    subst hP hw hK
    obtain ⟨⟨_, he⟩, hit, hne⟩ := st
    obtain ⟨xs, x, hq, hx⟩ := hg
    obtain ⟨its, rv, p, lz⟩ := I.tuple hq
    obtain ⟨u, hu, ru⟩ := rv.get hx
    have hi : i < its.toArray.size := by
      have := List.getElem?_eq_some_iff.mp hu
      obtain ⟨z, _⟩ := this
      simpa using z
    have le : e < s.heap.objs.size := Heap.lt_size he
    have li : it < s.heap.objs.size := by
      obtain ⟨_, q, _⟩ := hit
      exact Heap.lt_size q
    have hef : e ∉ [it, a] := by
      intro z
      rcases List.mem_cons.mp z with z | z
      · exact hne z
      · have z2 : e = a := by simpa using z
        exact hae z2.symm
    refine wpAny_pyNext_enum_itemD (Draws.tuple (A := X.A.in1) (by exact I.ok.hd hc) it a hai its.toArray) he ⟨hit, show s.heap.IsTuple a its.toArray from p⟩ hi hne hef fun y h' tk hy ho hs hT hsz hk => ?_
    have ey : y = u := by
      have q : its.toArray[i]? = some u := by simpa using hu
      rw [q] at hy
      exact (Option.some.inj hy).symm
    subst ey
    refine ⟨_, rfl, wpAny_letOwnedTupleGo_enum (s := { s with heap := h', toks := tk + 1 }) ho fun h2 he2 sb => ?_⟩
    have hT2 : h2.get? s.heap.objs.size = some { cls := .type "tuple", data := .seq #[.int i tk, y] } := (sb.2 _ (Nat.ne_of_gt le)).trans hT
    have new : ObjOk X.prog X.w (upd H s.heap.objs.size (.tup [.int (i : Nat), x])) h2 s.heap.objs.size (.tup [.int (i : Nat), x]) :=
      ⟨by show 2 ≤ sizeLine; decide, [.int i tk, y], .cons ⟨_, rfl⟩ (.cons ru .nil), ⟨_, hT2, rfl, _, rfl⟩⟩
    have keep : ∀ b ob, b ∉ [e, it] → s.heap.get? b = some ob → h2.get? b = some ob := fun b ob hb q => (sb.2 b (fun z => hb (by simp [z]))).trans (hk b ob (fun z => hb (by simp [z])) (fun z => hb (by simp [z])) q)
    have I1 : Inv X pins σ (upd H s.heap.objs.size (.tup [.int (i : Nat), x])) { s with heap := h2, toks := tk + 1 } := I.turnedNew (ch := [e, it]) keep hf (Nat.le_refl _) new
    refine ⟨.ref s.heap.objs.size, _, I1, rfl, ⟨_, x, rfl, I.hok.fresh (Nat.le_refl _), rfl, fun ys hy => by rw [I.tuple_inj hy hq]; exact hx⟩, ⟨⟨y, ?_⟩, hs.1.at fun o q => (sb.2 it (Ne.symm hne)).trans q, hne⟩, fun b hb => ?_⟩
    · rw [show ((i + 1 : Nat) : Int) = (i : Int) + 1 by omega]
      exact he2
    · have lb : b < s.heap.objs.size := by
        rcases List.mem_cons.mp hb with z | z
        · rw [z]; exact le
        · rw [show b = it by simpa using z]; exact li
      rw [upd_ne (Nat.ne_of_lt lb)]
      exact (hf b hb).1
  done := by
    intro X hP hw hK hc i
    intro pins s σ H E I hf st hg
    subst hP hw hK
    obtain ⟨⟨_, he⟩, hit, hne⟩ := st
    obtain ⟨xs, hq, hx⟩ := hg
    obtain ⟨its, rv, p, lz⟩ := I.tuple hq
    have ⟨f0, f1, f2, f3, f4, f5⟩ := hf it (List.mem_cons_of_mem _ List.mem_cons_self)
    have hl := rv.length
    have hTe : s.TypeIs (.ref e) "enumerate" := ⟨_, he, rfl⟩
    unfold pyNext
    refine wpAny_bind (wpAny_attempt (wpAny_callSpecial?_slot (name := Str.ofString "__next__") hTe F.slot_enumerate_next (wpAny_call_entry F.slot_enumerate_next hTe F.entry_enumerate_next ?_ (F.args_enumerate_next_1 _))))
    refine (show wpAny _ _ (field (.ref e) 2 >>= _) _ _ _ from ?_)
    refine wpAny_bind (wpAny_field he rfl (x := .ref it) rfl (wpAny_bind (wpAny_nextOf_tuple_end (I.ok.hd hc) hit (show s.heap.IsTuple a its.toArray from p) (by simp; omega) fun h' x hx1 hx2 => ?_)))
    obtain ⟨o, ho, hc2⟩ := hx2
    exact wpAny_bind (wpAny_isInstance (T := "StopIteration") (b := true) ⟨o, ho, hc2⟩ isSubtype_stop (wpAny_pure ⟨rfl, I.turned (t' := s.toks) (fun b o hb q => hx1 b o hb q) f0 f1 f3 f4 f5⟩))
  self := fun _ _ s Q E st h => by
    obtain ⟨⟨x, he⟩, _⟩ := st
    exact wpAny_pyIter_enum he h
def iEnT (K : PySem.W.Frag) (ta : TA) : TI := fun σ H R => ta σ H fun vs H1 => ∃ a xs, vs = [.ref a] ∧ SqT K H1 a xs ∧ R (Iet K a) H1
theorem pi_et {X : Cx} {e : Expr} {ta : TA} {p pos tpos : Pos} {elts : List Expr} {kk : Nat} (hg : Gl X "enumerate") (hm : X.mg "enumerate" = none) (ha : PA X [e] ta) (hs : starEach [e] X.env = [(false, eval e X.env)] := by rfl) : PI X (.Tuple elts kk tpos) (.Call (.Name "enumerate" p) [e] [] pos) (iEnT X.K ta) := by
  constructor
  intro pins s σ H R I h
  refine Call_ (ld_blt I hg hm boot_enumerate (PyProof.Rows.callWith_type1 (thn (ha.run pos pins s σ H _ I h) fun us s1 ⟨vs, H1, I1, r1, a, xs, ex, hq, q⟩ => ?_) hs rfl))
  subst ex
  cases r1 with
  | cons r rr =>
    cases rr
    cases r
    obtain ⟨its, rv, p', hz⟩ := I1.tuple hq
    have p2 : s1.heap.IsTuple a its.toArray := p'
    have la : a < s1.heap.objs.size := by
      obtain ⟨_, q, _⟩ := p2
      exact Heap.lt_size q
    refine en_call (begins_tuple a its.toArray) p2 fun u he hit hk => wpAny_pyIter_enum he ?_
    have I2 : Inv X pins σ H1 { s1 with heap := u } := I1.kept (t' := s1.toks) hk
    refine ⟨_, [s1.heap.objs.size + 1, s1.heap.objs.size], _, _, H1, rfl, I2, turn_et a (s1.heap.objs.size + 1) s1.heap.objs.size (Nat.ne_of_lt (Nat.lt_succ_of_lt la)) (Nat.ne_of_lt la), ⟨⟨.none, he⟩, ⟨_, hit, rfl, rfl⟩, Nat.succ_ne_self _⟩, fun b hb => ?_, q⟩
    have sb : s1.heap.objs.size ≤ b := by
      rcases List.mem_cons.mp hb with z | z
      · rw [z]; exact Nat.le_add_right _ _
      · rw [show b = s1.heap.objs.size by simpa using z]
        exact Nat.le_refl _
    exact I1.fpOk sb (I1.hok.fresh sb)
theorem walk_et {K : PySem.W.Frag} {a : Addr} {xs : List V} : Walk (Iet K a) xs.length (fun H => SqT K H a xs) (YPair (fun i => some (.int (i : Nat))) (fun i => xs[i]?)) where
  goes := fun i _ hi q => ⟨xs, xs[i], q, by simp [hi]⟩
  stops := fun _ q => ⟨xs, q, Nat.le_refl _⟩
  yields := fun i H v H' _ q y => by
    obtain ⟨T, x, h1, h2, h3, h4⟩ := y
    exact ⟨T, _, x, h1, h2, h3, rfl, h4 xs q⟩
end WP

end
section
set_option autoImplicit false
set_option Elab.async false
set_option linter.all false
set_option maxRecDepth 100000
set_option maxHeartbeats 4000000
/-! ## Way.__init__ for good rows: the pieces -/
namespace M
def tuns : List Step → List Way
  | [] => []
  | .tunnel w _ _ :: r => w :: tuns r
  | .road _ _ _ :: r => tuns r
  | .join _ :: r => tuns r
theorem tuns_app : ∀ (l m : List Step), tuns (l ++ m) = tuns l ++ tuns m
  | [], m => rfl
  | .tunnel w a b :: r, m => by
    show w :: tuns (r ++ m) = w :: tuns r ++ tuns m
    rw [tuns_app r m]; rfl
  | .road a b c :: r, m => tuns_app r m
  | .join a :: r, m => tuns_app r m
theorem tuns_len : ∀ l : List Step, (tuns l).length ≤ l.length
  | [] => Nat.le_refl _
  | .tunnel w a b :: r => by
    show (tuns r).length + 1 ≤ r.length + 1
    exact Nat.succ_le_succ (tuns_len r)
  | .road a b c :: r => Nat.le_succ_of_le (tuns_len r)
  | .join a :: r => Nat.le_succ_of_le (tuns_len r)
theorem inner_eq : ∀ st : List Step, Step.inner st = ((tuns st).map Way.size).sum
  | [] => by simp [Step.inner, tuns]
  | .tunnel w a b :: r => by
    unfold Step.inner tuns
    rw [inner_eq r, List.map_cons, List.sum_cons]
  | .road a b c :: r => by
    unfold Step.inner tuns
    exact inner_eq r
  | .join a :: r => by
    unfold Step.inner tuns
    exact inner_eq r
theorem deepest_eq : ∀ st : List Step, Step.deepest st = (tuns st).foldr (fun w d => max w.depth d) 0
  | [] => by simp [Step.deepest, tuns]
  | .tunnel w a b :: r => by
    unfold Step.deepest tuns
    rw [deepest_eq r, List.foldr_cons]
  | .road a b c :: r => by
    unfold Step.deepest tuns
    exact deepest_eq r
  | .join a :: r => by
    unfold Step.deepest tuns
    exact deepest_eq r
theorem fold_max : ∀ (l : List Int) (a b : Int), (l.foldl max (max a b)) = max a (l.foldl max b)
  | [], a, b => rfl
  | c :: r, a, b => by
    show r.foldl max (max (max a b) c) = max a (r.foldl max (max b c))
    rw [Int.max_assoc, fold_max r a (max b c)]
theorem deep_max (ws : List Way) : (match ws.map fun w => ((w.depth : Nat) : Int) with | [] => (0 : Int) | n :: r => r.foldl max n) = ((ws.foldr (fun w d => max w.depth d) 0 : Nat) : Int) := by
  induction ws with
  | nil => rfl
  | cons w r ih =>
    show ((r.map fun w => ((w.depth : Nat) : Int)).foldl max ((w.depth : Nat) : Int)) = _
    cases r with
    | nil => show ((w.depth : Nat) : Int) = ((max w.depth 0 : Nat) : Int); rw [Nat.max_zero]
    | cons v q =>
      show ((q.map fun w => ((w.depth : Nat) : Int)).foldl max (max ((w.depth : Nat) : Int) ((v.depth : Nat) : Int))) = _
      rw [fold_max]
      have e : ((q.map fun w => ((w.depth : Nat) : Int)).foldl max ((v.depth : Nat) : Int)) = (((v :: q).foldr (fun w d => max w.depth d) 0 : Nat) : Int) := ih
      rw [e]
      show _ = ((max w.depth ((v :: q).foldr (fun w d => max w.depth d) 0) : Nat) : Int)
      omega
theorem sum_cast (ws : List Way) : (ws.map fun w => ((w.size : Nat) : Int)).sum = (((ws.map Way.size).sum : Nat) : Int) := by
  induction ws with
  | nil => rfl
  | cons w r ih => rw [List.map_cons, List.sum_cons, ih, List.map_cons, List.sum_cons]; omega
end M
namespace WP
open PySem L2 G
section
variable {X : Cx} {tg it : Expr}
theorem pi_or {w1 w2 : TI} (h1 : PI X tg it w1) (h2 : PI X tg it w2) : PI X tg it (fun σ H R => w1 σ H R ∨ w2 σ H R) := ⟨fun pins s σ H R I h => h.elim (h1.run pins s σ H R I) (h2.run pins s σ H R I)⟩
def tDead : TS := fun _ _ _ => False
theorem ps_dead {b : List Stmt} : PSs X b tDead := ⟨fun _ _ _ _ _ _ h => h.elim⟩
end
def SAt (H : Hp) (l : Addr) (xs : List V) : Prop := H l = some (.lst xs) ∨ H l = some (.tup xs)
theorem SAt.mono {H H' : Hp} {l : Addr} {xs : List V} (s : Same H H') (h : SAt H l xs) : SAt H' l xs := h.elim (fun e => .inl (s _ _ e)) fun e => .inr (s _ _ e)
section
variable {K : PySem.W.Frag} {H : Hp} {σ : St} {l : Addr} {xs : List V}
theorem or_seq {te : TE} {R : It → Hp → Prop} (ht : ∀ Q : VK, Q (.ref l) H → te σ H Q) (hl : SAt H l xs) (k : ∀ (J : It) (Gd : Hp → Prop), (∀ H', Same H H' → Gd H') → Walk J xs.length Gd (YAt xs) → R J H) : iList K te σ H R ∨ iTup K te σ H R :=
  hl.elim (fun e => .inl (ht _ ⟨l, rfl, ⟨xs, SqL.of e⟩, k _ _ (fun H' s => SqL.of (s _ _ e)) walk_list⟩)) fun e => .inr (ht _ ⟨l, rfl, ⟨xs, SqT.of e⟩, k _ _ (fun H' s => SqT.of (s _ _ e)) walk_tup⟩)
theorem or_enum {ta : TA} {R : It → Hp → Prop} (ht : ∀ Q : List V → Hp → Prop, Q [.ref l] H → ta σ H Q) (hl : SAt H l xs) (k : ∀ (J : It) (Gd : Hp → Prop), (∀ H', Same H H' → Gd H') → Walk J xs.length Gd (YPair (fun i => some (.int (i : Nat))) (fun i => xs[i]?)) → R J H) : iEnum K ta σ H R ∨ iEnT K ta σ H R :=
  hl.elim (fun e => .inl (ht _ ⟨l, xs, rfl, SqL.of e, k _ _ (fun H' s => SqL.of (s _ _ e)) walk_enum⟩)) fun e => .inr (ht _ ⟨l, xs, rfl, SqT.of e, k _ _ (fun H' s => SqT.of (s _ _ e)) walk_et⟩)
end
/-- ways at addresses -/
inductive WaysAt (C : Addr) (H : Hp) : List M.Way → List V → Prop
  | nil : WaysAt C H [] []
  | cons {w : M.Way} {a : Addr} {ws : List M.Way} {vs : List V} (h : WayAt C H w a) (t : WaysAt C H ws vs) : WaysAt C H (w :: ws) (.ref a :: vs)
theorem WaysAt.mono {C : Addr} {H H' : Hp} (s : Same H H') {ws : List M.Way} {vs : List V} (h : WaysAt C H ws vs) : WaysAt C H' ws vs := by
  induction h with
  | nil => exact .nil
  | cons h _ ih => exact .cons (h.mono s) ih
theorem WaysAt.snoc {C : Addr} {H : Hp} {ws : List M.Way} {vs : List V} {w : M.Way} {a : Addr} (h : WaysAt C H ws vs) (hw : WayAt C H w a) : WaysAt C H (ws ++ [w]) (vs ++ [.ref a]) := by
  induction h with
  | nil => exact .cons hw .nil
  | cons h _ ih => exact .cons h ih
theorem WaysAt.len {C : Addr} {H : Hp} {ws : List M.Way} {vs : List V} (h : WaysAt C H ws vs) : vs.length = ws.length := by
  induction h with
  | nil => rfl
  | cons _ _ ih => simp [ih]
theorem WaysAt.get {C : Addr} {H : Hp} {ws : List M.Way} {vs : List V} (h : WaysAt C H ws vs) : ∀ {i : Nat} {v : V}, vs[i]? = some v → ∃ w a, ws[i]? = some w ∧ v = .ref a ∧ WayAt C H w a := by
  induction h with
  | nil => intro i v e; cases e
  | cons h t ih =>
    intro i v e
    cases i with
    | zero => cases e; exact ⟨_, _, rfl, rfl, h⟩
    | succ i => obtain ⟨w, a, e1, e2, e3⟩ := ih (i := i) e; exact ⟨w, a, e1, e2, e3⟩
end WP

end
section
set_option autoImplicit false
set_option Elab.async false
set_option linter.all false
set_option maxRecDepth 100000
set_option maxHeartbeats 4000000
/-! ## Way.__init__ for good rows -/
namespace WP
open PySem L2 G
section
variable {P : Program} {w : World} {K : PySem.W.Frag} {mg : Str → Option Value} {base : Heap} {C : Addr}
abbrev NI : List Str := ["self", "head", "steps", "position", "step", "inner_ways", "depth", "size", "inner"]
theorem scI : FnScope NI ["self", "head", "steps"] (defScope sInit) := ⟨rfl, rfl, rfl, by decide +kernel, rfl, by decide +kernel, by decide +kernel⟩
/-- the ways of the tunnels -/
def tTuns (K : PySem.W.Frag) : TE := tLc (fun σ H R => iList K (tVar 2) σ H R ∨ iTup K (tVar 2) σ H R) (gName 4) (tTest (tOp rEq (tOp (rIxT K) (tVar 4) (tC (.int 0))) (tC (.str "tunnel")))) (tOp (rIxT K) (tVar 4) (tC (.int 1))) [4]
theorem add_upd {H G : Hp} {D : Addr} {o : HO} (nD : H D = none) (s : Same H G) : Same H (upd G D o) := fun b u e => by
  rw [upd_ne (ne_of_none e nD)]
  exact s _ _ e
theorem take_snoc {α : Type} {l : List α} {i : Nat} {x : α} (h : l[i]? = some x) : l.take (i + 1) = l.take i ++ [x] := by
  rw [List.take_succ, h]
  rfl
theorem tuns_run {σ : St} {H : Hp} {a0 a1 p q a5 a6 a7 a8 : Option V} {l : Addr} {xs : List V} {st : List M.Step} {Q : VK} (hσ : σ = [a0, a1, some (.ref l), p, q, a5, a6, a7, a8]) (hl : SAt H l xs) (hs : StepsAt C H st xs) (hn : xs.length ≤ 1000)
    (k : ∀ D vs H', Same H H' → H' D = some (.lst vs) → WaysAt C H (M.tuns st) vs → Q (.ref D) H') : tTuns K σ H Q := by
  subst hσ
  have yes : ∀ {a : Str}, decide (V.str a = V.str a) = true := decide_eq_true rfl
  have no : ∀ {a b : Str}, a ≠ b → decide (V.str a = V.str b) = false := fun h => decide_eq_false fun z => h (V.str.inj z)
  refine or_seq (fun Q h => ⟨_, rfl, h⟩) hl fun J Gd hG wk D nD => ?_
  refine lc_it wk (fun i G => Same H G ∧ ∃ acc, acc.length ≤ i ∧ G D = some (.lst acc) ∧ WaysAt C H (M.tuns (st.take i)) acc) ⟨Same.of_upd nD, [], Nat.le_refl _, upd_same, .nil⟩ (fun i G _ p => hG G p.1) ?_ ?_
  · rintro i v G G' hi ⟨s, acc, hA, hD, hw⟩ ⟨rfl, hx⟩
    obtain ⟨sp, hsp, hst⟩ := hs.get hx
    have et := take_snoc hsp
    have la : acc.length < sizeLine := Nat.lt_of_lt_of_le (Nat.lt_of_le_of_lt hA hi) (Nat.le_trans hn (by decide))
    have z1 : ∀ {y0 : V} {ys : List V}, atI (y0 :: ys) (0 : Int) = some y0 := fun {y0 ys} => by exact atI_nat (xs := y0 :: ys) (j := 0) rfl
    refine ⟨rfl, ?_⟩
    have hst2 := hst
    cases sp with
    | road size ts lw =>
      unfold StepAt at hst
      obtain ⟨t, rfl, ht⟩ := hst
      refine ⟨_, rfl, t, _, _, _, rfl, rfl, SqT.of (s _ _ ht), z1, rfl, _, rfl, ?_⟩
      rw [no kinds.2.1]
      refine iteF ⟨s, acc, Nat.le_succ_of_le hA, hD, ?_⟩
      rw [et, M.tuns_app]
      exact (List.append_nil _).symm ▸ hw
    | join most =>
      unfold StepAt at hst
      obtain ⟨t, rfl, ht⟩ := hst
      refine ⟨_, rfl, t, _, _, _, rfl, rfl, SqT.of (s _ _ ht), z1, rfl, _, rfl, ?_⟩
      rw [no kinds.2.2.1]
      refine iteF ⟨s, acc, Nat.le_succ_of_le hA, hD, ?_⟩
      rw [et, M.tuns_app]
      exact (List.append_nil _).symm ▸ hw
    | tunnel wy most tw =>
      unfold StepAt at hst
      obtain ⟨t, a, rfl, ht, hway⟩ := hst
      refine ⟨_, rfl, t, _, _, _, rfl, rfl, SqT.of (s _ _ ht), z1, rfl, _, rfl, ?_⟩
      rw [yes]
      refine iteT ⟨_, rfl, t, _, _, _, rfl, rfl, SqT.of (s _ _ ht), (by exact atI_nat (xs := [V.str "tunnel", V.ref a, V.int (most : Int), V.str (twS tw)]) (j := 1) rfl), acc, hD, la, add_upd nD s, _, by simp; exact hA, upd_same, ?_⟩
      rw [et, M.tuns_app]
      exact hw.snoc hway
  · rintro G ⟨s, acc, hA, hD, hw⟩
    have e : st.take xs.length = st := by rw [hs.len]; exact List.take_length
    rw [e] at hw
    exact k D acc G s hD hw
/-- a field of each of the ways, ints -/
def tFlds (K : PySem.W.Frag) (f : Str) : TE := tLc (iList K (tVar 5)) (gName 8) tYes (tFld K (tVar 8) f) [8]
theorem flds_run {f : Str} {g : M.Way → Int} {σ : St} {H : Hp} {a0 a1 a2 p q a6 a7 a8 : Option V} {D0 : Addr} {vs : List V} {ws : List M.Way} {Q : VK} (T : Wt K mg C) (nf : NoAttr K C f) (hg : ∀ H wy a, WayAt C H wy a → ∃ dx fs, H a = some (.ins C dx fs) ∧ fs.lookup f = some (.int (g wy)))
    (hσ : σ = [a0, a1, a2, p, q, some (.ref D0), a6, a7, a8]) (hl : H D0 = some (.lst vs)) (hw : WaysAt C H ws vs) (hn : vs.length ≤ 1000) (k : ∀ D H', Same H H' → H' D = some (.lst ((ws.map g).map V.int)) → Q (.ref D) H') : tFlds K f σ H Q := by
  subst hσ
  refine ⟨_, rfl, D0, rfl, ⟨vs, SqL.of hl⟩, fun D nD => ?_⟩
  refine lc_it walk_list (fun i G => Same H G ∧ G D = some (.lst ((((ws.take i).map g)).map V.int))) ⟨Same.of_upd nD, upd_same⟩ (fun i G _ p => SqL.of (p.1 _ _ hl)) ?_ ?_
  · rintro i v G G' hi ⟨s, hD⟩ ⟨rfl, hx⟩
    obtain ⟨wy, a, hwi, rfl, hat⟩ := hw.get hx
    obtain ⟨dx, fs, h1, h2⟩ := hg H wy a hat
    refine ⟨rfl, _, rfl, a, C, dx, fs, _, rfl, s _ _ h1, T.cl, nf, h2, _, hD, ?_, add_upd nD s, ?_⟩
    · rw [List.length_map, List.length_map, List.length_take]
      exact Nat.lt_of_le_of_lt (Nat.le_trans (Nat.min_le_left _ _) (Nat.le_of_lt (Nat.lt_of_lt_of_le hi hn))) (by decide)
    · rw [take_snoc hwi, List.map_append, List.map_append, upd_same]
      rfl
  · rintro G ⟨s, hD⟩
    have e : ws.take vs.length = ws := by rw [hw.len]; exact List.take_length
    rw [e] at hD
    exact k D G s hD
theorem depth_fld (H : Hp) (wy : M.Way) (a : Addr) (h : WayAt C H wy a) : ∃ dx fs, H a = some (.ins C dx fs) ∧ fs.lookup ("depth" : Str) = some (.int ((wy.depth : Nat) : Int)) := by
  obtain ⟨wh, ws⟩ := wy
  unfold WayAt at h
  obtain ⟨dx, t, xs, h1, _, _⟩ := h
  refine ⟨dx, _, h1, ?_⟩
  rw [flds_depth]
  unfold M.Way.depth
  rfl
theorem size_fld (H : Hp) (wy : M.Way) (a : Addr) (h : WayAt C H wy a) : ∃ dx fs, H a = some (.ins C dx fs) ∧ fs.lookup ("size" : Str) = some (.int ((wy.size : Nat) : Int)) := by
  obtain ⟨wh, ws⟩ := wy
  unfold WayAt at h
  obtain ⟨dx, t, xs, h1, _, _⟩ := h
  refine ⟨dx, _, h1, ?_⟩
  rw [flds_size]
  unfold M.Way.size
  rfl
end
end WP

end
section
set_option autoImplicit false
set_option Elab.async false
set_option linter.all false
set_option maxRecDepth 100000
set_option maxHeartbeats 4000000
/-! ## Way.__init__ for good rows: the def -/
namespace WP
open PySem L2 G
theorem set_then {te : TE} {i : Nat} {t2 : TS} {D : Ends} {σ : St} {H : Hp} (h : te σ H fun v H1 => t2 D (σ.set i (some v)) H1) : tSeq (tAsg te (gName i)) t2 D σ H := h
theorem add_of {tb : TE} {i : Int} {σ : St} {H : Hp} {Q : VK} (h : tb σ H fun y H2 => ∃ a b, V.int i = .int a ∧ y = .int b ∧ Q (.int (a + b)) H2) : tOp (rI0 fun i j => .int (i + j)) (tC (.int i)) tb σ H Q := h
theorem maxID_at {K : PySem.W.Frag} {H : Hp} {Q : VK} {a : Addr} {ns : List Int} {n : Int} (e : (match ns with | [] => (0 : Int) | n :: r => r.foldl max n) = n) (hq : SqL K H a (ns.map V.int)) (q : Q (.int n) H) : G.rMaxID K [.ref a] [.int 0] H Q := by
  subst e
  refine ⟨a, ns, 0, rfl, rfl, hq, ?_⟩
  cases ns <;> exact q
theorem maxD_of {K : PySem.W.Frag} {tl : TE} {σ : St} {H : Hp} {Q : VK} (h : tl σ H fun x H1 => G.rMaxID K [x] [.int 0] H1 Q) : tCKw (G.rMaxID K) (tCons tl tNil) (tCons (tC (.int 0)) tNil) σ H Q := h
theorem sum_of {K : PySem.W.Frag} {tl : TE} {σ : St} {H : Hp} {Q : VK} (h : tl σ H fun x H1 => rSum K [x] H1 Q) : tCB (rSum K) (tCons tl tNil) σ H Q := h
theorem len_add {K : PySem.W.Frag} {tl : TE} {σ : St} {H : Hp} {Q : VK} {l : Addr} {xs : List V} (hσ : σ[2]? = some (some (.ref l))) (hl : SAt H l xs) (h : tl σ H fun x H1 => rSum K [x] H1 fun y H2 => ∃ a b, V.int (xs.length : Int) = .int a ∧ y = .int b ∧ Q (.int (a + b)) H2) :
    tOp (rI0 fun i j => .int (i + j)) (tCB (fun zs H Q => ∃ p ys, zs = [.ref p] ∧ (SqL K H p ys ∨ SqT K H p ys) ∧ Q (.int ys.length) H) (tCons (tVar 2) tNil)) (tCB (rSum K) (tCons tl tNil)) σ H Q :=
  ⟨_, hσ, l, xs, rfl, hl.elim (fun e => .inl (SqL.of e)) (fun e => .inr (SqT.of e)), h⟩
theorem tup_or {K : PySem.W.Frag} {H : Hp} {l : Addr} {xs : List V} {Q : VK} (hl : SAt H l xs) (k : ∀ t G, Same H G → G t = some (.tup xs) → Q (.ref t) G) : (SqL K H l xs ∧ ∀ q, H q = none → Q (.ref q) (upd H q (.tup xs))) ∨ (SqT K H l xs ∧ Q (.ref l) H) :=
  hl.elim (fun e => .inl ⟨SqL.of e, fun q hq => k _ _ (Same.of_upd hq) upd_same⟩) fun e => .inr ⟨SqT.of e, k _ _ (Same.refl _) e⟩
theorem len_put {f : Str} {v : V} {fs : List (Str × V)} {n : Nat} (h : fs.length < n) : (putF f v fs).length < n + 1 := by
  exact Nat.lt_of_le_of_lt (length_putF f v fs) (Nat.succ_lt_succ h)
section
variable {P : Program} {w : World} {K : PySem.W.Frag} {mg : Str → Option Value} {base : Heap} {C : Addr}
/-- at a new instance x: steps of a list or a tuple, as they stood before it was made -/
def spInit (C : Addr) : Sp := fun vs H Q _ => ∃ (x l dx : Addr) (h : Nat) (xs : List V) (st : List M.Step) (H0 : Hp), vs = [.ref x, .int (h : Int), .ref l] ∧ H x = some (.ins C dx []) ∧ H0 x = none ∧ Same H0 H ∧ SAt H0 l xs ∧ StepsAt C H0 st xs ∧ M.Way.fine (.mk h st) ∧
  ∀ H', Same H0 H' → WayAt C H' (.mk h st) x → Q .non H'
theorem ok_init {f : Addr} {fd : FuncData} (F : Fun K "__init__" "Way.__init__" sInit f fd) (B : Bn mg) (T : Wt K mg C) (W : Df P w K mg base 3 "is_head" ["value"] (spIn1 1 40)) (WL : Df P w K mg base 1 "is_step_list" ["value"] (spList K)) (WS : Df P w K mg base 5 "_is_step" ["value", "head"] (spStep C)) :
    FnOk P w K mg base CX0 6 f fd ["self", "head", "steps"] (spInit C) := by
  obtain ⟨fW, fdW, GW, gW, kW, bW⟩ := W.ex
  obtain ⟨fL, fdL, GL, gL, kL, bL⟩ := WL.ex
  obtain ⟨fS, fdS, GS, gS, kS, bS⟩ := WS.ex
  obtain ⟨t2, g2⟩ := T.gDepth
  obtain ⟨t3, g3⟩ := T.gSize
  refine F.ok scI (fun vs H Q E h => ?_) (fun cdv A outer s H vs Q E hr h => ?_)
  · obtain ⟨x, l, dx, h, xs, st, H0, rfl, _⟩ := h
    rfl
  · obtain ⟨x, l, dx, h, xs, st, H0, rfl, hx, hx0, s0, hl, hs, hf, k⟩ := h
    have r1 := hr.mono (by decide : 1 ≤ 5)
    have r0 := hr.mono (by decide : 3 ≤ 5)
    refine ⟨_, pss_cons (ps_if (pt_not (pt_val (pe_call GW r0 rfl gW kW bW .nil pass0 (pa_cons (pv 1) pa_nil)))) ps_dead pss_nil)
      (pss_cons (ps_if (pt_not (pt_val (pe_call GL r1 rfl gL kL bL .nil pass0 (pa_cons (pv 2) pa_nil)))) ps_dead pss_nil)
      (pss_cons (ps_for PassesOwn.never rfl (pi_or (pi_enum (by rfl) B.enum (pa_cons (pv 2) pa_nil)) (pi_et (by rfl) B.enum (pa_cons (pv 2) pa_nil))) (pg_tup (by rfl) (pgs_cons (pg_name (i := 3) scI.nd rfl (Or.inl rfl)) (pgs_cons (pg_name (i := 4) scI.nd rfl (Or.inl rfl)) pgs_nil)))
        (pss_one (ps_if (pt_not (pt_val (pe_call GS hr rfl gS kS bS .nil pass0 (pa_cons (pv 4) (pa_cons (pv 1) pa_nil))))) ps_dead pss_nil)))
      (pss_cons (ps_setLc (i := 5) (own := [("step", 4)]) (g := gName 4) (tt := tTest (tOp rEq (tOp (rIxT K) (tVar 4) (tC (.int 0))) (tC (.str "tunnel")))) (te := tOp (rIxT K) (tVar 4) (tC (.int 1))) rfl scI.nd rfl rfl (sw_true rfl rfl rfl (by decide +kernel)) (pi_or (pi_list (pv 2)) (pi_tup (pv 2))) (blkOk_by (N := NI) (sc := defScope sInit) (by decide +kernel))
          (fun _ _ _ _ _ => pg_name (i := 4) scI.nd rfl (Or.inl rfl)) (fun _ _ _ _ _ => pts_one (by exact pt_cmpR op_eq (pe_ix ix_tup (pv 4) pe_int (fun _ _ => rfl)) pe_str (nomark _))) (fun _ _ _ _ _ => by exact pe_ix ix_tup (pv 4) pe_int (fun _ _ => rfl)))
      (pss_cons (ps_set (i := 6) scI.nd rfl (Or.inl rfl) (pe_op op_add pe_int (pe_callBK (G.call_maxID rfl hr.units) (by rfl) B.max (by decide +kernel) (pa_cons (pe_lc (own := [("inner", 8)]) (g := gName 8) (tt := tYes) (te := tFld K (tVar 8) "depth") rfl scI.nd (pi_list (pv 5)) (blkOk_by (N := NI) (sc := defScope sInit) (by decide +kernel))
          (fun _ _ _ _ _ => pg_name (i := 8) scI.nd rfl (Or.inl rfl)) (fun _ _ _ _ _ => pts_nil) (fun _ _ _ _ _ => by exact pe_fld (pv 8) rfl)) pa_nil) (pk_cons pe_int pk_nil))))
      (pss_cons (ps_if (pt_cmpR op_gt (pv 6) (pe_glob (v := .int 3) rfl g2 ⟨_, rfl⟩) (nomark _)) ps_dead pss_nil)
      (pss_cons (ps_set (i := 7) scI.nd rfl (Or.inl rfl) (pe_op op_add (pe_callB call_len_seq (by rfl) B.len PySem.boot_len (pa_cons (pv 2) pa_nil)) (pe_callB (cr_sum rfl) (by rfl) B.sum (by decide +kernel) (pa_cons (pe_lc (own := [("inner", 8)]) (g := gName 8) (tt := tYes) (te := tFld K (tVar 8) "size") rfl scI.nd (pi_list (pv 5)) (blkOk_by (N := NI) (sc := defScope sInit) (by decide +kernel))
          (fun _ _ _ _ _ => pg_name (i := 8) scI.nd rfl (Or.inl rfl)) (fun _ _ _ _ _ => pts_nil) (fun _ _ _ _ _ => by exact pe_fld (pv 8) rfl)) pa_nil))))
      (pss_cons (ps_if (pt_cmpR op_gt (pv 7) (pe_glob (v := .int 40) rfl g3 ⟨_, rfl⟩) (nomark _)) ps_dead pss_nil)
      (pss_cons (ps_fld (pv 0) (pv 1) rfl)
      (pss_cons (ps_fld (pv 0) (pe_callTy call_tuple_of (by rfl) B.tuple (by decide +kernel) (pa_cons (pv 2) pa_nil)) rfl)
      (pss_cons (ps_fld (pv 0) (pv 6) rfl)
      (pss_one (ps_fld (pv 0) (pv 7) rfl)))))))))))), ?_⟩
    unfold M.Way.fine at hf
    obtain ⟨hh, hn, hall, hd, hz⟩ := hf
    have ln := hs.len
    refine ⟨_, rfl, (h : Int), rfl, ?_⟩
    rw [decide_eq_true (by omega)]
    refine ⟨_, rfl, iteF ⟨_, rfl, l, xs, rfl, hl.mono s0, by omega, by omega, fun H1 s1 => ⟨_, rfl, iteF ?_⟩⟩⟩
    have S1 := s0.trans s1
    have hx1 : H1 x = some (.ins C dx []) := s1 _ _ hx
    clear s1 hx s0
    refine or_enum (fun Q h => ⟨_, rfl, h⟩) (hl.mono S1) fun J Gd hG wk => ?_
    refine for_it wk (fun i σ G => Same H1 G ∧ ∃ p q, σ = [some (.ref x), some (.int (h : Int)), some (.ref l), p, q, none, none, none, none]) ⟨Same.refl _, _, _, rfl⟩ (fun i σ G _ z => hG G z.1) ?_ ?_
    · rintro i v σ G G' hi ⟨s, p, q, rfl⟩ ⟨t, a, b, rfl, nt, rfl, e1, hb⟩
      cases e1
      obtain ⟨sp, hsp, hst⟩ := hs.get hb
      have s2 : Same H1 (upd G t (.tup [V.int (i : Nat), b])) := s.trans (Same.of_upd nt)
      refine ⟨t, _, rfl, SqT.of upd_same, rfl, _, _, rfl, _, _, rfl, rfl, ?_⟩
      exact ⟨_, rfl, _, rfl, b, h, sp, rfl, hst.mono (S1.trans s2), fine_get hall hsp, _, rfl, iteF ⟨s2, _, _, rfl⟩⟩
    · rintro σ G ⟨s, p, q, rfl⟩
      have S2 := S1.trans s
      have hx2 := s _ _ hx1
      dsimp only
      refine set_then (te := tTuns K) (i := 5) ?_
      refine tuns_run (st := st) (xs := xs) rfl (hl.mono S2) (hs.mono S2) (by omega) fun D0 vs H2 s3 hD0 hW => ?_
      have lw : vs.length ≤ 1000 := by
        have e1 := hW.len
        have e2 := M.tuns_len st
        omega
      refine set_then (i := 6) ?_
      refine add_of (i := 1) (maxD_of (tl := tFlds K "depth") ?_)
      refine flds_run (f := "depth") (g := fun w => ((w.depth : Nat) : Int)) T T.nD (fun H wy a => depth_fld H wy a) rfl hD0 (hW.mono s3) lw fun D1 H3 s4 hD1 => ?_
      refine maxID_at (M.deep_max _) (SqL.of hD1) ⟨_, _, rfl, rfl, ?_⟩
      rw [← M.deepest_eq]
      refine ⟨_, rfl, _, _, rfl, rfl, _, rfl, ?_⟩
      rw [decide_eq_false (by omega)]
      refine iteF ?_
      unfold tNext
      dsimp only
      have s5 := s3.trans s4
      refine set_then (i := 7) (len_add (l := l) (xs := xs) (tl := tFlds K "size") rfl (hl.mono (S2.trans s5)) ?_)
      refine flds_run (f := "size") (g := fun w => ((w.size : Nat) : Int)) T T.nZ (fun H wy a => size_fld H wy a) rfl (s4 _ _ hD0) (hW.mono s5) lw fun D2 H4 s6 hD2 => ?_
      refine ⟨D2, _, rfl, SqL.of hD2, _, _, rfl, rfl, ?_⟩
      rw [M.sum_cast, ← M.inner_eq]
      refine ⟨_, rfl, _, _, rfl, rfl, _, rfl, ?_⟩
      rw [decide_eq_false (by omega)]
      refine iteF ?_
      dsimp only
      have S4 : Same H0 H4 := S2.trans (s5.trans s6)
      have hx4 : H4 x = some (.ins C dx []) := s6 _ _ (s5 _ _ hx2)
      refine ⟨_, rfl, _, rfl, x, C, dx, [], rfl, hx4, T.cl, T.nH, by decide, ?_⟩
      have S5 : Same H0 (upd H4 x (.ins C dx (putF "head" (.int (h : Int)) []))) := add_upd hx0 S4
      have e1 : (1 : Int) + ((M.Step.deepest st : Nat) : Int) = ((1 + M.Step.deepest st : Nat) : Int) := by omega
      have e2 : ((xs.length : Nat) : Int) + ((M.Step.inner st : Nat) : Int) = ((st.length + M.Step.inner st : Nat) : Int) := by omega
      have fin : ∀ (t : Addr) (G2 : Hp), Same (upd H4 x (.ins C dx (putF "head" (.int (h : Int)) []))) G2 → G2 t = some (.tup xs) → tSeq (sFld K (tVar 0) (tC (.ref t)) "steps") (tSeq (sFld K (tVar 0) (tVar 6) "depth") (sFld K (tVar 0) (tVar 7) "size")) { nx := fun _ H' => Q V.non H', rt := Q } [some (.ref x), some (.int (h : Int)), some (.ref l), p, q, some (.ref D0), some (.int (1 + ((M.Step.deepest st : Nat) : Int))), some (.int ((xs.length : Int) + ((M.Step.inner st : Nat) : Int))), none] G2 := fun t G2 sG ht => by
        have hx5 : G2 x = some (.ins C dx (putF "head" (.int (h : Int)) [])) := sG _ _ upd_same
        have tx : t ≠ x := fun z => by
          rw [z, hx5] at ht
          cases ht
        have S6 := S5.trans sG
        rw [e1, e2]
        refine ⟨_, rfl, x, C, dx, _, rfl, hx5, T.cl, T.nS, len_put (by decide), ?_⟩
        refine ⟨_, rfl, _, rfl, x, C, dx, _, rfl, upd_same, T.cl, T.nD, len_put (len_put (by decide)), ?_⟩
        refine ⟨_, rfl, _, rfl, x, C, dx, _, rfl, upd_same, T.cl, T.nZ, len_put (len_put (len_put (by decide))), ?_⟩
        have S7 := add_upd (o := .ins C dx (flds (h : Int) t ((1 + M.Step.deepest st : Nat) : Int) ((st.length + M.Step.inner st : Nat) : Int))) hx0 (add_upd (o := .ins C dx (putF "depth" (.int ((1 + M.Step.deepest st : Nat) : Int)) (putF "steps" (.ref t) (putF "head" (.int (h : Int)) [])))) hx0 (add_upd (o := .ins C dx (putF "steps" (.ref t) (putF "head" (.int (h : Int)) []))) hx0 S6))
        refine k _ S7 ?_
        unfold WayAt
        exact ⟨dx, t, xs, upd_same, by rw [upd_ne tx, upd_ne tx, upd_ne tx]; exact ht, hs.mono S7⟩
      rcases hl.mono S5 with e | e
      · exact ⟨_, rfl, l, xs, rfl, .inl ⟨SqL.of e, fun t nt => fin t _ (Same.of_upd nt) upd_same⟩⟩
      · exact ⟨_, rfl, l, xs, rfl, .inr ⟨SqT.of e, fin l _ (Same.refl _) e⟩⟩
end
end WP

end
section
set_option autoImplicit false
set_option Elab.async false
set_option linter.all false
set_option maxRecDepth 100000
set_option maxHeartbeats 4000000
/-! ## fates on the heap; joins; what is seen from around -/
namespace WP
open PySem L2 G
abbrev sBJoin : Stmt := top 23
abbrev sTurned : Stmt := top 25
abbrev sSeen : Stmt := top 19
def ni (l : List Nat) : List V := (l.map fun n => ((n : Nat) : Int)).map V.int
theorem ni_len (l : List Nat) : (ni l).length = l.length := by
  unfold ni
  rw [List.length_map, List.length_map]
def FateAt (H : Hp) : M.Fate → V → Prop
  | .comes l, v => ∃ t L, v = .ref t ∧ H t = some (.tup [.str "comes", .ref L]) ∧ H L = some (.lst (ni l))
  | .told s p, v => ∃ t q, v = .ref t ∧ H t = some (.tup [.str "told", .int s, .ref q]) ∧ H q = some (.tup (ni p))
  | .silent p, v => ∃ t q, v = .ref t ∧ H t = some (.tup [.str "silent", .ref q]) ∧ H q = some (.tup (ni p))
theorem FateAt.mono {H H' : Hp} (s : Same H H') : ∀ {f : M.Fate} {v : V}, FateAt H f v → FateAt H' f v
  | .comes l, v, ⟨t, L, e, h1, h2⟩ => ⟨t, L, e, s _ _ h1, s _ _ h2⟩
  | .told z p, v, ⟨t, L, e, h1, h2⟩ => ⟨t, L, e, s _ _ h1, s _ _ h2⟩
  | .silent p, v, ⟨t, L, e, h1, h2⟩ => ⟨t, L, e, s _ _ h1, s _ _ h2⟩
theorem line2 : 2 ≤ sizeLine ∧ 3 ≤ sizeLine ∧ 1 ≤ sizeLine ∧ 0 ≤ sizeLine := by decide
theorem ret_silent {σ : St} {H : Hp} {Q : VK} (k : ∀ v H', Same H H' → FateAt H' (.silent []) v → Q v H') : tTup (tCons (tC (.str "silent")) (tCons (tTup tNil) tNil)) σ H Q :=
  ⟨line2.2.2.2, fun q hq => ⟨line2.1, fun t ht => k _ _ ((Same.of_upd hq).trans (Same.of_upd ht)) ⟨t, q, rfl, upd_same, Same.of_upd ht _ _ upd_same⟩⟩⟩
theorem ret_told {σ : St} {H : Hp} {Q : VK} {te : TE} {s : Int} (h : ∀ Q : VK, Q (.int s) H → te σ H Q) (k : ∀ v H', Same H H' → FateAt H' (.told s []) v → Q v H') : tTup (tCons (tC (.str "told")) (tCons te (tCons (tTup tNil) tNil))) σ H Q :=
  h _ ⟨line2.2.2.2, fun q hq => ⟨line2.2.1, fun t ht => k _ _ ((Same.of_upd hq).trans (Same.of_upd ht)) ⟨t, q, rfl, upd_same, Same.of_upd ht _ _ upd_same⟩⟩⟩
theorem sum_ni (l : List Nat) : (l.map fun n => ((n : Nat) : Int)).sum = ((l.sum : Nat) : Int) := by
  induction l with
  | nil => rfl
  | cons x l ih => rw [List.map_cons, List.sum_cons, List.sum_cons, ih]; omega
theorem catT_of {K : PySem.W.Frag} {H : Hp} {a b : Addr} {xs ys : List V} {Q : VK} (ha : H a = some (.tup xs)) (hb : H b = some (.tup ys)) (ne : xs ≠ []) (hl : xs.length + ys.length ≤ sizeLine) (k : ∀ u G, Same H G → G u = some (.tup (xs ++ ys)) → Q (.ref u) G) : rCatT K (.ref a) (.ref b) H Q :=
  ⟨a, b, xs, ys, rfl, rfl, SqT.of ha, SqT.of hb, ne, hl, fun e => k a H (Same.refl _) (by rw [e, List.append_nil]; exact ha), fun _ p hp => k p _ (Same.of_upd hp) upd_same⟩
def plen : M.Fate → Nat
  | .comes _ => 0
  | .told _ p => p.length
  | .silent p => p.length
section
variable {P : Program} {w : World} {K : PySem.W.Frag} {mg : Str → Option Value} {base : Heap} {C : Addr}
def spJoin : Sp := fun vs H Q _ => ∃ (t L : Addr) (most : Nat) (l : List Nat), vs = [.ref t, .ref L] ∧ H t = some (.tup [.str "join", .int (most : Int)]) ∧ H L = some (.lst (ni l)) ∧ ∀ v H', Same H H' → FateAt H' (M.join most l) v → Q v H'
theorem scJ : FnScope ["step", "stretches"] ["step", "stretches"] (defScope sBJoin) := ⟨rfl, rfl, rfl, by decide +kernel, rfl, by decide +kernel, by decide +kernel⟩
theorem ok_join {f : Addr} {fd : FuncData} (F : Fun K "_behind_join" "_behind_join" sBJoin f fd) (B : Bn mg) : FnOk P w K mg base CX0 1 f fd ["step", "stretches"] spJoin := by
  refine F.ok scJ (fun vs H Q E h => ?_) (fun cdv A outer s H vs Q E hr h => ?_)
  · obtain ⟨t, L, most, l, rfl, _⟩ := h
    rfl
  · obtain ⟨t, L, most, l, rfl, ht, hL, k⟩ := h
    refine ⟨_, pss_cons (ps_if (pt_cmpR op_gt (pe_callB call_len_seq (by rfl) B.len PySem.boot_len (pa_cons (pv 1) pa_nil)) (pe_ix ix_tup (pv 0) pe_int (fun _ _ => rfl)) (nomark _)) (pss_one (ps_ret (pe_tup (pa_cons pe_str (pa_cons (pe_tup pa_nil) pa_nil))))) pss_nil)
      (pss_one (ps_ret (pe_tup (pa_cons pe_str (pa_cons (pe_lst (pa_cons (pe_callB (cr_sum rfl) (by rfl) B.sum (by decide +kernel) (pa_cons (pv 1) pa_nil)) pa_nil)) pa_nil))))), ?_⟩
    refine ⟨_, rfl, L, _, rfl, .inl (SqL.of hL), _, rfl, t, _, _, _, rfl, rfl, SqT.of ht, (by exact atI_nat (xs := [V.str "join", V.int (most : Int)]) (j := 1) rfl), _, _, rfl, rfl, _, rfl, ?_⟩
    rw [ni_len]
    refine ite2 (fun c => ret_silent fun v H' s fa => k v H' s ?_) (fun c => ?_)
    · have c2 : (most : Int) < (l.length : Int) := of_decide_eq_true c
      unfold M.join
      rw [if_pos (by omega)]
      exact fa
    · have c2 : ¬ (most : Int) < (l.length : Int) := fun z => c (decide_eq_true z)
      refine ⟨_, rfl, L, _, rfl, SqL.of hL, ?_⟩
      rw [sum_ni]
      refine ⟨line2.2.2.1, fun a ha => ⟨line2.1, fun b hb => k _ _ ((Same.of_upd ha).trans (Same.of_upd hb)) ?_⟩⟩
      unfold M.join
      rw [if_neg (by omega)]
      exact ⟨b, a, rfl, upd_same, Same.of_upd hb _ _ upd_same⟩
/-- the end of an inner letter -/
def spTurned (C : Addr) : Sp := fun vs H Q _ => ∃ (v : V) (a : Addr) (fa : M.Fate) (wy : M.Way) (tw : M.TW), vs = [v, .ref a, .str (twS tw)] ∧ FateAt H fa v ∧ (∀ l, fa ≠ .comes l) ∧ WayAt C H wy a ∧ ∀ u H', Same H H' → FateAt H' (M.turned wy.head tw fa) u → Q u H'
theorem scTu : FnScope ["fate", "inner", "tells"] ["fate", "inner", "tells"] (defScope sTurned) := ⟨rfl, rfl, rfl, by decide +kernel, rfl, by decide +kernel, by decide +kernel⟩
theorem head_fld {H : Hp} {wy : M.Way} {a : Addr} (h : WayAt C H wy a) : ∃ dx fs, H a = some (.ins C dx fs) ∧ fs.lookup ("head" : Str) = some (.int ((wy.head : Nat) : Int)) := by
  obtain ⟨wh, ws⟩ := wy
  unfold WayAt at h
  obtain ⟨dx, t, xs, h1, _, _⟩ := h
  exact ⟨dx, _, h1, flds_head _ _ _ _⟩
theorem steps_fld {H : Hp} {wy : M.Way} {a : Addr} (h : WayAt C H wy a) : ∃ dx fs t xs, H a = some (.ins C dx fs) ∧ fs.lookup ("steps" : Str) = some (.ref t) ∧ H t = some (.tup xs) ∧ StepsAt C H wy.steps xs := by
  obtain ⟨wh, ws⟩ := wy
  unfold WayAt at h
  obtain ⟨dx, t, xs, h1, h2, h3⟩ := h
  exact ⟨dx, _, t, xs, h1, flds_steps _ _ _ _, h2, h3⟩
theorem fk : ("told" : Str) ≠ "silent" ∧ ("silent" : Str) ≠ "told" ∧ ("comes" : Str) ≠ "told" ∧ ("told" : Str) ≠ "comes" ∧ ("silent" : Str) ≠ "comes" := by decide +kernel
theorem tw_turn (t : M.TW) : decide (V.str (twS t) = V.str "turn") = decide (t = .turn) := by
  cases t
  · exact (decide_eq_true rfl).trans (decide_eq_true rfl).symm
  · exact (decide_eq_false fun z => absurd (V.str.inj z) (by decide +kernel)).trans (decide_eq_false fun z => by cases z).symm
  · exact (decide_eq_false fun z => absurd (V.str.inj z) (by decide +kernel)).trans (decide_eq_false fun z => by cases z).symm
theorem ok_turned {f : Addr} {fd : FuncData} (F : Fun K "_turned" "_turned" sTurned f fd) (T : Wt K mg C) : FnOk P w K mg base CX0 1 f fd ["fate", "inner", "tells"] (spTurned C) := by
  refine F.ok scTu (fun vs H Q E h => ?_) (fun cdv A outer s H vs Q E hr h => ?_)
  · obtain ⟨v, a, fa, wy, tw, rfl, _⟩ := h
    rfl
  · obtain ⟨v, a, fa, wy, tw, rfl, hfa, nc, hw, k⟩ := h
    refine ⟨_, pss_cons (ps_if (PW.pt (pw_and (pt_cmpR op_eq (pe_ix ix_tup (pv 0) pe_int (fun _ _ => rfl)) pe_str (nomark _)) (pw_and1 (pt_cmpR op_eq (pv 2) pe_str (nomark _)))))
        (pss_one (ps_ret (pe_tup (pa_cons pe_str (pa_cons (pe_op op_sub (pe_ix ix_tup (pv 0) pe_int (fun _ _ => rfl)) (pe_fld (pv 1) rfl)) (pa_cons (pe_ix ix_tup (pv 0) pe_int (fun _ _ => rfl)) pa_nil)))))) pss_nil)
      (pss_one (ps_ret (pe_tup (pa_cons pe_str (pa_cons (pe_ix ix_tup (pv 0) (pe_un un_neg pe_int) (fun _ _ => rfl)) pa_nil))))), ?_⟩
    have yes : ∀ {a : Str}, decide (V.str a = V.str a) = true := decide_eq_true rfl
    have no : ∀ {a b : Str}, a ≠ b → decide (V.str a = V.str b) = false := fun h => decide_eq_false fun z => h (V.str.inj z)
    obtain ⟨dx, fs, w1, w2⟩ := head_fld hw
    cases fa with
    | comes l => exact absurd rfl (nc l)
    | told z p =>
      obtain ⟨t, q, rfl, h1, h2⟩ := hfa
      have i0 : atI [V.str "told", V.int z, V.ref q] (0 : Int) = some (.str "told") := by exact atI_nat (j := 0) rfl
      have i1 : atI [V.str "told", V.int z, V.ref q] (1 : Int) = some (.int z) := by exact atI_nat (j := 1) rfl
      have i2 : atI [V.str "told", V.int z, V.ref q] (2 : Int) = some (.ref q) := by exact atI_nat (j := 2) rfl
      have im : atI [V.str "told", V.int z, V.ref q] (-1 : Int) = some (.ref q) := rfl
      refine ⟨_, rfl, t, _, _, _, rfl, rfl, SqT.of h1, i0, rfl, _, rfl, ?_⟩
      rw [yes]
      refine iteT ⟨_, rfl, rfl, _, rfl, ?_⟩
      rw [tw_turn]
      refine ite2 (fun c => ?_) (fun c => ?_)
      · have c2 : tw = .turn := of_decide_eq_true c
        refine ⟨_, rfl, t, _, _, _, rfl, rfl, SqT.of h1, i1, _, rfl, a, C, dx, fs, _, rfl, w1, T.cl, T.nH, w2, _, _, rfl, rfl, _, rfl, t, _, _, _, rfl, rfl, SqT.of h1, i2, line2.2.1, fun u hu => k _ _ (Same.of_upd hu) ?_⟩
        show FateAt _ (if tw = .turn then .told (z - wy.head) p else .silent p) _
        rw [if_pos c2]
        exact ⟨u, q, rfl, upd_same, Same.of_upd hu _ _ h2⟩
      · have c2 : tw ≠ .turn := fun z => c (decide_eq_true z)
        refine ⟨_, rfl, 1, rfl, t, _, _, _, rfl, rfl, SqT.of h1, im, line2.1, fun u hu => k _ _ (Same.of_upd hu) ?_⟩
        show FateAt _ (if tw = .turn then .told (z - wy.head) p else .silent p) _
        rw [if_neg c2]
        exact ⟨u, q, rfl, upd_same, Same.of_upd hu _ _ h2⟩
    | silent p =>
      obtain ⟨t, q, rfl, h1, h2⟩ := hfa
      have i0 : atI [V.str "silent", V.ref q] (0 : Int) = some (.str "silent") := by exact atI_nat (j := 0) rfl
      have im : atI [V.str "silent", V.ref q] (-1 : Int) = some (.ref q) := rfl
      refine ⟨_, rfl, t, _, _, _, rfl, rfl, SqT.of h1, i0, rfl, _, rfl, ?_⟩
      rw [no fk.2.1]
      refine iteF (iteF ⟨_, rfl, 1, rfl, t, _, _, _, rfl, rfl, SqT.of h1, im, line2.1, fun u hu => k _ _ (Same.of_upd hu) ?_⟩)
      exact ⟨u, q, rfl, upd_same, Same.of_upd hu _ _ h2⟩
/-- an end, seen from the way around the step -/
def spSeen : Sp := fun vs H Q _ => ∃ (v : V) (fa : M.Fate) (i : Nat), vs = [v, .int (i : Int)] ∧ FateAt H fa v ∧ plen fa ≤ 100 ∧ (∀ l, fa ≠ .comes l) ∧ ∀ u H', Same H H' → FateAt H' (M.seen i fa) u → Q u H'
theorem scSe : FnScope ["fate", "position"] ["fate", "position"] (defScope sSeen) := ⟨rfl, rfl, rfl, by decide +kernel, rfl, by decide +kernel, by decide +kernel⟩
def tSeen (K : PySem.W.Frag) : TE := tOp (rCatT K) (tSl (rSlT K) (tVar 0) (fun _ H Q => Q none H) (tPart (tUn (rU fun i => .int (-i)) (tC (.int 1))))) (tTup (tCons (tOp (rCatT K) (tTup (tCons (tVar 1) tNil)) (tOp (rIxT K) (tVar 0) (tUn (rU fun i => .int (-i)) (tC (.int 1))))) tNil))
theorem seen_run {H : Hp} {Q : VK} {i : Nat} (t q : Addr) (p : List Nat) (xs : List V) (ht : H t = some (.tup (xs ++ [.ref q]))) (hx : xs ≠ []) (hx2 : xs.length ≤ 2) (hq : H q = some (.tup (ni p))) (hp : p.length ≤ 100) (im : atI (xs ++ [V.ref q]) (-1 : Int) = some (.ref q)) (ec : cutV (xs ++ [V.ref q]) none (some (-1)) = xs)
    (en : HT.sIx (xs ++ [V.ref q]).length (xs ++ [V.ref q]).length (some (-1)) ≠ (xs ++ [V.ref q]).length) (kk : ∀ u r G, Same H G → G u = some (.tup (xs ++ [.ref r])) → G r = some (.tup (ni (i :: p))) → Q (.ref u) G) : tSeen K [some (.ref t), some (.int (i : Int))] H Q := by
  refine ⟨_, rfl, 1, rfl, -1, rfl, t, _, rfl, SqT.of ht, fun z => en z.2, fun a na => ?_⟩
  rw [ec]
  have s1 := Same.of_upd (o := .tup xs) na
  refine ⟨_, rfl, line2.2.2.1, fun b nb => ?_⟩
  have s2 := s1.trans (Same.of_upd (o := .tup [.int (i : Int)]) nb)
  refine ⟨_, rfl, 1, rfl, t, _, _, _, rfl, rfl, SqT.of (s2 _ _ ht), im, catT_of upd_same (s2 _ _ hq) (by simp) ?_ fun r G sr hr => ?_⟩
  · rw [ni_len]
    exact Nat.le_trans (by show 1 + p.length ≤ 101; omega) (by decide)
  · refine ⟨line2.2.2.1, fun d nd => catT_of ((Same.of_upd nd) _ _ (sr _ _ (Same.of_upd nb _ _ upd_same))) upd_same hx ?_ fun u G2 su hu => ?_⟩
    · exact Nat.le_trans (by show xs.length + 1 ≤ 3; omega) line2.2.1
    · exact kk u r G2 (s2.trans (sr.trans ((Same.of_upd nd).trans su))) hu (su _ _ (Same.of_upd nd _ _ hr))
theorem ok_seen {f : Addr} {fd : FuncData} (F : Fun K "_seen_from_way" "_seen_from_way" sSeen f fd) : FnOk P w K mg base CX0 1 f fd ["fate", "position"] spSeen := by
  refine F.ok scSe (fun vs H Q E h => ?_) (fun cdv A outer s H vs Q E hr h => ?_)
  · obtain ⟨v, fa, i, rfl, _⟩ := h
    rfl
  · obtain ⟨v, fa, i, rfl, hfa, pl, nc, k⟩ := h
    refine ⟨_, pss_one (ps_ret (pe_op op_catT (pe_slice sl_tup (pv 0) po_none (po_some (pe_un un_neg pe_int))) (pe_tup (pa_cons (pe_op op_catT (pe_tup (pa_cons (pv 1) pa_nil)) (pe_ix ix_tup (pv 0) (pe_un un_neg pe_int) (fun _ _ => rfl))) pa_nil)))), ?_⟩
    cases fa with
    | comes l => exact absurd rfl (nc l)
    | told z p =>
      obtain ⟨t, q, e, h1, h2⟩ := hfa
      subst e
      exact seen_run t q p [.str "told", .int z] h1 (by simp) (by simp) h2 pl rfl rfl (by show HT.sIx 3 3 (some (-1)) ≠ 3; decide) fun u r G sg h3 h4 => k _ _ sg ⟨u, r, rfl, h3, h4⟩
    | silent p =>
      obtain ⟨t, q, e, h1, h2⟩ := hfa
      subst e
      exact seen_run t q p [.str "silent"] h1 (by simp) (by simp) h2 pl rfl rfl (by show HT.sIx 2 2 (some (-1)) ≠ 2; decide) fun u r G sg h3 h4 => k _ _ sg ⟨u, r, rfl, h3, h4⟩
end
end WP

end
section
set_option autoImplicit false
set_option Elab.async false
set_option linter.all false
set_option maxRecDepth 100000
set_option maxHeartbeats 4000000
/-! ## cutting, roads -/
namespace WP
open PySem L2 G
abbrev sParts : Stmt := top 22
abbrev sBRoad : Stmt := top 21
theorem rs_of {x c : Nat} (c0 : 0 < c) : Builtin.Range.rangeSize 0 (x : Int) (c : Int) = (((x + c - 1) / c : Nat) : Int) := by
  rw [PyProof.Rows.rangeSize_pos (by omega) (by omega), show (x : Int) + (c : Int) - 1 = ((x + c - 1 : Nat) : Int) by omega, Int.natCast_ediv]
theorem rg_of {x c : Nat} (c0 : 0 < c) (c1 : c ≤ 1000000) (x1 : x ≤ 100000) : RgC 0 (x : Int) (c : Int) ((x + c - 1) / c) := by
  refine ⟨by omega, by omega, ?_, rs_of c0⟩
  have lt : (x + c - 1) / c ≤ x + c := Nat.le_trans (Nat.div_le_self _ _) (by omega)
  unfold Builtin.Range.small
  rw [rs_of c0]
  generalize (x + c - 1) / c = n at lt ⊢
  simp only [Builtin.Range.rangeFitsLong, Bool.and_eq_true, Bool.or_eq_true, decide_eq_true_eq, beq_iff_eq]
  split
  · refine ⟨by omega, .inr ?_⟩
    rw [Bool.and_eq_true, decide_eq_true_eq, decide_eq_true_eq]
    omega
  · omega
theorem inside {x c k : Nat} (c0 : 0 < c) (h : k < (x + c - 1) / c) : k * c < x := by
  have h2 := (Nat.le_div_iff_mul_le c0).mp h
  rw [Nat.succ_mul] at h2
  omega
section
variable {P : Program} {w : World} {K : PySem.W.Frag} {mg : Str → Option Value} {base : Heap} {C : Addr}
def spParts : Sp := fun vs H Q _ => ∃ x c : Nat, vs = [.int (x : Int), .int (c : Int)] ∧ 0 < c ∧ c ≤ 1000000 ∧ x ≤ 100000 ∧ ∀ L H', H L = none → Same H H' → H' L = some (.lst (ni (M.parts c x))) → Q (.ref L) H'
abbrev NP : List Str := ["stretch", "carried", "start"]
theorem scP : FnScope NP ["stretch", "carried"] (defScope sParts) := ⟨rfl, rfl, rfl, by decide +kernel, rfl, by decide +kernel, by decide +kernel⟩
theorem ok_parts {f : Addr} {fd : FuncData} (F : Fun K "_parts" "_parts" sParts f fd) (rng : mg "range" = none) (mn : mg "min" = none) : FnOk P w K mg base CX0 1 f fd ["stretch", "carried"] spParts := by
  refine F.ok scP (fun vs H Q E h => ?_) (fun cdv A outer s H vs Q E hr h => ?_)
  · obtain ⟨x, c, rfl, _⟩ := h
    rfl
  · obtain ⟨x, c, rfl, c0, c1, x1, k⟩ := h
    refine ⟨_, pss_one (ps_ret (pe_lc (own := [("start", 2)]) (g := gName 2) (tt := tYes) (te := tCB (fun xs H Q => ∃ i j, xs = [.int i, .int j] ∧ Q (.int (if j < i then j else i)) H) (tCons (tVar 1) (tCons (tOp (rI0 fun i j => .int (i - j)) (tVar 0) (tVar 2)) tNil))) rfl scP.nd (pi_range3 (by rfl) rng (pa_cons pe_int (pa_cons (pv 0) (pa_cons (pv 1) pa_nil)))) (blkOk_by (N := NP) (sc := defScope sParts) (by decide +kernel))
      (fun _ _ _ _ _ => pg_name (i := 2) scP.nd rfl (Or.inl rfl)) (fun _ _ _ _ _ => pts_nil) (fun _ _ _ _ _ => by exact pe_callB (call_min2 rfl) (by rfl) mn (by decide +kernel) (pa_cons (pv 1) (pa_cons (pe_op op_sub (pv 0) (pv 2)) pa_nil))))), ?_⟩
    have rg : RgC 0 (x : Int) (c : Int) ((x + c - 1) / c) := rg_of c0 c1 x1
    refine ⟨_, rfl, _, rfl, 0, (x : Int), (c : Int), _, rfl, rg, fun D nD => ?_⟩
    refine lc_it walk_rangeC (fun i G => Same H G ∧ G D = some (.lst (ni ((M.parts c x).take i)))) ⟨Same.of_upd nD, upd_same⟩ (fun i G _ p => trivial) ?_ ?_
    · rintro i v G G' hi ⟨s, hD⟩ ⟨rfl, rfl⟩
      have hk := inside c0 hi
      have lp : (M.parts c x).length = (x + c - 1) / c := by
        unfold M.parts
        rw [List.length_map, List.length_range]
      have e1 : (M.parts c x)[i]? = some (min c (x - i * c)) := by
        unfold M.parts
        rw [List.getElem?_map, List.getElem?_range hi]
        rfl
      have e2 : ((0 : Int) + (i : Nat) * (c : Int)) = ((i * c : Nat) : Int) := by rw [Int.zero_add, Int.natCast_mul]
      refine ⟨rfl, ?_⟩
      dsimp only
      rw [e2]
      refine ⟨_, rfl, _, rfl, _, rfl, _, _, rfl, rfl, _, _, rfl, _, hD, ?_, add_upd nD s, ?_⟩
      · rw [ni_len, List.length_take]
        exact Nat.lt_of_le_of_lt (Nat.le_trans (Nat.min_le_left _ _) (Nat.le_of_lt (Nat.lt_of_lt_of_le hi (Nat.le_trans (Nat.div_le_self _ _) (by omega : x + c - 1 ≤ 1100000))))) (by decide)
      · have e3 : (if ((x : Int) - ((i * c : Nat) : Int)) < (c : Int) then ((x : Int) - ((i * c : Nat) : Int)) else (c : Int)) = ((min c (x - i * c) : Nat) : Int) := by
          split <;> omega
        rw [take_snoc e1, e3, upd_same]
        unfold ni
        rw [List.map_append, List.map_append]
        rfl
    · rintro G ⟨s, hD⟩
      have e : (M.parts c x).take ((x + c - 1) / c) = M.parts c x := by
        apply List.take_of_length_le
        unfold M.parts
        rw [List.length_map, List.length_range]
        exact Nat.le_refl _
      rw [e] at hD
      exact k D G nD s hD
theorem len_sum : ∀ {l : List Nat}, (∀ x ∈ l, 0 < x) → l.length ≤ l.sum
  | [], _ => Nat.le_refl _
  | x :: l, h => by
    have h1 := h x List.mem_cons_self
    have h2 := len_sum (l := l) fun y hy => h y (List.mem_cons_of_mem _ hy)
    rw [List.length_cons, List.sum_cons]
    omega
theorem sum_take : ∀ (l : List Nat) (i : Nat), (l.take i).sum ≤ l.sum
  | [], i => by rw [List.take_nil]; exact Nat.le_refl _
  | x :: l, 0 => Nat.zero_le _
  | x :: l, i + 1 => by
    have := sum_take l i
    rw [List.take_succ_cons, List.sum_cons, List.sum_cons]
    omega
theorem mem_le_sum : ∀ {l : List Nat} {x : Nat}, x ∈ l → x ≤ l.sum
  | y :: l, x, h => by
    rw [List.sum_cons]
    rcases List.mem_cons.mp h with e | e
    · omega
    · have := mem_le_sum e
      omega
/-- the pieces of all stretches -/
def tCut (K : PySem.W.Frag) (E : XK) : TE := tLc2 (iList K (tVar 2)) (gName 10) tYes (iList K (tCall spParts [] E (tCons (tVar 10) (tCons (tVar 8) tNil)))) (gName 11) tYes (tVar 11) [10, 11] [11]
theorem ni_get {l : List Nat} {i : Nat} {v : V} (h : (ni l)[i]? = some v) : ∃ x, l[i]? = some x ∧ v = .int ((x : Nat) : Int) := by
  unfold ni at h
  rw [List.getElem?_map, List.getElem?_map] at h
  cases e : l[i]? with
  | none => rw [e] at h; cases h
  | some x => rw [e] at h; cases h; exact ⟨x, rfl, rfl⟩
theorem ni_app (l m : List Nat) : ni (l ++ m) = ni l ++ ni m := by
  unfold ni
  rw [List.map_append, List.map_append]
theorem ni_at {l : List Nat} {i : Nat} (h : i < l.length) : (ni l)[i]? = some (.int ((l[i] : Nat) : Int)) := by
  unfold ni
  rw [List.getElem?_map, List.getElem?_map, List.getElem?_eq_getElem h]
  rfl
theorem cut_run {E : XK} {H : Hp} {Q : VK} {a0 a1 a3 a4 a5 a6 a7 a9 a10 a11 : Option V} {L : Addr} {c : Nat} {l : List Nat} (hL : H L = some (.lst (ni l))) (c0 : 0 < c) (c1 : c ≤ 1000000) (hp : ∀ x ∈ l, 0 < x) (hs : l.sum ≤ 100000)
    (k : ∀ D H', Same H H' → H' D = some (.lst (ni (M.cutAll c l))) → Q (.ref D) H') : tCut K E [a0, a1, some (.ref L), a3, a4, a5, a6, a7, some (.int (c : Int)), a9, a10, a11] H Q := by
  refine ⟨_, rfl, L, rfl, ⟨_, SqL.of hL⟩, fun D nD => ?_⟩
  refine ⟨fun i m G => m = l.length - i ∧ i ≤ l.length ∧ Same H G ∧ G D = some (.lst (ni (M.cutAll c (l.take i)))), ⟨_, rfl, Nat.zero_le _, Same.of_upd nD, upd_same⟩, ?_⟩
  rintro i m G ⟨rfl, hi, s, hD⟩
  by_cases lt : i < l.length
  · refine .inr ⟨⟨ni l, _, SqL.of (s _ _ hL), ni_at lt⟩, fun G => i + 1 ≤ l.length ∧ Same H G ∧ G D = some (.lst (ni (M.cutAll c (l.take (i + 1))))), fun G' h => ⟨l.length - (i + 1), by omega, rfl, h.1, h.2.1, h.2.2⟩, ?_⟩
    rintro v G' ⟨rfl, hv⟩
    obtain ⟨x, hx, rfl⟩ := ni_get (hv _ (SqL.of (s _ _ hL)))
    have xm : x ∈ l := List.mem_of_getElem? hx
    have xp := hp x xm
    have x1 := mem_le_sum xm
    refine ⟨rfl, _, rfl, _, rfl, x, c, rfl, c0, c1, by omega, fun L1 G1 n1 s1 hL1 => ⟨L1, rfl, ⟨_, SqL.of hL1⟩, ?_⟩⟩
    have ne : L1 ≠ D := fun z => by rw [z, hD] at n1; cases n1
    refine ⟨fun j m2 G2 => m2 = (M.parts c x).length - j ∧ j ≤ (M.parts c x).length ∧ Same H G2 ∧ G2 L1 = some (.lst (ni (M.parts c x))) ∧ G2 D = some (.lst (ni (M.cutAll c (l.take i) ++ (M.parts c x).take j))), ⟨_, rfl, Nat.zero_le _, s.trans s1, hL1, by rw [List.take_zero, List.append_nil]; exact s1 _ _ hD⟩, ?_⟩
    rintro j m2 G2 ⟨rfl, hj, s2, h1, h2⟩
    by_cases lj : j < (M.parts c x).length
    · refine .inr ⟨⟨_, _, SqL.of h1, ni_at lj⟩, fun G3 => j + 1 ≤ (M.parts c x).length ∧ Same H G3 ∧ G3 L1 = some (.lst (ni (M.parts c x))) ∧ G3 D = some (.lst (ni (M.cutAll c (l.take i) ++ (M.parts c x).take (j + 1)))), fun G3 h => ⟨(M.parts c x).length - (j + 1), by omega, rfl, h.1, h.2.1, h.2.2.1, h.2.2.2⟩, ?_⟩
      rintro v G3 ⟨rfl, hv⟩
      obtain ⟨y, hy, rfl⟩ := ni_get (hv _ (SqL.of h1))
      refine ⟨rfl, _, rfl, _, h2, ?_, lj, add_upd nD s2, by rw [upd_ne ne]; exact h1, ?_⟩
      · rw [ni_len, List.length_append, List.length_take]
        have q1 : (M.cutAll c (l.take i)).length ≤ 100000 := by
          have hp2 : ∀ x ∈ l.take i, 0 < x := fun y hy => hp y (List.mem_of_mem_take hy)
          have z1 := M.cut_sum c0 hp2
          have z2 := sum_take l i
          refine Nat.le_trans (len_sum fun z hz => ?_) (by omega : (M.cutAll c (l.take i)).sum ≤ 100000)
          obtain ⟨u, hu, hz⟩ := List.mem_flatMap.mp hz
          exact (M.parts_pos c0 (hp2 u hu) z hz).1
        have q2 : (M.parts c x).length ≤ 100000 := Nat.le_trans (len_sum fun z hz => (M.parts_pos c0 xp z hz).1) (by rw [M.parts_sum c0 xp]; omega)
        exact Nat.lt_of_le_of_lt (by omega : _ ≤ 200000) (by decide)
      · rw [take_snoc hy, ← List.append_assoc, ni_app (_ ++ _), upd_same]
        rfl
    · refine .inl ⟨⟨_, SqL.of h1, by rw [ni_len]; omega⟩, lt, s2, ?_⟩
      have e : j = (M.parts c x).length := by omega
      rw [e, List.take_length] at h2
      rw [take_snoc hx]
      show G2 D = some (.lst (ni (List.flatMap (M.parts c) (l.take i ++ [x]))))
      rw [List.flatMap_append, List.flatMap_singleton]
      exact h2
  · refine .inl ⟨⟨_, SqL.of (s _ _ hL), by rw [ni_len]; omega⟩, ?_⟩
    have e : i = l.length := by omega
    rw [e, List.take_length] at hD
    exact k D G s hD
end
end WP

end
section
set_option autoImplicit false
set_option Elab.async false
set_option linter.all false
set_option maxRecDepth 100000
set_option maxHeartbeats 4000000
/-! ## a road -/
namespace WP
open PySem L2 G
section
variable {P : Program} {w : World} {K : PySem.W.Frag} {mg : Str → Option Value} {base : Heap} {C : Addr}
abbrev NR : List Str := ["way", "step", "stretches", "sealed", "_", "size", "sealed_word", "loose_word", "carried", "word", "stretch", "part"]
theorem scBR : FnScope NR ["way", "step", "stretches", "sealed"] (defScope sBRoad) := ⟨rfl, rfl, rfl, by decide +kernel, rfl, by decide +kernel, by decide +kernel⟩
def spBRoad (C : Addr) : Sp := fun vs H Q _ => ∃ (a t L : Addr) (se : Bool) (wy : M.Way) (size : Nat) (ts : Bool) (lw : M.LW) (b : Nat) (l : List Nat), vs = [.ref a, .ref t, .ref L, .bl se] ∧ WayAt C H wy a ∧ H t = some (.tup [.str "road", .int (size : Int), .str (sdS ts), .str (lwS lw)]) ∧
  H L = some (.lst (ni l)) ∧ M.Good b l ∧ b ≤ 100000 ∧ wy.head < size ∧ size ≤ 1000 ∧ ∀ v H', Same H H' → FateAt H' (M.road wy.head size ts lw se l) v → Q v H'
theorem sd_tell (b : Bool) : decide (V.str (sdS b) = V.str "cut") = false ∧ decide (V.str (sdS b) = V.str "tell") = b := by
  cases b
  · exact ⟨decide_eq_false fun z => absurd (V.str.inj z) (by decide +kernel), decide_eq_false fun z => absurd (V.str.inj z) (by decide +kernel)⟩
  · exact ⟨decide_eq_false fun z => absurd (V.str.inj z) (by decide +kernel), decide_eq_true rfl⟩
theorem lw_word (l : M.LW) : decide (V.str (lwS l) = V.str "cut") = decide (l = .cut) ∧ decide (V.str (lwS l) = V.str "tell") = decide (l = .tell) := by
  cases l
  · exact ⟨(decide_eq_true rfl).trans (decide_eq_true rfl).symm, (decide_eq_false fun z => absurd (V.str.inj z) (by decide +kernel)).trans (decide_eq_false fun z => by cases z).symm⟩
  · exact ⟨(decide_eq_false fun z => absurd (V.str.inj z) (by decide +kernel)).trans (decide_eq_false fun z => by cases z).symm, (decide_eq_true rfl).trans (decide_eq_true rfl).symm⟩
  · exact ⟨(decide_eq_false fun z => absurd (V.str.inj z) (by decide +kernel)).trans (decide_eq_false fun z => by cases z).symm, (decide_eq_false fun z => absurd (V.str.inj z) (by decide +kernel)).trans (decide_eq_false fun z => by cases z).symm⟩
theorem comes_of {te : TE} {σ : St} {H : Hp} {Q : VK} (h : te σ H fun x H1 => 2 ≤ sizeLine ∧ ∀ p, H1 p = none → Q (.ref p) (upd H1 p (.tup [.str "comes", x]))) : tTup (tCons (tC (.str "comes")) (tCons te tNil)) σ H Q := h
theorem ok_broad {f : Addr} {fd : FuncData} (F : Fun K "_behind_road" "_behind_road" sBRoad f fd) (B : Bn mg) (T : Wt K mg C) (WP : Df P w K mg base 1 "_parts" ["stretch", "carried"] spParts) : FnOk P w K mg base CX0 2 f fd ["way", "step", "stretches", "sealed"] (spBRoad C) := by
  obtain ⟨fP, fdP, GP, gP, kP, bP⟩ := WP.ex
  refine F.ok scBR (fun vs H Q E h => ?_) (fun cdv A outer s H vs Q E hr h => ?_)
  · obtain ⟨a, t, L, se, wy, size, ts, lw, b, l, rfl, _⟩ := h
    rfl
  · obtain ⟨a, t, L, se, wy, size, ts, lw, b, l, rfl, hw, ht, hL, gd, hb, h1, h2, k⟩ := h
    refine ⟨_, pss_cons (ps_asg (pv 1) (pg_tup (by rfl) (pgs_cons (pg_name (i := 4) scBR.nd rfl (.inl rfl)) (pgs_cons (pg_name (i := 5) scBR.nd rfl (.inl rfl)) (pgs_cons (pg_name (i := 6) scBR.nd rfl (.inl rfl)) (pgs_cons (pg_name (i := 7) scBR.nd rfl (.inl rfl)) pgs_nil))))))
      (pss_cons (ps_set (i := 8) scBR.nd rfl (Or.inr rfl) (pe_op op_sub (pv 5) (pe_fld (pv 0) rfl)))
      (pss_cons (ps_if (pt_cmpR op_le (pe_callB (cr_max rfl) (by rfl) B.max (by decide +kernel) (pa_cons (pv 2) pa_nil)) (pv 8) (nomark _)) (pss_one (ps_ret (pe_tup (pa_cons pe_str (pa_cons (pv 2) pa_nil))))) pss_nil)
      (pss_cons (ps_set (i := 9) scBR.nd rfl (Or.inl rfl) (pe_ifExp (pt_val (pv 3)) (pv 6) (pv 7)))
      (pss_cons (ps_if (pt_cmpR op_eq (pv 9) pe_str (nomark _)) (pss_one (ps_ret (pe_tup (pa_cons pe_str (pa_cons (pe_lc2 (own := [("stretch", 10), ("part", 11)]) (vs1 := [11]) (g := gName 10) (g1 := gName 11) (tt := tYes) (tt1 := tYes) (te := tVar 11) (wi1 := iList K (tCall spParts [] E (tCons (tVar 10) (tCons (tVar 8) tNil)))) rfl scBR.nd (pi_list (pv 2)) (blkOk_by (N := NR) (sc := defScope sBRoad) (by decide +kernel)) (by simp)
          (fun _ _ _ _ _ => pg_name (i := 10) scBR.nd rfl (Or.inl rfl)) (fun _ _ _ _ _ => pts_nil) (fun _ _ _ _ _ => by exact pi_list (pe_call GP hr rfl gP kP bP .nil pass0 (pa_cons (pv 10) (pa_cons (pv 8) pa_nil)))) (fun _ _ _ _ _ => pg_name (i := 11) scBR.nd rfl (Or.inl rfl)) (fun _ _ _ _ _ => pts_nil) (fun _ _ _ _ _ => by exact pv 11)) pa_nil))))) pss_nil)
      (pss_cons (ps_if (pt_cmpR op_eq (pv 9) pe_str (nomark _)) (pss_one (ps_ret (pe_tup (pa_cons pe_str (pa_cons (pv 5) (pa_cons (pe_tup pa_nil) pa_nil)))))) pss_nil)
      (pss_one (ps_ret (pe_tup (pa_cons pe_str (pa_cons (pe_tup pa_nil) pa_nil)))))))))), ?_⟩
    obtain ⟨dx, fs, w1, w2⟩ := head_fld hw
    refine ⟨_, rfl, t, _, rfl, SqT.of ht, rfl, _, _, rfl, _, _, rfl, _, _, rfl, _, _, rfl, rfl, ?_⟩
    refine ⟨_, rfl, _, rfl, a, C, dx, fs, _, rfl, w1, T.cl, T.nH, w2, _, _, rfl, rfl, ?_⟩
    dsimp only
    rw [show (size : Int) - ((wy.head : Nat) : Int) = ((size - wy.head : Nat) : Int) by omega]
    refine ⟨_, rfl, L, _, rfl, SqL.of hL, ?_, fun m hm hle => ⟨_, rfl, _, _, rfl, rfl, _, rfl, ite2 (fun c1 => ?_) (fun c1 => ?_)⟩⟩
    · rw [List.length_map]
      exact List.length_pos_iff.mpr gd.ne
    · have c2 : ∀ x ∈ l, x ≤ size - wy.head := fun x hx => by
        have z1 := hle ((x : Nat) : Int) (List.mem_map_of_mem hx)
        have z2 : m ≤ ((size - wy.head : Nat) : Int) := of_decide_eq_true c1
        omega
      refine ⟨_, rfl, line2.1, fun u hu => k _ _ (Same.of_upd hu) ?_⟩
      unfold M.road
      rw [if_pos c2]
      exact ⟨u, L, rfl, upd_same, Same.of_upd hu _ _ hL⟩
    · have c2 : ¬ ∀ x ∈ l, x ≤ size - wy.head := fun z => c1 (decide_eq_true (by
        obtain ⟨x, hx, e⟩ := List.mem_map.mp hm
        have := z x hx
        omega))
      have fate : ∀ v H', Same H H' → FateAt H' (if se then (if ts then .told (size : Int) [] else .silent []) else match lw with | .cut => .comes (M.cutAll (size - wy.head) l) | .tell => .told (size : Int) [] | .drop => .silent []) v → Q v H' := fun v H' s' fa => k v H' s' (by
        unfold M.road
        rw [if_neg c2]
        exact fa)
      unfold tNext
      dsimp only
      cases se with
      | true =>
        refine ⟨_, rfl, _, rfl, iteT ⟨_, rfl, ?_⟩⟩
        refine ⟨_, rfl, rfl, _, rfl, ?_⟩
        rw [(sd_tell ts).1]
        refine iteF ⟨_, rfl, rfl, _, rfl, ?_⟩
        rw [(sd_tell ts).2]
        cases ts with
        | true => exact iteT (ret_told (te := tVar 5) (s := (size : Int)) (fun Q h => ⟨_, rfl, h⟩) fate)
        | false => exact iteF (ret_silent fate)
      | false =>
        refine ⟨_, rfl, _, rfl, iteF ⟨_, rfl, ?_⟩⟩
        refine ⟨_, rfl, rfl, _, rfl, ?_⟩
        rw [(lw_word lw).1]
        cases lw with
        | cut =>
          have b0 : 0 < b := by
            rcases Nat.eq_zero_or_pos b with z | z
            · exfalso
              apply c2
              intro x hx
              rw [gd.zero z] at hx
              have : x = 0 := by simpa using hx
              omega
            · exact z
          refine iteT (comes_of (te := tCut K E) (cut_run hL (by omega) (by omega) (gd.pos b0) (by rw [gd.sum]; exact hb) fun D H' s' hD => ⟨line2.1, fun u hu => fate _ _ (s'.trans (Same.of_upd hu)) ⟨u, D, rfl, upd_same, Same.of_upd hu _ _ hD⟩⟩))
        | tell =>
          refine iteF ⟨_, rfl, rfl, _, rfl, ?_⟩
          rw [(lw_word .tell).2]
          exact iteT (ret_told (te := tVar 5) (s := (size : Int)) (fun Q h => ⟨_, rfl, h⟩) fate)
        | drop =>
          refine iteF ⟨_, rfl, rfl, _, rfl, ?_⟩
          rw [(lw_word .drop).2]
          exact iteF (ret_silent fate)
end
end WP

end
section
set_option autoImplicit false
set_option Elab.async false
set_option linter.all false
set_option maxRecDepth 100000
set_option maxHeartbeats 4000000
/-! ## tunnels: each stretch once -/
namespace M
def ddStep (acc : List Nat) (x : Nat) : List Nat := if x ∈ acc then acc else acc ++ [x]
def dd (l : List Nat) : List Nat := l.foldl ddStep []
section
variable {inner : Nat → Fate} {ih most : Nat} {t : TW} {L : List Nat}
def Passes (inner : Nat → Fate) (most : Nat) (x : Nat) : Prop := ∃ k, inner x = .comes k ∧ k.length ≤ most
theorem tunnel_skip {x : Nat} {r : List Nat} (h : Passes inner most x) : tunnel inner ih most t L (x :: r) = tunnel inner ih most t L r := by
  obtain ⟨k, e, hk⟩ := h
  conv => lhs; unfold tunnel
  rw [e]
  show (if k.length > most then _ else _) = _
  rw [if_neg (by omega)]
theorem tunnel_stop {x : Nat} {r s : List Nat} (h : ¬ Passes inner most x) : tunnel inner ih most t L (x :: r) = tunnel inner ih most t L (x :: s) := by
  unfold tunnel
  cases e : inner x with
  | comes k =>
    have hk : k.length > most := Nat.lt_of_not_le fun z => h ⟨k, e, z⟩
    show (if k.length > most then _ else _) = (if k.length > most then _ else _)
    rw [if_pos hk, if_pos hk]
  | told s p => rfl
  | silent p => rfl
theorem tunnel_pre : ∀ {a b : List Nat}, (∀ x ∈ a, Passes inner most x) → tunnel inner ih most t L (a ++ b) = tunnel inner ih most t L b
  | [], b, _ => rfl
  | x :: a, b, h => by
    rw [List.cons_append, tunnel_skip (h x List.mem_cons_self)]
    exact tunnel_pre fun y hy => h y (List.mem_cons_of_mem _ hy)
theorem tunnel_cut : ∀ {a b c : List Nat}, (¬ ∀ x ∈ a, Passes inner most x) → tunnel inner ih most t L (a ++ b) = tunnel inner ih most t L (a ++ c)
  | [], b, c, h => absurd (fun x hx => by cases hx) h
  | x :: a, b, c, h => by
    by_cases hx : Passes inner most x
    · rw [List.cons_append, List.cons_append, tunnel_skip hx, tunnel_skip hx]
      refine tunnel_cut fun z => h fun y hy => ?_
      rcases List.mem_cons.mp hy with e | e
      · exact e ▸ hx
      · exact z y e
    · rw [List.cons_append, List.cons_append]
      exact tunnel_stop hx
theorem dd_fold : ∀ (l acc : List Nat), tunnel inner ih most t L (l.foldl ddStep acc) = tunnel inner ih most t L (acc ++ l)
  | [], acc => by rw [List.append_nil]; rfl
  | x :: l, acc => by
    rw [List.foldl_cons, dd_fold l (ddStep acc x)]
    unfold ddStep
    split
    · rename_i hx
      by_cases h : ∀ y ∈ acc, Passes inner most y
      · rw [tunnel_pre h, tunnel_pre h, tunnel_skip (h x hx)]
      · exact tunnel_cut h
    · rw [List.append_assoc]
      rfl
theorem dd_tunnel (l : List Nat) : tunnel inner ih most t L (dd l) = tunnel inner ih most t L l := dd_fold l []
theorem dd_snoc (l : List Nat) (x : Nat) : dd (l ++ [x]) = ddStep (dd l) x := by
  unfold dd
  rw [List.foldl_append]
  rfl
theorem dd_mem_aux : ∀ (l acc : List Nat) (x : Nat), x ∈ l.foldl ddStep acc ↔ x ∈ acc ∨ x ∈ l
  | [], acc, x => by simp
  | y :: l, acc, x => by
    rw [List.foldl_cons, dd_mem_aux l]
    unfold ddStep
    split
    · rename_i hy
      rw [List.mem_cons]
      constructor
      · rintro (h | h)
        · exact .inl h
        · exact .inr (.inr h)
      · rintro (h | h | h)
        · exact .inl h
        · exact .inl (h ▸ hy)
        · exact .inr h
    · rw [List.mem_append, List.mem_singleton, List.mem_cons, or_assoc]
theorem dd_mem (l : List Nat) (x : Nat) : x ∈ dd l ↔ x ∈ l := (dd_mem_aux l [] x).trans (by simp)
end
end M
namespace WP
open PySem L2 G
def dk (l : List Nat) : List (Key × V) := l.map fun x => (Sum.inl ((x : Nat) : Int), V.bl true)
theorem dk_any (x : Nat) : ∀ l : List Nat, ((dk l).any fun kv => decide (kv.1 = (Sum.inl ((x : Nat) : Int) : Key))) = decide (x ∈ l)
  | [] => rfl
  | y :: l => by
    show (decide ((Sum.inl ((y : Nat) : Int) : Key) = Sum.inl ((x : Nat) : Int)) || (dk l).any fun kv => decide (kv.1 = (Sum.inl ((x : Nat) : Int) : Key))) = _
    rw [dk_any x l]
    by_cases h : x = y
    · subst h
      rw [decide_eq_true rfl, Bool.true_or, decide_eq_true List.mem_cons_self]
    · have e : decide ((Sum.inl ((y : Nat) : Int) : Key) = Sum.inl ((x : Nat) : Int)) = false := decide_eq_false fun z => h (by
        injection z with z
        omega)
      rw [e, Bool.false_or]
      by_cases q : x ∈ l
      · rw [decide_eq_true q, decide_eq_true (List.mem_cons_of_mem _ q)]
      · rw [decide_eq_false q, decide_eq_false fun z => (List.mem_cons.mp z).elim h q]
theorem dk_put (x : Nat) : ∀ l : List Nat, (dk l).map (fun kv => if kv.1 = (Sum.inl ((x : Nat) : Int) : Key) then (kv.1, V.bl true) else kv) = dk l
  | [] => rfl
  | y :: l => by
    show (if (Sum.inl ((y : Nat) : Int) : Key) = Sum.inl ((x : Nat) : Int) then (Sum.inl ((y : Nat) : Int), V.bl true) else (Sum.inl ((y : Nat) : Int), V.bl true)) :: _ = _ :: _
    rw [ite_self]
    exact congrArg _ (dk_put x l)
theorem put_dk (l : List Nat) (x : Nat) : putK (dk l) (Sum.inl ((x : Nat) : Int)) (V.bl true) = dk (M.ddStep l x) := by
  unfold putK M.ddStep
  rw [dk_any, dk_put]
  by_cases h : x ∈ l
  · rw [if_pos (decide_eq_true h), if_pos h]
  · rw [if_neg (fun z => h (of_decide_eq_true z)), if_neg h]
    unfold dk
    rw [List.map_append]
    rfl
theorem dd_len_aux : ∀ (l acc : List Nat), (l.foldl M.ddStep acc).length ≤ acc.length + l.length
  | [], acc => Nat.le_refl _
  | x :: l, acc => by
    rw [List.foldl_cons]
    refine Nat.le_trans (dd_len_aux l _) ?_
    unfold M.ddStep
    split <;> simp <;> omega
theorem dd_len (l : List Nat) : (M.dd l).length ≤ l.length := by
  have h := dd_len_aux l []
  rw [List.length_nil, Nat.zero_add] at h
  exact h
/-- each stretch once -/
def tDist (K : PySem.W.Frag) : TE := tDc (iList K (tVar 2)) (gName 9) tYes (tVar 9) (tC (.bl true)) [9]
theorem dist_run {K : PySem.W.Frag} {H : Hp} {Q : VK} {a0 a1 a3 a4 a5 a6 a7 a8 a9 a10 : Option V} {L : Addr} {l : List Nat} (hL : H L = some (.lst (ni l))) (hn : l.length ≤ 100000) (k : ∀ D H', H D = none → Same H H' → H' D = some (.dK (dk (M.dd l))) → Q (.ref D) H') :
    tDist K [a0, a1, some (.ref L), a3, a4, a5, a6, a7, a8, a9, a10] H Q := by
  refine ⟨_, rfl, L, rfl, ⟨_, SqL.of hL⟩, fun D nD => ?_⟩
  refine ⟨fun i m G => m = l.length - i ∧ i ≤ l.length ∧ Same H G ∧ G D = some (.dK (dk (M.dd (l.take i)))), ⟨_, rfl, Nat.zero_le _, Same.of_upd nD, upd_same⟩, ?_⟩
  rintro i m G ⟨rfl, hi, s, hD⟩
  by_cases lt : i < l.length
  · refine .inr ⟨⟨ni l, _, SqL.of (s _ _ hL), ni_at lt⟩, fun G => i + 1 ≤ l.length ∧ Same H G ∧ G D = some (.dK (dk (M.dd (l.take (i + 1))))), fun G' h => ⟨l.length - (i + 1), by omega, rfl, h.1, h.2.1, h.2.2⟩, ?_⟩
    rintro v G' ⟨rfl, hv⟩
    obtain ⟨x, hx, rfl⟩ := ni_get (hv _ (SqL.of (s _ _ hL)))
    refine ⟨rfl, _, rfl, _, Sum.inl ((x : Nat) : Int), rfl, hD, ?_, lt, add_upd nD s, ?_⟩
    · unfold dk
      rw [List.length_map]
      exact Nat.lt_of_le_of_lt (Nat.le_trans (dd_len _) (by rw [List.length_take]; omega : (l.take i).length ≤ 100000)) (by decide)
    · rw [put_dk, ← M.dd_snoc, ← take_snoc hx, upd_same]
  · refine .inl ⟨⟨_, SqL.of (s _ _ hL), by rw [ni_len]; omega⟩, ?_⟩
    have e : i = l.length := by omega
    rw [e, List.take_length] at hD
    exact k D G nD s hD
end WP

end
section
set_option autoImplicit false
set_option Elab.async false
set_option linter.all false
set_option maxRecDepth 100000
set_option maxHeartbeats 4000000
/-! ## a tunnel, by what a walk of its inner way tells -/
namespace M
theorem tunnel_at {inner : Nat → Fate} {ih most : Nat} {t : TW} {L l : List Nat} {i x : Nat} (hp : ∀ y ∈ (dd l).take i, Passes inner most y) (hx : (dd l)[i]? = some x) : tunnel inner ih most t L l = tunnel inner ih most t L (x :: (dd l).drop (i + 1)) := by
  obtain ⟨hi, ex⟩ := List.getElem?_eq_some_iff.mp hx
  have e : dd l = (dd l).take i ++ x :: (dd l).drop (i + 1) := by
    rw [← ex, ← List.drop_eq_getElem_cons hi, List.take_append_drop]
  rw [← dd_tunnel]
  have z := congrArg (tunnel inner ih most t L) e
  exact z.trans (tunnel_pre hp)
theorem tunnel_many {inner : Nat → Fate} {ih most : Nat} {t : TW} {L r m : List Nat} {x : Nat} (e : inner x = .comes m) (h : most < m.length) : tunnel inner ih most t L (x :: r) = .silent [] := by
  unfold tunnel
  rw [e]
  show (if m.length > most then _ else _) = _
  rw [if_pos h]
theorem tunnel_end {inner : Nat → Fate} {ih most : Nat} {t : TW} {L r : List Nat} {x : Nat} {f : Fate} (e : inner x = f) (h : ∀ m, f ≠ .comes m) : tunnel inner ih most t L (x :: r) = turned ih t f := by
  unfold tunnel
  rw [e]
  cases f with
  | comes m => exact absurd rfl (h m)
  | told s p => rfl
  | silent p => rfl
end M
namespace WP
open PySem L2 G
theorem iteNT {c A B : Prop} [Decidable c] (hc : ¬ c) (h : A) : if (!decide c) = true then A else B := by
  rw [decide_eq_false hc]
  exact iteT h
theorem FateAt.unlock {G : Hp} {D : Addr} {od : Obj} {u o : HO} (hD : G D = some (.frz od u)) : ∀ {f : M.Fate} {v : V}, FateAt G f v → FateAt (upd G D o) f v
  | .comes l, v, ⟨t, q, e, h1, h2⟩ => ⟨t, q, e, by rw [upd_ne fun z => by rw [z, hD] at h1; cases h1]; exact h1, by rw [upd_ne fun z => by rw [z, hD] at h2; cases h2]; exact h2⟩
  | .told s p, v, ⟨t, q, e, h1, h2⟩ => ⟨t, q, e, by rw [upd_ne fun z => by rw [z, hD] at h1; cases h1]; exact h1, by rw [upd_ne fun z => by rw [z, hD] at h2; cases h2]; exact h2⟩
  | .silent p, v, ⟨t, q, e, h1, h2⟩ => ⟨t, q, e, by rw [upd_ne fun z => by rw [z, hD] at h1; cases h1]; exact h1, by rw [upd_ne fun z => by rw [z, hD] at h2; cases h2]; exact h2⟩
abbrev sBTun : Stmt := top 24
/-- name = {..} on one line, the name a local -/
theorem swd_true {kx vx : Expr} {gs : List Comprehension} {sc : Scope} {pos p2 : Pos} {y : Str} {ln : Nat} {env : Env} (e1 : env.scope.kind = .function) (e2 : env.scope.names.lookup y = some .local) (e3 : (p2.line == pos.line) = true)
    (e4 : (sc.names.any fun (n, k) => n == y && (k == .local || k == .cell)) = false) : swapsWith (.DictComp kx vx gs sc pos) (some (.Name y p2)) ln env = pure true := by
  have q1 : env.kindOf y = some .local := e2
  have q2 : env.blockKind = .function := by unfold Env.blockKind; rw [e1]; rfl
  unfold swapsWith
  simp only [q2, q1, e4, Expr.pos, e3]
  rfl
theorem ps_setDc {X : Cx} {i : Nat} {y : Str} {p2 : Pos} {kx vx tg iter : Expr} {ifs : List Expr} {sc : Scope} {own : List (Str × Nat)} {pos spos : Pos} {wi : TI} {g : TG} {tt : TT} {tk tv : TE} (hc : X.calm = true) (hN : X.N.Nodup) (hy : X.N[i]? = some y) (hl : X.env.scope.names.lookup y = some .local)
    (sw : swapsWith (.DictComp kx vx [⟨tg, iter, ifs, 0⟩] sc pos) (some (.Name y p2)) spos.line X.env = pure true) (hi : PI X tg iter wi) (ok : BlkOk X.N X.env.scope sc own)
    (hg : ∀ (u : Shared) (G : Hp) (c : Addr) (cs : List (Str × Addr)) (fp : List Addr), PG (X.blk u G sc (compEnvC sc cs c X.env) fp) tg g) (ht : ∀ (u : Shared) (G : Hp) (c : Addr) (cs : List (Str × Addr)) (fp : List Addr), PTs (X.blk u G sc (compEnvC sc cs c X.env) fp) ifs tt)
    (hk : ∀ (u : Shared) (G : Hp) (c : Addr) (cs : List (Str × Addr)) (fp : List Addr), PE (X.blk u G sc (compEnvC sc cs c X.env) fp) kx tk) (hv : ∀ (u : Shared) (G : Hp) (c : Addr) (cs : List (Str × Addr)) (fp : List Addr), PE (X.blk u G sc (compEnvC sc cs c X.env) fp) vx tv) (hs : ∀ x, foldedSetIterable iter X.env x = pure x := by intro _; rfl) :
    PS X (.Assign [.Name y p2] (.DictComp kx vx [⟨tg, iter, ifs, 0⟩] sc pos) spos) (tAsg (tDc wi g tt tk tv (own.map (·.2))) (gName i)) := by
  constructor
  intro pins s σ H D I h
  rw [exec_Assign_Name_used _ _ _ _ sw]
  refine wpAny_bind (wpAny_standAt (s := s) (wpAny_bind ?_))
  show wpAny _ X.A (do let _ ← comprehension (.DictComp kx vx [⟨tg, iter, ifs, 0⟩] sc pos) sc X.env (firstIterPos [⟨tg, iter, ifs, 0⟩] pos) newDict false (eval iter X.env) (some (assign (.Name y p2) X.env))) _ _ s
  have h2 : tDc wi g tt tk tv (own.map (·.2)) σ H (fun x H1 => gName i x σ H1 D.nx) := h
  refine wpAny_bind (thn (dc_core (Qf := fun _ u => SP X pins D .next u) hc hN I hi ok hg ht hk hv hs h2 fun L c u m G I2 q hn f => ?_) fun _ _ hq => wpAny_pure (wpAny_pure hq))
  show wpAny _ _ (assign (.Name y p2) X.env (.ref L)) _ _ _
  refine wpAny_assign_Name (store_ok2 (v := V.ref L) I2 hN hy (.inl hl) rfl (fun s2 I3 ⟨a, sb, ha⟩ => ?_) (.inr hl))
  have ⟨f0, f1, f2, f3, f4, f5⟩ := f
  have ne : c ≠ a := ha.elim (fun z => by rw [z]; exact f1) fun z e => f4 y a z e.symm
  exact ⟨m, hn.sameBut sb ne, fun h3 sb3 => ⟨_, G, I3.turned (t' := s2.toks) (fun b o hb e => (sb3.2 b hb).trans e) f0 f1 f3 f4 f5, q⟩⟩
section
variable {P : Program} {w : World} {K : PySem.W.Frag} {mg : Str → Option Value} {base : Heap} {C : Addr}
/-- a walk of a way of a depth up to n -/
def spWalked (C : Addr) (n : Nat) : Sp := fun vs H Q _ => ∃ (a : Addr) (b : Nat) (se : Bool) (wy : M.Way), vs = [.ref a, .int (b : Int), .bl se] ∧ WayAt C H wy a ∧ M.Way.fine wy ∧ wy.depth ≤ n ∧ b + 40 * n ≤ 100000 ∧ ∀ v H', Same H H' → FateAt H' (M.Way.walk se wy b) v → Q v H'
def spBTun (C : Addr) (n : Nat) : Sp := fun vs H Q _ => ∃ (a t L ai : Addr) (se : Bool) (wy wi : M.Way) (most : Nat) (tw : M.TW) (l : List Nat), vs = [.ref a, .ref t, .ref L, .bl se] ∧ WayAt C H wy a ∧ H t = some (.tup [.str "tunnel", .ref ai, .int (most : Int), .str (twS tw)]) ∧ WayAt C H wi ai ∧
  M.Way.fine wi ∧ wi.depth ≤ n ∧ H L = some (.lst (ni l)) ∧ l.length ≤ 100000 ∧ (∀ x ∈ l, wy.head + x + 40 * n ≤ 100000) ∧ ∀ v H', Same H H' → FateAt H' (M.tunnel (fun x => M.Way.walk se wi (wy.head + x)) wi.head most tw l l) v → Q v H'
abbrev NT : List Str := ["way", "step", "stretches", "sealed", "_", "inner", "most", "tells", "distinct", "stretch", "fate"]
theorem scBT : FnScope NT ["way", "step", "stretches", "sealed"] (defScope sBTun) := ⟨rfl, rfl, rfl, by decide +kernel, rfl, by decide +kernel, by decide +kernel⟩
theorem ok_btun {k n : Nat} {f : Addr} {fd : FuncData} (F : Fun K "_behind_tunnel" "_behind_tunnel" sBTun f fd) (B : Bn mg) (T : Wt K mg C) (hk : 1 ≤ k) (WW : Df P w K mg base k "_walked" ["way", "body", "sealed"] (spWalked C n)) (WT : Df P w K mg base 1 "_turned" ["fate", "inner", "tells"] (spTurned C)) :
    FnOk P w K mg base CX0 (k + 1) f fd ["way", "step", "stretches", "sealed"] (spBTun C n) := by
  obtain ⟨fW, fdW, GW, gW, kW, bW⟩ := WW.ex
  obtain ⟨fT, fdT, GT, gT, kT, bT⟩ := WT.ex
  refine F.ok scBT (fun vs H Q E h => ?_) (fun cdv A outer s H vs Q E hr h => ?_)
  · obtain ⟨a, t, L, ai, se, wy, wi, most, tw, l, rfl, _⟩ := h
    rfl
  · obtain ⟨a, t, L, ai, se, wy, wi, most, tw, l, rfl, hw, ht, hwi, hf, hd, hL, hn, hb, kk⟩ := h
    have r1 := hr.mono hk
    refine ⟨_, pss_cons (ps_asg (pv 1) (pg_tup (by rfl) (pgs_cons (pg_name (i := 4) scBT.nd rfl (.inl rfl)) (pgs_cons (pg_name (i := 5) scBT.nd rfl (.inl rfl)) (pgs_cons (pg_name (i := 6) scBT.nd rfl (.inl rfl)) (pgs_cons (pg_name (i := 7) scBT.nd rfl (.inl rfl)) pgs_nil))))))
      (pss_cons (ps_setDc (i := 8) (own := [("stretch", 9)]) (g := gName 9) (tt := tYes) (tk := tVar 9) (tv := tC (.bl true)) rfl scBT.nd rfl rfl (swd_true rfl rfl rfl (by decide +kernel)) (pi_list (pv 2)) (blkOk_by (N := NT) (sc := defScope sBTun) (by decide +kernel))
          (fun _ _ _ _ _ => pg_name (i := 9) scBT.nd rfl (Or.inl rfl)) (fun _ _ _ _ _ => pts_nil) (fun _ _ _ _ _ => by exact pv 9) (fun _ _ _ _ _ => by exact pe_bl))
      (pss_cons (ps_lock (ps_for PassesOwn.never rfl (pi_keys (pv 8)) (pg_name (i := 9) scBT.nd rfl (Or.inl rfl))
        (pss_cons (ps_set (i := 10) scBT.nd rfl (Or.inl rfl) (pe_call GW hr rfl gW kW bW .nil pass0 (pa_cons (pv 5) (pa_cons (pe_op op_add (pe_fld (pv 0) rfl) (pv 9)) (pa_cons (pv 3) pa_nil)))))
        (pss_cons (ps_if (pt_cmpR op_ne (pe_ix ix_tup (pv 10) pe_int (fun _ _ => rfl)) pe_str (nomark _)) (pss_one (ps_ret (pe_call GT r1 rfl gT kT bT .nil pass0 (pa_cons (pv 10) (pa_cons (pv 5) (pa_cons (pv 7) pa_nil)))))) pss_nil)
        (pss_one (ps_if (pt_cmpR op_gt (pe_callB call_len_seq (by rfl) B.len PySem.boot_len (pa_cons (pe_ix ix_tup (pv 10) pe_int (fun _ _ => rfl)) pa_nil)) (pv 6) (nomark _)) (pss_one (ps_ret (pe_tup (pa_cons pe_str (pa_cons (pe_tup pa_nil) pa_nil))))) pss_nil))))))
      (pss_one (ps_ret (pe_tup (pa_cons pe_str (pa_cons (pv 2) pa_nil))))))), ?_⟩
    obtain ⟨dx, fs, w1, w2⟩ := head_fld hw
    refine ⟨_, rfl, t, _, rfl, SqT.of ht, rfl, _, _, rfl, _, _, rfl, _, _, rfl, _, _, rfl, rfl, ?_⟩
    dsimp only
    refine set_then (te := tDist K) (i := 8) ?_
    refine dist_run (l := l) hL hn fun D H1 nD s1 hD => ?_
    refine ⟨D, _, hD, trivial, fun od => ?_⟩
    refine ⟨_, rfl, D, od, rfl, .inl ⟨_, upd_same, ?_⟩⟩
    have S0 : Same H (upd H1 D (.frz od (.dK (dk (M.dd l))))) := add_upd nD s1
    have ld : (dk (M.dd l)).length = (M.dd l).length := by
      unfold dk
      rw [List.length_map]
    refine for_it walk_keys (fun i σ G => Same H G ∧ G D = some (.frz od (.dK (dk (M.dd l)))) ∧ (∀ x ∈ (M.dd l).take i, M.Passes (fun x => M.Way.walk se wi (wy.head + x)) most x) ∧ ∃ p q, σ = [some (.ref a), some (.ref t), some (.ref L), some (.bl se), some (.str "tunnel"), some (.ref ai), some (.int (most : Int)), some (.str (twS tw)), some (.ref D), p, q]) ⟨S0, upd_same, by simp, _, _, rfl⟩ (fun i σ G _ z => z.2.1) ?_ ?_
    · rintro i v σ G G' hi ⟨s2, hD2, hp, p, q, rfl⟩ ⟨rfl, kx, vx, hget, rfl⟩
      obtain ⟨x, hx, rfl⟩ : ∃ x, (M.dd l)[i]? = some x ∧ kx = Sum.inl ((x : Nat) : Int) := by
        unfold dk at hget
        rw [List.getElem?_map] at hget
        cases e : (M.dd l)[i]? with
        | none => rw [e] at hget; cases hget
        | some x => rw [e] at hget; cases hget; exact ⟨x, rfl, rfl⟩
      have xm : x ∈ l := (M.dd_mem l x).mp (List.mem_of_getElem? hx)
      have at0 := M.tunnel_at (ih := wi.head) (t := tw) (L := l) hp hx
      refine ⟨_, rfl, _, rfl, a, C, dx, fs, _, rfl, s2 _ _ w1, T.cl, T.nH, w2, _, rfl, _, _, rfl, rfl, _, rfl, ?_⟩
      refine ⟨ai, wy.head + x, se, wi, by rw [Int.natCast_add]; rfl, hwi.mono s2, hf, hd, hb x xm, fun v G1 s3 fa => ?_⟩
      have s4 := s2.trans s3
      have hD3 := s3 _ _ hD2
      have fin : ∀ (f : M.Fate), M.tunnel (fun x => M.Way.walk se wi (wy.head + x)) wi.head most tw l l = f → ∀ u G2, Same G1 G2 → FateAt G2 f u → G2 D = some (.frz od (.dK (dk (M.dd l)))) ∧ Q u (upd G2 D (.dK (dk (M.dd l)))) := fun f ef u G2 s5 fu =>
        ⟨s5 _ _ hD3, kk u _ (add_upd nD (s4.trans s5)) (by rw [ef]; exact fu.unlock (s5 _ _ hD3))⟩
      dsimp only
      generalize hfz : M.Way.walk se wi (wy.head + x) = fz at fa
      cases fz with
      | comes m =>
        obtain ⟨u, Lm, rfl, f1, f2⟩ := fa
        have i0 : atI [V.str "comes", V.ref Lm] (0 : Int) = some (.str "comes") := by exact atI_nat (j := 0) rfl
        have i1 : atI [V.str "comes", V.ref Lm] (1 : Int) = some (.ref Lm) := by exact atI_nat (j := 1) rfl
        refine ⟨_, rfl, u, _, _, _, rfl, rfl, SqT.of f1, i0, rfl, _, rfl, iteNS rfl ?_⟩
        refine ⟨_, rfl, u, _, _, _, rfl, rfl, SqT.of f1, i1, Lm, _, rfl, .inl (SqL.of f2), _, rfl, _, _, rfl, rfl, _, rfl, ?_⟩
        rw [ni_len]
        refine ite2 (fun c => ?_) (fun c => ?_)
        · have c2 : (most : Int) < (m.length : Int) := of_decide_eq_true c
          exact ret_silent fun v G2 s5 fv => fin _ (at0.trans (M.tunnel_many hfz (by omega))) v G2 s5 fv
        · have c2 : ¬ (most : Int) < (m.length : Int) := fun z => c (decide_eq_true z)
          refine ⟨s4, hD3, fun y hy => ?_, _, _, rfl⟩
          rw [take_snoc hx] at hy
          rcases List.mem_append.mp hy with z | z
          · exact hp y z
          · have e : y = x := by simpa using z
            exact e ▸ ⟨m, hfz, by omega⟩
      | told z p2 =>
        have nc : ∀ m, M.Fate.told z p2 ≠ .comes m := fun m e => by cases e
        have fa2 := fa
        obtain ⟨u, q2, rfl, f1, f2⟩ := fa
        have i0 : atI [V.str "told", V.int z, V.ref q2] (0 : Int) = some (.str "told") := by exact atI_nat (j := 0) rfl
        refine ⟨_, rfl, u, _, _, _, rfl, rfl, SqT.of f1, i0, rfl, _, rfl, iteNT (fun e => fk.2.2.2.1 (V.str.inj e)) ?_⟩
        exact ⟨_, rfl, _, rfl, _, rfl, _, ai, _, wi, tw, rfl, fa2, nc, hwi.mono s4, fun v G2 s5 fv => fin _ (at0.trans (M.tunnel_end hfz nc)) v G2 s5 fv⟩
      | silent p2 =>
        have nc : ∀ m, M.Fate.silent p2 ≠ .comes m := fun m e => by cases e
        have fa2 := fa
        obtain ⟨u, q2, rfl, f1, f2⟩ := fa
        have i0 : atI [V.str "silent", V.ref q2] (0 : Int) = some (.str "silent") := by exact atI_nat (j := 0) rfl
        refine ⟨_, rfl, u, _, _, _, rfl, rfl, SqT.of f1, i0, rfl, _, rfl, iteNT (fun e => fk.2.2.2.2 (V.str.inj e)) ?_⟩
        exact ⟨_, rfl, _, rfl, _, rfl, _, ai, _, wi, tw, rfl, fa2, nc, hwi.mono s4, fun v G2 s5 fv => fin _ (at0.trans (M.tunnel_end hfz nc)) v G2 s5 fv⟩
    · rintro σ G ⟨s2, hD2, hp, p, q, rfl⟩
      refine ⟨hD2, _, rfl, line2.1, fun u hu => kk _ _ ((add_upd nD s2).trans (Same.of_upd hu)) ?_⟩
      have e : M.tunnel (fun x => M.Way.walk se wi (wy.head + x)) wi.head most tw l l = .comes l := M.tunnel_pass fun x hx => by
        have := (M.dd_mem l x).mpr hx
        rw [ld, List.take_length] at hp
        exact hp x this
      rw [e]
      exact ⟨u, L, rfl, upd_same, Same.of_upd hu _ _ (add_upd nD s2 _ _ hL)⟩
end
end WP

end
section
set_option autoImplicit false
set_option Elab.async false
set_option linter.all false
set_option maxRecDepth 100000
set_option maxHeartbeats 4000000
/-! ## one step -/
namespace M
def Step.dep : Step → Nat
  | .tunnel w _ _ => w.depth
  | .road _ _ _ => 0
  | .join _ => 0
theorem good_len {b : Nat} {l : List Nat} (g : Good b l) (h : b ≤ 100000) : l.length ≤ 100000 := by
  rcases Nat.eq_zero_or_pos b with z | z
  · rw [g.zero z]
    decide
  · have := WP.len_sum (g.pos z)
    rw [g.sum] at this
    omega
theorem good_le {b : Nat} {l : List Nat} (g : Good b l) : ∀ x ∈ l, x ≤ b := fun x hx => by
  have := WP.mem_le_sum hx
  rw [g.sum] at this
  exact this
end M
namespace WP
open PySem L2 G
abbrev sBStep : Stmt := top 20
section
variable {P : Program} {w : World} {K : PySem.W.Frag} {mg : Str → Option Value} {base : Heap} {C : Addr}
def spBStep (C : Addr) (n : Nat) : Sp := fun vs H Q _ => ∃ (a L : Addr) (x : V) (se : Bool) (wy : M.Way) (st : M.Step) (b : Nat) (l : List Nat), vs = [.ref a, x, .ref L, .bl se] ∧ WayAt C H wy a ∧ StepAt C H st x ∧ M.Step.fine wy.head st ∧ M.Step.dep st ≤ n ∧ wy.head ≤ 40 ∧ H L = some (.lst (ni l)) ∧ M.Good b l ∧ b + 40 * (n + 1) ≤ 100000 ∧
  ∀ v H', Same H H' → FateAt H' (M.Step.does se wy.head st l) v → Q v H'
theorem scBS : FnScope ["way", "step", "stretches", "sealed"] ["way", "step", "stretches", "sealed"] (defScope sBStep) := ⟨rfl, rfl, rfl, by decide +kernel, rfl, by decide +kernel, by decide +kernel⟩
theorem ok_bstep {k n : Nat} {f : Addr} {fd : FuncData} (F : Fun K "_behind_step" "_behind_step" sBStep f fd) (hk : 2 ≤ k) (WR : Df P w K mg base 2 "_behind_road" ["way", "step", "stretches", "sealed"] (spBRoad C)) (WJ : Df P w K mg base 1 "_behind_join" ["step", "stretches"] spJoin) (WT : Df P w K mg base k "_behind_tunnel" ["way", "step", "stretches", "sealed"] (spBTun C n)) :
    FnOk P w K mg base CX0 (k + 1) f fd ["way", "step", "stretches", "sealed"] (spBStep C n) := by
  obtain ⟨fR, fdR, GR, gR, kR, bR⟩ := WR.ex
  obtain ⟨fJ, fdJ, GJ, gJ, kJ, bJ⟩ := WJ.ex
  obtain ⟨fT, fdT, GT, gT, kT, bT⟩ := WT.ex
  refine F.ok scBS (fun vs H Q E h => ?_) (fun cdv A outer s H vs Q E hr h => ?_)
  · obtain ⟨a, L, x, se, wy, st, b, l, rfl, _⟩ := h
    rfl
  · obtain ⟨a, L, x, se, wy, st, b, l, rfl, hw, hst, hf, hd, h40, hL, gd, hb, kk⟩ := h
    refine ⟨_, pss_cons (ps_if (pt_cmpR op_eq (pe_ix ix_tup (pv 1) pe_int (fun _ _ => rfl)) pe_str (nomark _)) (pss_one (ps_ret (pe_call GR (hr.mono hk) rfl gR kR bR .nil pass0 (pa_cons (pv 0) (pa_cons (pv 1) (pa_cons (pv 2) (pa_cons (pv 3) pa_nil))))))) pss_nil)
      (pss_cons (ps_if (pt_cmpR op_eq (pe_ix ix_tup (pv 1) pe_int (fun _ _ => rfl)) pe_str (nomark _)) (pss_one (ps_ret (pe_call GJ (hr.mono (by omega)) rfl gJ kJ bJ .nil pass0 (pa_cons (pv 1) (pa_cons (pv 2) pa_nil))))) pss_nil)
      (pss_one (ps_ret (pe_call GT hr rfl gT kT bT .nil pass0 (pa_cons (pv 0) (pa_cons (pv 1) (pa_cons (pv 2) (pa_cons (pv 3) pa_nil)))))))), ?_⟩
    have yes : ∀ {a : Str}, decide (V.str a = V.str a) = true := decide_eq_true rfl
    have no : ∀ {a b : Str}, a ≠ b → decide (V.str a = V.str b) = false := fun h => decide_eq_false fun z => h (V.str.inj z)
    have z1 : ∀ {y0 : V} {ys : List V}, atI (y0 :: ys) (0 : Int) = some y0 := fun {y0 ys} => by exact atI_nat (xs := y0 :: ys) (j := 0) rfl
    cases st with
    | road size ts lw =>
      unfold M.Step.does at kk
      unfold StepAt at hst
      unfold M.Step.fine at hf
      obtain ⟨t, rfl, ht⟩ := hst
      refine ⟨_, rfl, t, _, _, _, rfl, rfl, SqT.of ht, z1, rfl, _, rfl, ?_⟩
      rw [yes]
      exact iteT ⟨_, rfl, _, rfl, _, rfl, _, rfl, a, t, L, se, wy, size, ts, lw, b, l, rfl, hw, ht, hL, gd, by omega, hf.1, hf.2, kk⟩
    | join most =>
      unfold M.Step.does at kk
      unfold StepAt at hst
      obtain ⟨t, rfl, ht⟩ := hst
      refine ⟨_, rfl, t, _, _, _, rfl, rfl, SqT.of ht, z1, rfl, _, rfl, ?_⟩
      rw [no kinds.2.2.2.1]
      refine iteF ⟨_, rfl, t, _, _, _, rfl, rfl, SqT.of ht, z1, rfl, _, rfl, ?_⟩
      rw [yes]
      exact iteT ⟨_, rfl, _, rfl, t, L, most, l, rfl, ht, hL, kk⟩
    | tunnel wi most tw =>
      unfold M.Step.does at kk
      unfold StepAt at hst
      unfold M.Step.fine at hf
      obtain ⟨t, ai, rfl, ht, hwi⟩ := hst
      refine ⟨_, rfl, t, _, _, _, rfl, rfl, SqT.of ht, z1, rfl, _, rfl, ?_⟩
      rw [no kinds.2.2.2.2.1]
      refine iteF ⟨_, rfl, t, _, _, _, rfl, rfl, SqT.of ht, z1, rfl, _, rfl, ?_⟩
      rw [no kinds.2.2.2.2.2]
      refine iteF ⟨_, rfl, _, rfl, _, rfl, _, rfl, a, t, L, ai, se, wy, wi, most, tw, l, rfl, hw, ht, hwi, hf.1, hd, hL, M.good_len gd (by omega), fun x hx => ?_, kk⟩
      have := M.good_le gd x hx
      omega
end
end WP

end
section
set_option autoImplicit false
set_option Elab.async false
set_option linter.all false
set_option maxRecDepth 100000
set_option maxHeartbeats 4000000
/-! ## a whole way -/
namespace M
open WP (plen)
theorem plen_tunnel {inner : Nat → Fate} {ih most d : Nat} {t : TW} {L : List Nat} (h : ∀ x, plen (inner x) ≤ d) : ∀ r : List Nat, plen (tunnel inner ih most t L r) ≤ d
  | [] => Nat.zero_le _
  | x :: r => by
    unfold tunnel
    have hx := h x
    cases e : inner x with
    | comes m =>
      show plen (if m.length > most then .silent [] else tunnel inner ih most t L r) ≤ d
      split
      · exact Nat.zero_le _
      · exact plen_tunnel h r
    | told s p =>
      rw [e] at hx
      show plen (if t = .turn then .told (s - ih) p else .silent p) ≤ d
      split <;> exact hx
    | silent p =>
      rw [e] at hx
      exact hx
theorem deep_cons : ∀ (s : Step) (r : List Step), Step.deepest (s :: r) = max (Step.dep s) (Step.deepest r)
  | .tunnel w a b, r => by
    conv => lhs; unfold Step.deepest
    rfl
  | .road a b c, r => by
    conv => lhs; unfold Step.deepest
    exact (Nat.zero_max _).symm
  | .join a, r => by
    conv => lhs; unfold Step.deepest
    exact (Nat.zero_max _).symm
mutual
theorem plen_walk (se : Bool) : ∀ (w : Way) (b : Nat), plen (Way.walk se w b) ≤ w.depth
  | .mk h s, b => by
    unfold Way.walk Way.depth
    exact plen_from se h s 0 [b]
theorem plen_from (se : Bool) (h : Nat) : ∀ (s : List Step) (i : Nat) (l : List Nat), plen (Way.from se h s i l) ≤ 1 + Step.deepest s
  | [], i, l => by
    unfold Way.from
    exact Nat.zero_le _
  | s :: r, i, l => by
    have h1 := plen_does se h s l
    have h2 : 1 + Step.deepest r ≤ 1 + Step.deepest (s :: r) := by
      rw [deep_cons]
      omega
    have h3 : Step.dep s ≤ Step.deepest (s :: r) := by
      rw [deep_cons]
      omega
    rw [from_cons]
    cases e : Step.does se h s l with
    | comes m => exact Nat.le_trans (plen_from se h r (i + 1) m) h2
    | told z p =>
      rw [e] at h1
      have h4 : p.length ≤ Step.dep s := h1
      show p.length + 1 ≤ _
      omega
    | silent p =>
      rw [e] at h1
      have h4 : p.length ≤ Step.dep s := h1
      show p.length + 1 ≤ _
      omega
theorem plen_does (se : Bool) (h : Nat) : ∀ (s : Step) (l : List Nat), plen (Step.does se h s l) ≤ Step.dep s
  | .road size ts lw, l => by
    unfold Step.does road
    split
    · exact Nat.zero_le _
    · split
      · split <;> exact Nat.zero_le _
      · split <;> exact Nat.zero_le _
  | .join most, l => by
    unfold Step.does join
    split <;> exact Nat.zero_le _
  | .tunnel w most t, l => by
    unfold Step.does Step.dep
    exact plen_tunnel (fun x => plen_walk se w (h + x)) l
end
mutual
theorem fine_ok : ∀ {w : Way}, w.fine → w.ok
  | .mk h s, f => by
    unfold Way.fine at f
    unfold Way.ok
    exact ⟨by omega, fineAll_ok f.2.2.1⟩
theorem fineAll_ok {h : Nat} : ∀ {s : List Step}, Step.fineAll h s → Step.okAll h s
  | [], _ => by unfold Step.okAll; trivial
  | x :: r, f => by
    unfold Step.fineAll at f
    unfold Step.okAll
    exact ⟨stepfine_ok f.1, fineAll_ok f.2⟩
theorem stepfine_ok {h : Nat} : ∀ {s : Step}, Step.fine h s → Step.ok h s
  | .road size ts lw, f => by
    unfold Step.fine at f
    unfold Step.ok
    exact f.1
  | .join most, f => by
    unfold Step.fine at f
    unfold Step.ok
    exact f.1
  | .tunnel w most t, f => by
    unfold Step.fine at f
    unfold Step.ok
    exact ⟨fine_ok f.1, f.2.1⟩
end
theorem rel_self {b : Nat} {l : List Nat} (g : Good b l) : Rel b l l := by
  unfold Rel
  split
  · rename_i z
    exact g.zero z
  · rename_i z
    have e := tr_all (g.pos (by omega))
    rw [g.sum] at e
    exact e.symm
theorem dep_le : ∀ {s : List Step} {i : Nat} {x : Step}, s[i]? = some x → Step.dep x ≤ Step.deepest s
  | [], i, x, h => by cases h
  | y :: r, 0, x, h => by
    have e : y = x := Option.some.inj h
    rw [deep_cons, e]
    omega
  | y :: r, i + 1, x, h => by
    have := dep_le (s := r) (i := i) (x := x) h
    rw [deep_cons]
    omega
end M

end
section
set_option autoImplicit false
set_option Elab.async false
set_option linter.all false
set_option maxRecDepth 100000
set_option maxHeartbeats 4000000
/-! ## _walked, by one step -/
namespace WP
open PySem L2 G
abbrev sWalked : Stmt := top 18
section
variable {P : Program} {w : World} {K : PySem.W.Frag} {mg : Str → Option Value} {base : Heap} {C : Addr}
abbrev NW : List Str := ["way", "body", "sealed", "stretches", "position", "step", "fate"]
theorem scW : FnScope NW ["way", "body", "sealed"] (defScope sWalked) := ⟨rfl, rfl, rfl, by decide +kernel, rfl, by decide +kernel, by decide +kernel⟩
theorem ok_walked {k n : Nat} {f : Addr} {fd : FuncData} (F : Fun K "_walked" "_walked" sWalked f fd) (B : Bn mg) (T : Wt K mg C) (hk : 1 ≤ k) (WS : Df P w K mg base k "_behind_step" ["way", "step", "stretches", "sealed"] (spBStep C n)) (WE : Df P w K mg base 1 "_seen_from_way" ["fate", "position"] spSeen) (hn2 : n ≤ 10) :
    FnOk P w K mg base CX0 (k + 1) f fd ["way", "body", "sealed"] (spWalked C (n + 1)) := by
  obtain ⟨fS, fdS, GS, gS, kS, bS⟩ := WS.ex
  obtain ⟨fE, fdE, GE, gE, kE, bE⟩ := WE.ex
  refine F.ok scW (fun vs H Q E h => ?_) (fun cdv A outer s H vs Q E hr h => ?_)
  · obtain ⟨a, b, se, wy, rfl, _⟩ := h
    rfl
  · obtain ⟨a, b, se, wy, rfl, hw, hf, hd, hb, kk⟩ := h
    refine ⟨_, pss_cons (ps_set (i := 3) scW.nd rfl (Or.inl rfl) (pe_lst (pa_cons (pv 1) pa_nil)))
      (pss_cons (ps_for PassesOwn.never rfl (pi_et (by rfl) B.enum (pa_cons (pe_fld (pv 0) rfl) pa_nil)) (pg_tup (by rfl) (pgs_cons (pg_name (i := 4) scW.nd rfl (Or.inl rfl)) (pgs_cons (pg_name (i := 5) scW.nd rfl (Or.inl rfl)) pgs_nil)))
        (pss_cons (ps_set (i := 6) scW.nd rfl (Or.inl rfl) (pe_call GS hr rfl gS kS bS .nil pass0 (pa_cons (pv 0) (pa_cons (pv 5) (pa_cons (pv 3) (pa_cons (pv 2) pa_nil))))))
        (pss_cons (ps_if (pt_cmpR op_ne (pe_ix ix_tup (pv 6) pe_int (fun _ _ => rfl)) pe_str (nomark _)) (pss_one (ps_ret (pe_call GE (hr.mono hk) rfl gE kE bE .nil pass0 (pa_cons (pv 6) (pa_cons (pv 4) pa_nil))))) pss_nil)
        (pss_one (ps_set (i := 3) scW.nd rfl (Or.inl rfl) (pe_ix ix_tup (pv 6) pe_int (fun _ _ => rfl)))))))
      (pss_one (ps_ret (pe_tup (pa_cons pe_str (pa_cons (pv 3) pa_nil)))))), ?_⟩
    obtain ⟨dx, fs, t0, xs, w1, w2, w3, w4⟩ := steps_fld hw
    have hf2 := hf
    obtain ⟨wh, sts⟩ := wy
    unfold M.Way.fine at hf
    obtain ⟨hh, hl, hall, hdd, hzz⟩ := hf
    unfold M.Way.depth at hd
    have e0 : M.Way.walk se (.mk wh sts) b = M.Way.from se wh sts 0 [b] := by
      unfold M.Way.walk
      rfl
    rw [e0] at kk
    refine ⟨_, rfl, line2.2.2.1, fun L0 n0 => ?_⟩
    have S1 : Same H (upd H L0 (.lst [.int (b : Int)])) := Same.of_upd n0
    refine ⟨_, rfl, a, C, dx, fs, _, rfl, S1 _ _ w1, T.cl, T.nS, w2, t0, xs, rfl, SqT.of (S1 _ _ w3), ?_⟩
    refine for_it walk_et (fun i σ G => Same H G ∧ ∃ (Li : Addr) (l : List Nat) (p q r : Option V), σ = [some (.ref a), some (.int (b : Int)), some (.bl se), some (.ref Li), p, q, r] ∧ G Li = some (.lst (ni l)) ∧ M.Good b l ∧ M.Way.from se wh sts 0 [b] = M.Way.from se wh (sts.drop i) i l) ⟨S1, L0, [b], _, _, _, rfl, upd_same, M.good_one b, rfl⟩ (fun i σ G _ z => SqT.of (z.1 _ _ w3)) ?_ ?_
    · rintro i v σ G G' hi ⟨s2, Li, l, p, q, r, rfl, hLi, gd, ew⟩ ⟨tt, x1, x2, rfl, nt, rfl, e1, hx⟩
      cases e1
      obtain ⟨st, hst, hat⟩ := w4.get hx
      have hst2 : sts[i]? = some st := hst
      have s3 : Same H (upd G tt (.tup [V.int (i : Nat), x2])) := s2.trans (Same.of_upd nt)
      refine ⟨tt, _, rfl, SqT.of upd_same, rfl, _, _, rfl, _, _, rfl, rfl, ?_⟩
      have dl := M.dep_le hst2
      refine ⟨_, rfl, _, rfl, _, rfl, _, rfl, a, Li, x2, se, .mk wh sts, st, b, l, rfl, hw.mono s3, hat.mono s3, fine_get hall hst2, by omega, hh.2, Same.of_upd nt _ _ hLi, gd, by omega, fun v G1 s4 fa => ?_⟩
      have s5 := s3.trans s4
      have ed : sts.drop i = st :: sts.drop (i + 1) := by
        obtain ⟨hi2, ex⟩ := List.getElem?_eq_some_iff.mp hst2
        rw [← ex, ← List.drop_eq_getElem_cons hi2]
      rw [ed, M.from_cons] at ew
      have pl := M.plen_does se wh st l
      dsimp only
      have fa2 : FateAt G1 (M.Step.does se wh st l) v := fa
      clear fa
      generalize hfz : M.Step.does se wh st l = fz at fa2 ew pl
      cases fz with
      | comes m =>
        obtain ⟨m2, e2, g2, _, _⟩ := M.Step.mono se wh st (by omega) (M.stepfine_ok (fine_get hall hst2)) b b l l m (Nat.le_refl _) gd gd (M.rel_self gd) hfz
        have em : m2 = m := by
          rw [hfz] at e2
          injection e2 with e2
          exact e2.symm
        obtain ⟨u, Lm, rfl, f1, f2⟩ := fa2
        have i0 : atI [V.str "comes", V.ref Lm] (0 : Int) = some (.str "comes") := by exact atI_nat (j := 0) rfl
        have i1 : atI [V.str "comes", V.ref Lm] (1 : Int) = some (.ref Lm) := by exact atI_nat (j := 1) rfl
        refine ⟨_, rfl, u, _, _, _, rfl, rfl, SqT.of f1, i0, rfl, _, rfl, iteNS rfl ?_⟩
        exact ⟨_, rfl, u, _, _, _, rfl, rfl, SqT.of f1, i1, s5, Lm, m, _, _, _, rfl, f2, em ▸ g2, ew⟩
      | told z p2 =>
        have nc : ∀ m, M.Fate.told z p2 ≠ .comes m := fun m e => by cases e
        have fa3 := fa2
        obtain ⟨u, q2, rfl, f1, f2⟩ := fa2
        have i0 : atI [V.str "told", V.int z, V.ref q2] (0 : Int) = some (.str "told") := by exact atI_nat (j := 0) rfl
        refine ⟨_, rfl, u, _, _, _, rfl, rfl, SqT.of f1, i0, rfl, _, rfl, iteNT (fun e => fk.2.2.2.1 (V.str.inj e)) ?_⟩
        exact ⟨_, rfl, _, rfl, _, _, i, rfl, fa3, by omega, nc, fun v G2 s6 fv => kk v _ (s5.trans s6) (by rw [ew]; exact fv)⟩
      | silent p2 =>
        have nc : ∀ m, M.Fate.silent p2 ≠ .comes m := fun m e => by cases e
        have fa3 := fa2
        obtain ⟨u, q2, rfl, f1, f2⟩ := fa2
        have i0 : atI [V.str "silent", V.ref q2] (0 : Int) = some (.str "silent") := by exact atI_nat (j := 0) rfl
        refine ⟨_, rfl, u, _, _, _, rfl, rfl, SqT.of f1, i0, rfl, _, rfl, iteNT (fun e => fk.2.2.2.2 (V.str.inj e)) ?_⟩
        exact ⟨_, rfl, _, rfl, _, _, i, rfl, fa3, by omega, nc, fun v G2 s6 fv => kk v _ (s5.trans s6) (by rw [ew]; exact fv)⟩
    · rintro σ G ⟨s2, Li, l, p, q, r, rfl, hLi, gd, ew⟩
      refine ⟨_, rfl, line2.1, fun u hu => kk _ _ (s2.trans (Same.of_upd hu)) ?_⟩
      have e : sts.drop xs.length = [] := by
        rw [show xs.length = sts.length from w4.len]
        exact List.drop_length
      rw [ew, e]
      unfold M.Way.from
      exact ⟨u, Li, rfl, upd_same, Same.of_upd hu _ _ hLi⟩
end
end WP

end
section
set_option autoImplicit false
set_option Elab.async false
set_option linter.all false
set_option maxRecDepth 100000
set_option maxHeartbeats 4000000
/-! ## the three defs that call one another, by depth -/
namespace WP
open PySem L2 G
section
variable {P : Program} {w : World} {K : PySem.W.Frag} {mg : Str → Option Value} {base : Heap} {C : Addr}
/-- a def of the text -/
structure Fd (K : PySem.W.Frag) (mg : Str → Option Value) (x : Str) (st : Stmt) (ps : List Str) : Prop where
  ex : ∃ (f : Addr) (fd : FuncData), Fun K x x st f fd ∧ mg x = some (.ref f) ∧ PySem.W.keepIn K (.ref f) = true ∧ Binds K fd ps []
theorem Fd.df {x : Str} {st : Stmt} {ps : List Str} {k : Nat} {sp : Sp} (h : Fd K mg x st ps) (ok : ∀ f fd, Fun K x x st f fd → FnOk P w K mg base CX0 k f fd ps sp) : Df P w K mg base k x ps sp := by
  obtain ⟨f, fd, h1, h2, h3, h4⟩ := h.ex
  exact ⟨f, fd, ok f fd h1, h2, h3, h4⟩
structure Walkers (K : PySem.W.Frag) (mg : Str → Option Value) : Prop where
  parts : Fd K mg "_parts" sParts ["stretch", "carried"]
  road : Fd K mg "_behind_road" sBRoad ["way", "step", "stretches", "sealed"]
  join : Fd K mg "_behind_join" sBJoin ["step", "stretches"]
  turned : Fd K mg "_turned" sTurned ["fate", "inner", "tells"]
  seen : Fd K mg "_seen_from_way" sSeen ["fate", "position"]
  tun : Fd K mg "_behind_tunnel" sBTun ["way", "step", "stretches", "sealed"]
  step : Fd K mg "_behind_step" sBStep ["way", "step", "stretches", "sealed"]
  walked : Fd K mg "_walked" sWalked ["way", "body", "sealed"]
  rng : mg "range" = none
  mn : mg "min" = none
theorem depth_pos (wy : M.Way) : 1 ≤ wy.depth := by
  obtain ⟨h, s⟩ := wy
  unfold M.Way.depth
  omega
theorem df_walked (B : Bn mg) (T : Wt K mg C) (Z : Walkers K mg) : ∀ n, n ≤ 10 → Df P w K mg base (3 * n + 1) "_walked" ["way", "body", "sealed"] (spWalked C n)
  | 0, _ => Z.walked.df fun f fd F => F.ok scW (fun vs H Q E h => by
      obtain ⟨a, b, se, wy, rfl, _⟩ := h
      rfl) (fun cdv A outer s H vs Q E hr h => by
      exfalso
      obtain ⟨a, b, se, wy, _, _, _, hd, _⟩ := h
      have := depth_pos wy
      omega)
  | n + 1, hn => by
    have DP : Df P w K mg base 1 "_parts" ["stretch", "carried"] spParts := Z.parts.df fun f fd F => ok_parts F Z.rng Z.mn
    have DR : Df P w K mg base 2 "_behind_road" ["way", "step", "stretches", "sealed"] (spBRoad C) := Z.road.df fun f fd F => ok_broad F B T DP
    have DJ : Df P w K mg base 1 "_behind_join" ["step", "stretches"] spJoin := Z.join.df fun f fd F => ok_join F B
    have DU : Df P w K mg base 1 "_turned" ["fate", "inner", "tells"] (spTurned C) := Z.turned.df fun f fd F => ok_turned F T
    have DE : Df P w K mg base 1 "_seen_from_way" ["fate", "position"] spSeen := Z.seen.df fun f fd F => ok_seen F
    have DW := df_walked B T Z n (by omega)
    have DT : Df P w K mg base (3 * n + 1 + 1) "_behind_tunnel" ["way", "step", "stretches", "sealed"] (spBTun C n) := Z.tun.df fun f fd F => ok_btun F B T (by omega) DW DU
    have DS : Df P w K mg base (3 * n + 1 + 1 + 1) "_behind_step" ["way", "step", "stretches", "sealed"] (spBStep C n) := Z.step.df fun f fd F => ok_bstep F (by omega) DR DJ DT
    have r : Df P w K mg base (3 * n + 1 + 1 + 1 + 1) "_walked" ["way", "body", "sealed"] (spWalked C (n + 1)) := Z.walked.df fun f fd F => ok_walked F B T (by omega) DS DE (by omega)
    exact r
end
end WP

end
section
set_option autoImplicit false
set_option Elab.async false
set_option linter.all false
set_option maxRecDepth 100000
set_option maxHeartbeats 4000000
/-! ## walk -/
namespace WP
open PySem L2 G
abbrev sWalk : Stmt := top 17
section
variable {P : Program} {w : World} {K : PySem.W.Frag} {mg : Str → Option Value} {base : Heap} {C : Addr}
theorem scWk : FnScope ["way", "body", "sealed"] ["way", "body", "sealed"] (defScope sWalk) := ⟨rfl, rfl, rfl, by decide +kernel, rfl, by decide +kernel, by decide +kernel⟩
def spWalk (C : Addr) : Sp := fun vs H Q _ => ∃ (a : Addr) (b : Nat) (se : Bool) (wy : M.Way), vs = [.ref a, .int (b : Int), .bl se] ∧ WayAt C H wy a ∧ M.Way.fine wy ∧ b ≤ 90000 ∧ ∀ v H', Same H H' → FateAt H' (M.Way.walk se wy b) v → Q v H'
theorem fine_depth {wy : M.Way} (h : wy.fine) : wy.depth ≤ 3 := by
  obtain ⟨wh, s⟩ := wy
  unfold M.Way.fine at h
  unfold M.Way.depth
  exact h.2.2.2.1
theorem ok_walk {f : Addr} {fd : FuncData} (F : Fun K "walk" "walk" sWalk f fd) (W : Df P w K mg base 10 "_walked" ["way", "body", "sealed"] (spWalked C 3)) (WB : Df P w K mg base 3 "is_body" ["value"] (spIn1 0 1000000000000000000)) : FnOk P w K mg base CX0 11 f fd ["way", "body", "sealed"] (spWalk C) := by
  obtain ⟨fW, fdW, GW, gW, kW, bW⟩ := W.ex
  obtain ⟨fB, fdB, GB, gB, kB, bB⟩ := WB.ex
  refine F.ok scWk (fun vs H Q E h => ?_) (fun cdv A outer s H vs Q E hr h => ?_)
  · obtain ⟨a, b, se, wy, rfl, _⟩ := h
    rfl
  · obtain ⟨a, b, se, wy, rfl, hw, hf, hb, kk⟩ := h
    refine ⟨_, pss_cons (ps_if (pt_not (pt_val (pe_call GB (hr.mono (by decide)) rfl gB kB bB .nil pass0 (pa_cons (pv 1) pa_nil)))) ps_dead pss_nil)
      (pss_one (ps_ret (pe_call GW hr rfl gW kW bW .nil pass0 (pa_cons (pv 0) (pa_cons (pv 1) (pa_cons (pv 2) pa_nil)))))), ?_⟩
    refine ⟨_, rfl, (b : Int), rfl, ?_⟩
    rw [decide_eq_true (by omega)]
    exact ⟨_, rfl, iteF ⟨_, rfl, _, rfl, _, rfl, a, b, se, wy, rfl, hw, hf, fine_depth hf, by omega, kk⟩⟩
end
end WP

end
section
set_option autoImplicit false
set_option Elab.async false
set_option linter.all false
set_option maxRecDepth 100000
set_option maxHeartbeats 4000000
/-! ## len, +, in, [] and != by a class's own methods -/
namespace WO
open PySem PySem.Spec PyProof.Rows L2
section
variable {X : Cx} {CX : CXT} {n : Nat} {f C : Addr} {fd : FuncData} {ps : List Str} {sp : Sp} {E : XK}
/-- an own method, run somewhere below the running body -/
theorem run_own {A : Around} {pins : List (Addr × Obj)} {s : Shared} {σ : L2.St} {H : Hp} {xs : List V} {us : List Value} {Z : VK} {G : Value → Shared → Prop} (F : FnOk X.prog X.w X.K X.mg X.base CX n f fd ps sp) (sb : Sub X n A) (hb : Binds X.K fd ps []) (hx : Passes CX X E)
    (I : Inv X pins σ H s) (r : Vals xs us) (hsp : sp xs H Z E) (k : ∀ z u H1 s1, Inv X pins σ H1 s1 → RelV z u → Z z H1 → G u s1) : wpAny (model X.prog X.w) A (call (.ref f) us) G X.xe s := by
  have hl := F.len _ _ _ _ hsp
  have lu : us.length = ps.length := by rw [← r.length]; exact hl
  have env : Env0 X.prog X.w X.K X.mg X.base A X.stack s H := by
    have e := I.env0
    exact ⟨by rw [sb.fr]; exact e.frames, e.mod, e.bs, e.bsz, e.funs, e.frf, e.hok, e.bare⟩
  refine wpAny_call (codeAny_mono (F.run A X.stack s H ⟨us, []⟩ us xs _ E sb.room env (by simpa using hb s us I.kIn (by simpa using lu)) r hsp) fun res s1 hq => ?_)
  match res, hq with
  | .error e, hq => exact hx pins σ H s e s1 I hq
  | .ok (.ret u), hq =>
    obtain ⟨z, H1, I1, rz, q⟩ := I.after hq
    exact k z u H1 s1 I1 rz q
  | .ok .next, hq => exact hq.elim
  | .ok .brk, hq => exact hq.elim
  | .ok .cont, hq => exact hq.elim
/-- an instance of the class at C -/
def InsC (C : Addr) (H : Hp) (a : Addr) : Prop := ∃ dx fs, H a = some (.ins C dx fs)
structure Own (K : PySem.W.Frag) (C f : Addr) (m : Str) : Prop where
  at' : PySem.W.findIn K (.ref C) m = some (some (.ref f))
  fn : PySem.W.isFn K (.ref f) = true
def rLenO (C : Addr) (sp : Sp) (E : XK) : List V → Hp → VK → Prop := fun xs H Q => ∃ a, xs = [.ref a] ∧ InsC C H a ∧ sp [.ref a] H (fun v H1 => ∃ k : Nat, v = .int k ∧ k < 1000000 ∧ Q (.int k) H1) E
theorem call_lenO (F : FnOk X.prog X.w X.K X.mg X.base CX n f fd ps sp) (hr : Room (n + 1) X.A) (O : Own X.K C f "__len__") (hb : Binds X.K fd ps []) (hx : Passes CX X E) : CallR X (.builtin "len") (rLenO C sp E) := by
  intro pins s σ H xs us Q I r h
  obtain ⟨a, rfl, ⟨dx, fs, ha⟩, hsp⟩ := h
  cases r with
  | cons ra rr =>
    cases rr
    cases ra
    obtain ⟨_, J, _⟩ := ins_get I.hok ha
    obtain ⟨od, J, _⟩ := J.look
    obtain ⟨m, hF⟩ := I.fr
    refine PySem.W.len_K hF I.ok.mod.kin J O.at' O.fn (run_own F (A := X.A.in1) (xs := [.ref a]) ⟨hr.in1, rfl⟩ hb hx I (.cons rfl .nil) hsp fun z u H1 s1 I1 rz q => ?_)
    obtain ⟨k, rfl, hk, q⟩ := q
    obtain ⟨t, rfl⟩ := rz
    exact ⟨⟨by omega, by omega⟩, .int k, H1, I1.tok _, ⟨_, rfl⟩, q⟩
def rAddO (C : Addr) (sp : Sp) (E : XK) : R2 := fun x y H Q => ∃ a b, x = .ref a ∧ y = .ref b ∧ InsC C H a ∧ InsC C H b ∧ sp [.ref a, .ref b] H (fun v H1 => ∃ c, v = .ref c ∧ Q (.ref c) H1) E
theorem op_addO (F : FnOk X.prog X.w X.K X.mg X.base CX n f fd ps sp) (hr : Room n X.A) (O : Own X.K C f "__add__") (hc : PySem.W.selfFirst X.K C = true) (hb : Binds X.K fd ps []) (hx : Passes CX X E) : OpR X (binaryOp .Add) (rAddO C sp E) := by
  intro pins s σ H x y v u Q I rx ry h
  obtain ⟨a, b, rfl, rfl, ⟨dx, fs, ha⟩, ⟨dy, gs, hb'⟩, hsp⟩ := h
  cases rx
  cases ry
  obtain ⟨_, J, _⟩ := ins_get I.hok ha
  obtain ⟨_, J', _⟩ := ins_get I.hok hb'
  obtain ⟨od, J, _⟩ := J.look
  obtain ⟨od', J', _⟩ := J'.look
  obtain ⟨m, hF⟩ := I.fr
  refine PySem.W.binop_K (op := .Add) hF I.ok.mod.kin J J'.type hc O.at' O.fn (run_own F (A := X.A) (xs := [.ref a, .ref b]) ⟨hr, rfl⟩ hb hx I (.cons rfl (.cons rfl .nil)) hsp fun z u H1 s1 I1 rz q => ?_)
  obtain ⟨c, rfl, q⟩ := q
  cases rz
  exact ⟨.ref c, H1, I1, rfl, q⟩
def rInO (C : Addr) (sp : Sp) (E : XK) : R2 := fun x y H Q => ∃ a, y = .ref a ∧ InsC C H a ∧ sp [.ref a, x] H (fun v H1 => ∃ b, v = .bl b ∧ Q (.bl b) H1) E
def rNotInO (C : Addr) (sp : Sp) (E : XK) : R2 := fun x y H Q => ∃ a, y = .ref a ∧ InsC C H a ∧ sp [.ref a, x] H (fun v H1 => ∃ b, v = .bl b ∧ Q (.bl (!b)) H1) E
theorem op_inO (F : FnOk X.prog X.w X.K X.mg X.base CX n f fd ps sp) (hr : Room n X.A) (O : Own X.K C f "__contains__") (hb : Binds X.K fd ps []) (hx : Passes CX X E) : OpR X (compareOp .In) (rInO C sp E) := by
  intro pins s σ H x y v u Q I rx ry h
  obtain ⟨a, rfl, ⟨dx, fs, ha⟩, hsp⟩ := h
  cases ry
  obtain ⟨_, J, _⟩ := ins_get I.hok ha
  obtain ⟨od, J, _⟩ := J.look
  obtain ⟨m, hF⟩ := I.fr
  refine PySem.W.in_K hF I.ok.mod.kin J O.at' O.fn (run_own F (A := X.A) (xs := [.ref a, x]) ⟨hr, rfl⟩ hb hx I (.cons rfl (.cons rx .nil)) hsp fun z u H1 s1 I1 rz q => ?_)
  obtain ⟨b, rfl, q⟩ := q
  cases rz
  exact wpAny_truthy_bool ⟨.bl b, H1, I1, rfl, q⟩
theorem op_notInO (F : FnOk X.prog X.w X.K X.mg X.base CX n f fd ps sp) (hr : Room n X.A) (O : Own X.K C f "__contains__") (hb : Binds X.K fd ps []) (hx : Passes CX X E) : OpR X (compareOp .NotIn) (rNotInO C sp E) := by
  intro pins s σ H x y v u Q I rx ry h
  obtain ⟨a, rfl, ⟨dx, fs, ha⟩, hsp⟩ := h
  cases ry
  obtain ⟨_, J, _⟩ := ins_get I.hok ha
  obtain ⟨od, J, _⟩ := J.look
  obtain ⟨m, hF⟩ := I.fr
  refine PySem.W.notIn_K hF I.ok.mod.kin J O.at' O.fn (run_own F (A := X.A) (xs := [.ref a, x]) ⟨hr, rfl⟩ hb hx I (.cons rfl (.cons rx .nil)) hsp fun z u H1 s1 I1 rz q => ?_)
  obtain ⟨b, rfl, q⟩ := q
  cases rz
  exact wpAny_truthy_bool ⟨.bl (!b), H1, I1, rfl, q⟩
/-- o[e] by the own __getitem__ -/
def rIxO (C : Addr) (sp : Sp) (E : XK) : R2 := fun x y H Q => ∃ a, x = .ref a ∧ InsC C H a ∧ sp [.ref a, y] H Q E
theorem pe_ixO {a b : Expr} {ta tb : TE} {pos : Pos} (F : FnOk X.prog X.w X.K X.mg X.base CX n f fd ps sp) (hr : Room (n + 1) X.A) (O : Own X.K C f "__getitem__") (hf : PySem.W.fnIn X.K f = true) (hb : Binds X.K fd ps []) (hx : Passes CX X E) (ha : PE X a ta) (hi : PE X b tb)
    (hs : ∀ v i, subscripted b true v i = runValue (.builtin "lifetime.subscript" ⟨[v, i], []⟩)) : PE X (.Subscript a b pos) (tOp (rIxO C sp E) ta tb) := by
  refine ⟨fun pins s σ H Q I h => ?_⟩
  refine Subscript_ (binT ha hi I h fun v u s2 x y H2 I2 rx ry q => ?_)
  obtain ⟨p, rfl, ⟨dx, fs, hp⟩, hsp⟩ := q
  cases rx
  obtain ⟨_, J, _⟩ := ins_get I2.hok hp
  obtain ⟨od, J, _⟩ := J.look
  obtain ⟨m, hF⟩ := I2.fr
  exact PySem.W.sub_K hF I2.ok.mod.kin J O.at' hf O.fn (run_own F (A := X.A.in1) (xs := [.ref p, y]) ⟨hr.in1, rfl⟩ hb hx I2 (.cons rfl (.cons ry .nil)) hsp fun z u H1 s1 I1 rz q => ⟨z, H1, I1, rz, q⟩) (hs _ _)
/-- == by the own __eq__, either answer -/
def rEqO (C : Addr) (sp : Sp) (E : XK) : R2 := fun x y H Q => ∃ a b, x = .ref a ∧ y = .ref b ∧ InsC C H a ∧ InsC C H b ∧ sp [.ref a, .ref b] H (fun v H1 => ∃ c, v = .bl c ∧ Q (.bl c) H1) E
theorem op_eqO (F : FnOk X.prog X.w X.K X.mg X.base CX n f fd ps sp) (hr : Room n X.A) (O : Own X.K C f "__eq__") (hb : Binds X.K fd ps []) (hx : Passes CX X E) : OpR X (compareOp .Eq) (rEqO C sp E) := by
  intro pins s σ H x y v u Q I rx ry h
  obtain ⟨a, b, rfl, rfl, ⟨dx, fs, ha⟩, ⟨dy, gs, hb'⟩, hsp⟩ := h
  cases rx
  cases ry
  obtain ⟨_, J, _⟩ := ins_get I.hok ha
  obtain ⟨_, J', _⟩ := ins_get I.hok hb'
  obtain ⟨od, J, _⟩ := J.look
  obtain ⟨od', J', _⟩ := J'.look
  obtain ⟨m, hF⟩ := I.fr
  show wpAny (model X.prog X.w) X.A (richCompare .Eq (.ref a) (.ref b)) (EP X pins σ Q) X.xe s
  refine PySem.W.cmp_K (op := .Eq) (tb := .ref C) hr.units0 hF I.ok.mod.kin J J'.type (by simp [PySem.W.notFirst]) O.at' O.fn (run_own F (A := X.A) (xs := [.ref a, .ref b]) ⟨hr, rfl⟩ hb hx I (.cons rfl (.cons rfl .nil)) hsp fun z u H1 s1 I1 rz q => ?_)
  obtain ⟨c, rfl, q⟩ := q
  cases rz
  exact ⟨.bl c, H1, I1, rfl, q⟩
end
end WO

end
section
set_option Elab.async false
set_option linter.all false
set_option maxRecDepth 100000
set_option maxHeartbeats 4000000
/-! ## where the law draws from -/
namespace S
open PySem L2
def top (i : Nat) : Stmt := PySem.Challenge.pw_roadsizes_k04_whole_first_pieces_decide.main.body.getD i (.Pass ⟨0, 0, 0, 0⟩)
abbrev sSource : Stmt := top 44
abbrev sDraw : Stmt := top 45
abbrev sPick : Stmt := top 46
/-- the built-ins that these defs call -/
structure Bi (mg : Str → Option Value) : Prop where
  int : mg "int" = none
  len : mg "len" = none
/-- a source: two numbers that are not negative, the second one small -/
def Two (r m : Int) : List V := [.int r, .int m]
structure Fine (r m : Int) : Prop where
  r0 : 0 ≤ r
  m0 : 0 ≤ m
  m1 : m < 2147483648
def At (H : Hp) (p : Addr) : Prop := ∃ r m, H p = some (.lst (Two r m)) ∧ Fine r m
theorem bits_lt (x : Int) : x.natAbs < 2 ^ (Builtin.Int.intBits x) := by
  unfold Builtin.Int.intBits
  split
  · rename_i h
    have e : x = 0 := by simpa using h
    subst e
    decide
  · exact Nat.lt_log2_self
theorem bits_le {x : Int} {n : Nat} (h : x.natAbs < 2 ^ n) : Builtin.Int.intBits x ≤ n := by
  unfold Builtin.Int.intBits
  split
  · exact Nat.zero_le _
  · rename_i q
    have ne : x.natAbs ≠ 0 := fun e => q (by simp [Int.natAbs_eq_zero.mp e])
    exact (Nat.log2_lt ne).mpr h
theorem cube_ok {m z : Int} (h0 : 0 ≤ m) (h1 : m < 2147483648) (hz : Builtin.Int.intBits z ≤ 1048576) : (Builtin.Int.intBits (m * 48611 + z) : Int) * 3 ≤ 2 ^ 27 := by
  have b1 := bits_lt z
  have b2 : z.natAbs < 2 ^ 1048576 := Nat.lt_of_lt_of_le b1 (Nat.pow_le_pow_right (by decide) hz)
  have b3 : (m * 48611 + z).natAbs < 2 ^ 1048577 := by
    have e : (2 : Nat) ^ 1048577 = 2 ^ 1048576 * 2 := Nat.pow_succ ..
    have e2 : (2 : Nat) ^ 100 ≤ 2 ^ 1048576 := Nat.pow_le_pow_right (by decide) (by decide)
    have e3 : (2 : Nat) ^ 100 = 1267650600228229401496703205376 := by decide
    generalize (2 : Nat) ^ 1048576 = t at *
    rw [e]
    omega
  have b4 := bits_le b3
  have e27 : (2 : Int) ^ 27 = 134217728 := by decide
  rw [e27]
  omega
/-! ### promises -/
def spSource (K : PySem.W.Frag) : Sp := fun vs H Q _ => ∃ (a : Addr) (ns : List Int) (i : Nat), vs = [.ref a, .int i] ∧ i ≤ 1000 ∧ SqL K H a (ns.map V.int) ∧ ns.length ≤ 63 ∧ (∀ z ∈ ns, Builtin.Int.intBits z ≤ 1048576) ∧
  ∀ p r m, H p = none → Fine r m → Q (.ref p) (upd H p (.lst (Two r m)))
def spDraw : Sp := fun vs H Q _ => ∃ (p : Addr) (r m span : Int), vs = [.ref p, .int span] ∧ H p = some (.lst (Two r m)) ∧ Fine r m ∧ 1 ≤ span ∧ span.natAbs.log2 < 9000 ∧
  ∀ k r' m', Fine r' m' → 0 ≤ k → k < span → Q (.int k) (upd H p (.lst (Two r' m')))
def spPick (K : PySem.W.Frag) : Sp := fun vs H Q _ => ∃ (p l : Addr) (r m : Int) (xs : List V), vs = [.ref p, .ref l] ∧ H p = some (.lst (Two r m)) ∧ Fine r m ∧ l ≠ p ∧ SqL K H l xs ∧ 1 ≤ xs.length ∧ xs.length ≤ 1000 ∧
  ∀ (j : Nat) (x : V) (r' m' : Int), Fine r' m' → xs[j]? = some x → Q x (upd H p (.lst (Two r' m')))
section
variable {P : Program} {w : World} {K : PySem.W.Frag} {mg : Str → Option Value} {base : Heap}
theorem sc1 : FnScope ["script", "start", "mixed", "cell", "rest"] ["script", "start"] (defScope sSource) := ⟨rfl, rfl, rfl, by decide +kernel, rfl, by decide +kernel, by decide +kernel⟩
theorem ints_at {ns : List Int} {i : Nat} {x : V} (h : (ns.map V.int)[i]? = some x) : ∃ z, x = .int z ∧ z ∈ ns ∧ ns[i]? = some z := by
  rw [List.getElem?_map] at h
  cases e : ns[i]? with
  | none => rw [e] at h; cases h
  | some z => rw [e] at h; exact ⟨z, (Option.some.inj h).symm, List.mem_of_getElem? e, rfl⟩
theorem ok_source {f : Addr} {fd : FuncData} (F : Fun K "_law_source" "_law_source" sSource f fd) (B : Bi mg) : FnOk P w K mg base CX0 1 f fd ["script", "start"] (spSource K) := by
  refine F.ok sc1 (fun vs H Q E h => ?_) (fun cdv A outer s H vs Q E hr h => ?_)
  · obtain ⟨a, ns, i, rfl, _⟩ := h
    rfl
  · obtain ⟨a, ns, st, rfl, hst, hS, hl, hb, k⟩ := h
    refine ⟨_, pss_cons (ps_set (i := 2) sc1.nd rfl (Or.inl rfl) (pe_op op_add pe_int (pv 1)))
      (pss_cons (ps_for PassesOwn.never rfl (pi_list (pv 0)) (pg_name (i := 3) sc1.nd rfl (Or.inl rfl))
        (pss_one (ps_set (i := 2) sc1.nd rfl (Or.inl rfl) (pe_op op_add (pe_op op_mod (pe_callTy call_int1 (by rfl) B.int (by decide +kernel)
          (pa_cons (pe_op G.op_powN (pe_callTy call_int1 (by rfl) B.int (by decide +kernel) (pa_cons (pe_op op_add (pe_op op_mul (pv 2) pe_int) (pe_callTy call_int1 (by rfl) B.int (by decide +kernel) (pa_cons (pv 3) pa_nil))) pa_nil)) pe_int) pa_nil)) pe_int) pe_int))))
      (pss_cons (ps_set (i := 4) sc1.nd rfl (Or.inl rfl) pe_int)
      (pss_cons (ps_if (PW.pt (pw_and (pt_cmpR op_lt (pv 1) (pe_callB call_len_seq (by rfl) B.len PySem.boot_len (pa_cons (pv 0) pa_nil)) (nomark _))
          (pw_and1 (pt_cmpR op_ge (pe_ix ix_list (pv 0) (pv 1) (fun _ _ => rfl)) (pe_op op_pow pe_int pe_int) (nomark _)))))
        (pss_one (ps_set (i := 4) sc1.nd rfl (Or.inl rfl) (pe_op op_sub (pe_ix ix_list (pv 0) (pv 1) (fun _ _ => rfl)) (pe_op op_pow pe_int pe_int)))) pss_nil)
      (pss_one (ps_ret (pe_lst (pa_cons (pv 4) (pa_cons (pv 2) pa_nil)))))))), ?_⟩
    -- mixed = 97 + start
    refine ⟨_, rfl, _, _, rfl, rfl, ?_⟩
    -- for cell in script
    refine ⟨_, rfl, a, rfl, ⟨_, hS⟩, for_list (K := K) (a := a) (xs := ns.map V.int) (fun i σ H2 => ∃ (m : Int) (c : Option V), σ = [some (.ref a), some (.int st), some (.int m), c, none] ∧ H2 = H ∧ (0 ≤ m ∧ m < 2147483648))
      ⟨_, none, rfl, rfl, by omega, by omega⟩ (fun i σ H2 _ ⟨_, _, _, e, _⟩ => by rw [e]; exact hS) ?_ ?_⟩
    · rintro i y σ H2 hi ⟨m, c, rfl, rfl, h0, h1⟩
      obtain ⟨z, rfl, hz, _⟩ := ints_at hi
      refine ⟨_, rfl, _, _, rfl, rfl, .inl ⟨by omega, by omega⟩, _, rfl, .inl ⟨_, rfl, _, _, rfl, rfl, .inl ⟨_, rfl, _, _, rfl, rfl, ⟨by decide, cube_ok h0 h1 (hb z hz)⟩, .inl ⟨_, rfl, _, _, rfl, rfl, (by show (0 : Int) < 2147483587; decide), _, _, rfl, rfl, ?_⟩⟩⟩⟩
      refine ⟨_, _, rfl, rfl, ?_⟩
      have e1 := Int.emod_nonneg ((m * 48611 + z) ^ (3 : Int).toNat) (b := 2147483587) (by decide)
      have e2 := Int.emod_lt_of_pos ((m * 48611 + z) ^ (3 : Int).toNat) (b := 2147483587) (by decide)
      exact ⟨Int.add_nonneg e1 (by decide), Int.lt_of_lt_of_le (Int.add_lt_add_right e2 1) (by decide)⟩
    · rintro σ H2 ⟨m, c, rfl, rfl, h0, h1⟩
      -- rest = 0; if start < len(script) and script[start] >= 10 ** 18
      refine ⟨_, rfl, _, rfl, a, _, rfl, .inl hS, _, _, rfl, rfl, _, rfl, ?_⟩
      have fin : ∀ r : Int, 0 ≤ r → tRet (tLst (tCons (tVar 4) (tCons (tVar 2) tNil))) { nx := fun _ H' => Q .non H', rt := Q } [some (.ref a), some (.int st), some (.int m), c, some (.int r)] H2 := fun r hr =>
        ⟨_, rfl, _, rfl, (by show 2 ≤ sizeLine; decide), fun p hp => k p r m hp ⟨hr, h0, h1⟩⟩
      by_cases hlt : st < ns.length
      · have e : decide ((st : Int) < ((ns.map V.int).length : Int)) = true := by
          rw [List.length_map]
          exact decide_eq_true (by omega)
        rw [e]
        refine iteT ?_
        have hit : (ns.map V.int)[st]? = some (V.int ns[st]) := by rw [List.getElem?_map, List.getElem?_eq_getElem hlt]; rfl
        refine ⟨_, rfl, _, rfl, a, _, _, _, rfl, rfl, hS, atI_nat hit, _, _, rfl, rfl, ⟨by decide, by decide, by decide⟩, _, _, rfl, rfl, _, rfl, ?_⟩
        refine ite2 (fun hge => ?_) (fun _ => fin 0 (by decide))
        refine ⟨_, rfl, _, rfl, a, _, _, _, rfl, rfl, hS, atI_nat hit, _, _, rfl, rfl, ⟨by decide, by decide, by decide⟩, _, _, rfl, rfl, ?_⟩
        exact fin _ (Int.sub_nonneg_of_le (of_decide_eq_true hge))
      · have e : decide ((st : Int) < ((ns.map V.int).length : Int)) = false := by
          rw [List.length_map]
          exact decide_eq_false (by omega)
        rw [e]
        exact iteF (iteF (fin 0 (by decide)))
theorem fits {a : Int} {n : Nat} (h : 0 ≤ a) (h1 : a < 2 ^ n) : a.natAbs < 2 ^ n := by
  have e : ((2 : Int) ^ n) = ((2 ^ n : Nat) : Int) := by rw [Int.natCast_pow]; rfl
  rw [e] at h1
  omega
theorem sc2 : FnScope ["source", "span", "found"] ["source", "span"] (defScope sDraw) := ⟨rfl, rfl, rfl, by decide +kernel, rfl, by decide +kernel, by decide +kernel⟩
theorem ok_draw {f : Addr} {fd : FuncData} (F : Fun K "_law_draw" "_law_draw" sDraw f fd) (B : Bi mg) : FnOk P w K mg base CX0 1 f fd ["source", "span"] spDraw := by
  refine F.ok sc2 (fun vs H Q E h => ?_) (fun cdv A outer s H vs Q E hr h => ?_)
  · obtain ⟨p, r, m, span, rfl, _⟩ := h
    rfl
  · obtain ⟨p, r, m, span, rfl, hp, ⟨r0, m0, m1⟩, s1, s2, k⟩ := h
    refine ⟨_, pss_cons (ps_if (pt_cmpR op_ge (pe_ix ix_list (pv 0) pe_int (fun _ _ => rfl)) (pv 1) (nomark _))
        (pss_cons (ps_set (i := 2) sc2.nd rfl (Or.inl rfl) (pe_op op_mod (pe_callTy call_int1 (by rfl) B.int (by decide +kernel) (pa_cons (pe_ix ix_list (pv 0) pe_int (fun _ _ => rfl)) pa_nil)) (pv 1)))
        (pss_cons (ps_asg (pe_op op_fdivW (pe_ix ix_list (pv 0) pe_int (fun _ _ => rfl)) (pv 1)) (pg_sub (pv 0) pe_int set_list))
        (pss_one (ps_ret (pv 2))))) pss_nil)
      (pss_cons (ps_asg (pe_op op_mod (pe_callTy call_int1 (by rfl) B.int (by decide +kernel) (pa_cons (pe_op op_add (pe_op op_mul (pe_ix ix_list (pv 0) pe_int (fun _ _ => rfl)) pe_int) pe_int) pa_nil)) pe_int) (pg_sub (pv 0) pe_int set_list))
      (pss_one (ps_ret (pe_op op_mod (pe_callTy call_int1 (by rfl) B.int (by decide +kernel) (pa_cons (pe_op op_fdiv (pe_op op_mod (pe_callTy call_int1 (by rfl) B.int (by decide +kernel)
        (pa_cons (pe_op op_pow (pe_callTy call_int1 (by rfl) B.int (by decide +kernel) (pa_cons (pe_ix ix_list (pv 0) pe_int (fun _ _ => rfl)) pa_nil)) pe_int) pa_nil)) pe_int) pe_int) pa_nil)) (pv 1))))), ?_⟩
    have g0 : atI (Two r m) 0 = some (.int r) := rfl
    refine ⟨_, rfl, p, _, _, _, rfl, rfl, SqL.of hp, g0, _, rfl, _, _, rfl, rfl, _, rfl, ?_⟩
    refine ite2 (fun hge => ?_) (fun hlt => ?_)
    · have hge' : span ≤ r := of_decide_eq_true hge
      have q0 : 0 ≤ r / span := Int.ediv_nonneg r0 (by omega)
      refine ⟨_, rfl, p, _, _, _, rfl, rfl, SqL.of hp, g0, .inl ⟨_, rfl, _, rfl, _, _, rfl, rfl, (by show 0 < span; omega), ?_⟩⟩
      refine ⟨_, rfl, p, _, _, _, rfl, rfl, SqL.of hp, g0, _, rfl, _, _, rfl, rfl, ⟨(by omega), s2⟩, ?_⟩
      refine ⟨_, rfl, p, _, _, _, rfl, rfl, hp, rfl, ?_⟩
      exact ⟨_, rfl, k (r % span) (r / span) m ⟨q0, m0, m1⟩ (Int.emod_nonneg _ (by omega)) (Int.emod_lt_of_pos _ (by omega))⟩
    · have g1 : atI (Two r m) 1 = some (.int m) := rfl
      have e1 := Int.emod_nonneg (m * 69621 + 7919) (b := 2147483647) (by decide)
      have e2 := Int.emod_lt_of_pos (m * 69621 + 7919) (b := 2147483647) (by decide)
      refine ⟨_, rfl, p, _, _, _, rfl, rfl, SqL.of hp, g1, _, _, rfl, rfl, .inl ⟨by omega, by omega⟩, _, _, rfl, rfl, .inl ⟨_, rfl, _, _, rfl, rfl, (by show (0 : Int) < 2147483647; decide), ?_⟩⟩
      refine ⟨_, rfl, p, _, _, _, rfl, rfl, hp, rfl, ?_⟩
      have hp2 : (upd H p (.lst (Two r ((m * 69621 + 7919) % 2147483647)))) p = some (.lst (Two r ((m * 69621 + 7919) % 2147483647))) := upd_same
      have g2 : atI (Two r ((m * 69621 + 7919) % 2147483647)) 1 = some (.int ((m * 69621 + 7919) % 2147483647)) := rfl
      refine ⟨_, rfl, p, _, _, _, rfl, rfl, SqL.of hp2, g2, .inl ⟨_, rfl, _, _, rfl, rfl, ⟨by decide, by decide, by omega⟩, .inl ⟨_, rfl, _, _, rfl, rfl, (by show (0 : Int) < 1000000007; decide), _, _, rfl, rfl, ⟨by decide, by decide⟩, .inl ⟨_, rfl, _, rfl, _, _, rfl, rfl, (by show 0 < span; omega), ?_⟩⟩⟩⟩
      exact k _ r _ ⟨r0, e1, by omega⟩ (Int.emod_nonneg _ (by omega)) (Int.emod_lt_of_pos _ (by omega))
theorem sc3 : FnScope ["source", "items"] ["source", "items"] (defScope sPick) := ⟨rfl, rfl, rfl, by decide +kernel, rfl, by decide +kernel, by decide +kernel⟩
theorem ok_pick {f fD : Addr} {fd fdD : FuncData} (F : Fun K "_law_pick" "_law_pick" sPick f fd) (B : Bi mg) (FD : Fun K "_law_draw" "_law_draw" sDraw fD fdD) (gD : mg "_law_draw" = some (.ref fD)) (bD : Binds K fdD ["source", "span"] []) :
    FnOk P w K mg base CX0 2 f fd ["source", "items"] (spPick K) := by
  have GD : FnOk P w K mg base CX0 1 fD fdD ["source", "span"] spDraw := ok_draw FD B
  refine F.ok sc3 (fun vs H Q E h => ?_) (fun cdv A outer s H vs Q E hr h => ?_)
  · obtain ⟨p, l, r, m, xs, rfl, _⟩ := h
    rfl
  · obtain ⟨p, l, r, m, xs, rfl, hp, hf, hne, hL, l1, l2, k⟩ := h
    refine ⟨_, pss_one (ps_ret (pe_ix ix_list (pv 1) (pe_call GD hr rfl gD FD.kp bD .nil pass0 (pa_cons (pv 0) (pa_cons (pe_callB call_len_seq (by rfl) B.len PySem.boot_len (pa_cons (pv 1) pa_nil)) pa_nil))) (fun _ _ => rfl))), ?_⟩
    refine ⟨_, rfl, _, rfl, _, rfl, l, xs, rfl, .inl hL, p, r, m, _, rfl, hp, hf, by omega, ?_, fun j r' m' hf' h0 h1 => ?_⟩
    · exact PySem.Flt.log2_lt_of (k := 9000) (by decide) (Nat.lt_of_lt_of_le (by omega : _ < 1001) (Nat.le_trans (by decide : 1001 ≤ 2 ^ 10) (Nat.pow_le_pow_right (by decide) (by decide))))
    · obtain ⟨n, rfl⟩ := Int.eq_ofNat_of_zero_le h0
      have hn : n < xs.length := by omega
      have hit : xs[n]? = some xs[n] := List.getElem?_eq_getElem hn
      refine ⟨l, xs, _, xs[n], rfl, rfl, ?_, atI_nat hit, k n _ r' m' hf' hit⟩
      rcases hL with (h | ⟨o, h⟩) | h
      · exact .inl (.inl (by rw [upd_ne hne]; exact h))
      · exact .inl (.inr ⟨o, by rw [upd_ne hne]; exact h⟩)
      · exact .inr h
end
end S

end
section
set_option autoImplicit false
set_option Elab.async false
set_option linter.all false
set_option maxRecDepth 100000
set_option maxHeartbeats 4000000
/-! ## the law's draws of ways -/
namespace WP
open PySem L2 G
abbrev sLMost : Stmt := top 47
/-- all but the source at p stays -/
def Bt (p : Addr) (H H' : Hp) : Prop := (∀ a o, a ≠ p → H a = some o → H' a = some o) ∧ S.At H' p
theorem Bt.trans {p : Addr} {H H1 H2 : Hp} (a : Bt p H H1) (b : Bt p H1 H2) : Bt p H H2 := ⟨fun x o n e => b.1 x o n (a.1 x o n e), b.2⟩
theorem Bt.same {p : Addr} {H H' : Hp} (s : Same H H') (h : S.At H p) : Bt p H H' := by
  obtain ⟨r, m, e, f⟩ := h
  exact ⟨fun a o _ e2 => s _ _ e2, r, m, s _ _ e, f⟩
theorem Bt.put {p : Addr} {H : Hp} {r m : Int} (f : S.Fine r m) : Bt p H (upd H p (.lst (S.Two r m))) := ⟨fun a o n e => by rw [upd_ne n]; exact e, r, m, upd_same, f⟩
section
variable {P : Program} {w : World} {K : PySem.W.Frag} {mg : Str → Option Value} {base : Heap} {C : Addr}
def spLMost : Sp := fun vs H Q _ => ∃ p, vs = [.ref p] ∧ S.At H p ∧ ∀ (m : Nat) H', 1 ≤ m → m ≤ 1000000000000 → Bt p H H' → Q (.int (m : Int)) H'
theorem scLM : FnScope ["source"] ["source"] (defScope sLMost) := ⟨rfl, rfl, rfl, by decide +kernel, rfl, by decide +kernel, by decide +kernel⟩
theorem ok_lmost {f : Addr} {fd : FuncData} (F : Fun K "_law_most" "_law_most" sLMost f fd) (D : Df P w K mg base 1 "_law_draw" ["source", "span"] S.spDraw) (PK : Df P w K mg base 2 "_law_pick" ["source", "items"] (S.spPick K)) : FnOk P w K mg base CX0 3 f fd ["source"] spLMost := by
  obtain ⟨fD, fdD, GD, gD, kD, bD⟩ := D.ex
  obtain ⟨fP, fdP, GP, gP, kP, bP⟩ := PK.ex
  refine F.ok scLM (fun vs H Q E h => ?_) (fun cdv A outer s H vs Q E hr h => ?_)
  · obtain ⟨p, rfl, _⟩ := h
    rfl
  · obtain ⟨p, rfl, ⟨r, m, hp, hf⟩, kk⟩ := h
    refine ⟨_, pss_one (ps_ret (pe_call GP hr rfl gP kP bP .nil pass0 (pa_cons (pv 0) (pa_cons (pe_lst (pa_cons pe_int (pa_cons pe_int (pa_cons pe_int (pa_cons pe_int (pa_cons pe_int (pa_cons pe_int (pa_cons (pe_op op_powN pe_int pe_int) (pa_cons (pe_op op_add pe_int (pe_call GD (hr.mono (by decide)) rfl gD kD bD .nil pass0 (pa_cons (pv 0) (pa_cons pe_int pa_nil)))) pa_nil))))))))) pa_nil)))), ?_⟩
    refine ⟨_, rfl, 10, 12, rfl, rfl, ⟨by decide, by decide +kernel⟩, _, rfl, p, r, m, 30, rfl, hp, hf, by decide, by decide +kernel, fun j r1 m1 hf1 j0 j1 => ⟨_, _, rfl, rfl, (by show 8 ≤ sizeLine; decide), fun l hl => ?_⟩⟩
    have lp : l ≠ p := fun z => by
      rw [z, upd_same] at hl
      cases hl
    refine ⟨p, l, r1, m1, _, rfl, by rw [upd_ne lp.symm]; exact upd_same, hf1, lp, SqL.of upd_same, (by show 1 ≤ 8; decide), (by show 8 ≤ 1000; decide), fun i x r2 m2 hf2 hx => ?_⟩
    have bt : Bt p H (upd (upd (upd H p (.lst (S.Two r1 m1))) l (.lst [V.int 1, V.int 2, V.int 3, V.int 4, V.int 5, V.int 8, V.int (10 ^ (12 : Int).toNat), V.int (1 + j)])) p (.lst (S.Two r2 m2))) := (Bt.put hf1).trans ((Bt.same (Same.of_upd hl) ⟨r1, m1, upd_same, hf1⟩).trans (Bt.put hf2))
    have hi : i < 8 := (List.getElem?_eq_some_iff.mp hx).1
    have fin : ∀ n : Nat, x = .int (n : Int) → 1 ≤ n → n ≤ 1000000000000 → Q x _ := fun n e a b => by
      subst e
      exact kk n _ a b bt
    match i, hi, hx with
    | 0, _, hx => exact fin 1 (by cases hx; rfl) (by decide) (by decide)
    | 1, _, hx => exact fin 2 (by cases hx; rfl) (by decide) (by decide)
    | 2, _, hx => exact fin 3 (by cases hx; rfl) (by decide) (by decide)
    | 3, _, hx => exact fin 4 (by cases hx; rfl) (by decide) (by decide)
    | 4, _, hx => exact fin 5 (by cases hx; rfl) (by decide) (by decide)
    | 5, _, hx => exact fin 8 (by cases hx; rfl) (by decide) (by decide)
    | 6, _, hx => exact fin 1000000000000 (by cases hx; rfl) (by decide) (by decide)
    | 7, _, hx => exact fin (1 + j).toNat (by cases hx; exact congrArg V.int (by omega)) (by omega) (by omega)
    | i + 8, h, _ => exact absurd h (by omega)
end
end WP

end
section
set_option autoImplicit false
set_option Elab.async false
set_option linter.all false
set_option maxRecDepth 100000
set_option maxHeartbeats 4000000
namespace WP
open PySem L2 G
abbrev sLRoad : Stmt := top 48
section
variable {P : Program} {w : World} {K : PySem.W.Frag} {mg : Str → Option Value} {base : Heap} {C : Addr}
/-- 1 + a draw below n, as an item of a list -/
theorem draw_of {σ : St} {H : Hp} {Q : VK} {p : Addr} {E : XK} {i : Nat} {c n : Int} (hσ : σ[i]? = some (some (.ref p))) (h : S.At H p) (n1 : 1 ≤ n) (n2 : n.natAbs.log2 < 9000) (k : ∀ j H', 0 ≤ j → j < n → Bt p H H' → Q (.int (c + j)) H') :
    tOp (rI0 fun i j => .int (i + j)) (tC (.int c)) (tCall S.spDraw [] E (tCons (tVar i) (tCons (tC (.int n)) tNil))) σ H Q := by
  obtain ⟨r, m, hp, hf⟩ := h
  exact ⟨_, hσ, p, r, m, n, rfl, hp, hf, n1, n2, fun j r1 m1 f1 j0 j1 => ⟨_, _, rfl, rfl, k j _ j0 j1 (Bt.put f1)⟩⟩
/-- a pick from a list just made -/
theorem pick_at {H : Hp} {Q : VK} {p l : Addr} {E : XK} {xs : List V} (h : S.At H p) (hl : H l = none) (h1 : 1 ≤ xs.length) (h2 : xs.length ≤ 1000) (k : ∀ x H', x ∈ xs → Bt p H H' → Q x H') : S.spPick K [.ref p, .ref l] (upd H l (.lst xs)) Q E := by
  obtain ⟨r, m, hp, hf⟩ := h
  have lp : l ≠ p := fun z => by
    rw [z, hp] at hl
    cases hl
  exact ⟨p, l, r, m, xs, rfl, by rw [upd_ne lp.symm]; exact hp, hf, lp, SqL.of upd_same, h1, h2, fun j x r2 m2 f2 hx => k x _ (List.mem_of_getElem? hx) ((Bt.same (Same.of_upd hl) ⟨r, m, hp, hf⟩).trans (Bt.put f2))⟩
theorem pick_of {σ : St} {H : Hp} {Q : VK} {p : Addr} {E : XK} {i : Nat} {xs : List V} {ta : TA} (hσ : σ[i]? = some (some (.ref p))) (h : S.At H p) (h1 : 1 ≤ xs.length) (h2 : xs.length ≤ 1000) (ha : ∀ Q2 : List V → Hp → Prop, Q2 xs H → ta σ H Q2) (k : ∀ x H', x ∈ xs → Bt p H H' → Q x H') :
    tCall (S.spPick K) [] E (tCons (tVar i) (tCons (tLst ta) tNil)) σ H Q := ⟨_, hσ, ha _ ⟨Nat.le_trans h2 (by decide), fun l hl => pick_at (E := E) h hl h1 h2 k⟩⟩
theorem sd_of {x : V} (h : x ∈ [V.str "tell", V.str "drop"]) : ∃ ts, x = .str (sdS ts) := by
  rcases List.mem_cons.mp h with e | h
  · exact ⟨true, e⟩
  · have e : x = V.str "drop" := by simpa using h
    exact ⟨false, e⟩
theorem lw_of {x : V} (h : x ∈ [V.str "cut", V.str "cut", V.str "cut", V.str "tell", V.str "drop"]) : ∃ lw, x = .str (lwS lw) := by
  rcases List.mem_cons.mp h with e | h
  · exact ⟨.cut, e⟩
  rcases List.mem_cons.mp h with e | h
  · exact ⟨.cut, e⟩
  rcases List.mem_cons.mp h with e | h
  · exact ⟨.cut, e⟩
  rcases List.mem_cons.mp h with e | h
  · exact ⟨.tell, e⟩
  · have e : x = V.str "drop" := by simpa using h
    exact ⟨.drop, e⟩
def spLRoad : Sp := fun vs H Q _ => ∃ (p : Addr) (h : Nat), vs = [.ref p, .int (h : Int)] ∧ S.At H p ∧ ∀ t H' (c : Nat) (ts : Bool) (lw : M.LW), 1 ≤ c → c ≤ 70 → Bt p H H' → H' t = some (.tup [.str "road", .int ((h + c : Nat) : Int), .str (sdS ts), .str (lwS lw)]) → Q (.ref t) H'
theorem scLR : FnScope ["source", "head", "cut", "words"] ["source", "head"] (defScope sLRoad) := ⟨rfl, rfl, rfl, by decide +kernel, rfl, by decide +kernel, by decide +kernel⟩
theorem ok_lroad {f : Addr} {fd : FuncData} (F : Fun K "_law_road" "_law_road" sLRoad f fd) (D : Df P w K mg base 1 "_law_draw" ["source", "span"] S.spDraw) (PK : Df P w K mg base 2 "_law_pick" ["source", "items"] (S.spPick K)) : FnOk P w K mg base CX0 3 f fd ["source", "head"] spLRoad := by
  obtain ⟨fD, fdD, GD, gD, kD, bD⟩ := D.ex
  obtain ⟨fP, fdP, GP, gP, kP, bP⟩ := PK.ex
  refine F.ok scLR (fun vs H Q E h => ?_) (fun cdv A outer s H vs Q E hr h => ?_)
  · obtain ⟨p, h, rfl, _⟩ := h
    rfl
  · obtain ⟨p, h, rfl, hp, kk⟩ := h
    have r1 := hr.mono (by decide : 1 ≤ 2)
    refine ⟨_, pss_cons (ps_set (i := 2) scLR.nd rfl (Or.inl rfl) (pe_call GP hr rfl gP kP bP .nil pass0 (pa_cons (pv 0) (pa_cons (pe_lst (pa_cons (pe_op op_add pe_int (pe_call GD r1 rfl gD kD bD .nil pass0 (pa_cons (pv 0) (pa_cons pe_int pa_nil)))) (pa_cons (pe_op op_add pe_int (pe_call GD r1 rfl gD kD bD .nil pass0 (pa_cons (pv 0) (pa_cons pe_int pa_nil)))) (pa_cons (pe_op op_add pe_int (pe_call GD r1 rfl gD kD bD .nil pass0 (pa_cons (pv 0) (pa_cons pe_int pa_nil)))) pa_nil)))) pa_nil))))
      (pss_cons (ps_set (i := 3) scLR.nd rfl (Or.inl rfl) (pe_tup (pa_cons (pe_call GP hr rfl gP kP bP .nil pass0 (pa_cons (pv 0) (pa_cons (pe_lst (pa_cons pe_str (pa_cons pe_str pa_nil))) pa_nil))) (pa_cons (pe_call GP hr rfl gP kP bP .nil pass0 (pa_cons (pv 0) (pa_cons (pe_lst (pa_cons pe_str (pa_cons pe_str (pa_cons pe_str (pa_cons pe_str (pa_cons pe_str pa_nil)))))) pa_nil))) pa_nil))))
      (pss_one (ps_ret (pe_op op_catT (pe_tup (pa_cons pe_str (pa_cons (pe_op op_add (pv 1) (pv 2)) pa_nil))) (pv 3))))), ?_⟩
    refine ⟨_, rfl, draw_of rfl hp (by decide) (by decide +kernel) fun j1 H1 a0 a1 b1 => draw_of rfl b1.2 (by decide) (by decide +kernel) fun j2 H2 c0 c1 b2 => draw_of rfl b2.2 (by decide) (by decide +kernel) fun j3 H3 d0 d1 b3 => ⟨line2.2.1, fun l hl => pick_at (E := E) b3.2 hl (by show 1 ≤ 3; decide) (by show 3 ≤ 1000; decide) fun x H4 hx b4 => ?_⟩⟩
    obtain ⟨c, rfl, n1, n2⟩ : ∃ c : Nat, x = .int (c : Int) ∧ 1 ≤ c ∧ c ≤ 70 := by
      rcases List.mem_cons.mp hx with e | hx
      · exact ⟨(1 + j1).toNat, e.trans (congrArg V.int (by omega)), by omega, by omega⟩
      rcases List.mem_cons.mp hx with e | hx
      · exact ⟨(3 + j2).toNat, e.trans (congrArg V.int (by omega)), by omega, by omega⟩
      · have e : x = .int (10 + j3) := by simpa using hx
        exact ⟨(10 + j3).toNat, e.trans (congrArg V.int (by omega)), by omega, by omega⟩
    refine pick_of rfl b4.2 (by decide) (by decide) (fun Q2 q => q) fun y H5 hy b5 => pick_of rfl b5.2 (by decide) (by decide) (fun Q2 q => q) fun z H6 hz b6 => ⟨line2.1, fun u hu => ?_⟩
    obtain ⟨ts, rfl⟩ := sd_of hy
    obtain ⟨lw, rfl⟩ := lw_of hz
    refine ⟨_, rfl, _, rfl, _, _, rfl, rfl, line2.1, fun v hv => ⟨_, rfl, catT_of upd_same (Same.of_upd hv _ _ upd_same) (by simp) (by show 4 ≤ sizeLine; decide) fun t G sG hG => ?_⟩⟩
    have bt := b1.trans (b2.trans (b3.trans (b4.trans (b5.trans (b6.trans (Bt.same ((Same.of_upd hu).trans ((Same.of_upd hv).trans sG)) b6.2))))))
    refine kk t G c ts lw n1 n2 bt ?_
    rw [hG, Int.natCast_add]
    rfl
end
end WP

end
section
set_option autoImplicit false
set_option Elab.async false
set_option linter.all false
set_option maxRecDepth 100000
set_option maxHeartbeats 4000000
/-! ## len(way), way + way, Way(..) -/
namespace WP
open PySem L2 G
theorem StepsAt.app {C : Addr} {H : Hp} : ∀ {s r : List M.Step} {xs ys : List V}, StepsAt C H s xs → StepsAt C H r ys → StepsAt C H (s ++ r) (xs ++ ys)
  | [], r, xs, ys, a, b => by
    unfold StepsAt at a
    subst a
    exact b
  | x :: s, r, xs, ys, a, b => by
    unfold StepsAt at a
    obtain ⟨u, us, rfl, h1, h2⟩ := a
    show StepsAt C H (x :: (s ++ r)) (u :: (us ++ ys))
    unfold StepsAt
    exact ⟨u, us ++ ys, rfl, h1, h2.app b⟩
theorem StepsAt.ne {C : Addr} {H : Hp} {s : List M.Step} {xs : List V} (h : StepsAt C H s xs) (n : 1 ≤ s.length) : xs ≠ [] := fun e => by
  have := h.len
  rw [e] at this
  simp at this
  rw [← this] at n
  simp at n
section
variable {P : Program} {w : World} {K : PySem.W.Frag} {mg : Str → Option Value} {base : Heap} {C : Addr}
/-- the class as it makes ways -/
structure Mw (P : Program) (w : World) (K : PySem.W.Frag) (mg : Str → Option Value) (base : Heap) (C : Addr) : Prop where
  ex : ∃ (f : Addr) (fd : FuncData), FnOk P w K mg base CX0 6 f fd ["self", "head", "steps"] (spInit C) ∧ Mk K C f ∧ Binds K fd ["self", "head", "steps"] []
theorem made_way {H : Hp} {Q : VK} {E : XK} {l : Addr} {h : Nat} {xs : List V} {st : List M.Step} (hl : SAt H l xs) (hs : StepsAt C H st xs) (hf : M.Way.fine (.mk h st)) (k : ∀ x H', Same H H' → WayAt C H' (.mk h st) x → Q (.ref x) H') :
    ∀ x dx, H x = none → H dx = none → dx ≠ x → spInit C (.ref x :: ([.int (h : Int), .ref l] ++ [])) (upd (upd H dx (.own x)) x (.ins C dx [])) (fun v H2 => v = .non ∧ Q (.ref x) H2) E := fun x dx hx hdx ne =>
  ⟨x, l, dx, h, xs, st, H, rfl, upd_same, hx, (Same.of_upd hdx).trans (Same.of_upd (by rw [upd_ne ne.symm]; exact hx)), hl, hs, hf, fun H' s wa => ⟨rfl, k x H' s wa⟩⟩
def spLenW (C : Addr) : Sp := fun vs H Q _ => ∃ a wy, vs = [.ref a] ∧ WayAt C H wy a ∧ Q (.int ((M.Way.steps wy).length : Nat)) H
theorem scLW : FnScope ["self"] ["self"] (defScope sLen) := ⟨rfl, rfl, rfl, by decide +kernel, rfl, by decide +kernel, by decide +kernel⟩
theorem ok_len {f : Addr} {fd : FuncData} (F : Fun K "__len__" "Way.__len__" sLen f fd) (B : Bn mg) (T : Wt K mg C) : FnOk P w K mg base CX0 1 f fd ["self"] (spLenW C) := by
  refine F.ok scLW (fun vs H Q E h => ?_) (fun cdv A outer s H vs Q E hr h => ?_)
  · obtain ⟨a, wy, rfl, _⟩ := h
    rfl
  · obtain ⟨a, wy, rfl, hw, k⟩ := h
    obtain ⟨dx, fs, t, xs, h1, h2, h3, h4⟩ := steps_fld hw
    refine ⟨_, pss_one (ps_ret (pe_callB call_len_seq (by rfl) B.len PySem.boot_len (pa_cons (pe_fld (pv 0) rfl) pa_nil))), ?_⟩
    refine ⟨_, rfl, a, C, dx, fs, _, rfl, h1, T.cl, T.nS, h2, t, xs, rfl, .inr (SqT.of h3), ?_⟩
    rw [h4.len]
    exact k
def spAddW (C : Addr) : Sp := fun vs H Q _ => ∃ a b h s1 s2, vs = [.ref a, .ref b] ∧ WayAt C H (.mk h s1) a ∧ WayAt C H (.mk h s2) b ∧ 1 ≤ s1.length ∧ s1.length + s2.length ≤ 100 ∧ M.Way.fine (.mk h (s1 ++ s2)) ∧ ∀ c H', Same H H' → WayAt C H' (.mk h (s1 ++ s2)) c → Q (.ref c) H'
theorem scAW : FnScope ["self", "other"] ["self", "other"] (defScope sAdd) := ⟨rfl, rfl, rfl, by decide +kernel, rfl, by decide +kernel, by decide +kernel⟩
theorem ok_add {f : Addr} {fd : FuncData} (F : Fun K "__add__" "Way.__add__" sAdd f fd) (T : Wt K mg C) (MW : Mw P w K mg base C) : FnOk P w K mg base CX0 8 f fd ["self", "other"] (spAddW C) := by
  obtain ⟨fI, fdI, GI, MK, bI⟩ := MW.ex
  refine F.ok scAW (fun vs H Q E h => ?_) (fun cdv A outer s H vs Q E hr h => ?_)
  · obtain ⟨a, b, h, s1, s2, rfl, _⟩ := h
    rfl
  · obtain ⟨a, b, h, s1, s2, rfl, h1, h2, n1, n2, hf, k⟩ := h
    refine ⟨_, pss_cons (ps_if (pt_cmpR op_ne (pe_fld (pv 1) rfl) (pe_fld (pv 0) rfl) (nomark _)) ps_dead pss_nil)
      (pss_one (ps_ret (pe_make MK GI hr rfl T.g bI .nil pass0 (pa_cons (pe_fld (pv 0) rfl) (pa_cons (pe_op op_catT (pe_fld (pv 0) rfl) (pe_fld (pv 1) rfl)) pa_nil))))), ?_⟩
    obtain ⟨da, fa, a1, a2⟩ := head_fld h1
    obtain ⟨db, fb, b1, b2⟩ := head_fld h2
    obtain ⟨dc, fc, t1, xs, c1, c2, c3, c4⟩ := steps_fld h1
    obtain ⟨de, fe, t2, ys, e1, e2, e3, e4⟩ := steps_fld h2
    refine ⟨_, rfl, b, C, db, fb, _, rfl, b1, T.cl, T.nH, b2, _, rfl, a, C, da, fa, _, rfl, a1, T.cl, T.nH, a2, rfl, _, rfl, iteNS rfl ?_⟩
    have lx := c4.len
    have ly := e4.len
    refine ⟨_, rfl, a, C, da, fa, _, rfl, a1, T.cl, T.nH, a2, ?_⟩
    refine ⟨_, rfl, a, C, dc, fc, _, rfl, c1, T.cl, T.nS, c2, _, rfl, b, C, de, fe, _, rfl, e1, T.cl, T.nS, e2, ?_⟩
    refine catT_of c3 e3 (c4.ne n1) ?_ fun u G s hu => ?_
    · have q : xs.length + ys.length ≤ 100 := by rw [lx, ly]; exact n2
      exact Nat.le_trans q (by decide)
    · exact made_way (.inr hu) ((c4.mono s).app (e4.mono s)) hf fun x H' s2 wa => k x H' (s.trans s2) wa
end
end WP

end
section
set_option autoImplicit false
set_option Elab.async false
set_option linter.all false
set_option maxRecDepth 100000
set_option maxHeartbeats 4000000
/-! ## rows of ways, as the law draws them -/
namespace WP
open PySem L2 G
abbrev sLInner : Stmt := top 49
mutual
/-- rows of a way: a head, a list of its steps; ways in tunnels are rows, too -/
def RowsAt (H : Hp) : M.Way → V → Prop
  | .mk h s, v => ∃ t L xs, v = .ref t ∧ H t = some (.tup [.int (h : Int), .ref L]) ∧ H L = some (.lst xs) ∧ RowAll H s xs
def RowAll (H : Hp) : List M.Step → List V → Prop
  | [], xs => xs = []
  | s :: r, xs => ∃ x ys, xs = x :: ys ∧ RowAt H s x ∧ RowAll H r ys
def RowAt (H : Hp) : M.Step → V → Prop
  | .road size ts lw, x => ∃ t, x = .ref t ∧ H t = some (.tup [.str "road", .int (size : Int), .str (sdS ts), .str (lwS lw)])
  | .join most, x => ∃ t, x = .ref t ∧ H t = some (.tup [.str "join", .int (most : Int)])
  | .tunnel w most tw, x => ∃ t v, x = .ref t ∧ H t = some (.tup [.str "tunnel", v, .int (most : Int), .str (twS tw)]) ∧ RowsAt H w v
end
theorem RowAt.ref {H : Hp} : ∀ {s : M.Step} {x : V}, RowAt H s x → ∃ t, x = .ref t
  | .road _ _ _, x, h => by unfold RowAt at h; obtain ⟨t, e, _⟩ := h; exact ⟨t, e⟩
  | .join _, x, h => by unfold RowAt at h; obtain ⟨t, e, _⟩ := h; exact ⟨t, e⟩
  | .tunnel _ _ _, x, h => by unfold RowAt at h; obtain ⟨t, v, e, _⟩ := h; exact ⟨t, e⟩
theorem RowAll.not_two {H : Hp} {s : List M.Step} {xs : List V} {r m : Int} (h : RowAll H s xs) : xs ≠ S.Two r m := fun e => by
  subst e
  cases s with
  | nil => unfold RowAll at h; cases h
  | cons a l =>
    unfold RowAll at h
    obtain ⟨x, ys, e, h1, _⟩ := h
    obtain ⟨t, rfl⟩ := h1.ref
    unfold S.Two at e
    injection e with e1 _
    cases e1
theorem bt_tup {p t : Addr} {H H' : Hp} {xs : List V} (b : Bt p H H') (hp : S.At H p) (h : H t = some (.tup xs)) : H' t = some (.tup xs) := by
  refine b.1 t _ (fun e => ?_) h
  obtain ⟨r, m, e2, _⟩ := hp
  rw [e, e2] at h
  cases h
theorem bt_rows {p L : Addr} {H H' : Hp} {s : List M.Step} {xs : List V} (b : Bt p H H') (hp : S.At H p) (h : H L = some (.lst xs)) (hr : RowAll H s xs) : H' L = some (.lst xs) := by
  refine b.1 L _ (fun e => ?_) h
  obtain ⟨r, m, e2, _⟩ := hp
  rw [e, e2] at h
  injection h with h
  injection h with h
  exact hr.not_two h.symm
mutual
theorem RowsAt.bt {p : Addr} {H H' : Hp} (b : Bt p H H') (hp : S.At H p) : ∀ {w : M.Way} {v : V}, RowsAt H w v → RowsAt H' w v
  | .mk h s, v, x => by
    unfold RowsAt at x ⊢
    obtain ⟨t, L, xs, e, h1, h2, h3⟩ := x
    exact ⟨t, L, xs, e, bt_tup b hp h1, bt_rows b hp h2 h3, RowAll.bt b hp h3⟩
theorem RowAll.bt {p : Addr} {H H' : Hp} (b : Bt p H H') (hp : S.At H p) : ∀ {s : List M.Step} {xs : List V}, RowAll H s xs → RowAll H' s xs
  | [], xs, x => by
    unfold RowAll at x ⊢
    exact x
  | y :: r, xs, x => by
    unfold RowAll at x ⊢
    obtain ⟨u, ys, e, h1, h2⟩ := x
    exact ⟨u, ys, e, RowAt.bt b hp h1, RowAll.bt b hp h2⟩
theorem RowAt.bt {p : Addr} {H H' : Hp} (b : Bt p H H') (hp : S.At H p) : ∀ {s : M.Step} {x : V}, RowAt H s x → RowAt H' s x
  | .road size ts lw, v, x => by
    unfold RowAt at x ⊢
    obtain ⟨t, e, h⟩ := x
    exact ⟨t, e, bt_tup b hp h⟩
  | .join most, v, x => by
    unfold RowAt at x ⊢
    obtain ⟨t, e, h⟩ := x
    exact ⟨t, e, bt_tup b hp h⟩
  | .tunnel w most tw, v, x => by
    unfold RowAt at x ⊢
    obtain ⟨t, u, e, h, h2⟩ := x
    exact ⟨t, u, e, bt_tup b hp h, RowsAt.bt b hp h2⟩
end
theorem RowAll.snoc {H : Hp} : ∀ {s : List M.Step} {xs : List V} {y : M.Step} {x : V}, RowAll H s xs → RowAt H y x → RowAll H (s ++ [y]) (xs ++ [x])
  | [], xs, y, x, a, b => by
    unfold RowAll at a
    subst a
    show RowAll H [y] [x]
    unfold RowAll
    exact ⟨x, [], rfl, b, by unfold RowAll; rfl⟩
  | z :: s, xs, y, x, a, b => by
    unfold RowAll at a
    obtain ⟨u, us, rfl, h1, h2⟩ := a
    show RowAll H (z :: (s ++ [y])) (u :: (us ++ [x]))
    unfold RowAll
    exact ⟨u, us ++ [x], rfl, h1, h2.snoc b⟩
theorem RowAll.len {H : Hp} : ∀ {s : List M.Step} {xs : List V}, RowAll H s xs → xs.length = s.length
  | [], xs, h => by
    unfold RowAll at h
    subst h
    rfl
  | y :: r, xs, h => by
    unfold RowAll at h
    obtain ⟨u, ys, rfl, _, h2⟩ := h
    exact congrArg Nat.succ h2.len
theorem RowAll.get {H : Hp} : ∀ {s : List M.Step} {xs : List V} {i : Nat} {x : V}, RowAll H s xs → xs[i]? = some x → ∃ y, s[i]? = some y ∧ RowAt H y x
  | [], xs, i, x, h, e => by
    unfold RowAll at h
    subst h
    cases e
  | y :: r, xs, 0, x, h, e => by
    unfold RowAll at h
    obtain ⟨u, ys, rfl, h1, _⟩ := h
    cases e
    exact ⟨y, rfl, h1⟩
  | y :: r, xs, i + 1, x, h, e => by
    unfold RowAll at h
    obtain ⟨u, ys, rfl, _, h2⟩ := h
    obtain ⟨s, a, b⟩ := RowAll.get (i := i) h2 e
    exact ⟨s, a, b⟩
/-- roads alone -/
def Roads (h : Nat) (s : List M.Step) : Prop := ∀ y ∈ s, ∃ size ts lw, y = .road size ts lw ∧ h < size ∧ size ≤ 1000
theorem RowAll.roads {H H' : Hp} {h : Nat} (k : ∀ a ys, H a = some (.tup ys) → H' a = some (.tup ys)) : ∀ {s : List M.Step} {xs : List V}, Roads h s → RowAll H s xs → RowAll H' s xs
  | [], xs, _, x => by
    unfold RowAll at x ⊢
    exact x
  | y :: r, xs, q, x => by
    unfold RowAll at x ⊢
    obtain ⟨u, ys, e, h1, h2⟩ := x
    refine ⟨u, ys, e, ?_, RowAll.roads k (fun z hz => q z (List.mem_cons_of_mem _ hz)) h2⟩
    obtain ⟨size, ts, lw, rfl, _⟩ := q y List.mem_cons_self
    unfold RowAt at h1 ⊢
    obtain ⟨t, e, h3⟩ := h1
    exact ⟨t, e, k _ _ h3⟩
theorem add_tup {G : Hp} {L : Addr} {xs zs : List V} (hL : G L = some (.lst xs)) : ∀ a ys, G a = some (.tup ys) → (upd G L (.lst zs)) a = some (.tup ys) := fun a ys h => by
  rw [upd_ne (fun e => by rw [e, hL] at h; cases h)]
  exact h
/-- the heap with a new object: what is known of it -/
theorem Bt.new {p u : Addr} {H : Hp} (o : HO) (h : S.At H p) (hu : H u = none) : Bt p H (upd H u o) := Bt.same (Same.of_upd hu) h
theorem draw_at {H : Hp} {Q : VK} {E : XK} {p : Addr} {n : Int} (h : S.At H p) (n1 : 1 ≤ n) (n2 : n.natAbs.log2 < 9000) (k : ∀ j H', 0 ≤ j → j < n → Bt p H H' → Q (.int j) H') : S.spDraw [.ref p, .int n] H Q E := by
  obtain ⟨r, m, hp, hf⟩ := h
  exact ⟨p, r, m, n, rfl, hp, hf, n1, n2, fun j r1 m1 f1 j0 j1 => k j _ j0 j1 (Bt.put f1)⟩
/-- a draw as it stands in an expression -/
theorem draw_vv {σ : St} {H : Hp} {Q : VK} {E : XK} {p : Addr} {i : Nat} {n : Int} (hσ : σ[i]? = some (some (.ref p))) (h : S.At H p) (n1 : 1 ≤ n) (n2 : n.natAbs.log2 < 9000) (k : ∀ j H', 0 ≤ j → j < n → Bt p H H' → Q (.int j) H') : tCall S.spDraw [] E (tCons (tVar i) (tCons (tC (.int n)) tNil)) σ H Q := ⟨_, hσ, draw_at (E := E) h n1 n2 k⟩
/-- all but the list at L stays -/
def Kp (L : Addr) (H H' : Hp) : Prop := ∀ a o, a ≠ L → H a = some o → H' a = some o
theorem Kp.put {L : Addr} {H : Hp} {o : HO} : Kp L H (upd H L o) := fun a u ne e => by rw [upd_ne ne]; exact e
theorem Kp.tup {L : Addr} {H H' : Hp} {xs : List V} (k : Kp L H H') (hL : H L = some (.lst xs)) : ∀ a ys, H a = some (.tup ys) → H' a = some (.tup ys) := fun a ys h => k a _ (fun e => by rw [e, hL] at h; cases h) h
theorem Kp.at {p L : Addr} {H H' : Hp} (k : Kp L H H') (ne : L ≠ p) (h : S.At H p) : S.At H' p := by
  obtain ⟨r, m, e, f⟩ := h
  exact ⟨r, m, k p _ ne.symm e, f⟩
theorem Kp.bt {p L : Addr} {H0 H H' : Hp} (k : Kp L H H') (ne : L ≠ p) (hL : H0 L = none) (b : Bt p H0 H) : Bt p H0 H' := ⟨fun a o n e => k a o (fun z => by rw [z, hL] at e; cases e) (b.1 a o n e), k.at ne b.2⟩
theorem at_ne {H : Hp} {p L : Addr} (h : S.At H p) (hL : H L = none) : L ≠ p := fun e => by
  obtain ⟨r, m, e2, _⟩ := h
  rw [e, e2] at hL
  cases hL
theorem bt_lst {p L : Addr} {H H' : Hp} {xs : List V} (b : Bt p H H') (ne : L ≠ p) (h : H L = some (.lst xs)) : H' L = some (.lst xs) := b.1 L _ ne h
section
variable {P : Program} {w : World} {K : PySem.W.Frag} {mg : Str → Option Value} {base : Heap} {C : Addr}
def spLInner : Sp := fun vs H Q _ => ∃ (p : Addr) (h low : Nat), vs = [.ref p, .int (h : Int), .int (low : Int)] ∧ S.At H p ∧ 1 ≤ low ∧ h + low ≤ 900 ∧
  ∀ t L xs s H', Bt p H H' → H L = none → H' t = some (.tup [.int (h : Int), .ref L]) → H' L = some (.lst xs) → RowAll H' s xs → Roads h s → 1 ≤ s.length → s.length ≤ 2 → Q (.ref t) H'
abbrev NIn : List Str := ["source", "head", "low", "roads", "turn", "words"]
theorem scLIn : FnScope NIn ["source", "head", "low"] (defScope sLInner) := ⟨rfl, rfl, rfl, by decide +kernel, rfl, by decide +kernel, by decide +kernel⟩
theorem lw_of4 {x : V} (h : x ∈ [V.str "cut", V.str "cut", V.str "tell", V.str "drop"]) : ∃ lw, x = .str (lwS lw) := lw_of (List.mem_cons_of_mem _ h)
theorem ok_linner {f : Addr} {fd : FuncData} (F : Fun K "_law_inner_road" "_law_inner_road" sLInner f fd) (rng : mg "range" = none) (D : Df P w K mg base 1 "_law_draw" ["source", "span"] S.spDraw) (PK : Df P w K mg base 2 "_law_pick" ["source", "items"] (S.spPick K)) : FnOk P w K mg base CX0 3 f fd ["source", "head", "low"] spLInner := by
  obtain ⟨fD, fdD, GD, gD, kD, bD⟩ := D.ex
  obtain ⟨fP, fdP, GP, gP, kP, bP⟩ := PK.ex
  refine F.ok scLIn (fun vs H Q E h => ?_) (fun cdv A outer s H vs Q E hr h => ?_)
  · obtain ⟨p, h, low, rfl, _⟩ := h
    rfl
  · obtain ⟨p, h, low, rfl, hp, l1, l2, k⟩ := h
    have r1 := hr.mono (by decide : 1 ≤ 2)
    refine ⟨_, pss_cons (ps_set (i := 3) scLIn.nd rfl (Or.inl rfl) (pe_lst pa_nil))
      (pss_cons (ps_for PassesOwn.never rfl (pi_range1 (by rfl) rng (pa_cons (pe_op op_add pe_int (pe_call GD r1 rfl gD kD bD .nil pass0 (pa_cons (pv 0) (pa_cons pe_int pa_nil)))) pa_nil)) (pg_name (i := 4) scLIn.nd rfl (Or.inl rfl))
        (pss_cons (ps_set (i := 5) scLIn.nd rfl (Or.inl rfl) (pe_tup (pa_cons (pe_call GP hr rfl gP kP bP .nil pass0 (pa_cons (pv 0) (pa_cons (pe_lst (pa_cons pe_str (pa_cons pe_str pa_nil))) pa_nil))) (pa_cons (pe_call GP hr rfl gP kP bP .nil pass0 (pa_cons (pv 0) (pa_cons (pe_lst (pa_cons pe_str (pa_cons pe_str (pa_cons pe_str (pa_cons pe_str pa_nil))))) pa_nil))) pa_nil))))
        (pss_one (ps_expr (pe_bm PySem.F.plainAttrs_list PySem.F.slot_list_append PySem.F.type_list_append mt_append (pv 3) (pa_cons (pe_op op_catT (pe_tup (pa_cons pe_str (pa_cons (pe_op op_add (pe_op op_add (pv 1) (pv 2)) (pe_call GD r1 rfl gD kD bD .nil pass0 (pa_cons (pv 0) (pa_cons pe_int pa_nil)))) pa_nil))) (pv 5)) pa_nil))))))
      (pss_one (ps_ret (pe_tup (pa_cons (pv 1) (pa_cons (pv 3) pa_nil)))))), ?_⟩
    refine ⟨line2.2.2.2, fun L hL => ?_⟩
    have ne := at_ne hp hL
    have b0 := Bt.new (.lst []) hp hL
    refine draw_of rfl b0.2 (by decide) (by decide +kernel) fun j H1 j0 j1 b1 => ⟨_, rfl, by omega, by omega, ?_⟩
    refine for_range (n := (1 + j).toNat) (fun i σ G => Bt p H G ∧ ∃ xs s q1 q2, σ = [some (.ref p), some (.int (h : Int)), some (.int (low : Int)), some (.ref L), q1, q2] ∧ G L = some (.lst xs) ∧ RowAll G s xs ∧ s.length = i ∧ Roads h s)
      ⟨b0.trans b1, [], [], _, _, rfl, bt_lst b1 ne upd_same, by unfold RowAll; rfl, rfl, fun y hy => by cases hy⟩ ?_ ?_
    · rintro i σ G hi ⟨bG, xs, s, q1, q2, rfl, hLG, hR, hs, hRo⟩
      dsimp only
      refine pick_of rfl bG.2 (by decide) (by decide) (fun Q2 q => q) fun y H5 hy b5 => pick_of rfl b5.2 (by decide) (by decide) (fun Q2 q => q) fun z H6 hz b6 => ⟨line2.1, fun u hu => ?_⟩
      obtain ⟨ts, rfl⟩ := sd_of hy
      obtain ⟨lw, rfl⟩ := lw_of4 hz
      have b7 := (b5.trans b6).trans (Bt.new (.tup [.str (sdS ts), .str (lwS lw)]) b6.2 hu)
      refine ⟨_, rfl, .inl ⟨rfl, _, SqL.of (bt_lst b7 ne hLG)⟩, ?_⟩
      refine ⟨_, rfl, _, rfl, _, _, rfl, rfl, ?_⟩
      refine draw_vv rfl b7.2 (by decide) (by decide +kernel) fun d H8 d0 d1 b8 => ⟨_, _, rfl, rfl, line2.1, fun v hv => ?_⟩
      have b9 := b8.trans (Bt.new (.tup [.str "road", .int ((h : Int) + (low : Int) + d)]) b8.2 hv)
      refine ⟨_, rfl, catT_of upd_same (bt_tup b9 b7.2 upd_same) (by simp) (by show 4 ≤ sizeLine; decide) fun t G2 sG hG => ?_⟩
      have b10 := (b7.trans b9).trans (Bt.same sG b9.2)
      have hL10 := bt_lst b10 ne hLG
      have lx := hR.len
      have kp : Kp L G2 (upd G2 L (.lst (xs ++ [.ref t]))) := Kp.put
      refine ⟨L, xs, _, rfl, rfl, hL10, small1000 (by omega), kp.bt ne hL (bG.trans b10), _, s ++ [.road (h + low + d.toNat) ts lw], _, _, rfl, upd_same, ?_, by simp; exact hs, ?_⟩
      · refine ((hR.bt b10 bG.2).roads (kp.tup hL10) hRo).snoc ?_
        unfold RowAt
        refine ⟨t, rfl, kp.tup hL10 _ _ ?_⟩
        rw [hG]
        show some (HO.tup [V.str "road", V.int ((h : Int) + (low : Int) + d), V.str (sdS ts), V.str (lwS lw)]) = _
        rw [show (h : Int) + (low : Int) + d = ((h + low + d.toNat : Nat) : Int) by omega]
      · intro y hy
        rcases List.mem_append.mp hy with q | q
        · exact hRo y q
        · exact ⟨_, ts, lw, List.mem_singleton.mp q, by omega, by omega⟩
    · rintro σ G ⟨bG, xs, s, q1, q2, rfl, hLG, hR, hs, hRo⟩
      refine ⟨_, rfl, _, rfl, line2.1, fun t ht => ?_⟩
      have b2 := Bt.new (.tup [.int (h : Int), .ref L]) bG.2 ht
      exact k t L xs s _ (bG.trans b2) hL upd_same (bt_lst b2 ne hLG) (hR.bt b2 bG.2) hRo (by omega) (by omega)
end
end WP

end
section
set_option autoImplicit false
set_option Elab.async false
set_option linter.all false
set_option maxRecDepth 100000
set_option maxHeartbeats 4000000
/-! ## the law's fitting rows -/
namespace M
def isz : Step → Nat
  | .tunnel w _ _ => w.size
  | .road _ _ _ => 0
  | .join _ => 0
theorem inner_cons : ∀ (s : Step) (r : List Step), Step.inner (s :: r) = isz s + Step.inner r
  | .tunnel w a b, r => by
    conv => lhs; unfold Step.inner
    rfl
  | .road a b c, r => by
    conv => lhs; unfold Step.inner
    exact (Nat.zero_add _).symm
  | .join a, r => by
    conv => lhs; unfold Step.inner
    exact (Nat.zero_add _).symm
def SmallStep (h : Nat) (y : Step) : Prop := Step.fine h y ∧ Step.dep y ≤ 1 ∧ isz y ≤ 2
structure Small (w : Way) : Prop where
  fine : w.fine
  dp : w.depth ≤ 2
  sz : w.size ≤ 12
  hd : w.head ≤ 8
  ln : w.steps.length ≤ 4
theorem small_all {h : Nat} : ∀ {s : List Step}, (∀ y ∈ s, SmallStep h y) → Step.fineAll h s ∧ Step.deepest s ≤ 1 ∧ Step.inner s ≤ 2 * s.length
  | [], _ => ⟨by unfold Step.fineAll; trivial, by unfold Step.deepest; omega, by unfold Step.inner; omega⟩
  | y :: r, q => by
    obtain ⟨a, b, c⟩ := q y List.mem_cons_self
    obtain ⟨d, e, f⟩ := small_all (s := r) fun z hz => q z (List.mem_cons_of_mem _ hz)
    refine ⟨by unfold Step.fineAll; exact ⟨a, d⟩, by rw [deep_cons]; omega, ?_⟩
    rw [inner_cons, List.length_cons]
    omega
theorem small_way {h : Nat} {s : List Step} (h1 : 1 ≤ h) (h2 : h ≤ 8) (l1 : 1 ≤ s.length) (l2 : s.length ≤ 4) (q : ∀ y ∈ s, SmallStep h y) : Small (.mk h s) := by
  obtain ⟨a, b, c⟩ := small_all q
  refine ⟨?_, by unfold Way.depth; omega, by unfold Way.size; omega, h2, l2⟩
  unfold Way.fine
  exact ⟨by omega, by omega, a, by omega, by omega⟩
theorem roads_small {h : Nat} {s : List Step} (q : ∀ y ∈ s, ∃ size ts lw, y = .road size ts lw ∧ h < size ∧ size ≤ 1000) : ∀ y ∈ s, SmallStep h y ∧ Step.dep y = 0 ∧ isz y = 0 := by
  intro y hy
  obtain ⟨size, ts, lw, rfl, a, b⟩ := q y hy
  exact ⟨⟨by unfold Step.fine; exact ⟨a, b⟩, Nat.zero_le _, Nat.zero_le _⟩, rfl, rfl⟩
theorem flat_all : ∀ {s : List Step}, (∀ y ∈ s, Step.dep y = 0 ∧ isz y = 0) → Step.deepest s = 0 ∧ Step.inner s = 0
  | [], _ => ⟨by unfold Step.deepest; rfl, by unfold Step.inner; rfl⟩
  | y :: r, q => by
    obtain ⟨a, b⟩ := q y List.mem_cons_self
    obtain ⟨c, d⟩ := flat_all (s := r) fun z hz => q z (List.mem_cons_of_mem _ hz)
    rw [deep_cons, inner_cons, a, b, c, d]
    exact ⟨rfl, rfl⟩
/-- a way of one or two roads -/
theorem roads_way {h : Nat} {s : List Step} (h1 : 1 ≤ h) (h2 : h ≤ 8) (l1 : 1 ≤ s.length) (l2 : s.length ≤ 3) (q : ∀ y ∈ s, ∃ size ts lw, y = .road size ts lw ∧ h < size ∧ size ≤ 1000) : Way.fine (.mk h s) ∧ Way.depth (.mk h s) = 1 ∧ Way.size (.mk h s) = s.length := by
  have q2 := roads_small q
  obtain ⟨a, _, _⟩ := small_all fun y hy => (q2 y hy).1
  obtain ⟨c, d⟩ := flat_all fun y hy => (q2 y hy).2
  refine ⟨?_, by unfold Way.depth; rw [c], by unfold Way.size; rw [d]; rfl⟩
  unfold Way.fine
  rw [c, d]
  exact ⟨by omega, by omega, a, by omega, by omega⟩
end M
namespace WP
open PySem L2 G
abbrev sLFit : Stmt := top 50
/-- the heap without what stands at L -/
def hid (G : Hp) (L : Addr) : Hp := fun a => if a = L then none else G a
theorem hid_at {G : Hp} {L a : Addr} (n : a ≠ L) : hid G L a = G a := if_neg n
theorem hid_put {G : Hp} {L : Addr} {o : HO} : hid (upd G L o) L = hid G L := by
  funext a
  unfold hid
  by_cases e : a = L
  · rw [if_pos e, if_pos e]
  · rw [if_neg e, if_neg e, upd_ne e]
theorem hid_same {G : Hp} {L : Addr} : Same (hid G L) G := fun a o e => by
  unfold hid at e
  by_cases q : a = L
  · rw [if_pos q] at e
    cases e
  · rwa [if_neg q] at e
theorem hid_bt {p L : Addr} {G G2 : Hp} (ne : L ≠ p) (b : Bt p G G2) : Bt p (hid G L) (hid G2 L) := by
  refine ⟨fun a o n e => ?_, ?_⟩
  · by_cases q : a = L
    · unfold hid at e
      rw [if_pos q] at e
      cases e
    · rw [hid_at q] at e ⊢
      exact b.1 a o n e
  · obtain ⟨r, m, e, f⟩ := b.2
    exact ⟨r, m, by rw [hid_at ne.symm]; exact e, f⟩
theorem hid_S {p L : Addr} {G : Hp} (ne : L ≠ p) (h : S.At G p) : S.At (hid G L) p := by
  obtain ⟨r, m, e, f⟩ := h
  exact ⟨r, m, by rw [hid_at ne.symm]; exact e, f⟩
theorem hid_tup {G : Hp} {L a : Addr} {xs ys : List V} (hL : G L = some (.lst xs)) (h : G a = some (.tup ys)) : hid G L a = some (.tup ys) := by
  rw [hid_at (fun e => by rw [e, hL] at h; cases h)]
  exact h
theorem fit_next {p L t : Addr} {H G G2 : Hp} {s : List M.Step} {xs : List V} {y : M.Step} (ne : L ≠ p) (hL : H L = none) (bG : Bt p H G) (b : Bt p G G2) (hR : RowAll (hid G L) s xs) (hy : RowAt (hid G2 L) y (.ref t)) :
    Bt p H (upd G2 L (.lst (xs ++ [.ref t]))) ∧ RowAll (hid (upd G2 L (.lst (xs ++ [.ref t]))) L) (s ++ [y]) (xs ++ [.ref t]) := by
  refine ⟨Kp.bt Kp.put ne hL (bG.trans b), ?_⟩
  rw [hid_put]
  exact (hR.bt (hid_bt ne b) (hid_S ne bG.2)).snoc hy
theorem inner_hid {p L L2 t : Addr} {G0 G1 G2 : Hp} {s : List M.Step} {xs ys : List V} {h : Nat} (hp : S.At G0 p) (b1 : Bt p G0 G1) (b2 : Bt p G1 G2) (hL : G0 L = some (.lst ys)) (ne : L ≠ p) (n2 : G0 L2 = none) (ht : G1 t = some (.tup [.int (h : Int), .ref L2])) (h2 : G1 L2 = some (.lst xs)) (hR : RowAll G1 s xs) (hr : Roads h s) : RowsAt (hid G2 L) (.mk h s) (.ref t) := by
  have hL2 := bt_lst (b1.trans b2) ne hL
  unfold RowsAt
  refine ⟨t, L2, xs, rfl, hid_tup hL2 (bt_tup b2 b1.2 ht), ?_, hR.roads (fun a zs e => hid_tup hL2 (bt_tup b2 b1.2 e)) hr⟩
  rw [hid_at (fun e => by rw [e, hL] at n2; cases n2)]
  exact bt_lst b2 (at_ne hp n2) h2
theorem draw_w {σ : St} {H : Hp} {Q : VK} {E : XK} {p : Addr} {i j : Nat} {c n : Int} (hσ : σ[i]? = some (some (.ref p))) (hj : σ[j]? = some (some (.int n))) (h : S.At H p) (n1 : 1 ≤ n) (n2 : n.natAbs.log2 < 9000) (k : ∀ x H', 0 ≤ x → x < n → Bt p H H' → Q (.int (c + x)) H') :
    tOp (rI0 fun i j => .int (i + j)) (tC (.int c)) (tCall S.spDraw [] E (tCons (tVar i) (tCons (tVar j) tNil))) σ H Q := by
  obtain ⟨r, m, hp, hf⟩ := h
  exact ⟨_, hσ, _, hj, p, r, m, n, rfl, hp, hf, n1, n2, fun x r1 m1 f1 j0 j1 => ⟨_, _, rfl, rfl, k x _ j0 j1 (Bt.put f1)⟩⟩
theorem tw_of {x : V} (h : x ∈ [V.str "turn", V.str "turn", V.str "keep", V.str "lose"]) : ∃ tw, x = .str (twS tw) := by
  rcases List.mem_cons.mp h with e | h
  · exact ⟨.turn, e⟩
  rcases List.mem_cons.mp h with e | h
  · exact ⟨.turn, e⟩
  rcases List.mem_cons.mp h with e | h
  · exact ⟨.keep, e⟩
  · have e : x = V.str "lose" := by simpa using h
    exact ⟨.lose, e⟩
section
variable {P : Program} {w : World} {K : PySem.W.Frag} {mg : Str → Option Value} {base : Heap} {C : Addr}
def spLFit : Sp := fun vs H Q _ => ∃ (p : Addr), vs = [.ref p, .int 2, .int 4] ∧ S.At H p ∧ ∀ wy v H', Bt p H H' → RowsAt H' wy v → M.Small wy → Q v H'
abbrev NFi : List Str := ["source", "depth", "many", "head", "steps", "turn", "kind", "inner", "deep", "tunnel"]
theorem scFi : FnScope NFi ["source", "depth", "many"] (defScope sLFit) := ⟨rfl, rfl, rfl, by decide +kernel, rfl, by decide +kernel, by decide +kernel⟩
theorem ok_lfit {f : Addr} {fd : FuncData} (F : Fun K "_law_fitting" "_law_fitting" sLFit f fd) (rng : mg "range" = none) (D : Df P w K mg base 1 "_law_draw" ["source", "span"] S.spDraw) (PK : Df P w K mg base 2 "_law_pick" ["source", "items"] (S.spPick K))
    (DI : Df P w K mg base 3 "_law_inner_road" ["source", "head", "low"] spLInner) (DM : Df P w K mg base 3 "_law_most" ["source"] spLMost) (DR : Df P w K mg base 3 "_law_road" ["source", "head"] spLRoad) : FnOk P w K mg base CX0 4 f fd ["source", "depth", "many"] spLFit := by
  obtain ⟨fD, fdD, GD, gD, kD, bD⟩ := D.ex
  obtain ⟨fP, fdP, GP, gP, kP, bP⟩ := PK.ex
  obtain ⟨fI, fdI, GI, gI, kI, bI⟩ := DI.ex
  obtain ⟨fM, fdM, GM, gM, kM, bM⟩ := DM.ex
  obtain ⟨fR, fdR, GR, gR, kR, bR⟩ := DR.ex
  refine F.ok scFi (fun vs H Q E h => ?_) (fun cdv A outer s H vs Q E hr h => ?_)
  · obtain ⟨p, rfl, _⟩ := h
    rfl
  · obtain ⟨p, rfl, hp, k⟩ := h
    have r1 := hr.mono (by decide : 1 ≤ 3)
    have r2 := hr.mono (by decide : 2 ≤ 3)
    refine ⟨_, pss_cons (ps_set (i := 3) scFi.nd rfl (Or.inl rfl) (pe_op op_add pe_int (pe_call GD r1 rfl gD kD bD .nil pass0 (pa_cons (pv 0) (pa_cons pe_int pa_nil)))))
      (pss_cons (ps_set (i := 4) scFi.nd rfl (Or.inl rfl) (pe_lst pa_nil))
      (pss_cons (ps_for PassesOwn.never rfl (pi_range1 (by rfl) rng (pa_cons (pe_op op_add pe_int (pe_call GD r1 rfl gD kD bD .nil pass0 (pa_cons (pv 0) (pa_cons (pv 2) pa_nil)))) pa_nil)) (pg_name (i := 5) scFi.nd rfl (Or.inl rfl))
        (pss_cons (ps_set (i := 6) scFi.nd rfl (Or.inl rfl) (pe_call GD r1 rfl gD kD bD .nil pass0 (pa_cons (pv 0) (pa_cons pe_int pa_nil))))
        (pss_one (ps_if (pt_cmpR op_eq (pv 6) pe_int (nomark _))
          (pss_one (ps_expr (pe_bm PySem.F.plainAttrs_list PySem.F.slot_list_append PySem.F.type_list_append mt_append (pv 4) (pa_cons (pe_tup (pa_cons pe_str (pa_cons (pe_call GM hr rfl gM kM bM .nil pass0 (pa_cons (pv 0) pa_nil)) pa_nil))) pa_nil))))
          (pss_one (ps_if (PW.pt (pw_and (pt_cmpR op_le (pv 6) pe_int (nomark _)) (pw_and1 (pt_cmpR op_gt (pv 1) pe_int (nomark _)))))
            (pss_cons (ps_set (i := 7) scFi.nd rfl (Or.inl rfl) (pe_call GI hr rfl gI kI bI .nil pass0 (pa_cons (pv 0) (pa_cons (pe_op op_add pe_int (pe_call GD r1 rfl gD kD bD .nil pass0 (pa_cons (pv 0) (pa_cons pe_int pa_nil)))) (pa_cons (pe_op op_add (pv 3) pe_int) pa_nil)))))
            (pss_cons (ps_if (PW.pt (pw_and (pt_cmpR op_gt (pv 1) pe_int (nomark _)) (pw_and1 (pt_cmpR op_eq (pe_call GD r1 rfl gD kD bD .nil pass0 (pa_cons (pv 0) (pa_cons pe_int pa_nil))) pe_int (nomark _))))) ps_dead pss_nil)
            (pss_one (ps_expr (pe_bm PySem.F.plainAttrs_list PySem.F.slot_list_append PySem.F.type_list_append mt_append (pv 4) (pa_cons (pe_tup (pa_cons pe_str (pa_cons (pv 7) (pa_cons (pe_call GM hr rfl gM kM bM .nil pass0 (pa_cons (pv 0) pa_nil)) (pa_cons (pe_call GP r2 rfl gP kP bP .nil pass0 (pa_cons (pv 0) (pa_cons (pe_lst (pa_cons pe_str (pa_cons pe_str (pa_cons pe_str (pa_cons pe_str pa_nil))))) pa_nil))) pa_nil))))) pa_nil))))))
            (pss_one (ps_expr (pe_bm PySem.F.plainAttrs_list PySem.F.slot_list_append PySem.F.type_list_append mt_append (pv 4) (pa_cons (pe_call GR hr rfl gR kR bR .nil pass0 (pa_cons (pv 0) (pa_cons (pv 3) pa_nil))) pa_nil))))))))))
      (pss_one (ps_ret (pe_tup (pa_cons (pv 3) (pa_cons (pv 4) pa_nil))))))), ?_⟩
    refine set_then (i := 3) (draw_of rfl hp (by decide) (by decide +kernel) fun j0 H0 a0 a1 b0 => ?_)
    obtain ⟨h, eh, h1, h2⟩ : ∃ h : Nat, 1 + j0 = (h : Int) ∧ 1 ≤ h ∧ h ≤ 8 := ⟨(1 + j0).toNat, by omega, by omega, by omega⟩
    rw [eh]
    refine ⟨line2.2.2.2, fun L hL => ?_⟩
    have ne := at_ne b0.2 hL
    have hL0 : H L = none := by
      cases q : H L with
      | none => rfl
      | some o => rw [b0.1 L o ne q] at hL; cases hL
    have bL := b0.trans (Bt.new (.lst []) b0.2 hL)
    refine draw_w rfl rfl bL.2 (by decide) (by decide +kernel) fun j H1 c0 c1 b1 => ⟨_, rfl, by omega, by omega, ?_⟩
    refine for_range (n := (1 + j).toNat) (fun i σ G => Bt p H G ∧ ∃ xs s q1 q2 q3 q4 q5, σ = [some (.ref p), some (.int 2), some (.int 4), some (.int (h : Int)), some (.ref L), q1, q2, q3, q4, q5] ∧ G L = some (.lst xs) ∧ RowAll (hid G L) s xs ∧ s.length = i ∧ ∀ y ∈ s, M.SmallStep h y)
      ⟨bL.trans b1, [], [], _, _, _, _, _, rfl, bt_lst b1 ne upd_same, by unfold RowAll; rfl, rfl, fun y hy => by cases hy⟩ ?_ ?_
    · rintro i σ G hi ⟨bG, xs, s, q1, q2, q3, q4, q5, rfl, hLG, hR, hs, hSm⟩
      have lx := hR.len
      have hlt : xs.length < sizeLine := small1000 (by omega)
      have hall : ∀ y, M.SmallStep h y → ∀ z ∈ s ++ [y], M.SmallStep h z := fun y hy z hz => (List.mem_append.mp hz).elim (hSm z) fun e => by rw [List.mem_singleton.mp e]; exact hy
      dsimp only
      refine set_then (i := 6) (draw_vv rfl bG.2 (by decide) (by decide +kernel) fun d G1 d0 d1 b2 => ?_)
      refine ⟨_, rfl, rfl, _, rfl, ite2 (fun e0 => ?_) (fun e0 => ?_)⟩
      · refine ⟨_, rfl, .inl ⟨rfl, _, SqL.of (bt_lst b2 ne hLG)⟩, _, rfl, p, rfl, b2.2, fun m G2 m1 m2 b3 => ⟨line2.1, fun t ht => ?_⟩⟩
        have b4 := b3.trans (Bt.new (.tup [.str "join", .int (m : Int)]) b3.2 ht)
        have b5 := b2.trans b4
        refine ⟨L, xs, _, rfl, rfl, bt_lst b5 ne hLG, hlt, ?_⟩
        obtain ⟨f1, f2⟩ := fit_next (y := .join m) (t := t) ne hL0 bG b5 hR (by unfold RowAt; exact ⟨t, rfl, hid_tup (bt_lst b5 ne hLG) upd_same⟩)
        exact ⟨f1, _, _, _, _, _, _, _, rfl, upd_same, f2, by simp; exact hs, hall _ ⟨by unfold M.Step.fine; exact ⟨m1, m2⟩, by show 0 ≤ 1; omega, by show 0 ≤ 2; omega⟩⟩
      · refine ⟨_, rfl, _, _, rfl, rfl, _, rfl, ?_⟩
        refine ite2 (fun e1 => ?_) (fun e1 => ?_)
        · refine ⟨_, rfl, _, _, rfl, rfl, _, rfl, ite2 (fun _ => ?_) (fun e => absurd (by decide) e)⟩
          -- the inner rows
          refine set_then (i := 7) ?_
          refine ⟨_, rfl, draw_of rfl b2.2 (by decide) (by decide +kernel) fun x G2 x0 x1 b3 => ⟨_, rfl, _, _, rfl, rfl, ?_⟩⟩
          refine ⟨p, (1 + x).toNat, h + 1, ?_, b3.2, by omega, by omega, fun t1 L2 ys s2 G3 b4 n2 ht1 hL2 hR2 hRo l1 l2 => ?_⟩
          · show [V.ref p, V.int (1 + x), V.int ((h : Int) + 1)] = _
            rw [show (1 : Int) + x = (((1 + x).toNat : Nat) : Int) by omega]
            rfl
          refine ⟨_, rfl, _, _, rfl, rfl, _, rfl, ite2 (fun e => absurd e (by decide)) (fun _ => iteF ?_)⟩
          refine ⟨_, rfl, .inl ⟨rfl, _, SqL.of (bt_lst ((b2.trans b3).trans b4) ne hLG)⟩, _, rfl, _, rfl, p, rfl, b4.2, fun m G4 m1 m2 b5 => ?_⟩
          refine pick_of rfl b5.2 (by decide) (by decide) (fun Q2 q => q) fun z G5 hz b6 => ⟨(by show 4 ≤ sizeLine; decide), fun t ht => ?_⟩
          obtain ⟨tw, rfl⟩ := tw_of hz
          have b7 := Bt.new (.tup [.str "tunnel", .ref t1, .int (m : Int), .str (twS tw)]) b6.2 ht
          have b8 := (b5.trans b6).trans b7
          have b9 := (b2.trans b3).trans (b4.trans b8)
          refine ⟨L, xs, _, rfl, rfl, bt_lst b9 ne hLG, hlt, ?_⟩
          have q0 := M.roads_way (h := (1 + x).toNat) (by omega) (by omega) l1 (by omega) hRo
          obtain ⟨f1, f2⟩ := fit_next (y := .tunnel (.mk (1 + x).toNat s2) m tw) (t := t) ne hL0 bG b9 hR (by
            unfold RowAt
            exact ⟨t, .ref t1, rfl, hid_tup (bt_lst b9 ne hLG) upd_same, inner_hid b3.2 b4 b8 (bt_lst (b2.trans b3) ne hLG) ne n2 ht1 hL2 hR2 hRo⟩)
          refine ⟨f1, _, _, _, _, _, _, _, rfl, upd_same, f2, by simp; exact hs, hall _ ⟨by unfold M.Step.fine; exact ⟨q0.1, m1, m2⟩, ?_, ?_⟩⟩
          · show M.Way.depth _ ≤ 1
            rw [q0.2.1]
            exact Nat.le_refl 1
          · show M.Way.size _ ≤ 2
            rw [q0.2.2]
            exact l2
        · refine ⟨_, rfl, .inl ⟨rfl, _, SqL.of (bt_lst b2 ne hLG)⟩, _, rfl, _, rfl, p, h, rfl, b2.2, fun t G2 c ts lw c1 c2 b3 ht => ?_⟩
          have b5 := b2.trans b3
          refine ⟨L, xs, _, rfl, rfl, bt_lst b5 ne hLG, hlt, ?_⟩
          obtain ⟨f1, f2⟩ := fit_next (y := .road (h + c) ts lw) (t := t) ne hL0 bG b5 hR (by unfold RowAt; exact ⟨t, rfl, hid_tup (bt_lst b5 ne hLG) ht⟩)
          exact ⟨f1, _, _, _, _, _, _, _, rfl, upd_same, f2, by simp; exact hs, hall _ ⟨by unfold M.Step.fine; omega, by show 0 ≤ 1; omega, by show 0 ≤ 2; omega⟩⟩
    · rintro σ G ⟨bG, xs, s, q1, q2, q3, q4, q5, rfl, hLG, hR, hs, hSm⟩
      refine ⟨_, rfl, _, rfl, line2.1, fun t ht => ?_⟩
      have b2 := Bt.new (.tup [.int (h : Int), .ref L]) bG.2 ht
      refine k (.mk h s) _ _ (bG.trans b2) ?_ (M.small_way h1 h2 (by omega) (by omega) hSm)
      unfold RowsAt
      exact ⟨t, L, xs, rfl, upd_same, bt_lst b2 ne hLG, (hR.bt (Bt.same hid_same (hid_S ne bG.2)) (hid_S ne bG.2)).bt b2 bG.2⟩
end
end WP

end
section
set_option autoImplicit false
set_option Elab.async false
set_option linter.all false
set_option maxRecDepth 100000
set_option maxHeartbeats 4000000
/-! ## ways made of rows -/
namespace WP
open PySem L2 G
abbrev sLMade : Stmt := top 51
/-- all but lists stays -/
def KeepT (H H' : Hp) : Prop := ∀ a o, (∀ xs, o ≠ .lst xs) → H a = some o → H' a = some o
theorem Kp.keepT {L : Addr} {H H' : Hp} {xs : List V} (k : Kp L H H') (hL : H L = some (.lst xs)) : KeepT H H' := fun a o n e => k a o (fun z => by rw [z, hL] at e; cases e; exact n _ rfl) e
theorem Same.keepT {H H' : Hp} (s : Same H H') : KeepT H H' := fun a o _ e => s a o e
theorem KeepT.trans {H H1 H2 : Hp} (a : KeepT H H1) (b : KeepT H1 H2) : KeepT H H2 := fun x o n e => b x o n (a x o n e)
theorem KeepT.tup {H H' : Hp} {t : Addr} {xs : List V} (k : KeepT H H') (h : H t = some (.tup xs)) : H' t = some (.tup xs) := k _ _ (fun _ z => by cases z) h
mutual
theorem WayAt.keep {C : Addr} {H H' : Hp} (s : KeepT H H') : ∀ {w : M.Way} {a : Addr}, WayAt C H w a → WayAt C H' w a
  | .mk h st, a, x => by
    unfold WayAt at x ⊢
    obtain ⟨dx, t, xs, h1, h2, h3⟩ := x
    exact ⟨dx, t, xs, s _ _ (fun _ z => by cases z) h1, s.tup h2, StepsAt.keep s h3⟩
theorem StepsAt.keep {C : Addr} {H H' : Hp} (s : KeepT H H') : ∀ {st : List M.Step} {xs : List V}, StepsAt C H st xs → StepsAt C H' st xs
  | [], xs, x => by
    unfold StepsAt at x ⊢
    exact x
  | y :: r, xs, x => by
    unfold StepsAt at x ⊢
    obtain ⟨u, ys, e, h1, h2⟩ := x
    exact ⟨u, ys, e, StepAt.keep s h1, StepsAt.keep s h2⟩
theorem StepAt.keep {C : Addr} {H H' : Hp} (s : KeepT H H') : ∀ {st : M.Step} {x : V}, StepAt C H st x → StepAt C H' st x
  | .road size ts lw, v, x => by
    unfold StepAt at x ⊢
    obtain ⟨t, e, h⟩ := x
    exact ⟨t, e, s.tup h⟩
  | .join most, v, x => by
    unfold StepAt at x ⊢
    obtain ⟨t, e, h⟩ := x
    exact ⟨t, e, s.tup h⟩
  | .tunnel w most tw, v, x => by
    unfold StepAt at x ⊢
    obtain ⟨t, a, e, h, h2⟩ := x
    exact ⟨t, a, e, s.tup h, WayAt.keep s h2⟩
end
theorem StepsAt.snoc {C : Addr} {H : Hp} {s : List M.Step} {xs : List V} {y : M.Step} {x : V} (a : StepsAt C H s xs) (b : StepAt C H y x) : StepsAt C H (s ++ [y]) (xs ++ [x]) := a.app (by
  unfold StepsAt
  exact ⟨x, [], rfl, b, by unfold StepsAt; rfl⟩)
mutual
theorem RowsAt.mono {H H' : Hp} (s : Same H H') : ∀ {w : M.Way} {v : V}, RowsAt H w v → RowsAt H' w v
  | .mk h st, v, x => by
    unfold RowsAt at x ⊢
    obtain ⟨t, L, xs, e, h1, h2, h3⟩ := x
    exact ⟨t, L, xs, e, s _ _ h1, s _ _ h2, RowAll.mono s h3⟩
theorem RowAll.mono {H H' : Hp} (s : Same H H') : ∀ {st : List M.Step} {xs : List V}, RowAll H st xs → RowAll H' st xs
  | [], xs, x => by
    unfold RowAll at x ⊢
    exact x
  | y :: r, xs, x => by
    unfold RowAll at x ⊢
    obtain ⟨u, ys, e, h1, h2⟩ := x
    exact ⟨u, ys, e, RowAt.mono s h1, RowAll.mono s h2⟩
theorem RowAt.mono {H H' : Hp} (s : Same H H') : ∀ {st : M.Step} {x : V}, RowAt H st x → RowAt H' st x
  | .road size ts lw, v, x => by
    unfold RowAt at x ⊢
    obtain ⟨t, e, h⟩ := x
    exact ⟨t, e, s _ _ h⟩
  | .join most, v, x => by
    unfold RowAt at x ⊢
    obtain ⟨t, e, h⟩ := x
    exact ⟨t, e, s _ _ h⟩
  | .tunnel w most tw, v, x => by
    unfold RowAt at x ⊢
    obtain ⟨t, u, e, h, h2⟩ := x
    exact ⟨t, u, e, s _ _ h, RowsAt.mono s h2⟩
end
theorem at0 {y0 : V} {ys : List V} : atI (y0 :: ys) (0 : Int) = some y0 := by exact atI_nat (xs := y0 :: ys) (j := 0) rfl
theorem at1 {y0 y1 : V} {ys : List V} : atI (y0 :: y1 :: ys) (1 : Int) = some y1 := by exact atI_nat (xs := y0 :: y1 :: ys) (j := 1) rfl
theorem at2 {y0 y1 y2 : V} {ys : List V} : atI (y0 :: y1 :: y2 :: ys) (2 : Int) = some y2 := by exact atI_nat (xs := y0 :: y1 :: y2 :: ys) (j := 2) rfl
theorem at3 {y0 y1 y2 y3 : V} {ys : List V} : atI (y0 :: y1 :: y2 :: y3 :: ys) (3 : Int) = some y3 := by exact atI_nat (xs := y0 :: y1 :: y2 :: y3 :: ys) (j := 3) rfl
theorem yesS {a : Str} : decide (V.str a = V.str a) = true := decide_eq_true rfl
theorem noS {a b : Str} (h : a ≠ b) : decide (V.str a = V.str b) = false := decide_eq_false fun z => h (V.str.inj z)
/-- s[0] == kind, of a step's row -/
def kindOf : M.Step → Str
  | .road _ _ _ => "road"
  | .join _ => "join"
  | .tunnel _ _ _ => "tunnel"
theorem RowAt.kind {H : Hp} : ∀ {s : M.Step} {x : V}, RowAt H s x → ∃ t y ys, x = .ref t ∧ H t = some (.tup (.str (kindOf s) :: y :: ys))
  | .road _ _ _, x, h => by unfold RowAt at h; obtain ⟨t, e, h⟩ := h; exact ⟨t, _, _, e, h⟩
  | .join _, x, h => by unfold RowAt at h; obtain ⟨t, e, h⟩ := h; exact ⟨t, _, _, e, h⟩
  | .tunnel _ _ _, x, h => by unfold RowAt at h; obtain ⟨t, v, e, h, _⟩ := h; exact ⟨t, _, _, e, h⟩
section
variable {P : Program} {w : World} {K : PySem.W.Frag} {mg : Str → Option Value} {base : Heap} {C : Addr}
def spLMade (C : Addr) (n : Nat) : Sp := fun vs H Q _ => ∃ v wy, vs = [v] ∧ RowsAt H wy v ∧ M.Way.fine wy ∧ wy.depth ≤ n ∧ ∀ a H', Same H H' → WayAt C H' wy a → Q (.ref a) H'
theorem scMd : FnScope ["rows", "head", "steps", "found", "step"] ["rows"] (defScope sLMade) := ⟨rfl, rfl, rfl, by decide +kernel, rfl, by decide +kernel, by decide +kernel⟩
theorem ok_lmade {k n : Nat} {f : Addr} {fd : FuncData} (F : Fun K "_law_made" "_law_made" sLMade f fd) (T : Wt K mg C) (MW : Mw P w K mg base C) (hk : 7 ≤ k) (W : Df P w K mg base k "_law_made" ["rows"] (spLMade C n)) : FnOk P w K mg base CX0 (k + 1) f fd ["rows"] (spLMade C (n + 1)) := by
  obtain ⟨fI, fdI, GI, MK, bI⟩ := MW.ex
  obtain ⟨fW, fdW, GW, gW, kW, bW⟩ := W.ex
  refine F.ok scMd (fun vs H Q E h => ?_) (fun cdv A outer s H vs Q E hr h => ?_)
  · obtain ⟨v, wy, rfl, _⟩ := h
    rfl
  · obtain ⟨v, wy, rfl, hR, hf, hd, kk⟩ := h
    refine ⟨_, pss_cons (ps_asg (pv 0) (pg_tup (by rfl) (pgs_cons (pg_name (i := 1) scMd.nd rfl (.inl rfl)) (pgs_cons (pg_name (i := 2) scMd.nd rfl (.inl rfl)) pgs_nil))))
      (pss_cons (ps_set (i := 3) scMd.nd rfl (Or.inl rfl) (pe_lst pa_nil))
      (pss_cons (ps_for PassesOwn.never rfl (pi_list (pv 2)) (pg_name (i := 4) scMd.nd rfl (Or.inl rfl))
        (pss_one (ps_expr (pe_bm PySem.F.plainAttrs_list PySem.F.slot_list_append PySem.F.type_list_append mt_append (pv 3) (pa_cons (pe_ifExp (pt_cmpR op_eq (pe_ix ix_tup (pv 4) pe_int (fun _ _ => rfl)) pe_str (nomark _))
          (pe_tup (pa_cons pe_str (pa_cons (pe_call GW hr rfl gW kW bW .nil pass0 (pa_cons (pe_ix ix_tup (pv 4) pe_int (fun _ _ => rfl)) pa_nil)) (pa_cons (pe_ix ix_tup (pv 4) pe_int (fun _ _ => rfl)) (pa_cons (pe_ix ix_tup (pv 4) pe_int (fun _ _ => rfl)) pa_nil))))) (pv 4)) pa_nil)))))
      (pss_one (ps_ret (pe_make MK GI (hr.mono hk) rfl T.g bI .nil pass0 (pa_cons (pv 1) (pa_cons (pv 3) pa_nil))))))), ?_⟩
    obtain ⟨h, st⟩ := wy
    unfold RowsAt at hR
    obtain ⟨t, L, xs, rfl, ht, hL, hA⟩ := hR
    have hf0 := hf
    unfold M.Way.fine at hf
    obtain ⟨hh, hl, hall, hdd, hzz⟩ := hf
    unfold M.Way.depth at hd
    have lx := hA.len
    refine ⟨_, rfl, t, _, rfl, SqT.of ht, rfl, _, _, rfl, _, _, rfl, rfl, ?_⟩
    refine ⟨line2.2.2.2, fun D hD => ?_⟩
    have s0 : Same H (upd H D (.lst [])) := Same.of_upd hD
    refine ⟨_, rfl, L, rfl, ⟨_, SqL.of (s0 _ _ hL)⟩, for_list (K := K) (a := L) (xs := xs) (fun i σ G => Same H G ∧ ∃ acc q, σ = [some (.ref t), some (.int (h : Int)), some (.ref L), some (.ref D), q] ∧ G D = some (.lst acc) ∧ StepsAt C G (st.take i) acc)
      ⟨s0, [], _, rfl, upd_same, by unfold StepsAt; rfl⟩ (fun i σ G _ z => SqL.of (z.1 _ _ hL)) ?_ ?_⟩
    · rintro i x σ G hx ⟨s1, acc, q, rfl, hAc, hSt⟩
      obtain ⟨y, hy, hat⟩ := hA.get hx
      have la := hSt.len
      have et := take_snoc hy
      have lt : acc.length < sizeLine := small1000 (by rw [la, List.length_take]; omega)
      have fin : ∀ (G2 : Hp) (u : V), Same G G2 → StepAt C G2 y u → Same H (upd G2 D (.lst (acc ++ [u]))) ∧ ∃ acc2 q, [some (V.ref t), some (.int (h : Int)), some (.ref L), some (.ref D), some x] = [some (.ref t), some (.int (h : Int)), some (.ref L), some (.ref D), q] ∧ (upd G2 D (.lst (acc ++ [u]))) D = some (.lst acc2) ∧ StepsAt C (upd G2 D (.lst (acc ++ [u]))) (st.take (i + 1)) acc2 := fun G2 u s2 hu => by
        refine ⟨fun a o e => ?_, _, _, rfl, upd_same, ?_⟩
        · rw [upd_ne (fun z => by rw [z, hD] at e; cases e)]
          exact s2 _ _ (s1 _ _ e)
        · rw [et]
          have kp : KeepT G2 (upd G2 D (.lst (acc ++ [u]))) := Kp.keepT Kp.put (s2 _ _ hAc)
          exact ((hSt.keep (Same.keepT s2)).keep kp).snoc (hu.keep kp)
      dsimp only
      refine ⟨_, rfl, .inl ⟨rfl, _, SqL.of hAc⟩, ?_⟩
      obtain ⟨tx, y0, ys0, rfl, hk0⟩ := hat.kind
      refine ⟨_, rfl, tx, _, _, _, rfl, rfl, SqT.of (s1 _ _ hk0), at0, rfl, _, rfl, ?_⟩
      cases y with
      | road size ts lw =>
        rw [show decide (V.str (kindOf (.road size ts lw)) = V.str "tunnel") = false from noS kinds.2.1]
        refine iteF ⟨_, rfl, D, acc, _, rfl, rfl, hAc, lt, fin G _ (Same.refl _) ?_⟩
        unfold RowAt at hat
        unfold StepAt
        obtain ⟨t2, e2, h2⟩ := hat
        exact ⟨t2, e2, s1 _ _ h2⟩
      | join most =>
        rw [show decide (V.str (kindOf (.join most)) = V.str "tunnel") = false from noS kinds.2.2.1]
        refine iteF ⟨_, rfl, D, acc, _, rfl, rfl, hAc, lt, fin G _ (Same.refl _) ?_⟩
        unfold RowAt at hat
        unfold StepAt
        obtain ⟨t2, e2, h2⟩ := hat
        exact ⟨t2, e2, s1 _ _ h2⟩
      | tunnel wi most tw =>
        rw [show decide (V.str (kindOf (.tunnel wi most tw)) = V.str "tunnel") = true from yesS]
        unfold RowAt at hat
        obtain ⟨t2, v2, e2, h2, hin⟩ := hat
        cases e2
        have fi := fine_get hall hy
        unfold M.Step.fine at fi
        have di := M.dep_le hy
        have h3 := SqT.of (K := K) (s1 _ _ h2)
        refine iteT ⟨_, rfl, tx, _, _, _, rfl, rfl, h3, at1, v2, wi, rfl, hin.mono s1, fi.1, ?_, fun a G2 s2 hwa => ?_⟩
        · have e : M.Step.dep (.tunnel wi most tw) = wi.depth := rfl
          omega
        have h4 := SqT.of (K := K) (s2 _ _ (s1 _ _ h2))
        refine ⟨_, rfl, tx, _, _, _, rfl, rfl, h4, at2, _, rfl, tx, _, _, _, rfl, rfl, h4, at3, (by show 4 ≤ sizeLine; decide), fun u hu => ?_⟩
        have s3 : Same G2 (upd G2 u (.tup [.str "tunnel", .ref a, .int (most : Int), .str (twS tw)])) := Same.of_upd hu
        refine ⟨D, acc, _, rfl, rfl, s3 _ _ (s2 _ _ hAc), lt, fin _ _ (s2.trans s3) ?_⟩
        unfold StepAt
        exact ⟨u, a, rfl, upd_same, hwa.mono s3⟩
    · rintro σ G ⟨s1, acc, q, rfl, hAc, hSt⟩
      have e : st.take xs.length = st := by rw [lx]; exact List.take_length
      rw [e] at hSt
      refine ⟨_, rfl, _, rfl, ?_⟩
      exact made_way (.inl hAc) hSt hf0 fun x H' s2 wa => kk x H' (s1.trans s2) wa
theorem df_made (T : Wt K mg C) (MW : Mw P w K mg base C) (Z : Fd K mg "_law_made" sLMade ["rows"]) : ∀ n, Df P w K mg base (8 + n) "_law_made" ["rows"] (spLMade C n)
  | 0 => Z.df fun f fd F => F.ok scMd (fun vs H Q E h => by
      obtain ⟨v, wy, rfl, _⟩ := h
      rfl) (fun cdv A outer s H vs Q E hr h => by
      exfalso
      obtain ⟨v, wy, _, _, _, hd, _⟩ := h
      have := depth_pos wy
      omega)
  | n + 1 => Z.df fun f fd F => ok_lmade F T MW (by show 7 ≤ 8 + n; omega) (df_made T MW Z n)
end
end WP

end
section
set_option autoImplicit false
set_option Elab.async false
set_option linter.all false
set_option maxRecDepth 100000
set_option maxHeartbeats 4000000
/-! ## how many pieces at most, by the law's reckoning: some number -/
namespace WP
open PySem L2 G
abbrev sLPm : Stmt := top 52
section
variable {P : Program} {w : World} {K : PySem.W.Frag} {mg : Str → Option Value} {base : Heap} {C : Addr}
theorem iCons {n : Int} {l : List Int} : (n :: l).map V.int = V.int n :: l.map V.int := rfl
def spLPm (n : Nat) : Sp := fun vs H Q _ => ∃ v wy b, vs = [v, .int b] ∧ RowsAt H wy v ∧ M.Way.fine wy ∧ wy.depth ≤ n ∧ 0 ≤ b ∧ b + 40 * n ≤ 10000 ∧ ∀ z H', Same H H' → Q (.int z) H'
abbrev NPm : List Str := ["rows", "body", "head", "steps", "cuts", "found", "step"]
theorem scPm : FnScope NPm ["rows", "body"] (defScope sLPm) := ⟨rfl, rfl, rfl, by decide +kernel, rfl, by decide +kernel, by decide +kernel⟩
theorem ok_lpm {k n : Nat} {f : Addr} {fd : FuncData} (F : Fun K "_law_pieces_made" "_law_pieces_made" sLPm f fd) (B : Bn mg) (mn : mg "min" = none) (W : Df P w K mg base k "_law_pieces_made" ["rows", "body"] (spLPm n)) : FnOk P w K mg base CX0 (k + 1) f fd ["rows", "body"] (spLPm (n + 1)) := by
  obtain ⟨fW, fdW, GW, gW, kW, bW⟩ := W.ex
  refine F.ok scPm (fun vs H Q E h => ?_) (fun cdv A outer s H vs Q E hr h => ?_)
  · obtain ⟨v, wy, b, rfl, _⟩ := h
    rfl
  · obtain ⟨v, wy, b, rfl, hR, hf, hd, hb0, hb1, kk⟩ := h
    refine ⟨_, pss_cons (ps_asg (pv 0) (pg_tup (by rfl) (pgs_cons (pg_name (i := 2) scPm.nd rfl (.inr rfl)) (pgs_cons (pg_name (i := 3) scPm.nd rfl (.inl rfl)) pgs_nil))))
      (pss_cons (ps_setLc (i := 4) (own := [("step", 6)]) (g := gName 6) (tt := tTest (tOp rEq (tOp (rIxT K) (tVar 6) (tC (.int 0))) (tC (.str "road")))) (te := tOp (rI0 fun i j => .int (i - j)) (tOp (rIxT K) (tVar 6) (tC (.int 1))) (tVar 2)) rfl scPm.nd rfl rfl (sw_true rfl rfl rfl (by decide +kernel)) (pi_list (pv 3)) (blkOk_by (N := NPm) (sc := defScope sLPm) (by decide +kernel))
          (fun _ _ _ _ _ => pg_name (i := 6) scPm.nd rfl (Or.inl rfl)) (fun _ _ _ _ _ => pts_one (by exact pt_cmpR op_eq (pe_ix ix_tup (pv 6) pe_int (fun _ _ => rfl)) pe_str (nomark _))) (fun _ _ _ _ _ => by exact pe_op op_sub (pe_ix ix_tup (pv 6) pe_int (fun _ _ => rfl)) (pv 2)))
      (pss_cons (ps_set (i := 5) scPm.nd rfl (Or.inl rfl) (pe_op op_add (pe_op op_add (pe_op op_fdivN (pv 1) (pe_callB (cr_min rfl) (by rfl) mn (by decide +kernel) (pa_cons (pe_op op_cat (pv 4) (pe_lst (pa_cons (pe_op op_add (pv 1) pe_int) pa_nil))) pa_nil))) (pe_callB call_len_seq (by rfl) B.len PySem.boot_len (pa_cons (pv 4) pa_nil))) pe_int))
      (pss_cons (ps_for PassesOwn.never rfl (pi_list (pv 3)) (pg_name (i := 6) scPm.nd rfl (Or.inl rfl))
        (pss_one (ps_if (pt_cmpR op_eq (pe_ix ix_tup (pv 6) pe_int (fun _ _ => rfl)) pe_str (nomark _))
          (pss_one (ps_set (i := 5) scPm.nd rfl (Or.inl rfl) (pe_callB (call_max2 rfl) (by rfl) B.max (by decide +kernel) (pa_cons (pv 5) (pa_cons (pe_call GW hr rfl gW kW bW .nil pass0 (pa_cons (pe_ix ix_tup (pv 6) pe_int (fun _ _ => rfl)) (pa_cons (pe_op op_add (pv 2) (pv 1)) pa_nil))) pa_nil))))) pss_nil)))
      (pss_one (ps_ret (pv 5)))))), ?_⟩
    obtain ⟨h, st⟩ := wy
    unfold RowsAt at hR
    obtain ⟨t, L, xs, rfl, ht, hL, hA⟩ := hR
    unfold M.Way.fine at hf
    obtain ⟨hh, hl, hall, hdd, hzz⟩ := hf
    unfold M.Way.depth at hd
    have lx := hA.len
    refine ⟨_, rfl, t, _, rfl, SqT.of ht, rfl, _, _, rfl, _, _, rfl, rfl, ?_⟩
    -- cuts
    refine ⟨_, rfl, L, rfl, ⟨_, SqL.of hL⟩, fun D nD => ?_⟩
    refine lc_it walk_list (fun i G => Same H G ∧ ∃ ns : List Int, ns.length ≤ i ∧ G D = some (.lst (ns.map V.int)) ∧ ∀ z ∈ ns, 1 ≤ z ∧ z ≤ 1000) ⟨Same.of_upd nD, [], Nat.le_refl _, upd_same, fun z hz => by cases hz⟩ (fun i G _ p => SqL.of (p.1 _ _ hL)) ?_ ?_
    · rintro i x G G' hi ⟨s1, ns, hn, hD, hz⟩ ⟨rfl, hx⟩
      obtain ⟨y, hy, hat⟩ := hA.get hx
      obtain ⟨tx, y0, ys0, rfl, hk0⟩ := hat.kind
      refine ⟨rfl, _, rfl, tx, _, _, _, rfl, rfl, SqT.of (s1 _ _ hk0), at0, rfl, _, rfl, ?_⟩
      cases y with
      | road size ts lw =>
        rw [show decide (V.str (kindOf (.road size ts lw)) = V.str "road") = true from yesS]
        unfold RowAt at hat
        obtain ⟨t2, e2, h2⟩ := hat
        cases e2
        have fi := fine_get hall hy
        unfold M.Step.fine at fi
        refine iteT ⟨_, rfl, tx, _, _, _, rfl, rfl, SqT.of (s1 _ _ h2), at1, _, rfl, _, _, rfl, rfl, _, hD, ?_, add_upd nD s1, ns ++ [(size : Int) - (h : Int)], by simp; exact hn, ?_, ?_⟩
        · rw [List.length_map]
          exact small1000 (by omega)
        · rw [upd_same, List.map_append]
          rfl
        · intro z hz2
          rcases List.mem_append.mp hz2 with q | q
          · exact hz z q
          · rw [List.mem_singleton.mp q]
            omega
      | join most =>
        rw [show decide (V.str (kindOf (.join most)) = V.str "road") = false from noS kinds.2.2.2.1]
        exact iteF ⟨s1, ns, by omega, hD, hz⟩
      | tunnel wi most tw =>
        rw [show decide (V.str (kindOf (.tunnel wi most tw)) = V.str "road") = false from noS kinds.2.2.2.2.1]
        exact iteF ⟨s1, ns, by omega, hD, hz⟩
    · rintro G1 ⟨s1, ns, hn, hD, hz⟩
      dsimp only
      -- found
      refine set_then (i := 5) ?_
      refine ⟨_, rfl, _, rfl, _, rfl, _, _, rfl, rfl, line2.2.2.1, fun D2 hD2 => ?_⟩
      have s2 : Same G1 (upd G1 D2 (.lst [V.int (b + 1)])) := Same.of_upd hD2
      refine ⟨D, D2, ns.map V.int, [V.int (b + 1)], rfl, rfl, s2 _ _ hD, upd_same, ?_, fun D3 hD3 => ?_⟩
      · rw [List.length_map]
        exact Nat.le_trans (show ns.length + 1 ≤ 1000 by omega) (by decide)
      have ec : ns.map V.int ++ [V.int (b + 1)] = (ns ++ [b + 1]).map V.int := by rw [List.map_append]; rfl
      rw [ec]
      have s3 : Same (upd G1 D2 (.lst [V.int (b + 1)])) (upd (upd G1 D2 (.lst [V.int (b + 1)])) D3 (.lst ((ns ++ [b + 1]).map V.int))) := Same.of_upd hD3
      refine ⟨D3, ns ++ [b + 1], rfl, SqL.of upd_same, by simp, fun m hm _ => ?_⟩
      have m1 : 1 ≤ m ∧ m ≤ 10001 := by
        rcases List.mem_append.mp hm with q | q
        · have := hz m q
          omega
        · have e := List.mem_singleton.mp q
          omega
      refine ⟨_, _, rfl, rfl, ⟨by omega, by omega⟩, _, rfl, D, _, rfl, .inl (SqL.of (s3 _ _ (s2 _ _ hD))), _, _, rfl, rfl, _, _, rfl, rfl, ?_⟩
      dsimp only
      have s4 := (s1.trans s2).trans s3
      generalize (upd (upd G1 D2 (.lst [V.int (b + 1)])) D3 (.lst ((ns ++ [b + 1]).map V.int))) = G4 at s4 ⊢
      refine ⟨_, rfl, L, rfl, ⟨_, SqL.of (s4 _ _ hL)⟩, for_list (K := K) (a := L) (xs := xs) (fun i σ G => Same H G ∧ ∃ z q, σ = [some (.ref t), some (.int b), some (.int (h : Int)), some (.ref L), some (.ref D), some (.int z), q])
        ⟨s4, _, _, rfl⟩ (fun i σ G _ z => SqL.of (z.1 _ _ hL)) ?_ ?_⟩
      · rintro i x σ G hx ⟨s5, z, q, rfl⟩
        obtain ⟨y, hy, hat⟩ := hA.get hx
        obtain ⟨tx, y0, ys0, rfl, hk0⟩ := hat.kind
        dsimp only
        refine ⟨_, rfl, tx, _, _, _, rfl, rfl, SqT.of (s5 _ _ hk0), at0, rfl, _, rfl, ?_⟩
        cases y with
        | road size ts lw =>
          rw [show decide (V.str (kindOf (.road size ts lw)) = V.str "tunnel") = false from noS kinds.2.1]
          exact iteF ⟨s5, _, _, rfl⟩
        | join most =>
          rw [show decide (V.str (kindOf (.join most)) = V.str "tunnel") = false from noS kinds.2.2.1]
          exact iteF ⟨s5, _, _, rfl⟩
        | tunnel wi most tw =>
          rw [show decide (V.str (kindOf (.tunnel wi most tw)) = V.str "tunnel") = true from yesS]
          unfold RowAt at hat
          obtain ⟨t2, v2, e2, h2, hin⟩ := hat
          cases e2
          have fi := fine_get hall hy
          unfold M.Step.fine at fi
          have di := M.dep_le hy
          have e : M.Step.dep (.tunnel wi most tw) = wi.depth := rfl
          refine iteT ⟨_, rfl, _, rfl, tx, _, _, _, rfl, rfl, SqT.of (s5 _ _ h2), at1, _, rfl, _, rfl, _, _, rfl, rfl, v2, wi, (h : Int) + b, rfl, hin.mono s5, fi.1, by omega, by omega, by omega, fun z2 G2 s6 => ⟨_, _, rfl, ?_⟩⟩
          exact ⟨s5.trans s6, _, _, rfl⟩
      · rintro σ G ⟨s5, z, q, rfl⟩
        exact ⟨_, rfl, kk z G s5⟩
theorem df_pm (B : Bn mg) (mn : mg "min" = none) (Z : Fd K mg "_law_pieces_made" sLPm ["rows", "body"]) : ∀ n, Df P w K mg base (1 + n) "_law_pieces_made" ["rows", "body"] (spLPm n)
  | 0 => Z.df fun f fd F => F.ok scPm (fun vs H Q E h => by
      obtain ⟨v, wy, b, rfl, _⟩ := h
      rfl) (fun cdv A outer s H vs Q E hr h => by
      exfalso
      obtain ⟨v, wy, b, _, _, _, hd, _⟩ := h
      have := depth_pos wy
      omega)
  | n + 1 => Z.df fun f fd F => ok_lpm F B mn (df_pm B mn Z n)
end
end WP

end
section
set_option autoImplicit false
set_option Elab.async false
set_option linter.all false
set_option maxRecDepth 100000
set_option maxHeartbeats 4000000
/-! ## the bodies at which something may end -/
namespace M
def cnt (s : List Step) : Nat := s.length + Step.inner s
theorem cnt_snoc : ∀ (s : List Step) (y : Step), cnt (s ++ [y]) = cnt s + (1 + isz y)
  | [], y => by
    unfold cnt
    rw [List.nil_append, inner_cons]
    simp
    omega
  | x :: s, y => by
    have ih := cnt_snoc s y
    unfold cnt at ih ⊢
    rw [List.cons_append, inner_cons, inner_cons, List.length_cons, List.length_cons]
    omega
theorem cnt_size (h : Nat) (s : List Step) : Way.size (.mk h s) = cnt s := by
  unfold Way.size cnt
  rfl
theorem inner_take : ∀ (s : List Step) (i : Nat), Step.inner (s.take i) ≤ Step.inner s
  | [], i => by rw [List.take_nil]; exact Nat.le_refl _
  | x :: s, 0 => by
    rw [List.take_zero]
    unfold Step.inner
    exact Nat.zero_le _
  | x :: s, i + 1 => by
    rw [List.take_succ_cons, inner_cons, inner_cons]
    have := inner_take s i
    omega
theorem cnt_take (s : List Step) (i : Nat) : cnt (s.take i) ≤ cnt s := by
  have a := inner_take s i
  have b : (s.take i).length ≤ s.length := by rw [List.length_take]; exact Nat.min_le_right _ _
  unfold cnt
  omega
end M
namespace WP
open PySem L2 G
abbrev sLEnds : Stmt := top 53
/-- ints in a list -/
def LI (H : Hp) (D : Addr) (ns : List Int) : Prop := H D = some (.lst (ns.map V.int))
theorem mapI_app (a b : List Int) : a.map V.int ++ b.map V.int = (a ++ b).map V.int := (List.map_append).symm
theorem mapI_len (a : List Int) : (a.map V.int).length = a.length := List.length_map ..
section
variable {P : Program} {w : World} {K : PySem.W.Frag} {mg : Str → Option Value} {base : Heap} {C : Addr}
def spLEnds (n : Nat) : Sp := fun vs H Q _ => ∃ v wy least most, vs = [v, .int least, .int most] ∧ RowsAt H wy v ∧ M.Way.fine wy ∧ wy.depth ≤ n ∧ ∀ D ns H', Same H H' → LI H' D ns → ns.length ≤ 3 * wy.size + 3 → (∀ z ∈ ns, least ≤ z ∧ z ≤ most) → Q (.ref D) H'
abbrev NEn : List Str := ["rows", "least", "most", "head", "steps", "found", "step", "body"]
theorem scEn : FnScope NEn ["rows", "least", "most"] (defScope sLEnds) := ⟨rfl, rfl, rfl, by decide +kernel, rfl, by decide +kernel, by decide +kernel⟩
theorem ok_lends {k n : Nat} {f : Addr} {fd : FuncData} (F : Fun K "_law_ends" "_law_ends" sLEnds f fd) (W : Df P w K mg base k "_law_ends" ["rows", "least", "most"] (spLEnds n)) : FnOk P w K mg base CX0 (k + 1) f fd ["rows", "least", "most"] (spLEnds (n + 1)) := by
  obtain ⟨fW, fdW, GW, gW, kW, bW⟩ := W.ex
  refine F.ok scEn (fun vs H Q E h => ?_) (fun cdv A outer s H vs Q E hr h => ?_)
  · obtain ⟨v, wy, a, b, rfl, _⟩ := h
    rfl
  · obtain ⟨v, wy, lo, hi, rfl, hR, hf, hd, kk⟩ := h
    refine ⟨_, pss_cons (ps_asg (pv 0) (pg_tup (by rfl) (pgs_cons (pg_name (i := 3) scEn.nd rfl (.inr rfl)) (pgs_cons (pg_name (i := 4) scEn.nd rfl (.inl rfl)) pgs_nil))))
      (pss_cons (ps_set (i := 5) scEn.nd rfl (Or.inl rfl) (pe_lst pa_nil))
      (pss_cons (ps_for PassesOwn.never rfl (pi_list (pv 4)) (pg_name (i := 6) scEn.nd rfl (Or.inl rfl))
        (pss_cons (ps_if (pt_cmpR op_eq (pe_ix ix_tup (pv 6) pe_int (fun _ _ => rfl)) pe_str (nomark _))
          (pss_one (ps_set (i := 5) scEn.nd rfl (Or.inl rfl) (pe_op op_cat (pv 5) (pe_lst (pa_cons (pe_op op_sub (pe_ix ix_tup (pv 6) pe_int (fun _ _ => rfl)) (pv 3)) (pa_cons (pe_op op_add (pe_op op_sub (pe_ix ix_tup (pv 6) pe_int (fun _ _ => rfl)) (pv 3)) pe_int) (pa_cons (pe_op op_mul pe_int (pe_op op_sub (pe_ix ix_tup (pv 6) pe_int (fun _ _ => rfl)) (pv 3))) pa_nil))))))) pss_nil)
        (pss_one (ps_if (pt_cmpR op_eq (pe_ix ix_tup (pv 6) pe_int (fun _ _ => rfl)) pe_str (nomark _))
          (pss_one (ps_set (i := 5) scEn.nd rfl (Or.inl rfl) (pe_op op_cat (pv 5) (pe_lc (own := [("body", 7)]) (g := gName 7) (tt := tYes) (te := tOp (rI0 fun i j => .int (i - j)) (tVar 7) (tVar 3)) rfl scEn.nd
            (pi_list (pe_call GW hr rfl gW kW bW .nil pass0 (pa_cons (pe_ix ix_tup (pv 6) pe_int (fun _ _ => rfl)) (pa_cons (pv 1) (pa_cons (pe_op op_add (pv 2) (pv 3)) pa_nil))))) (blkOk_by (N := NEn) (sc := defScope sLEnds) (by decide +kernel))
            (fun _ _ _ _ _ => pg_name (i := 7) scEn.nd rfl (Or.inl rfl)) (fun _ _ _ _ _ => pts_nil) (fun _ _ _ _ _ => by exact pe_op op_sub (pv 7) (pv 3)))))) pss_nil))))
      (pss_one (ps_ret (pe_lc (own := [("body", 7)]) (g := gName 7) (tt := tTest (tChain (rI0 fun i j => .bl (decide (i ≤ j))) (rI0 fun i j => .bl (decide (i ≤ j))) (tVar 1) (tVar 7) (tVar 2))) (te := tVar 7) rfl scEn.nd
            (pi_list (pe_op op_cat (pv 5) (pe_lst (pa_cons (pv 1) (pa_cons (pe_op op_add (pv 1) pe_int) (pa_cons (pv 2) pa_nil)))))) (blkOk_by (N := NEn) (sc := defScope sLEnds) (by decide +kernel))
            (fun _ _ _ _ _ => pg_name (i := 7) scEn.nd rfl (Or.inl rfl)) (fun _ _ _ _ _ => pts_one (by exact pt_chain op_le op_le (pv 1) (pv 7) (pv 2))) (fun _ _ _ _ _ => by exact pv 7)))))), ?_⟩
    obtain ⟨h, st⟩ := wy
    rw [M.cnt_size] at kk
    unfold RowsAt at hR
    obtain ⟨t, L, xs, rfl, ht, hL, hA⟩ := hR
    unfold M.Way.fine at hf
    obtain ⟨hh, hl, hall, hdd, hzz⟩ := hf
    unfold M.Way.depth at hd
    have lx := hA.len
    have hcz : M.cnt st ≤ 40 := hzz
    refine ⟨_, rfl, t, _, rfl, SqT.of ht, rfl, _, _, rfl, _, _, rfl, rfl, ?_⟩
    refine ⟨line2.2.2.2, fun F0 hF0 => ?_⟩
    have s0 : Same H (upd H F0 (.lst [])) := Same.of_upd hF0
    refine ⟨_, rfl, L, rfl, ⟨_, SqL.of (s0 _ _ hL)⟩, for_list (K := K) (a := L) (xs := xs) (fun i σ G => Same H G ∧ ∃ F ns q, σ = [some (.ref t), some (.int lo), some (.int hi), some (.int (h : Int)), some (.ref L), some (.ref F), q, none] ∧ LI G F ns ∧ ns.length ≤ 3 * M.cnt (st.take i))
      ⟨s0, F0, [], _, rfl, upd_same, Nat.zero_le _⟩ (fun i σ G _ z => SqL.of (z.1 _ _ hL)) ?_ ?_⟩
    · rintro i x σ G hx ⟨s1, F, ns, q, rfl, hF, hn⟩
      obtain ⟨y, hy, hat⟩ := hA.get hx
      obtain ⟨tx, y0, ys0, rfl, hk0⟩ := hat.kind
      have et := take_snoc hy
      have ec : M.cnt (st.take (i + 1)) = M.cnt (st.take i) + (1 + M.isz y) := by rw [et, M.cnt_snoc]
      have e1 := M.cnt_take st i
      have e2 := M.cnt_take st (i + 1)
      dsimp only
      refine ⟨_, rfl, tx, _, _, _, rfl, rfl, SqT.of (s1 _ _ hk0), at0, rfl, _, rfl, ?_⟩
      cases y with
      | road size ts lw =>
        rw [show decide (V.str (kindOf (.road size ts lw)) = V.str "road") = true from yesS]
        unfold RowAt at hat
        obtain ⟨t2, e2', h2⟩ := hat
        cases e2'
        have h3 := SqT.of (K := K) (s1 _ _ h2)
        refine iteT ?_
        refine set_then (i := 5) ⟨_, rfl, _, rfl, tx, _, _, _, rfl, rfl, h3, at1, _, rfl, _, _, rfl, rfl, _, rfl, tx, _, _, _, rfl, rfl, h3, at1, _, rfl, _, _, rfl, rfl, _, _, rfl, rfl, ?_⟩
        refine ⟨_, rfl, tx, _, _, _, rfl, rfl, h3, at1, _, rfl, _, _, rfl, rfl, _, _, rfl, rfl, .inl ⟨by decide, by decide⟩, line2.2.1, fun D2 hD2 => ?_⟩
        have s2 := Same.of_upd (o := .lst [.int ((size : Int) - (h : Int)), .int ((size : Int) - (h : Int) + 1), .int (2 * ((size : Int) - (h : Int)))]) hD2
        refine ⟨F, D2, _, _, rfl, rfl, s2 _ _ hF, upd_same, ?_, fun D3 hD3 => ?_⟩
        · rw [mapI_len]
          exact Nat.le_trans (show ns.length + 3 ≤ 1000 by omega) (by decide)
        have s3 := Same.of_upd (o := .lst (ns.map V.int ++ [.int ((size : Int) - (h : Int)), .int ((size : Int) - (h : Int) + 1), .int (2 * ((size : Int) - (h : Int)))])) hD3
        have s4 := (s1.trans s2).trans s3
        refine ⟨_, rfl, tx, _, _, _, rfl, rfl, SqT.of (s4 _ _ hk0), at0, rfl, _, rfl, ?_⟩
        rw [show decide (V.str (kindOf (.road size ts lw)) = V.str "tunnel") = false from noS kinds.2.1]
        refine iteF ⟨s4, D3, ns ++ [(size : Int) - (h : Int), (size : Int) - (h : Int) + 1, 2 * ((size : Int) - (h : Int))], _, rfl, ?_, ?_⟩
        · unfold LI
          rw [upd_same, ← mapI_app]
          rfl
        · rw [ec, List.length_append]
          show ns.length + 3 ≤ _
          omega
      | join most =>
        rw [show decide (V.str (kindOf (.join most)) = V.str "road") = false from noS kinds.2.2.2.1]
        refine iteF ⟨_, rfl, tx, _, _, _, rfl, rfl, SqT.of (s1 _ _ hk0), at0, rfl, _, rfl, ?_⟩
        rw [show decide (V.str (kindOf (.join most)) = V.str "tunnel") = false from noS kinds.2.2.1]
        exact iteF ⟨s1, F, ns, _, rfl, hF, by omega⟩
      | tunnel wi most tw =>
        rw [show decide (V.str (kindOf (.tunnel wi most tw)) = V.str "road") = false from noS kinds.2.2.2.2.1]
        refine iteF ⟨_, rfl, tx, _, _, _, rfl, rfl, SqT.of (s1 _ _ hk0), at0, rfl, _, rfl, ?_⟩
        rw [show decide (V.str (kindOf (.tunnel wi most tw)) = V.str "tunnel") = true from yesS]
        unfold RowAt at hat
        obtain ⟨t2, v2, e2', h2, hin⟩ := hat
        cases e2'
        have fi := fine_get hall hy
        unfold M.Step.fine at fi
        have di := M.dep_le hy
        have e : M.Step.dep (.tunnel wi most tw) = wi.depth := rfl
        refine iteT ⟨_, rfl, _, rfl, tx, _, _, _, rfl, rfl, SqT.of (s1 _ _ h2), at1, _, rfl, _, rfl, _, rfl, _, _, rfl, rfl, v2, wi, lo, hi + h, rfl, hin.mono s1, fi.1, by omega, fun D1 ms G1 s2 hD1 hm1 hm2 => ?_⟩
        refine ⟨D1, rfl, ⟨_, SqL.of hD1⟩, fun D2 hD2 => ?_⟩
        have hsz : M.isz (.tunnel wi most tw) = wi.size := rfl
        refine lc_it walk_list (fun i G2 => Same G1 G2 ∧ LI G2 D2 ((ms.take i).map fun z => z - (h : Int))) ⟨Same.of_upd hD2, upd_same⟩ (fun i G2 _ p => SqL.of (p.1 _ _ hD1)) ?_ ?_
        · rintro i2 x2 G2 G2' hi2 ⟨s3, hD3⟩ ⟨rfl, hx2⟩
          rw [List.getElem?_map] at hx2
          cases em : ms[i2]? with
          | none => rw [em] at hx2; cases hx2
          | some z =>
            rw [em] at hx2
            cases hx2
            refine ⟨rfl, _, rfl, _, rfl, _, _, rfl, rfl, _, hD3, ?_, add_upd hD2 s3, ?_⟩
            · rw [mapI_len, List.length_map, List.length_take]
              exact small1000 (by omega)
            · unfold LI
              rw [upd_same, take_snoc em, List.map_append, List.map_append]
              rfl
        · rintro G2 ⟨s3, hD3⟩
          rw [mapI_len, List.take_length] at hD3
          refine ⟨F, D2, _, _, rfl, rfl, s3 _ _ (s2 _ _ hF), hD3, ?_, fun D3 hD3' => ?_⟩
          · rw [mapI_len, mapI_len, List.length_map]
            exact Nat.le_trans (show ns.length + ms.length ≤ 1000 by omega) (by decide)
          have s4 := Same.of_upd (o := .lst (ns.map V.int ++ (ms.map fun z => z - (h : Int)).map V.int)) hD3'
          refine ⟨((s1.trans s2).trans s3).trans s4, D3, ns ++ ms.map fun z => z - (h : Int), _, rfl, ?_, ?_⟩
          · unfold LI
            rw [upd_same, mapI_app]
          · rw [ec, List.length_append, List.length_map]
            omega
    · rintro σ G ⟨s1, F, ns, q, rfl, hF, hn⟩
      have e0 : st.take xs.length = st := by rw [lx]; exact List.take_length
      rw [e0] at hn
      refine ⟨_, rfl, _, rfl, _, rfl, _, _, rfl, rfl, _, rfl, line2.2.1, fun D2 hD2 => ?_⟩
      have s2 := Same.of_upd (o := .lst [.int lo, .int (lo + 1), .int hi]) hD2
      refine ⟨F, D2, _, _, rfl, rfl, s2 _ _ hF, upd_same, ?_, fun D3 hD3 => ?_⟩
      · rw [mapI_len]
        exact Nat.le_trans (show ns.length + 3 ≤ 1000 by omega) (by decide)
      have s3 := Same.of_upd (o := .lst (ns.map V.int ++ [.int lo, .int (lo + 1), .int hi])) hD3
      have e3 : ns.map V.int ++ [.int lo, .int (lo + 1), .int hi] = (ns ++ [lo, lo + 1, hi]).map V.int := by rw [← mapI_app]; rfl
      rw [e3] at s3
      refine ⟨D3, rfl, ⟨(ns ++ [lo, lo + 1, hi]).map V.int, SqL.of (by rw [← e3]; exact upd_same)⟩, fun D4 hD4 => ?_⟩
      generalize hG1 : upd (upd G D2 (.lst [.int lo, .int (lo + 1), .int hi])) D3 (.lst (ns.map V.int ++ [.int lo, .int (lo + 1), .int hi])) = G1 at hD4 ⊢
      have hD3' : LI G1 D3 (ns ++ [lo, lo + 1, hi]) := by
        unfold LI
        rw [← hG1, upd_same, e3]
      have s4 : Same H G1 := by
        rw [← hG1, e3]
        exact (s1.trans s2).trans s3
      refine lc_it walk_list (fun i G2 => Same G1 G2 ∧ ∃ ms : List Int, LI G2 D4 ms ∧ ms.length ≤ i ∧ ∀ z ∈ ms, lo ≤ z ∧ z ≤ hi) ⟨Same.of_upd hD4, [], upd_same, Nat.le_refl _, fun z hz => by cases hz⟩ (fun i G2 _ p => SqL.of (p.1 _ _ hD3')) ?_ ?_
      · rintro i2 x2 G2 G2' hi2 ⟨s5, ms, hm, lm, hz⟩ ⟨rfl, hx2⟩
        rw [mapI_len, List.length_append] at hi2
        have hi3 : i2 < ns.length + 3 := hi2
        rw [List.getElem?_map] at hx2
        cases em : (ns ++ [lo, lo + 1, hi])[i2]? with
        | none => rw [em] at hx2; cases hx2
        | some z =>
          rw [em] at hx2
          cases hx2
          refine ⟨rfl, _, rfl, _, rfl, _, _, rfl, rfl, _, rfl, ?_⟩
          refine ite2 (fun c1 => ⟨_, rfl, _, _, rfl, rfl, _, rfl, ?_⟩) (fun c1 => ⟨_, rfl, iteF ⟨s5, ms, hm, by omega, hz⟩⟩)
          refine ite2 (fun c2 => ⟨_, rfl, _, hm, ?_, add_upd hD4 s5, ms ++ [z], ?_, by simp; exact lm, ?_⟩) (fun c2 => ⟨s5, ms, hm, by omega, hz⟩)
          · rw [mapI_len]
            exact small1000 (by omega)
          · unfold LI
            rw [upd_same, ← mapI_app]
            rfl
          · intro y hy
            rcases List.mem_append.mp hy with q | q
            · exact hz y q
            · rw [List.mem_singleton.mp q]
              exact ⟨of_decide_eq_true c1, of_decide_eq_true c2⟩
      · rintro G2 ⟨s5, ms, hm, lm, hz⟩
        rw [mapI_len, List.length_append] at lm
        have lm2 : ms.length ≤ ns.length + 3 := lm
        exact kk D4 ms G2 (s4.trans s5) hm (by omega) hz
theorem df_ends (Z : Fd K mg "_law_ends" sLEnds ["rows", "least", "most"]) : ∀ n, Df P w K mg base (1 + n) "_law_ends" ["rows", "least", "most"] (spLEnds n)
  | 0 => Z.df fun f fd F => F.ok scEn (fun vs H Q E h => by
      obtain ⟨v, wy, a, b, rfl, _⟩ := h
      rfl) (fun cdv A outer s H vs Q E hr h => by
      exfalso
      obtain ⟨v, wy, a, b, _, _, _, hd, _⟩ := h
      have := depth_pos wy
      omega)
  | n + 1 => Z.df fun f fd F => ok_lends F (df_ends Z n)
end
end WP

end
section
set_option autoImplicit false
set_option Elab.async false
set_option linter.all false
set_option maxRecDepth 100000
set_option maxHeartbeats 4000000
/-! ## fates as data; walk by its keyword; what the law claims of one way -/
namespace WP
open PySem L2 G
abbrev sLRow : Stmt := top 54
abbrev sLAround : Stmt := top 55
abbrev sLSum : Stmt := top 56
def dI (n : Nat) : PyData := .int ((n : Nat) : Int)
def fateD : M.Fate → PyData
  | .comes l => .tuple [.str "comes", .list (l.map dI)]
  | .told s p => .tuple [.str "told", .int s, .tuple (p.map dI)]
  | .silent p => .tuple [.str "silent", .tuple (p.map dI)]
theorem dp_ints {K : PySem.W.Frag} {H : Hp} : ∀ l : List Nat, DpAll K H (ni l) (l.map dI)
  | [] => .nil
  | x :: l => .cons (.int _) (dp_ints l)
theorem dp_fate {K : PySem.W.Frag} {H : Hp} {v : V} : ∀ {f : M.Fate}, FateAt H f v → Dp K H v (fateD f)
  | .comes l, ⟨t, L, e, h1, h2⟩ => by
    subst e
    exact .tup (SqT.of h1) (.cons (.str _) (.cons (.lst (SqL.of h2) (dp_ints l)) .nil))
  | .told z p, ⟨t, L, e, h1, h2⟩ => by
    subst e
    exact .tup (SqT.of h1) (.cons (.str _) (.cons (.int _) (.cons (.tup (SqT.of h2) (dp_ints p)) .nil)))
  | .silent p, ⟨t, L, e, h1, h2⟩ => by
    subst e
    exact .tup (SqT.of h1) (.cons (.str _) (.cons (.tup (SqT.of h2) (dp_ints p)) .nil))
theorem lay_ints : ∀ l : List Nat, PyData.canLayAll0 (l.map dI) = true
  | [] => rfl
  | x :: l => lay_ints l
theorem deep_ints : ∀ l : List Nat, PyData.depthAll (l.map dI) = 0
  | [] => by simp only [List.map_nil, PyData.depthAll]
  | x :: l => by simp only [List.map_cons, PyData.depthAll, dI, PyData.depth, deep_ints l, Nat.max_self]
theorem str_ok : PyData.strOk "comes" = true ∧ PyData.strOk "told" = true ∧ PyData.strOk "silent" = true := by decide +kernel
theorem lay_fate : ∀ f : M.Fate, (fateD f).canLay0 = true
  | .comes l => by simp only [fateD, PyData.canLay0, PyData.canLayAll0, lay_ints, str_ok.1, Bool.and_self]
  | .told s p => by simp only [fateD, PyData.canLay0, PyData.canLayAll0, lay_ints, str_ok.2.1, Bool.and_self]
  | .silent p => by simp only [fateD, PyData.canLay0, PyData.canLayAll0, lay_ints, str_ok.2.2, Bool.and_self]
theorem shaped_fate (f : M.Fate) : SeqAt.shaped (fateD f) = true := by
  unfold SeqAt.shaped
  rw [lay_fate f, Bool.true_and]
  refine decide_eq_true ?_
  cases f <;> simp only [fateD, PyData.depth, PyData.depthAll, deep_ints] <;> decide
theorem eqv_ints : ∀ l m : List Nat, PyData.eqvAll (l.map dI) (m.map dI) = true → l = m
  | [], [], _ => rfl
  | [], y :: m, h => by simp [PyData.eqvAll] at h
  | x :: l, [], h => by simp [PyData.eqvAll] at h
  | x :: l, y :: m, h => by
    simp only [List.map_cons, PyData.eqvAll, dI, PyData.eqv, Bool.and_eq_true, beq_iff_eq] at h
    have e1 : x = y := by omega
    rw [e1, eqv_ints l m h.2]
theorem eqv_two (a b : Str) (x y : PyData) : PyData.eqv (.tuple [.str a, x]) (.tuple [.str b, y]) = (a == b && PyData.eqv x y) := by simp [PyData.eqv, PyData.eqvAll]
theorem eqv_fate {f g : M.Fate} (h : PyData.eqv (fateD f) (fateD g) = true) : f = g := by
  cases f with
  | comes l => cases g with
    | comes m =>
      have h2 : PyData.eqvAll (l.map dI) (m.map dI) = true := by
        simp only [fateD, PyData.eqv, PyData.eqvAll, Bool.and_eq_true] at h
        exact h.2.1
      rw [eqv_ints l m h2]
    | told z q => simp [fateD, PyData.eqv, PyData.eqvAll] at h
    | silent q => simp [fateD, PyData.eqv, PyData.eqvAll] at h
  | told z p => cases g with
    | comes m => simp [fateD, PyData.eqv, PyData.eqvAll] at h
    | told z2 q =>
      simp only [fateD, PyData.eqv, PyData.eqvAll, Bool.and_eq_true, beq_iff_eq] at h
      rw [h.2.1, eqv_ints p q h.2.2.1]
    | silent q => simp [fateD, PyData.eqv, PyData.eqvAll] at h
  | silent p => cases g with
    | comes m => simp [fateD, PyData.eqv, PyData.eqvAll] at h
    | told z q => simp [fateD, PyData.eqv, PyData.eqvAll] at h
    | silent q =>
      have h2 : PyData.eqvAll (p.map dI) (q.map dI) = true := by
        simp only [fateD, PyData.eqv, PyData.eqvAll, Bool.and_eq_true] at h
        exact h.2.1
      rw [eqv_ints p q h2]
theorem eqv_same (f : M.Fate) : PyData.eqv (fateD f) (fateD f) = true := SeqAt.eqv_refl _ (lay_fate f)
/-- != and == of two fates -/
theorem ne_same {K : PySem.W.Frag} {H : Hp} {Q : VK} {u v : V} {f : M.Fate} (hu : FateAt H f u) (hv : FateAt H f v) (q : Q (.bl false) H) : rNeD K u v H Q :=
  ⟨_, _, dp_fate hu, dp_fate hv, shaped_fate f, shaped_fate f, by rw [eqv_same]; exact q⟩
theorem eq_fates {K : PySem.W.Frag} {H : Hp} {Q : VK} {u v : V} {f g : M.Fate} (hu : FateAt H f u) (hv : FateAt H g v) (q1 : f = g → Q (.bl true) H) (q2 : Q (.bl false) H) : rEqD K u v H Q := by
  refine ⟨_, _, dp_fate hu, dp_fate hv, shaped_fate f, shaped_fate g, ?_⟩
  cases e : PyData.eqv (fateD f) (fateD g) with
  | true => exact q1 (eqv_fate e)
  | false => exact q2
/-! ### walk, its last argument by name -/
def g21 : List Value → List Value → List Value
  | [a, b], [c] => [a, b, c]
  | _, _ => []
def gV21 : List V → List V → List V
  | [a, b], [c] => [a, b, c]
  | _, _ => []
section
variable {P : Program} {w : World} {K : PySem.W.Frag} {mg : Str → Option Value} {base : Heap} {C : Addr}
theorem walk_kb {f : Addr} {fd : FuncData} (F : Fun K "walk" "walk" sWalk f fd) : KBinds K fd ["way", "body", "sealed"] ["sealed"] g21 gV21 := by
  obtain ⟨oc, od, kV, doc, pm, an, cdv, ct, osl, rfl, lk, hcd⟩ := F.ex
  refine ⟨fun s us ws _ hl => ?_, fun {vs us zs ws} r rz => ?_⟩
  · match us, ws, hl with
    | [a, b], [c], _ => exact .of_eq rfl
  · cases r with
    | nil => cases rz <;> exact .nil
    | cons r1 r => cases r with
      | nil => cases rz <;> exact .nil
      | cons r2 r => cases r with
        | nil => cases rz with
          | nil => exact .nil
          | cons z1 rz => cases rz with
            | nil => exact .cons r1 (.cons r2 (.cons z1 .nil))
            | cons _ _ => exact .nil
        | cons _ _ => cases rz <;> exact .nil
/-- walk as the law calls it -/
structure Dw (P : Program) (w : World) (K : PySem.W.Frag) (mg : Str → Option Value) (base : Heap) (C : Addr) : Prop where
  ex : ∃ (f : Addr) (fd : FuncData), FnOk P w K mg base CX0 11 f fd ["way", "body", "sealed"] (spWalk C) ∧ mg "walk" = some (.ref f) ∧ PySem.W.keepIn K (.ref f) = true ∧ KBinds K fd ["way", "body", "sealed"] ["sealed"] g21 gV21
end
end WP

end
section
set_option autoImplicit false
set_option Elab.async false
set_option linter.all false
set_option maxRecDepth 100000
set_option maxHeartbeats 4000000
/-! ## lesser letters fare no worse; stretches as they come -/
namespace M
theorem walk_good {se : Bool} {w : Way} {b : Nat} {m : List Nat} (hf : w.fine) (e : w.walk se b = .comes m) : Good b m := by
  obtain ⟨m2, e2, g, _, _⟩ := Way.mono se w (fine_ok hf) b b m (Nat.le_refl b) e
  rw [e] at e2
  cases e2
  exact g
theorem walk_less {se : Bool} {w : Way} {b b' : Nat} (hf : w.fine) (hle : b ≤ b') (h : ∀ m, w.walk se b ≠ .comes m) : ∀ m, w.walk se b' ≠ .comes m := fun m e => by
  obtain ⟨m2, e2, _⟩ := Way.mono se w (fine_ok hf) b b' m hle e
  exact h m2 e2
end M
namespace WP
open PySem L2 G
theorem ni_mem {l : List Nat} {z : Int} (h : z ∈ l.map fun n => ((n : Nat) : Int)) : ∃ b ∈ l, z = ((b : Nat) : Int) := by
  obtain ⟨b, hb, e⟩ := List.mem_map.mp h
  exact ⟨b, hb, e.symm⟩
/-- fate[0], by kind -/
def fkind : M.Fate → Str
  | .comes _ => "comes"
  | .told _ _ => "told"
  | .silent _ => "silent"
theorem FateAt.kind {H : Hp} {v : V} : ∀ {f : M.Fate}, FateAt H f v → ∃ t y ys, v = .ref t ∧ H t = some (.tup (.str (fkind f) :: y :: ys))
  | .comes l, ⟨t, L, e, h, _⟩ => ⟨t, _, _, e, h⟩
  | .told z p, ⟨t, L, e, h, _⟩ => ⟨t, _, _, e, h⟩
  | .silent p, ⟨t, L, e, h, _⟩ => ⟨t, _, _, e, h⟩
def isComes : M.Fate → Bool
  | .comes _ => true
  | _ => false
theorem fkind_comes : ∀ f : M.Fate, decide (V.str (fkind f) = V.str "comes") = isComes f
  | .comes _ => yesS
  | .told _ _ => noS fk.2.2.2.1
  | .silent _ => noS fk.2.2.2.2
theorem not_comes {f : M.Fate} (h : isComes f = false) : ∀ m, f ≠ .comes m := fun m e => by
  rw [e] at h
  cases h
theorem is_comes {f : M.Fate} (h : isComes f = true) : ∃ m, f = .comes m := by
  cases f with
  | comes m => exact ⟨m, rfl⟩
  | told _ _ => cases h
  | silent _ => cases h
section
variable {P : Program} {w : World} {K : PySem.W.Frag} {mg : Str → Option Value} {base : Heap} {C : Addr}
/-- a walk as the law calls it -/
theorem walk_of {σ : St} {H : Hp} {Q : VK} {E : XK} {i j c a b : Nat} {se : Bool} {wy : M.Way} (hi : σ[i]? = some (some (.ref a))) (hj : σ[j]? = some (some (.int ((b : Nat) : Int)))) (hc : σ[c]? = some (some (.bl se))) (hw : WayAt C H wy a) (hf : wy.fine) (hb : b ≤ 90000)
    (k : ∀ v H', Same H H' → FateAt H' (M.Way.walk se wy b) v → Q v H') : tCallK (spWalk C) gV21 E (tCons (tVar i) (tCons (tVar j) tNil)) (tCons (tVar c) tNil) σ H Q :=
  ⟨_, hi, _, hj, _, hc, a, b, se, wy, rfl, hw, hf, hb, k⟩
def spLRow (C : Addr) : Sp := fun vs H Q _ => ∃ a B se wy bs, vs = [.ref a, .ref B, .bl se] ∧ WayAt C H wy a ∧ wy.fine ∧ H B = some (.lst (ni bs)) ∧ bs.Pairwise (· < ·) ∧ (∀ b ∈ bs, b ≤ 90000) ∧ ∀ H', Same H H' → Q (.bl true) H'
abbrev NRo : List Str := ["way", "bodies", "closed", "ended", "body", "told", "stretches"]
theorem scRo : FnScope NRo ["way", "bodies", "closed"] (defScope sLRow) := ⟨rfl, rfl, rfl, by decide +kernel, rfl, by decide +kernel, by decide +kernel⟩
theorem ok_lrow {f : Addr} {fd : FuncData} (F : Fun K "_law_row_right" "_law_row_right" sLRow f fd) (B : Bn mg) (mn : mg "min" = none) (W : Dw P w K mg base C) : FnOk P w K mg base CX0 12 f fd ["way", "bodies", "closed"] (spLRow C) := by
  obtain ⟨fW, fdW, GW, gW, kW, bW⟩ := W.ex
  refine F.ok scRo (fun vs H Q E h => ?_) (fun cdv A outer s H vs Q E hr h => ?_)
  · obtain ⟨a, B, se, wy, bs, rfl, _⟩ := h
    rfl
  · obtain ⟨a, BB, se, wy, bs, rfl, hw, hf, hB, hP, hle, kk⟩ := h
    refine ⟨_, pss_cons (ps_set (i := 3) scRo.nd rfl (Or.inl rfl) pe_bl)
      (pss_cons (ps_for PassesOwn.never rfl (pi_list (pv 1)) (pg_name (i := 4) scRo.nd rfl (Or.inl rfl))
        (pss_cons (ps_set (i := 5) scRo.nd rfl (Or.inl rfl) (pe_callK GW hr rfl gW kW bW pass0 (pa_cons (pv 0) (pa_cons (pv 4) pa_nil)) (pk_cons (pv 2) pk_nil)))
        (pss_cons (ps_if (pt_cmpR op_ne (pe_ix ix_tup (pv 5) pe_int (fun _ _ => rfl)) pe_str (nomark _)) (pss_one (ps_set (i := 3) scRo.nd rfl (Or.inl rfl) pe_bl)) pss_nil)
        (pss_one (ps_if (pt_cmpR op_eq (pe_ix ix_tup (pv 5) pe_int (fun _ _ => rfl)) pe_str (nomark _))
          (pss_cons (ps_set (i := 6) scRo.nd rfl (Or.inl rfl) (pe_ix ix_tup (pv 5) pe_int (fun _ _ => rfl)))
          (pss_cons (ps_if (PW.pt (pw_or (pt_val (pv 3)) (pw_or (pt_cmpR op_ne (pe_callB (cr_sum rfl) (by rfl) B.sum (by decide +kernel) (pa_cons (pv 6) pa_nil)) (pv 4) (nomark _))
              (pw_or1 (pt_cmpR op_ne (pe_callB (cr_max rfl) (by rfl) B.max (by decide +kernel) (pa_cons (pv 6) pa_nil)) (pe_ix ix_list (pv 6) pe_int (fun _ _ => rfl)) (nomark _)))))) (pss_one (ps_ret pe_bl)) pss_nil)
          (pss_one (ps_if (PW.pt (pw_or (PW.pt (pw_and (pt_cmpR op_gt (pv 4) pe_int (nomark _)) (pw_and1 (pt_cmpR op_lt (pe_callB (cr_min rfl) (by rfl) mn (by decide +kernel) (pa_cons (pv 6) pa_nil)) pe_int (nomark _)))))
              (pw_or (PW.pt (pw_and (pt_val (pv 2)) (pw_and1 (pt_cmpR op_ne (pe_callB call_len_seq (by rfl) B.len PySem.boot_len (pa_cons (pv 6) pa_nil)) pe_int (nomark _)))))
              (pw_or1 (PW.pt (pw_and (pt_cmpR op_eq (pv 4) pe_int (nomark _)) (pw_and1 (pt_cmpR (op_neD hr.units) (pv 6) (pe_lst (pa_cons pe_int pa_nil)) (nomark _))))))))) (pss_one (ps_ret pe_bl)) pss_nil))))
          pss_nil)))))
      (pss_one (ps_ret pe_bl))), ?_⟩
    refine ⟨_, rfl, BB, rfl, ⟨_, SqL.of hB⟩, for_list (K := K) (a := BB) (xs := ni bs) (fun i σ G => Same H G ∧ ∃ en q1 q2 q3, σ = [some (.ref a), some (.ref BB), some (.bl se), some (.bl en), q1, q2, q3] ∧ (en = true → ∃ j b, j < i ∧ bs[j]? = some b ∧ ∀ m, M.Way.walk se wy b ≠ .comes m))
      ⟨Same.refl _, false, _, _, _, rfl, fun z => by cases z⟩ (fun i σ G _ z => SqL.of (z.1 _ _ hB)) ?_ ?_⟩
    · rintro i x σ G hx ⟨s1, en, q1, q2, q3, rfl, hen⟩
      obtain ⟨b, hb, rfl⟩ := ni_get hx
      have hbm := List.mem_of_getElem? hb
      dsimp only
      refine set_then (i := 5) (walk_of rfl rfl rfl (hw.mono s1) hf (hle b hbm) fun v G1 s2 fa => ?_)
      have s3 := s1.trans s2
      obtain ⟨t, y, ys, rfl, ht⟩ := fa.kind
      refine ⟨_, rfl, t, _, _, _, rfl, rfl, SqT.of ht, at0, rfl, _, rfl, ?_⟩
      rw [fkind_comes]
      -- does it come
      cases hc : isComes (M.Way.walk se wy b) with
      | false =>
        have nc := not_comes hc
        refine iteT ⟨_, rfl, t, _, _, _, rfl, rfl, SqT.of ht, at0, rfl, _, rfl, ?_⟩
        rw [fkind_comes, hc]
        exact iteF ⟨s3, true, _, _, _, rfl, fun _ => ⟨i, b, by omega, hb, nc⟩⟩
      | true =>
        obtain ⟨m, hm⟩ := is_comes hc
        have gd := M.walk_good hf hm
        have hen0 : en = false := by
          cases en with
          | false => rfl
          | true =>
            obtain ⟨j, b2, hj, hb2, nc⟩ := hen rfl
            obtain ⟨hj1, e1⟩ := List.getElem?_eq_some_iff.mp hb2
            obtain ⟨hi1, e2⟩ := List.getElem?_eq_some_iff.mp hb
            have lt := List.pairwise_iff_getElem.mp hP j i hj1 hi1 hj
            exact absurd hm (M.walk_less hf (by omega) nc m)
        subst hen0
        rw [hm] at fa
        obtain ⟨t2, Lm, e2, h1, h2⟩ := fa
        cases e2
        refine iteF ⟨_, rfl, t, _, _, _, rfl, rfl, SqT.of ht, at0, rfl, _, rfl, ?_⟩
        rw [fkind_comes, hc]
        refine iteT ⟨_, rfl, t, _, _, _, rfl, rfl, SqT.of h1, at1, ?_⟩
        have sm : (m.map fun n => ((n : Nat) : Int)).sum = (b : Int) := by rw [sum_ni, gd.sum]
        obtain ⟨x0, r0, em⟩ : ∃ x0 r0, m = x0 :: r0 := by
          cases m with
          | nil => exact absurd rfl gd.ne
          | cons x0 r0 => exact ⟨x0, r0, rfl⟩
        have fst : ∀ y ∈ m, y ≤ x0 := fun y hy => by
          have := gd.first y hy
          rw [em] at this
          exact this
        have hL2 : G1 Lm = some (.lst (ni m)) := h2
        have hl0 : 0 < (m.map fun n => ((n : Nat) : Int)).length := by rw [em]; simp
        refine ⟨_, rfl, false, rfl, iteF ⟨_, rfl, Lm, _, rfl, SqL.of hL2, _, rfl, rfl, _, rfl, ?_⟩⟩
        rw [sm]
        refine iteNS rfl ⟨_, rfl, Lm, _, rfl, SqL.of hL2, hl0, fun mx h3 h4 => ⟨_, rfl, Lm, _, _, .int (x0 : Int), rfl, rfl, SqL.of hL2, ?_, rfl, _, rfl, ?_⟩⟩
        · rw [em]
          exact at0
        obtain ⟨y1, hy1, rfl⟩ := ni_mem h3
        have h5 := h4 (x0 : Int) (by rw [em]; exact List.mem_cons_self)
        have h6 := fst y1 hy1
        have e7 : y1 = x0 := by omega
        subst e7
        refine iteNS rfl ?_
        -- the second test
        refine ⟨_, rfl, _, _, rfl, rfl, _, rfl, ?_⟩
        have inv : Same H G1 ∧ ∃ en q1 q2 q3, [some (V.ref a), some (V.ref BB), some (V.bl se), some (V.bl false), some (V.int (b : Int)), some (V.ref t), some (V.ref Lm)] = [some (.ref a), some (.ref BB), some (.bl se), some (.bl en), q1, q2, q3] ∧ (en = true → ∃ j b, j < i + 1 ∧ bs[j]? = some b ∧ ∀ m, M.Way.walk se wy b ≠ .comes m) :=
          ⟨s3, false, _, _, _, rfl, fun z => by cases z⟩
        have one : se = true → ((ni m).length : Int) = 1 := fun e => by
          rw [e] at hm
          rw [M.Way.walk_sealed wy b m hm]
          rfl
        have nz : 0 < b → decide (V.int (b : Int) = V.int 0) = false := fun p => decide_eq_false fun z => by
          injection z with z
          omega
        rcases Nat.eq_zero_or_pos b with b0 | bp
        · rw [decide_eq_false (by omega)]
          refine iteF ⟨_, rfl, se, rfl, ?_⟩
          have last : m = [0] := gd.zero b0
          cases se with
          | true =>
            refine iteT ⟨_, rfl, Lm, _, rfl, .inl (SqL.of hL2), rfl, _, rfl, ?_⟩
            rw [one rfl]
            refine iteNS rfl ⟨_, rfl, rfl, _, rfl, ?_⟩
            rw [decide_eq_true (by rw [b0]; rfl)]
            refine iteT ⟨_, rfl, line2.2.2.1, fun D hD => ?_⟩
            have s4 : Same G1 (upd G1 D (.lst [.int 0])) := Same.of_upd hD
            refine ⟨.list ([0].map dI), .list ([0].map dI), .lst (SqL.of (s4 _ _ hL2)) (last ▸ dp_ints m), .lst (SqL.of (xs := ni [0]) upd_same) (dp_ints [0]), by decide +kernel, by decide +kernel, _, rfl, ?_⟩
            rw [SeqAt.eqv_refl (.list ([0].map dI)) (by decide +kernel)]
            exact iteF ⟨s3.trans s4, inv.2⟩
          | false =>
            refine iteF ⟨_, rfl, rfl, _, rfl, ?_⟩
            rw [decide_eq_true (by rw [b0]; rfl)]
            refine iteT ⟨_, rfl, line2.2.2.1, fun D hD => ?_⟩
            have s4 : Same G1 (upd G1 D (.lst [.int 0])) := Same.of_upd hD
            refine ⟨.list ([0].map dI), .list ([0].map dI), .lst (SqL.of (s4 _ _ hL2)) (last ▸ dp_ints m), .lst (SqL.of (xs := ni [0]) upd_same) (dp_ints [0]), by decide +kernel, by decide +kernel, _, rfl, ?_⟩
            rw [SeqAt.eqv_refl (.list ([0].map dI)) (by decide +kernel)]
            exact iteF ⟨s3.trans s4, inv.2⟩
        · rw [decide_eq_true (by omega)]
          refine iteT ⟨_, rfl, Lm, _, rfl, SqL.of hL2, hl0, fun mi h7 h8 => ⟨_, _, rfl, rfl, _, rfl, ?_⟩⟩
          obtain ⟨y2, hy2, rfl⟩ := ni_mem h7
          have p2 := gd.pos bp y2 hy2
          rw [decide_eq_false (by omega)]
          refine iteF ⟨_, rfl, se, rfl, ?_⟩
          cases se with
          | true =>
            refine iteT ⟨_, rfl, Lm, _, rfl, .inl (SqL.of hL2), rfl, _, rfl, ?_⟩
            rw [one rfl]
            refine iteNS rfl ⟨_, rfl, rfl, _, rfl, ?_⟩
            rw [nz bp]
            exact iteF (iteF inv)
          | false =>
            refine iteF ⟨_, rfl, rfl, _, rfl, ?_⟩
            rw [nz bp]
            exact iteF (iteF inv)
    · rintro σ G ⟨s1, en, q1, q2, q3, rfl, hen⟩
      exact kk G s1
end
end WP

end
section
set_option autoImplicit false
set_option Elab.async false
set_option linter.all false
set_option maxRecDepth 100000
set_option maxHeartbeats 4000000
/-! ## what a way around tells -/
namespace M
theorem around (ih b : Nat) (w : Way) : Way.walk true (.mk ih [.tunnel w 1000000000000 .turn]) b = match Way.walk true w (ih + b) with
    | .comes _ => .comes [b]
    | .told s p => .told (s - w.head) (0 :: p)
    | .silent p => .silent (0 :: p) := by
  have e0 : Way.walk true (.mk ih [.tunnel w 1000000000000 .turn]) b = Way.from true ih [.tunnel w 1000000000000 .turn] 0 [b] := by
    unfold Way.walk
    rfl
  have e1 : ∀ m, Way.from true ih [] (0 + 1) m = .comes m := fun m => by
    unfold Way.from
    rfl
  have e2 : Step.does true ih (.tunnel w 1000000000000 .turn) [b] = tunnel (fun x => Way.walk true w (ih + x)) w.head 1000000000000 .turn [b] [b] := by
    unfold Step.does
    rfl
  have e3 : tunnel (fun x => Way.walk true w (ih + x)) w.head 1000000000000 .turn [b] [b] = match Way.walk true w (ih + b) with
      | .comes m => if m.length > 1000000000000 then .silent [] else .comes [b]
      | f => turned w.head .turn f := by
    conv => lhs; unfold tunnel
    cases Way.walk true w (ih + b) <;> first | rfl | (unfold tunnel; rfl)
  rw [e0, from_cons, e2, e3]
  cases e : Way.walk true w (ih + b) with
  | comes m =>
    have hm := Way.walk_sealed w (ih + b) m e
    dsimp only
    rw [if_neg (by rw [hm]; show ¬ (1 > 1000000000000); omega)]
    exact e1 [b]
  | told s p => rfl
  | silent p => rfl
end M
namespace WP
open PySem L2 G
theorem ck : ("comes" : Str) ≠ "silent" := by decide +kernel
section
variable {P : Program} {w : World} {K : PySem.W.Frag} {mg : Str → Option Value} {base : Heap} {C : Addr}
theorem made_at {H : Hp} {Z : VK} {E : XK} {l x dx : Addr} {h : Nat} {xs : List V} {st : List M.Step} (hx : H x = none) (hdx : H dx = none) (ne : dx ≠ x) (hl : SAt H l xs) (hs : StepsAt C H st xs) (hf : M.Way.fine (.mk h st)) (k : ∀ H', Same H H' → WayAt C H' (.mk h st) x → Z .non H') :
    spInit C (.ref x :: ([.int (h : Int), .ref l] ++ [])) (upd (upd H dx (.own x)) x (.ins C dx [])) Z E :=
  ⟨x, l, dx, h, xs, st, H, rfl, upd_same, hx, (Same.of_upd hdx).trans (Same.of_upd (by rw [upd_ne ne.symm]; exact hx)), hl, hs, hf, k⟩
theorem walk_ofE {σ : St} {H : Hp} {Q : VK} {E : XK} {te : TE} {i a b : Nat} {se : Bool} {wy : M.Way} (hi : σ[i]? = some (some (.ref a))) (hj : ∀ Q2 : VK, Q2 (.int ((b : Nat) : Int)) H → te σ H Q2) (hw : WayAt C H wy a) (hf : wy.fine) (hb : b ≤ 90000)
    (k : ∀ v H', Same H H' → FateAt H' (M.Way.walk se wy b) v → Q v H') : tCallK (spWalk C) gV21 E (tCons (tVar i) (tCons te tNil)) (tCons (tC (.bl se)) tNil) σ H Q :=
  ⟨_, hi, hj _ ⟨a, b, se, wy, rfl, hw, hf, hb, k⟩⟩
def spLAround (C : Addr) : Sp := fun vs H Q _ => ∃ a ih B wy bs, vs = [.ref a, .int ((ih : Nat) : Int), .ref B] ∧ WayAt C H wy a ∧ wy.fine ∧ wy.depth ≤ 2 ∧ wy.size ≤ 39 ∧ 1 ≤ ih ∧ ih ≤ 40 ∧ H B = some (.lst (ni bs)) ∧ (∀ b ∈ bs, b ≤ 1000) ∧ ∀ H', Same H H' → Q (.bl true) H'
abbrev NAr : List Str := ["way", "inner_head", "bodies", "outer", "body", "told", "inner", "due"]
theorem scAr : FnScope NAr ["way", "inner_head", "bodies"] (defScope sLAround) := ⟨rfl, rfl, rfl, by decide +kernel, rfl, by decide +kernel, by decide +kernel⟩
theorem place_two {K : PySem.W.Frag} {H : Hp} {Q : VK} {z q : Addr} {n : Nat} {p : List Nat} (hz : H z = some (.tup [.int ((n : Nat) : Int)])) (hq : H q = some (.tup (ni p))) (hp : p.length ≤ 1000) (k : ∀ u G, Same H G → G u = some (.tup (ni (n :: p))) → Q (.ref u) G) : rCatT K (.ref z) (.ref q) H Q :=
  catT_of hz hq (by simp) (by rw [ni_len]; exact Nat.le_trans (show 1 + p.length ≤ 1001 by omega) (by decide)) fun u G s h => k u G s h
theorem ok_laround {f : Addr} {fd : FuncData} (F : Fun K "_law_around_right" "_law_around_right" sLAround f fd) (T : Wt K mg C) (MW : Mw P w K mg base C) (W : Dw P w K mg base C) : FnOk P w K mg base CX0 12 f fd ["way", "inner_head", "bodies"] (spLAround C) := by
  obtain ⟨fW, fdW, GW, gW, kW, bW⟩ := W.ex
  obtain ⟨fI, fdI, GI, MK, bI⟩ := MW.ex
  refine F.ok scAr (fun vs H Q E h => ?_) (fun cdv A outer s H vs Q E hr h => ?_)
  · obtain ⟨a, ih, B, wy, bs, rfl, _⟩ := h
    rfl
  · obtain ⟨a, ih, BB, wy, bs, rfl, hw, hf, hdp, hsz, i1, i2, hB, hle, kk⟩ := h
    refine ⟨_, pss_cons (ps_set (i := 3) scAr.nd rfl (Or.inl rfl) (pe_make MK GI (hr.mono (by decide)) rfl T.g bI .nil pass0 (pa_cons (pv 1) (pa_cons (pe_lst (pa_cons (pe_tup (pa_cons pe_str (pa_cons (pv 0) (pa_cons (pe_op op_powN pe_int pe_int) (pa_cons pe_str pa_nil))))) pa_nil)) pa_nil))))
      (pss_cons (ps_for PassesOwn.never rfl (pi_list (pv 2)) (pg_name (i := 4) scAr.nd rfl (Or.inl rfl))
        (pss_cons (ps_set (i := 5) scAr.nd rfl (Or.inl rfl) (pe_callK GW hr rfl gW kW bW pass0 (pa_cons (pv 3) (pa_cons (pv 4) pa_nil)) (pk_cons pe_bl pk_nil)))
        (pss_cons (ps_set (i := 6) scAr.nd rfl (Or.inl rfl) (pe_callK GW hr rfl gW kW bW pass0 (pa_cons (pv 0) (pa_cons (pe_op op_add (pv 4) (pv 1)) pa_nil)) (pk_cons pe_bl pk_nil)))
        (pss_cons (ps_set (i := 7) scAr.nd rfl (Or.inl rfl) (pe_tup (pa_cons pe_str (pa_cons (pe_lst (pa_cons (pv 4) pa_nil)) pa_nil))))
        (pss_cons (ps_if (pt_cmpR op_eq (pe_ix ix_tup (pv 6) pe_int (fun _ _ => rfl)) pe_str (nomark _))
            (pss_one (ps_set (i := 7) scAr.nd rfl (Or.inl rfl) (pe_tup (pa_cons pe_str (pa_cons (pe_op op_sub (pe_ix ix_tup (pv 6) pe_int (fun _ _ => rfl)) (pe_fld (pv 0) rfl)) (pa_cons (pe_op op_catT (pe_tup (pa_cons pe_int pa_nil)) (pe_ix ix_tup (pv 6) pe_int (fun _ _ => rfl))) pa_nil))))))
            (pss_one (ps_if (pt_cmpR op_eq (pe_ix ix_tup (pv 6) pe_int (fun _ _ => rfl)) pe_str (nomark _))
              (pss_one (ps_set (i := 7) scAr.nd rfl (Or.inl rfl) (pe_tup (pa_cons pe_str (pa_cons (pe_op op_catT (pe_tup (pa_cons pe_int pa_nil)) (pe_ix ix_tup (pv 6) pe_int (fun _ _ => rfl))) pa_nil))))) pss_nil)))
        (pss_one (ps_if (pt_cmpR (op_neD hr.units) (pv 5) (pv 7) (nomark _)) (pss_one (ps_ret pe_bl)) pss_nil)))))))
      (pss_one (ps_ret pe_bl))), ?_⟩
    have hfo : M.Way.fine (.mk ih [.tunnel wy 1000000000000 .turn]) := by
      unfold M.Way.fine M.Step.fineAll M.Step.fine M.Step.fineAll M.Step.deepest M.Step.inner M.Step.deepest M.Step.inner
      exact ⟨⟨i1, i2⟩, ⟨by show 1 ≤ 1; omega, by show 1 ≤ 12; omega⟩, ⟨⟨hf, by omega, by omega⟩, trivial⟩, by omega, by show 1 + (wy.size + 0) ≤ 40; omega⟩
    refine set_then (i := 3) ⟨_, rfl, _, rfl, 10, 12, rfl, rfl, ⟨by decide, by decide +kernel⟩, (by show 4 ≤ sizeLine; decide), fun t ht => ⟨line2.2.2.1, fun l hl => ?_⟩⟩
    have s1 : Same H (upd H t (.tup [.str "tunnel", .ref a, .int 1000000000000, .str "turn"])) := Same.of_upd ht
    have s2 : Same (upd H t (.tup [.str "tunnel", .ref a, .int 1000000000000, .str "turn"])) (upd (upd H t (.tup [.str "tunnel", .ref a, .int 1000000000000, .str "turn"])) l (.lst [.ref t])) := Same.of_upd hl
    refine fun o dx hx hdx ne => made_at (st := [.tunnel wy 1000000000000 .turn]) hx hdx ne (.inl upd_same) ?_ hfo fun G0 s3 hO => ⟨rfl, ?_⟩
    · unfold StepsAt StepAt StepsAt
      exact ⟨.ref t, [], rfl, ⟨t, a, rfl, s2 _ _ upd_same, hw.mono (s1.trans s2)⟩, rfl⟩
    have s4 := (s1.trans s2).trans s3
    refine ⟨_, rfl, BB, rfl, ⟨_, SqL.of (s4 _ _ hB)⟩, for_list (K := K) (a := BB) (xs := ni bs) (fun i σ G => Same G0 G ∧ ∃ q1 q2 q3 q4, σ = [some (.ref a), some (.int (ih : Int)), some (.ref BB), some (.ref o), q1, q2, q3, q4])
      ⟨Same.refl _, _, _, _, _, rfl⟩ (fun i σ G _ z => SqL.of (z.1 _ _ (s4 _ _ hB))) ?_ ?_⟩
    · rintro i x σ G hx ⟨s5, q1, q2, q3, q4, rfl⟩
      obtain ⟨b, hb, rfl⟩ := ni_get hx
      have hbm := hle b (List.mem_of_getElem? hb)
      dsimp only
      refine set_then (i := 5) (walk_ofE (b := b) rfl (fun Q2 h => ⟨_, rfl, h⟩) (hO.mono s5) hfo (by omega) fun v1 G1 s6 f1 => ?_)
      refine set_then (i := 6) (walk_ofE (b := b + ih) rfl (fun Q2 h => ⟨_, rfl, _, rfl, _, _, rfl, rfl, by exact h⟩) (hw.mono ((s4.trans s5).trans s6)) hf (by omega) fun v2 G2 s7 f2 => ?_)
      rw [M.around, Nat.add_comm ih b] at f1
      have pl := M.plen_walk true wy (b + ih)
      have s8 := ((s4.trans s5).trans s6).trans s7
      have s9 := (s5.trans s6).trans s7
      refine set_then (i := 7) ⟨_, rfl, line2.2.2.1, fun L hL => ⟨line2.1, fun u hu => ?_⟩⟩
      have sa : Same G2 (upd G2 L (.lst [.int (b : Int)])) := Same.of_upd hL
      have sb : Same (upd G2 L (.lst [.int (b : Int)])) (upd (upd G2 L (.lst [.int (b : Int)])) u (.tup [.str "comes", .ref L])) := Same.of_upd hu
      have fdue : FateAt (upd (upd G2 L (.lst [.int (b : Int)])) u (.tup [.str "comes", .ref L])) (.comes [b]) (.ref u) := ⟨u, L, rfl, upd_same, sb _ _ upd_same⟩
      have f1b := f1.mono (s7.trans (sa.trans sb))
      have f2b := f2.mono (sa.trans sb)
      have sc := sa.trans sb
      generalize (upd (upd G2 L (.lst [.int (b : Int)])) u (.tup [.str "comes", .ref L])) = G3 at fdue f1b f2b sc ⊢
      clear f1 f2
      obtain ⟨t2, y2, ys2, rfl, ht2⟩ := f2b.kind
      refine ⟨_, rfl, t2, _, _, _, rfl, rfl, SqT.of ht2, at0, rfl, _, rfl, ?_⟩
      obtain ⟨dx, fs, w1, w2⟩ := head_fld (hw.mono (s8.trans sc))
      generalize hF2 : M.Way.walk true wy (b + ih) = F2 at f1b f2b pl ht2 ⊢
      cases F2 with
      | comes m =>
        rw [show decide (V.str (fkind (.comes m)) = V.str "told") = false from noS fk.2.2.1]
        refine iteF ⟨_, rfl, t2, _, _, _, rfl, rfl, SqT.of ht2, at0, rfl, _, rfl, ?_⟩
        rw [show decide (V.str (fkind (.comes m)) = V.str "silent") = false from noS ck]
        refine iteF ⟨_, rfl, _, rfl, ne_same f1b fdue ⟨_, rfl, iteF ⟨s9.trans sc, _, _, _, _, rfl⟩⟩⟩
      | told z p =>
        obtain ⟨t3, q3', e3, g1, g2⟩ := f2b
        cases e3
        have pl2 : p.length ≤ 3 := by
          have : p.length ≤ wy.depth := pl
          omega
        rw [show decide (V.str (fkind (.told z p)) = V.str "told") = true from yesS]
        refine iteT ⟨_, rfl, t2, _, _, _, rfl, rfl, SqT.of g1, at1, _, rfl, a, C, dx, fs, _, rfl, w1, T.cl, T.nH, w2, _, _, rfl, rfl, line2.2.2.1, fun e he => ?_⟩
        have sd : Same G3 (upd G3 e (.tup [.int 0])) := Same.of_upd he
        refine ⟨_, rfl, t2, _, _, _, rfl, rfl, SqT.of (sd _ _ g1), at2, place_two (n := 0) upd_same (sd _ _ g2) (by omega) fun e2 G4 se he2 => ⟨line2.2.1, fun e3 he3 => ?_⟩⟩
        have sf : Same G4 (upd G4 e3 (.tup [.str "told", .int (z - ((wy.head : Nat) : Int)), .ref e2])) := Same.of_upd he3
        have fd2 : FateAt (upd G4 e3 (.tup [.str "told", .int (z - ((wy.head : Nat) : Int)), .ref e2])) (.told (z - wy.head) (0 :: p)) (.ref e3) := ⟨e3, e2, rfl, upd_same, sf _ _ he2⟩
        exact ⟨_, rfl, _, rfl, ne_same (f1b.mono ((sd.trans se).trans sf)) fd2 ⟨_, rfl, iteF ⟨((s9.trans sc).trans (sd.trans se)).trans sf, _, _, _, _, rfl⟩⟩⟩
      | silent p =>
        obtain ⟨t3, q3', e3, g1, g2⟩ := f2b
        cases e3
        have pl2 : p.length ≤ 3 := by
          have : p.length ≤ wy.depth := pl
          omega
        rw [show decide (V.str (fkind (.silent p)) = V.str "told") = false from noS fk.2.1]
        refine iteF ⟨_, rfl, t2, _, _, _, rfl, rfl, SqT.of ht2, at0, rfl, _, rfl, ?_⟩
        rw [show decide (V.str (fkind (.silent p)) = V.str "silent") = true from yesS]
        refine iteT ⟨line2.2.2.1, fun e he => ?_⟩
        have sd : Same G3 (upd G3 e (.tup [.int 0])) := Same.of_upd he
        refine ⟨_, rfl, t2, _, _, _, rfl, rfl, SqT.of (sd _ _ g1), at1, place_two (n := 0) upd_same (sd _ _ g2) (by omega) fun e2 G4 se he2 => ⟨line2.1, fun e3 he3 => ?_⟩⟩
        have sf : Same G4 (upd G4 e3 (.tup [.str "silent", .ref e2])) := Same.of_upd he3
        have fd2 : FateAt (upd G4 e3 (.tup [.str "silent", .ref e2])) (.silent (0 :: p)) (.ref e3) := ⟨e3, e2, rfl, upd_same, sf _ _ he2⟩
        exact ⟨_, rfl, _, rfl, ne_same (f1b.mono ((sd.trans se).trans sf)) fd2 ⟨_, rfl, iteF ⟨((s9.trans sc).trans (sd.trans se)).trans sf, _, _, _, _, rfl⟩⟩⟩
    · rintro σ G ⟨s5, q1, q2, q3, q4, rfl⟩
      exact kk G (s4.trans s5)
end
end WP

end
section
set_option autoImplicit false
set_option Elab.async false
set_option linter.all false
set_option maxRecDepth 100000
set_option maxHeartbeats 4000000
/-! ## one way behind another -/
namespace M
theorem sum_walk (se : Bool) (h : Nat) (s r : List Step) (b : Nat) : Way.walk se (.mk h (s ++ r)) b = match Way.walk se (.mk h s) b with
    | .comes m => Way.from se h r s.length m
    | f => f := by
  have e : ∀ z, Way.walk se (.mk h z) b = Way.from se h z 0 [b] := fun z => by
    unfold Way.walk
    rfl
  rw [e, e, Way.from_append, Nat.zero_add]
  try (cases Way.from se h s 0 [b] <;> rfl)
theorem sum_one {se : Bool} {h : Nat} {s : List Step} (r : List Step) {b : Nat} (e1 : Way.walk se (.mk h s) b = .comes [b]) : Way.walk se (.mk h (s ++ r)) b = shift s.length (Way.walk se (.mk h r) b) := by
  have e : Way.walk se (.mk h r) b = Way.from se h r 0 [b] := by
    unfold Way.walk
    rfl
  rw [sum_walk, e1, e]
  have q := Way.from_shift se h s.length r 0 [b]
  rw [Nat.zero_add] at q
  exact q
theorem place_ne (se : Bool) (h : Nat) : ∀ (s : List Step) (i : Nat) (l : List Nat) (f : Fate), Way.from se h s i l = f → (∀ m, f ≠ .comes m) → (∃ z j p, f = .told z (j :: p)) ∨ ∃ j p, f = .silent (j :: p)
  | [], i, l, f, e, n => by
    unfold Way.from at e
    exact absurd e.symm (n l)
  | x :: s, i, l, f, e, n => by
    rw [from_cons] at e
    cases hd : Step.does se h x l with
    | comes m =>
      rw [hd] at e
      exact place_ne se h s (i + 1) m f e n
    | told z p =>
      rw [hd] at e
      exact .inl ⟨z, i, p, e.symm⟩
    | silent p =>
      rw [hd] at e
      exact .inr ⟨i, p, e.symm⟩
theorem place_walk {se : Bool} {w : Way} {b : Nat} {f : Fate} (e : Way.walk se w b = f) (n : ∀ m, f ≠ .comes m) : (∃ z j p, f = .told z (j :: p)) ∨ ∃ j p, f = .silent (j :: p) := by
  obtain ⟨h, s⟩ := w
  refine place_ne se h s 0 [b] f ?_ n
  unfold Way.walk at e
  exact e
end M
namespace WP
open PySem L2 G
section
variable {P : Program} {w : World} {K : PySem.W.Frag} {mg : Str → Option Value} {base : Heap} {C : Addr}
structure Lw (P : Program) (w : World) (K : PySem.W.Frag) (mg : Str → Option Value) (base : Heap) (C : Addr) : Prop where
  ex : ∃ (f : Addr) (fd : FuncData), FnOk P w K mg base CX0 1 f fd ["self"] (spLenW C) ∧ WO.Own K C f "__len__" ∧ Binds K fd ["self"] []
structure Aw (P : Program) (w : World) (K : PySem.W.Frag) (mg : Str → Option Value) (base : Heap) (C : Addr) : Prop where
  ex : ∃ (f : Addr) (fd : FuncData), FnOk P w K mg base CX0 8 f fd ["self", "other"] (spAddW C) ∧ WO.Own K C f "__add__" ∧ Binds K fd ["self", "other"] [] ∧ PySem.W.selfFirst K C = true
def tThen (K : PySem.W.Frag) (C : Addr) : TE := tOp (rCatT K) (tSl (rSlT K) (tVar 8) (fun _ H Q => Q none H) (tPart (tUn (rU fun i => .int (-i)) (tC (.int 1)))))
  (tTup (tCons (tOp (rCatT K) (tTup (tCons (tOp (rI0 fun i j => .int (i + j)) (tOp (rIxT K) (tOp (rIxT K) (tVar 8) (tUn (rU fun i => .int (-i)) (tC (.int 1)))) (tC (.int 0))) (tCB (WO.rLenO C (spLenW C) E0) (tCons (tVar 0) tNil))) tNil))
    (tSl (rSlT K) (tOp (rIxT K) (tVar 8) (tUn (rU fun i => .int (-i)) (tC (.int 1)))) (tPart (tC (.int 1))) (fun _ H Q => Q none H))) tNil))
theorem six_one (x : V) (xs : List V) : HT.sIx (x :: xs).length 0 (some 1) = 1 := (HT.sIx_nat _ _ 1).trans (Nat.min_eq_left (by simp))
theorem cut_one (x : V) (xs : List V) : cutV (x :: xs) (some 1) none = xs := by
  unfold cutV
  rw [six_one]
  show (List.drop 1 (x :: xs)).take ((x :: xs).length - 1) = xs
  show xs.take xs.length = xs
  exact List.take_length
theorem then_run {σ : St} {H : Hp} {Q : VK} {a j : Nat} {wy : M.Way} (t q : Addr) (p : List Nat) (xs : List V) (h8 : σ[8]? = some (some (.ref t))) (h0 : σ[0]? = some (some (.ref a))) (hw : WayAt C H wy a) (hs : wy.steps.length ≤ 12) (ht : H t = some (.tup (xs ++ [.ref q]))) (hx : xs ≠ []) (hx2 : xs.length ≤ 2) (hq : H q = some (.tup (ni (j :: p)))) (hp : p.length ≤ 100) (im : atI (xs ++ [V.ref q]) (-1 : Int) = some (.ref q)) (ec : cutV (xs ++ [V.ref q]) none (some (-1)) = xs)
    (en : HT.sIx (xs ++ [V.ref q]).length (xs ++ [V.ref q]).length (some (-1)) ≠ (xs ++ [V.ref q]).length) (kk : ∀ u r G, Same H G → G u = some (.tup (xs ++ [.ref r])) → G r = some (.tup (ni ((j + wy.steps.length) :: p))) → Q (.ref u) G) : tThen K C σ H Q := by
  refine ⟨_, h8, 1, rfl, -1, rfl, t, _, rfl, SqT.of ht, fun z => en z.2, fun c nc => ?_⟩
  rw [ec]
  have s1 := Same.of_upd (o := .tup xs) nc
  obtain ⟨dx, fs, tt, ys, w1, w2, w3, w4⟩ := steps_fld hw
  refine ⟨_, h8, 1, rfl, t, _, _, _, rfl, rfl, SqT.of (s1 _ _ ht), im, q, _, _, _, rfl, rfl, SqT.of (s1 _ _ hq), at0, _, h0, a, rfl, ⟨dx, fs, s1 _ _ w1⟩, a, wy, rfl, hw.mono s1, wy.steps.length, rfl, by omega, _, _, rfl, rfl, line2.2.2.1, fun b nb => ?_⟩
  have s2 := s1.trans (Same.of_upd (o := .tup [.int ((j : Int) + ((wy.steps.length : Nat) : Int))]) nb)
  have s3b := fun (d : Addr) (nd : (upd (upd H c (.tup xs)) b (.tup [.int ((j : Int) + ((wy.steps.length : Nat) : Int))])) d = none) => (Same.of_upd (o := .tup [.int ((j : Int) + ((wy.steps.length : Nat) : Int))]) nb).trans (Same.of_upd (o := .tup (ni p)) nd)
  refine ⟨_, h8, 1, rfl, t, _, _, _, rfl, rfl, SqT.of (s2 _ _ ht), im, 1, rfl, q, _, rfl, SqT.of (s2 _ _ hq), ?_, fun d nd => ?_⟩
  · intro z
    have e1 : HT.sIx (ni (j :: p)).length 0 (some 1) = 1 := six_one _ _
    rw [e1] at z
    exact absurd z.1 (by decide)
  rw [show cutV (ni (j :: p)) (some 1) none = ni p from cut_one _ _]
  have s3 := s2.trans (Same.of_upd (o := .tup (ni p)) nd)
  refine catT_of (Same.of_upd nd _ _ upd_same) upd_same (by simp) ?_ fun r G sr hr => ?_
  · rw [ni_len]
    exact Nat.le_trans (by show 1 + p.length ≤ 101; omega) (by decide)
  refine ⟨line2.2.2.1, fun e ne => catT_of ((Same.of_upd ne) _ _ (sr _ _ (s3b d nd _ _ upd_same))) upd_same hx ?_ fun u G2 su hu => ?_⟩
  · exact Nat.le_trans (by show xs.length + 1 ≤ 3; omega) line2.2.1
  · exact kk u r G2 (s3.trans (sr.trans ((Same.of_upd ne).trans su))) hu (su _ _ (Same.of_upd ne _ _ hr))
def spLSum (C : Addr) : Sp := fun vs H Q _ => ∃ a c B se h s1 s2 bs, vs = [.ref a, .ref c, .ref B, .bl se] ∧ WayAt C H (.mk h s1) a ∧ WayAt C H (.mk h s2) c ∧ M.Way.fine (.mk h s1) ∧ M.Way.fine (.mk h s2) ∧ M.Way.fine (.mk h (s1 ++ s2)) ∧ H B = some (.lst (ni bs)) ∧ (∀ b ∈ bs, b ≤ 1000) ∧ ∀ H', Same H H' → Q (.bl true) H'
abbrev NSu : List Str := ["one", "two", "bodies", "closed", "both", "body", "first", "told", "then"]
theorem scSu : FnScope NSu ["one", "two", "bodies", "closed"] (defScope sLSum) := ⟨rfl, rfl, rfl, by decide +kernel, rfl, by decide +kernel, by decide +kernel⟩
theorem ok_lsum {f : Addr} {fd : FuncData} (F : Fun K "_law_sum_right" "_law_sum_right" sLSum f fd) (B : Bn mg) (T : Wt K mg C) (W : Dw P w K mg base C) (LW : Lw P w K mg base C) (AW : Aw P w K mg base C) : FnOk P w K mg base CX0 12 f fd ["one", "two", "bodies", "closed"] (spLSum C) := by
  obtain ⟨fW, fdW, GW, gW, kW, bW⟩ := W.ex
  obtain ⟨fL, fdL, GL, OL, bL⟩ := LW.ex
  obtain ⟨fA, fdA, GA, OA, bA, sA⟩ := AW.ex
  refine F.ok scSu (fun vs H Q E h => ?_) (fun cdv A outer s H vs Q E hr h => ?_)
  · obtain ⟨a, c, BB, se, h, s1, s2, bs, rfl, _⟩ := h
    rfl
  · obtain ⟨a, c, BB, se, h, s1, s2, bs, rfl, hw1, hw2, hf1, hf2, hf3, hB, hle, kk⟩ := h
    refine ⟨_, pss_cons (ps_set (i := 4) scSu.nd rfl (Or.inl rfl) (pe_op (WO.op_addO GA (hr.mono (by decide)) OA sA bA pass0) (pv 0) (pv 1)))
      (pss_cons (ps_for PassesOwn.never rfl (pi_list (pv 2)) (pg_name (i := 5) scSu.nd rfl (Or.inl rfl))
        (pss_cons (ps_par (i := 6) (j := 7) (by rfl) scSu.nd rfl rfl (by decide) rfl rfl (pa_cons (pe_callK GW hr rfl gW kW bW pass0 (pa_cons (pv 0) (pa_cons (pv 5) pa_nil)) (pk_cons (pv 3) pk_nil)) (pa_cons (pe_callK GW hr rfl gW kW bW pass0 (pa_cons (pv 4) (pa_cons (pv 5) pa_nil)) (pk_cons (pv 3) pk_nil)) pa_nil)) (by rfl))
        (pss_cons (ps_if (PW.pt (pw_and (pt_cmpR op_ne (pe_ix ix_tup (pv 6) pe_int (fun _ _ => rfl)) pe_str (nomark _)) (pw_and1 (pt_cmpR (op_neD hr.units) (pv 7) (pv 6) (nomark _))))) (pss_one (ps_ret pe_bl)) pss_nil)
        (pss_one (ps_if (pt_cmpR (op_eqD hr.units) (pv 6) (pe_tup (pa_cons pe_str (pa_cons (pe_lst (pa_cons (pv 5) pa_nil)) pa_nil))) (nomark _))
          (pss_cons (ps_set (i := 8) scSu.nd rfl (Or.inl rfl) (pe_callK GW hr rfl gW kW bW pass0 (pa_cons (pv 1) (pa_cons (pv 5) pa_nil)) (pk_cons (pv 3) pk_nil)))
          (pss_cons (ps_if (pt_cmpR op_ne (pe_ix ix_tup (pv 8) pe_int (fun _ _ => rfl)) pe_str (nomark _))
            (pss_one (ps_set (i := 8) scSu.nd rfl (Or.inl rfl) (pe_op op_catT (pe_slice sl_tup (pv 8) po_none (po_some (pe_un un_neg pe_int)))
              (pe_tup (pa_cons (pe_op op_catT (pe_tup (pa_cons (pe_op op_add (pe_ix ix_tup (pe_ix ix_tup (pv 8) (pe_un un_neg pe_int) (fun _ _ => rfl)) pe_int (fun _ _ => rfl)) (pe_callB (WO.call_lenO GL (hr.mono (by decide)) OL bL pass0) (by rfl) B.len PySem.boot_len (pa_cons (pv 0) pa_nil))) pa_nil))
                (pe_slice sl_tup (pe_ix ix_tup (pv 8) (pe_un un_neg pe_int) (fun _ _ => rfl)) (po_some pe_int) po_none)) pa_nil))))) pss_nil)
          (pss_one (ps_if (pt_cmpR (op_neD hr.units) (pv 7) (pv 8) (nomark _)) (pss_one (ps_ret pe_bl)) pss_nil)))) pss_nil)))))
      (pss_one (ps_ret pe_bl))), ?_⟩
    obtain ⟨dx, fs, t1, xs1, w1, w2, w3, w4⟩ := steps_fld hw1
    obtain ⟨dy, gs, t2, xs2, v1, v2, v3, v4⟩ := steps_fld hw2
    have ln1 : 1 ≤ s1.length ∧ s1.length ≤ 12 := by unfold M.Way.fine at hf1; exact hf1.2.1
    have ln3 : (s1 ++ s2).length ≤ 12 := by unfold M.Way.fine at hf3; exact hf3.2.1.2
    have dp2 : M.Way.depth (.mk h s2) ≤ 3 := fine_depth hf2
    rw [List.length_append] at ln3
    refine set_then (i := 4) ⟨_, rfl, _, rfl, a, c, rfl, rfl, ⟨dx, fs, w1⟩, ⟨dy, gs, v1⟩, a, c, h, s1, s2, rfl, hw1, hw2, ln1.1, by omega, hf3, fun o G0 s0 hO => ⟨o, rfl, ?_⟩⟩
    refine ⟨_, rfl, BB, rfl, ⟨_, SqL.of (s0 _ _ hB)⟩, for_list (K := K) (a := BB) (xs := ni bs) (fun i σ G => Same G0 G ∧ ∃ q1 q2 q3 q4, σ = [some (.ref a), some (.ref c), some (.ref BB), some (.bl se), some (.ref o), q1, q2, q3, q4])
      ⟨Same.refl _, _, _, _, _, rfl⟩ (fun i σ G _ z => SqL.of (z.1 _ _ (s0 _ _ hB))) ?_ ?_⟩
    · rintro i x σ G hx ⟨s5, q1, q2, q3, q4, rfl⟩
      obtain ⟨b, hb, rfl⟩ := ni_get hx
      have hbm := hle b (List.mem_of_getElem? hb)
      dsimp only
      refine walk_of (b := b) rfl rfl rfl (hw1.mono (s0.trans s5)) hf1 (by omega) fun u1 G1 s6 f1 => walk_of (b := b) rfl rfl rfl (hO.mono (s5.trans s6)) hf3 (by omega) fun u2 G2 s7 f2 => ⟨u1, u2, rfl, ?_⟩
      dsimp only
      have f1b := f1.mono s7
      clear f1
      have s8 := (s5.trans s6).trans s7
      obtain ⟨t, y, ys, rfl, ht⟩ := f1b.kind
      refine ⟨_, rfl, t, _, _, _, rfl, rfl, SqT.of ht, at0, rfl, _, rfl, ?_⟩
      rw [fkind_comes]
      -- the second test: no way from one fate to the other but this
      cases hc : isComes (M.Way.walk se (.mk h s1) b) with
      | false =>
        have nc := not_comes hc
        have e3 : M.Way.walk se (.mk h (s1 ++ s2)) b = M.Way.walk se (.mk h s1) b := by
          rw [M.sum_walk]
          cases e : M.Way.walk se (.mk h s1) b with
          | comes m => exact absurd e (nc m)
          | told z p => rfl
          | silent p => rfl
        rw [e3] at f2
        refine iteT ⟨_, rfl, _, rfl, ne_same f2 f1b ⟨_, rfl, iteF ?_⟩⟩
        refine ⟨_, rfl, _, rfl, line2.2.2.1, fun L hL => ⟨line2.1, fun u hu => ?_⟩⟩
        have sa : Same G2 (upd G2 L (.lst [.int (b : Int)])) := Same.of_upd hL
        have sb : Same (upd G2 L (.lst [.int (b : Int)])) (upd (upd G2 L (.lst [.int (b : Int)])) u (.tup [.str "comes", .ref L])) := Same.of_upd hu
        have fd : FateAt (upd (upd G2 L (.lst [.int (b : Int)])) u (.tup [.str "comes", .ref L])) (.comes [b]) (.ref u) := ⟨u, L, rfl, upd_same, sb _ _ upd_same⟩
        exact eq_fates (f1b.mono (sa.trans sb)) fd (fun e => absurd e (nc _)) ⟨_, rfl, iteF ⟨s8.trans (sa.trans sb), _, _, _, _, rfl⟩⟩
      | true =>
        refine iteF ⟨_, rfl, _, rfl, line2.2.2.1, fun L hL => ⟨line2.1, fun u hu => ?_⟩⟩
        have sa : Same G2 (upd G2 L (.lst [.int (b : Int)])) := Same.of_upd hL
        have sb : Same (upd G2 L (.lst [.int (b : Int)])) (upd (upd G2 L (.lst [.int (b : Int)])) u (.tup [.str "comes", .ref L])) := Same.of_upd hu
        have fd : FateAt (upd (upd G2 L (.lst [.int (b : Int)])) u (.tup [.str "comes", .ref L])) (.comes [b]) (.ref u) := ⟨u, L, rfl, upd_same, sb _ _ upd_same⟩
        have s9 := s8.trans (sa.trans sb)
        have f2b := f2.mono (sa.trans sb)
        have f1c := f1b.mono (sa.trans sb)
        clear f1b f2
        generalize (upd (upd G2 L (.lst [.int (b : Int)])) u (.tup [.str "comes", .ref L])) = G3 at s9 fd f2b f1c ⊢
        refine eq_fates f1c fd (fun e1 => ⟨_, rfl, iteT ?_⟩) ⟨_, rfl, iteF ⟨s9, _, _, _, _, rfl⟩⟩
        rw [M.sum_one s2 e1] at f2b
        have s10 := s0.trans s9
        refine set_then (i := 8) (walk_of (b := b) rfl rfl rfl (hw2.mono s10) hf2 (by omega) fun u3 G4 s11 f3 => ?_)
        have f2c := f2b.mono s11
        have pl := M.plen_walk se (.mk h s2) b
        obtain ⟨t3, y3, ys3, rfl, ht3⟩ := f3.kind
        refine ⟨_, rfl, t3, _, _, _, rfl, rfl, SqT.of ht3, at0, rfl, _, rfl, ?_⟩
        rw [fkind_comes]
        cases hc3 : isComes (M.Way.walk se (.mk h s2) b) with
        | true =>
          obtain ⟨m, em⟩ := is_comes hc3
          rw [em] at f2c f3
          exact iteF ⟨_, rfl, _, rfl, ne_same f2c f3 ⟨_, rfl, iteF ⟨s9.trans s11, _, _, _, _, rfl⟩⟩⟩
        | false =>
          refine iteT ?_
          rcases M.place_walk rfl (not_comes hc3) with ⟨z, j, p, ez⟩ | ⟨j, p, ez⟩
          · rw [ez] at f2c f3 pl
            have pl2 : (j :: p).length ≤ 3 := Nat.le_trans pl dp2
            rw [List.length_cons] at pl2
            obtain ⟨t4, q, e4, g1, g2⟩ := f3
            cases e4
            refine then_run (a := a) (j := j) (wy := .mk h s1) t3 q p [.str "told", .int z] rfl rfl (hw1.mono (s10.trans s11)) ln1.2 g1 (by simp) (by simp) g2 (by omega) rfl rfl (by show HT.sIx 3 3 (some (-1)) ≠ 3; decide) fun u5 r G5 s12 g3 g4 => ?_
            exact ⟨_, rfl, _, rfl, ne_same (f2c.mono s12) ⟨u5, r, rfl, g3, g4⟩ ⟨_, rfl, iteF ⟨(s9.trans s11).trans s12, _, _, _, _, rfl⟩⟩⟩
          · rw [ez] at f2c f3 pl
            have pl2 : (j :: p).length ≤ 3 := Nat.le_trans pl dp2
            rw [List.length_cons] at pl2
            obtain ⟨t4, q, e4, g1, g2⟩ := f3
            cases e4
            refine then_run (a := a) (j := j) (wy := .mk h s1) t3 q p [.str "silent"] rfl rfl (hw1.mono (s10.trans s11)) ln1.2 g1 (by simp) (by simp) g2 (by omega) rfl rfl (by show HT.sIx 2 2 (some (-1)) ≠ 2; decide) fun u5 r G5 s12 g3 g4 => ?_
            exact ⟨_, rfl, _, rfl, ne_same (f2c.mono s12) ⟨u5, r, rfl, g3, g4⟩ ⟨_, rfl, iteF ⟨(s9.trans s11).trans s12, _, _, _, _, rfl⟩⟩⟩
    · rintro σ G ⟨s5, q1, q2, q3, q4, rfl⟩
      exact kk G (s0.trans s5)
end
end WP

end
section
set_option autoImplicit false
set_option Elab.async false
set_option linter.all false
set_option maxRecDepth 100000
set_option maxHeartbeats 4000000
/-! ## set(a list of hin), and sorted of it -/
namespace WS
open PySem PySem.Spec PyProof.Rows L2
abbrev empt (Wd : World) : Obj := { cls := .type "set", dict := none, data := .set #[] 0 (.fresh 0 0 (!Wd.params.followText "set-order")) }
abbrev walker (ls : Addr) : Obj := { cls := .type "list_iterator", data := .fields #[.ref ls, .int 0 0] }
section
variable {Pg : Program} {Wd : World} {Ar : Around} {Ex : Value → Shared → Prop} {sh : Shared}
/-- what is left of a new set, filled -/
def Filled (Wd : World) (sh : Shared) (zs : List Int) (s2 : Shared) : Prop := ∃ hp tk c, s2 = { sh with heap := hp, toks := tk } ∧ SetR Wd hp sh.heap.objs.size (fun j => decide (j ∈ zs)) c ∧ c ≤ zs.length ∧ ∀ b o, sh.heap.get? b = some o → hp.get? b = some o
set_option maxHeartbeats 3200000 in
/-- __init__ of the new set at the end of the heap -/
theorem init_list {ls : Addr} {arr : Array Value} {zs : List Int} (ok : Ar.handled = none) (at0 : sh.heap.IsList ls arr) (hin : IntsAre arr.toList zs) (few : zs.length + 1 < scanBound) (tS : Shared.TypeIs { sh with heap := sh.heap.push (empt Wd) } (.ref sh.heap.objs.size) "set") :
    codeAny (model Pg Wd) Ar (.call (.builtin "set.__init__") ⟨[.ref sh.heap.objs.size, .ref ls], []⟩) (wants (fun r s2 => r = .none ∧ Filled Wd sh zs s2) Ex) { sh with heap := sh.heap.push (empt Wd) } := by
  have size_eq : arr.size = zs.length := by
    have q := IntsAre.length hin
    rwa [Array.length_toList] at q
  refine codeAny_call_builtin (R := wants _ Ex) F.called_set.init.plain F.entry_set_init (check_set_init_1 tS ?_)
  obtain ⟨⟨oc, od, oda, osl⟩, gl, cl, nl, dl⟩ := at0
  simp only at cl dl
  subst cl; subst dl
  have gl2 : (sh.heap.push (empt Wd)).get? ls = some { cls := .type "list", dict := od, data := .seq arr nl, slots := osl } := Heap.get?_push_of_some _ gl
  have k1 := F.sub_list_set
  have k2 := F.sub_list_frozenset
  have k3 : (Value.type "list" == Value.type "dict") = false := by decide
  have il : (sh.heap.push (empt Wd)).IsList ls arr := ⟨_, gl2, rfl, nl, rfl⟩
  unfold Builtin.«set.__init__» noKeywords Builtin.Frozenset.updateFrom
  generalize eI : pyIter = IT
  wp_walk
  subst eI
  refine wpAny_pyIter_list il ?_
  refine wpAny_bind (wpAny_runValue ?_)
  have low : ls < sh.heap.objs.size := Heap.lt_size gl
  have sz : (sh.heap.push (empt Wd)).objs.size = sh.heap.objs.size + 1 := Heap.size_push ..
  have ne1 : ls ≠ (sh.heap.push (empt Wd)).objs.size := by rw [sz]; exact Nat.ne_of_lt (Nat.lt_succ_of_lt low)
  have ne2 : sh.heap.objs.size ∉ [(sh.heap.push (empt Wd)).objs.size, ls] := by
    rw [sz]
    intro z
    rcases List.mem_cons.mp z with e | e
    · exact absurd e (Nat.ne_of_lt (Nat.lt_succ_self _))
    · exact absurd (List.mem_singleton.mp e) (Nat.ne_of_gt low)
  have item : ∀ (i : Nat) (v : Value), arr[i]? = some v → ∃ k t, zs[i]? = some k ∧ v = .int k t := by
    intro i v hv
    have hi : i < zs.length := by rw [← size_eq]; exact (Array.getElem?_eq_some_iff.mp hv).1
    obtain ⟨t, e⟩ := PyProof.Rows.IntsAre.int_at hin i v (by rw [Array.getElem?_toList]; exact hv)
    refine ⟨zs[i], t, List.getElem?_eq_getElem hi, ?_⟩
    rw [e, List.getD_eq_getElem?_getD, List.getElem?_eq_getElem hi] <;> rfl
  refine set_update_ints ((Walks.list (by simp [ok]) _ ls ne1 arr).toS) sh.heap.objs.size ne2 zs size_eq few item (arr.size - 0) 0 _ (by omega) (Nat.zero_le _) ⟨⟨_, Heap.get?_push_size _ rfl, rfl, rfl⟩, (il.push _)⟩ ?first0 ?rest0
  case first0 =>
    have g : ((sh.heap.push (empt Wd)).push (walker ls)).get? sh.heap.objs.size = some (empt Wd) := Heap.get?_push_of_some _ (Heap.get?_push_size _ rfl)
    exact ⟨0, Nat.le_refl 0, setR_new_at g⟩
  case rest0 =>
    rintro ⟨hp, g2, d2, tk, os2⟩ c mv hc R
    have eg : g2 = sh.gens := mv.gens
    have ed : d2 = sh.drawn := mv.drawn
    have eo : os2 = sh.os := mv.os
    subst eg; subst ed; subst eo
    show wpAny _ _ _ _ _ _
    refine wpAny_pure ?_
    show wpAny _ _ (ret Value.none) _ _ _
    rw [size_eq] at hc
    refine wpAny_pure ⟨rfl, hp, tk, c, rfl, R, hc, fun b o e => ?_⟩
    have lb : b < sh.heap.objs.size := Heap.lt_size e
    refine mv.heap b o ?_ (Heap.get?_push_of_some _ (Heap.get?_push_of_some _ e))
    rw [sz]
    intro z
    rcases List.mem_cons.mp z with e | e
    · exact absurd e (Nat.ne_of_lt lb)
    · exact absurd (List.mem_singleton.mp e) (Nat.ne_of_lt (Nat.lt_succ_of_lt lb))
set_option maxHeartbeats 3200000 in
theorem set_of_list {ls : Addr} {arr : Array Value} (zs : List Int) {Qv : Value → Shared → Prop} (ok : Ar.handled = none) (at0 : sh.heap.IsList ls arr) (hin : IntsAre arr.toList zs) (few : zs.length + 1 < scanBound)
    (k : ∀ s2, Filled Wd sh zs s2 → Qv (.ref sh.heap.objs.size) s2) : wpAny (model Pg Wd) Ar (call (.type "set") [.ref ls]) Qv Ex sh := by
  obtain ⟨c0, tl0, mro0⟩ := F.called_set.mro
  have f1 := F.called_set.made
  have f2 := F.called_set.sub
  refine wpAny_call (codeAny_of_tree ?_)
  show wpAny _ _ (callAny (.type "set") _) _ _ _
  refine wpAny_pure ⟨Code.quiet_builtin _ (by decide +kernel), codeAny_builtin F.entry_type_call ?_⟩
  rw [Around.under_plain (weight_type_call_type "set" [.ref ls] []) rfl]
  have f3 := F.called_set.notType
  have f4 := F.called_set.canCreate
  have f5 := F.typeCall_set_1 (.ref ls)
  repeat (any_goals (first | assumption | wp_step))
  refine codeAny_mono (code_set_led1 (.ref ls) (E := Ex) (Q₁ := fun ob s1 => ob = .ref sh.heap.objs.size ∧ s1 = { sh with heap := sh.heap.push (empt Wd) }) ⟨rfl, rfl⟩) fun r s1 hr => ?_
  match r, hr with
  | .error e, hr => exact hr
  | .ok .next, hr => exact hr.elim
  | .ok .brk, hr => exact hr.elim
  | .ok .cont, hr => exact hr.elim
  | .ok (.ret ob), hr =>
    obtain ⟨rfl, rfl⟩ := hr
    have tS : Shared.TypeIs { sh with heap := sh.heap.push (empt Wd) } (.ref sh.heap.objs.size) "set" := ⟨_, Heap.get?_push_size _ rfl, rfl⟩
    have f6 := F.called_set.init.lookup
    have f7 := F.called_set.init.bind (.ref sh.heap.objs.size)
    repeat (any_goals (first | assumption | wp_step))
    refine codeAny_mono (init_list (zs := zs) (Ex := Ex) (by simp [ok]) at0 hin few tS) fun r2 s2 hr2 => ?_
    match r2, hr2 with
    | .error e, hr2 => exact hr2
    | .ok .next, hr2 => exact hr2.elim
    | .ok .brk, hr2 => exact hr2.elim
    | .ok .cont, hr2 => exact hr2.elim
    | .ok (.ret v), hr2 =>
      obtain ⟨rfl, hF⟩ := hr2
      obtain ⟨hp, tk, c, rfl, R, hc, hk⟩ := hF
      repeat (any_goals (first | assumption | wp_step))
      exact k _ ⟨hp, tk, c, rfl, R, hc, hk⟩
end
section
variable {X : Cx}
def rSetL (K : PySem.W.Frag) (Wd : World) : List V → Hp → VK → Prop := fun xs H Q => ∃ (l : Addr) (zs : List Int), xs = [.ref l] ∧ SqL K H l (zs.map V.int) ∧ zs.length ≤ 4000 ∧ ∀ (p : Addr) (c : Nat), H p = none → c ≤ zs.length → Q (.ref p) (upd H p (SetO Wd p (fun j => decide (j ∈ zs)) c))
theorem cr_setL (hc : X.calm = true) : CallR X (.type "set") (rSetL X.K X.w) := by
  intro pins s σ H xs us Q I r h
  obtain ⟨l, zs, rfl, hL, few, q⟩ := h
  rw [Vals.ref1 r]
  obtain ⟨its, rv, pl, _⟩ := I.list hL
  refine set_of_list zs (I.ok.hd hc) pl.isList (by simpa using ints_of_vals rv) (by unfold scanBound; omega) fun s2 hF => ?_
  obtain ⟨hp, tk, c, rfl, R, hc2, hk⟩ := hF
  exact ⟨.ref _, upd H s.heap.objs.size (SetO X.w s.heap.objs.size (fun j => decide (j ∈ zs)) c), I.laid (t' := tk) hk (Nat.le_refl _) (setO_new R), rfl, q _ c (I.hok.fresh (Nat.le_refl _)) hc2⟩
end
end WS

end
section
set_option autoImplicit false
set_option Elab.async false
set_option linter.all false
set_option maxRecDepth 100000
set_option maxHeartbeats 4000000
/-! ## the law -/
namespace M
theorem fineAll_app {h : Nat} : ∀ {s r : List Step}, Step.fineAll h s → Step.fineAll h r → Step.fineAll h (s ++ r)
  | [], r, _, b => b
  | x :: s, r, a, b => by
    unfold Step.fineAll at a
    show Step.fineAll h (x :: (s ++ r))
    unfold Step.fineAll
    exact ⟨a.1, fineAll_app a.2 b⟩
theorem deep_app : ∀ (s r : List Step), Step.deepest (s ++ r) = max (Step.deepest s) (Step.deepest r)
  | [], r => by
    rw [List.nil_append, show Step.deepest [] = 0 by unfold Step.deepest; rfl, Nat.zero_max]
  | x :: s, r => by
    rw [List.cons_append, deep_cons, deep_cons, deep_app s r, Nat.max_assoc]
theorem inner_app : ∀ (s r : List Step), Step.inner (s ++ r) = Step.inner s + Step.inner r
  | [], r => by
    rw [List.nil_append, show Step.inner [] = 0 by unfold Step.inner; rfl, Nat.zero_add]
  | x :: s, r => by
    rw [List.cons_append, inner_cons, inner_cons, inner_app s r, Nat.add_assoc]
theorem fine_app {h : Nat} {s r : List Step} (a : Way.fine (.mk h s)) (b : Way.fine (.mk h r)) (l : s.length + r.length ≤ 12) (z : Way.size (.mk h s) + Way.size (.mk h r) ≤ 40) : Way.fine (.mk h (s ++ r)) := by
  unfold Way.fine at a b ⊢
  unfold Way.size at z
  rw [deep_app, inner_app, List.length_append]
  exact ⟨a.1, by omega, fineAll_app a.2.2.1 b.2.2.1, by omega, by omega⟩
end M
namespace WP
open PySem L2 G
abbrev sLaw : Stmt := top 57
theorem sameBt {p : Addr} {H G G' : Hp} (s : Same H G) (n : H p = none) (b : Bt p G G') : Same H G' := fun a o e => b.1 a o (fun z => by rw [z, n] at e; cases e) (s a o e)
theorem Bt.keepT {p : Addr} {H H' : Hp} (b : Bt p H H') (h : S.At H p) : KeepT H H' := fun a o n e => b.1 a o (fun z => by
  obtain ⟨r, m, e2, _⟩ := h
  rw [z, e2] at e
  cases e
  exact n _ rfl) e
theorem Same.at' {p : Addr} {H H' : Hp} (s : Same H H') (h : S.At H p) : S.At H' p := by
  obtain ⟨r, m, e, f⟩ := h
  exact ⟨r, m, s _ _ e, f⟩
/-- bodies of a sorted list of small ints -/
theorem cut_take (xs : List V) (k : Nat) : cutV xs none (some (k : Int)) = xs.take k := by
  unfold cutV
  rw [HT.sIx_none, HT.sIx_nat, List.drop_zero, Nat.sub_zero]
  by_cases h : k ≤ xs.length
  · rw [Nat.min_eq_left h]
  · rw [Nat.min_eq_right (by omega), List.take_length, List.take_of_length_le (by omega)]
theorem nats_of {ns : List Int} (lo : ∀ z ∈ ns, 0 ≤ z ∧ z ≤ 60) (hp : ns.Pairwise (· < ·)) (k : Nat) : ∃ bs : List Nat, cutV (ns.map V.int) none (some (k : Int)) = ni bs ∧ bs.Pairwise (· < ·) ∧ ∀ b ∈ bs, b ≤ 60 := by
  refine ⟨(ns.take k).map Int.toNat, ?_, ?_, ?_⟩
  · rw [cut_take, ← List.map_take]
    unfold ni
    rw [List.map_map, List.map_map]
    refine List.map_congr_left fun z hz => ?_
    have := lo z (List.mem_of_mem_take hz)
    show V.int z = V.int ((z.toNat : Nat) : Int)
    rw [Int.toNat_of_nonneg this.1]
  · have hp2 := hp.sublist (List.take_sublist k ns)
    rw [List.pairwise_map]
    refine List.Pairwise.imp_of_mem (fun {x y} hx hy q => ?_) hp2
    have a := lo x (List.mem_of_mem_take hx)
    have b := lo y (List.mem_of_mem_take hy)
    omega
  · intro b hb
    obtain ⟨z, hz, rfl⟩ := List.mem_map.mp hb
    have := lo z (List.mem_of_mem_take hz)
    omega
theorem ni_cut (bs : List Nat) (k : Nat) : cutV (ni bs) none (some (k : Int)) = ni (bs.take k) := by
  rw [cut_take]
  unfold ni
  rw [List.map_take, List.map_take]
structure Lb (mg : Str → Option Value) : Prop where
  rng : mg "range" = none
  mn : mg "min" = none
  srt : mg "sorted" = none
  st : mg "set" = none
section
variable {P : Program} {w : World} {K : PySem.W.Frag} {mg : Str → Option Value} {base : Heap} {C : Addr}
def spLaw (K : PySem.W.Frag) : Sp := fun vs H Q _ => ∃ (a : Addr) (ns : List Int), vs = [.ref a] ∧ SqL K H a (ns.map V.int) ∧ ns.length ≤ 63 ∧ (∀ z ∈ ns, Builtin.Int.intBits z ≤ 1048576) ∧ ∀ H', Q (.bl true) H'
abbrev NLa : List Str := ["script", "start", "source", "turn", "rows", "way", "some", "bodies", "roads", "other", "body", "number"]
theorem scLa : FnScope NLa ["script"] (defScope sLaw) := ⟨rfl, rfl, rfl, by decide +kernel, rfl, by decide +kernel, by decide +kernel⟩
theorem ok_law {f : Addr} {fd : FuncData} (F : Fun K "law" "law" sLaw f fd) (B : Bn mg) (T : Wt K mg C) (Z : Lb mg) (MW : Mw P w K mg base C)
    (DS : Df P w K mg base 1 "_law_source" ["script", "start"] (S.spSource K)) (DD : Df P w K mg base 1 "_law_draw" ["source", "span"] S.spDraw) (DF : Df P w K mg base 4 "_law_fitting" ["source", "depth", "many"] spLFit) (DM : Df P w K mg base 10 "_law_made" ["rows"] (spLMade C 2)) (DP : Df P w K mg base 3 "_law_pieces_made" ["rows", "body"] (spLPm 2))
    (DE : Df P w K mg base 3 "_law_ends" ["rows", "least", "most"] (spLEnds 2)) (DR : Df P w K mg base 3 "_law_road" ["source", "head"] spLRoad) (DW : Df P w K mg base 12 "_law_row_right" ["way", "bodies", "closed"] (spLRow C)) (DA : Df P w K mg base 12 "_law_around_right" ["way", "inner_head", "bodies"] (spLAround C)) (DU : Df P w K mg base 12 "_law_sum_right" ["one", "two", "bodies", "closed"] (spLSum C)) :
    FnOk P w K mg base CX0 13 f fd ["script"] (spLaw K) := by
  obtain ⟨fI, fdI, GI, MK, bI⟩ := MW.ex
  obtain ⟨fS, fdS, GS, gS, kS, bS⟩ := DS.ex
  obtain ⟨fD, fdD, GD, gD, kD, bD⟩ := DD.ex
  obtain ⟨fF, fdF, GF, gF, kF, bF⟩ := DF.ex
  obtain ⟨fM, fdM, GM, gM, kM, bM⟩ := DM.ex
  obtain ⟨fP, fdP, GP, gP, kP, bP⟩ := DP.ex
  obtain ⟨fE, fdE, GE, gE, kE, bE⟩ := DE.ex
  obtain ⟨fR, fdR, GR, gR, kR, bR⟩ := DR.ex
  obtain ⟨fW, fdW, GW, gW, kW, bW⟩ := DW.ex
  obtain ⟨fA, fdA, GA, gA, kA, bA⟩ := DA.ex
  obtain ⟨fU, fdU, GU, gU, kU, bU⟩ := DU.ex
  refine F.ok scLa (fun vs H Q E h => ?_) (fun cdv A outer s H vs Q E hr h => ?_)
  · obtain ⟨a, ns, rfl, _⟩ := h
    rfl
  · obtain ⟨a, ns, rfl, hS, hl, hb, k⟩ := h
    have r1 := hr.mono (by decide : 1 ≤ 12)
    have r3 := hr.mono (by decide : 3 ≤ 12)
    refine ⟨_, pss_cons (ps_for PassesOwn.never rfl (pi_range1 (by rfl) Z.rng (pa_cons (pe_callB (call_max2 rfl) (by rfl) B.max (by decide +kernel) (pa_cons pe_int (pa_cons (pe_callB (call_min2 rfl) (by rfl) Z.mn (by decide +kernel) (pa_cons pe_int (pa_cons (pe_callB call_len_seq (by rfl) B.len PySem.boot_len (pa_cons (pv 0) pa_nil)) pa_nil))) pa_nil))) pa_nil)) (pg_name (i := 1) scLa.nd rfl (Or.inl rfl))
        (pss_cons (ps_set (i := 2) scLa.nd rfl (Or.inr rfl) (pe_call GS r1 rfl gS kS bS .nil pass0 (pa_cons (pv 0) (pa_cons (pv 1) pa_nil))))
        (pss_one (ps_for PassesOwn.never rfl (pi_range1 (by rfl) Z.rng (pa_cons pe_int pa_nil)) (pg_name (i := 3) scLa.nd rfl (Or.inl rfl))
          (pss_cons (ps_set (i := 4) scLa.nd rfl (Or.inr rfl) (pe_call GF (hr.mono (by decide)) rfl gF kF bF .nil pass0 (pa_cons (pv 2) (pa_cons pe_int (pa_cons pe_int pa_nil)))))
          (pss_cons (ps_par (i := 5) (j := 6) (by rfl) scLa.nd rfl rfl (by decide) rfl rfl (pa_cons (pe_call GM (hr.mono (by decide)) rfl gM kM bM .nil pass0 (pa_cons (pv 4) pa_nil)) (pa_cons (pe_call GE r3 rfl gE kE bE .nil pass0 (pa_cons (pv 4) (pa_cons pe_int (pa_cons pe_int pa_nil)))) pa_nil)) (by rfl))
          (pss_cons (ps_setLc (i := 6) (own := [("body", 10)]) (g := gName 10) (tt := tTest (tOp (rI0 fun i j => .bl (decide (i ≤ j))) (tCall (spLPm 2) [] E0 (tCons (tVar 4) (tCons (tVar 10) tNil))) (tC (.int 40)))) (te := tVar 10) rfl scLa.nd rfl rfl (sw_true rfl rfl rfl (by decide +kernel)) (pi_list (pv 6)) (blkOk_by (N := NLa) (sc := defScope sLaw) (by decide +kernel))
              (fun _ _ _ _ _ => pg_name (i := 10) scLa.nd rfl (Or.inl rfl)) (fun _ _ _ _ _ => pts_one (by exact pt_cmpR op_le (pe_call GP r3 rfl gP kP bP .nil pass0 (pa_cons (pv 4) (pa_cons (pv 10) pa_nil))) pe_int (nomark _))) (fun _ _ _ _ _ => by exact pv 10))
          (pss_cons (ps_set (i := 7) scLa.nd rfl (Or.inl rfl) (pe_slice sl_list (pe_callB (cr_sortedSet rfl) (by rfl) Z.srt (by decide +kernel) (pa_cons (pe_callTy (WS.cr_setL rfl) (by rfl) Z.st (by decide +kernel) (pa_cons (pe_op op_cat (pv 6) (pe_lst (pa_cons pe_int (pa_cons pe_int (pa_cons pe_int (pa_cons pe_int (pa_cons (pe_call GD r1 rfl gD kD bD .nil pass0 (pa_cons (pv 2) (pa_cons pe_int pa_nil))) pa_nil))))))) pa_nil)) pa_nil)) po_none (po_some pe_int)))
          (pss_cons (ps_if (PW.pt (pw_or (pt_not (pt_val (pe_call GW hr rfl gW kW bW .nil pass0 (pa_cons (pv 5) (pa_cons (pv 7) (pa_cons pe_bl pa_nil)))))) (pw_or1 (pt_not (pt_val (pe_call GW hr rfl gW kW bW .nil pass0 (pa_cons (pv 5) (pa_cons (pv 7) (pa_cons pe_bl pa_nil))))))))) (pss_one (ps_ret pe_bl)) pss_nil)
          (pss_cons (ps_if (pt_not (pt_val (pe_call GA hr rfl gA kA bA .nil pass0 (pa_cons (pv 5) (pa_cons (pe_op op_add pe_int (pe_call GD r1 rfl gD kD bD .nil pass0 (pa_cons (pv 2) (pa_cons pe_int pa_nil)))) (pa_cons (pv 7) pa_nil)))))) (pss_one (ps_ret pe_bl)) pss_nil)
          (pss_cons (ps_setLc (i := 8) (own := [("number", 11)]) (g := gName 11) (tt := tYes) (te := tCall spLRoad [] E0 (tCons (tVar 2) (tCons (tOp (rIxT K) (tVar 4) (tC (.int 0))) tNil))) rfl scLa.nd rfl rfl (sw_true rfl rfl rfl (by decide +kernel)) (pi_range1 (by rfl) Z.rng (pa_cons (pe_op op_add pe_int (pe_call GD r1 rfl gD kD bD .nil pass0 (pa_cons (pv 2) (pa_cons pe_int pa_nil)))) pa_nil)) (blkOk_by (N := NLa) (sc := defScope sLaw) (by decide +kernel))
              (fun _ _ _ _ _ => pg_name (i := 11) scLa.nd rfl (Or.inl rfl)) (fun _ _ _ _ _ => pts_nil) (fun _ _ _ _ _ => by exact pe_call GR r3 rfl gR kR bR .nil pass0 (pa_cons (pv 2) (pa_cons (pe_ix ix_tup (pv 4) pe_int (fun _ _ => rfl)) pa_nil))))
          (pss_cons (ps_set (i := 9) scLa.nd rfl (Or.inl rfl) (pe_make MK GI (hr.mono (by decide)) rfl T.g bI .nil pass0 (pa_cons (pe_ix ix_tup (pv 4) pe_int (fun _ _ => rfl)) (pa_cons (pv 8) pa_nil))))
          (pss_one (ps_if (PW.pt (pw_or (pt_not (pt_val (pe_call GU hr rfl gU kU bU .nil pass0 (pa_cons (pv 5) (pa_cons (pv 9) (pa_cons (pe_slice sl_list (pv 7) po_none (po_some pe_int)) (pa_cons pe_bl pa_nil))))))) (pw_or1 (pt_not (pt_val (pe_call GU hr rfl gU kU bU .nil pass0 (pa_cons (pv 9) (pa_cons (pv 5) (pa_cons (pe_slice sl_list (pv 7) po_none (po_some pe_int)) (pa_cons pe_bl pa_nil)))))))))) (pss_one (ps_ret pe_bl)) pss_nil))))))))))))))
      (pss_one (ps_ret pe_bl)), ?_⟩
    refine ⟨_, rfl, a, _, rfl, .inl hS, _, _, rfl, _, _, rfl, _, rfl, by split <;> omega, by split <;> (try split) <;> omega, for_range (n := Int.toNat _) (fun i σ G => Same H G ∧ ∃ q1 q2 q3 q4 q5 q6 q7 q8 q9, σ = [some (.ref a), q1, q2, q3, q4, q5, q6, q7, q8, q9, none, none])
      ⟨Same.refl H, _, _, _, _, _, _, _, _, _, rfl⟩ ?_ (fun σ G _ => k G)⟩
    rintro i σ G hi ⟨s0, q1, q2, q3, q4, q5, q6, q7, q8, q9, rfl⟩
    dsimp only
    refine set_then (i := 2) ⟨_, rfl, _, rfl, a, ns, i, by show [V.ref a, V.int (0 + (i : Int))] = _; rw [Int.zero_add], ?_, s0.seq hS, hl, hb, fun p r m hp hf => ?_⟩
    · split at hi <;> (try split at hi) <;> omega
    have hp0 : H p = none := s0.free hp
    have s1 : Same H (upd G p (.lst (S.Two r m))) := s0.trans (Same.of_upd hp)
    have at1 : S.At (upd G p (.lst (S.Two r m))) p := ⟨r, m, upd_same, hf⟩
    generalize upd G p (.lst (S.Two r m)) = G1 at s1 at1 ⊢
    clear hp
    refine ⟨6, rfl, by decide, by decide, for_range (n := 6) (fun _ σ G => Same H G ∧ S.At G p ∧ ∃ st q3 q4 q5 q6 q7 q8 q9, σ = [some (.ref a), st, some (.ref p), q3, q4, q5, q6, q7, q8, q9, none, none])
      ⟨s1, at1, _, _, _, _, _, _, _, _, rfl⟩ ?_ fun σ G z => ⟨z.1, by obtain ⟨_, _, st, q3, q4, q5, q6, q7, q8, q9, e⟩ := z; exact ⟨_, _, _, _, _, _, _, _, _, e⟩⟩⟩
    · rintro i2 σ G2 hi2 ⟨s2, hA, st, q3, q4, q5, q6, q7, q8, q9, rfl⟩
      dsimp only
      refine set_then (i := 4) ⟨_, rfl, p, rfl, hA, fun wy v G3 b3 hR hSm => ?_⟩
      have s3 := sameBt s2 hp0 b3
      refine ⟨_, rfl, v, wy, rfl, hR, hSm.fine, hSm.dp, fun aw G4 s4 hw => ⟨_, rfl, v, wy, 0, 60, rfl, hR.mono s4, hSm.fine, hSm.dp, fun D es G5 s5 hD le he => ⟨_, _, rfl, ?_⟩⟩⟩
      dsimp only
      have hsz := hSm.sz
      have hR5 := hR.mono (s4.trans s5)
      have hw5 := hw.mono s5
      have a5 := Same.at' (s4.trans s5) b3.2
      have s6 := (s3.trans s4).trans s5
      clear hR hw
      -- some = [..]
      refine ⟨_, rfl, D, rfl, ⟨_, SqL.of hD⟩, fun D2 nD => ?_⟩
      refine lc_it walk_list (fun i G => Same G5 G ∧ ∃ ms : List Int, LI G D2 ms ∧ ms.length ≤ i ∧ ∀ z ∈ ms, 0 ≤ z ∧ z ≤ 60) ⟨Same.of_upd nD, [], upd_same, Nat.le_refl _, fun z hz => by cases hz⟩ (fun i G _ q => SqL.of (q.1 _ _ hD)) ?_ ?_
      · rintro i3 x G6 G6' hi3 ⟨s7, ms, hm, lm, hz⟩ ⟨rfl, hx⟩
        rw [mapI_len] at hi3
        rw [List.getElem?_map] at hx
        cases em : es[i3]? with
        | none => rw [em] at hx; cases hx
        | some z =>
          rw [em] at hx
          cases hx
          have hz0 := he z (List.mem_of_getElem? em)
          refine ⟨rfl, _, rfl, _, rfl, v, wy, z, rfl, hR5.mono s7, hSm.fine, hSm.dp, hz0.1, by omega, fun y G7 s8 => ⟨_, _, rfl, rfl, _, rfl, ?_⟩⟩
          have s9 := s7.trans s8
          refine ite2 (fun _ => ⟨_, rfl, _, s8 _ _ hm, ?_, add_upd nD s9, ms ++ [z], ?_, by simp; exact lm, ?_⟩) (fun _ => ⟨s9, ms, s8 _ _ hm, by omega, hz⟩)
          · rw [mapI_len]
            exact small1000 (by omega)
          · unfold LI
            rw [upd_same, ← mapI_app]
            rfl
          · intro y hy
            rcases List.mem_append.mp hy with q | q
            · exact hz y q
            · rw [List.mem_singleton.mp q]
              exact hz0
      · rintro G6 ⟨s7, ms, hm, lm, hz⟩
        rw [mapI_len] at lm
        dsimp only
        have s8 := s6.trans s7
        have a6 := Same.at' s7 a5
        -- bodies
        refine ⟨_, rfl, draw_vv rfl a6 (by decide) (by decide +kernel) fun j G7 j0 j1 b7 => ⟨(by show 5 ≤ sizeLine; decide), fun D3 nD3 => ?_⟩⟩
        have b8 := b7.trans (Bt.new (.lst [.int 0, .int 1, .int 2, .int 3, .int j]) b7.2 nD3)
        have hD2 : LI (upd G7 D3 (.lst [.int 0, .int 1, .int 2, .int 3, .int j])) D2 ms := bt_lst b8 (at_ne a5 nD) hm
        refine ⟨D2, D3, _, _, rfl, rfl, hD2, upd_same, ?_, fun D4 nD4 => ?_⟩
        · rw [mapI_len]
          exact Nat.le_trans (show ms.length + 5 ≤ 1000 by omega) (by decide)
        have e4 : ms.map V.int ++ [.int 0, .int 1, .int 2, .int 3, .int j] = (ms ++ [0, 1, 2, 3, j]).map V.int := by rw [← mapI_app]; rfl
        have b9 := b8.trans (Bt.new (.lst ((ms ++ [0, 1, 2, 3, j]).map V.int)) b8.2 nD4)
        rw [e4]
        generalize hG8 : upd (upd G7 D3 (.lst [.int 0, .int 1, .int 2, .int 3, .int j])) D4 (.lst ((ms ++ [0, 1, 2, 3, j]).map V.int)) = G8 at b9 ⊢
        have hD4 : LI G8 D4 (ms ++ [0, 1, 2, 3, j]) := by
          unfold LI
          rw [← hG8, upd_same]
        have len4 : (ms ++ [0, 1, 2, 3, j]).length ≤ 44 := by
          rw [List.length_append]
          show ms.length + 5 ≤ 44
          omega
        have all4 : ∀ z ∈ ms ++ [0, 1, 2, 3, j], 0 ≤ z ∧ z ≤ 60 := by
          intro z hz2
          rcases List.mem_append.mp hz2 with q | q
          · exact hz z q
          · simp only [List.mem_cons, List.not_mem_nil, or_false] at q
            omega
        refine ⟨D4, _, rfl, SqL.of hD4, by omega, fun S1 c nS1 hc => ⟨S1, _, c, rfl, upd_same, by omega, fun os D5 hpw hmem hln nD5 => ⟨9, rfl, D5, _, rfl, SqL.of upd_same, fun D6 nD6 => ?_⟩⟩⟩
        have b10 := b9.trans (Bt.new (SetO w S1 (fun k => decide (k ∈ ms ++ [0, 1, 2, 3, j])) c) b9.2 nS1)
        have b11 := b10.trans (Bt.new (.lst (os.map V.int)) b10.2 nD5)
        have alls : ∀ z ∈ os, 0 ≤ z ∧ z ≤ 60 := fun z hz2 => all4 z (of_decide_eq_true ((hmem z).mp hz2))
        obtain ⟨bs, ecut, pbs, lebs⟩ := nats_of alls hpw 9
        have ecut' : cutV (os.map V.int) none (some 9) = ni bs := ecut
        rw [ecut']
        have b12 := b11.trans (Bt.new (.lst (ni bs)) b11.2 nD6)
        have ne6 := at_ne b11.2 nD6
        have hB9 : (upd (upd (upd G8 S1 (SetO w S1 (fun k => decide (k ∈ ms ++ [0, 1, 2, 3, j])) c)) D5 (.lst (os.map V.int))) D6 (.lst (ni bs))) D6 = some (.lst (ni bs)) := upd_same
        have hw9 := (hw5.mono s7).keep (b12.keepT a6)
        have hR9 := (hR5.mono s7).bt b12 a6
        have s9 := sameBt s8 hp0 b12
        have small : ∀ b ∈ bs, b ≤ 90000 := fun b hb => Nat.le_trans (lebs b hb) (by decide)
        have small2 : ∀ b ∈ bs, b ≤ 1000 := fun b hb => Nat.le_trans (lebs b hb) (by decide)
        dsimp only
        -- the rows
        refine ⟨_, rfl, _, rfl, aw, D6, true, wy, bs, rfl, hw9, hSm.fine, hB9, pbs, small, fun Ga sa => ⟨_, rfl, iteF ⟨_, rfl, _, rfl, aw, D6, false, wy, bs, rfl, hw9.mono sa, hSm.fine, sa _ _ hB9, pbs, small, fun Gb sb => ⟨_, rfl, iteF ?_⟩⟩⟩⟩
        have sab := sa.trans sb
        have b13 := b12.trans (Bt.same sab b12.2)
        have sz12 := hSm.sz
        -- what a way around tells
        refine ⟨_, rfl, draw_of rfl b13.2 (by decide) (by decide +kernel) fun j2 Gc c0 c1 bc => ⟨_, rfl, aw, (1 + j2).toNat, D6, wy, bs, ?_, (hw9.mono sab).keep (bc.keepT b13.2), hSm.fine, hSm.dp, by omega, by omega, by omega, bt_lst bc ne6 (sab _ _ hB9), small2, fun Gd sd => ⟨_, rfl, iteF ?_⟩⟩⟩
        · show [V.ref aw, V.int (1 + j2), V.ref D6] = _
          rw [Int.toNat_of_nonneg (by omega : 0 ≤ 1 + j2)]
        have b14 := (b13.trans bc).trans (Bt.same sd bc.2)
        have bcd := (Bt.same sab b12.2).trans (bc.trans (Bt.same sd bc.2))
        have hwd := hw9.keep (bcd.keepT b12.2)
        have hRd := hR9.bt bcd b12.2
        have hBd := bt_lst bcd ne6 hB9
        -- the roads
        refine draw_of rfl b14.2 (by decide) (by decide +kernel) fun j3 Ge d0 d1 be => ⟨_, rfl, by omega, by omega, fun D7 nD7 => ?_⟩
        have hwe := hwd.keep (be.keepT b14.2)
        have hRe := hRd.bt be b14.2
        have hBe := bt_lst be ne6 hBd
        have ne7 := at_ne be.2 nD7
        have b15 := b14.trans be
        obtain ⟨h, st0⟩ := wy
        have hRe2 := hRe
        unfold RowsAt at hRe2
        obtain ⟨t, Lr, xr, rfl, ht, _, _⟩ := hRe2
        have hd8 : h ≤ 8 := hSm.hd
        have h1 : 1 ≤ h := by
          have := hSm.fine
          unfold M.Way.fine at this
          exact this.1.1
        refine lc_range (lo := 0) (n := (1 + j3).toNat) (fun i G => Bt p Ge G ∧ ∃ acc rs, G D7 = some (.lst acc) ∧ StepsAt C G rs acc ∧ rs.length = i ∧ Roads h rs) ⟨Bt.new (.lst []) be.2 nD7, [], [], upd_same, by unfold StepsAt; rfl, rfl, fun y hy => by cases hy⟩ ?_ ?_
        · rintro i4 Gx hi4 ⟨bx, acc, rs, hacc, hSt, hrs, hRo⟩
          refine ⟨rfl, _, rfl, _, rfl, t, _, _, _, rfl, rfl, SqT.of (bt_tup bx be.2 ht), at0, p, h, rfl, bx.2, fun tr Gr c ts lw c1 c2 br htr => ⟨acc, bt_lst br ne7 hacc, ?_, ?_⟩⟩
          · rw [hSt.len]
            exact small1000 (by omega)
          have kp : Kp D7 Gr (upd Gr D7 (.lst (acc ++ [.ref tr]))) := Kp.put
          have kt := Kp.keepT kp (bt_lst br ne7 hacc)
          refine ⟨kp.bt ne7 nD7 (bx.trans br), _, rs ++ [.road (h + c) ts lw], upd_same, ?_, by simp; exact hrs, ?_⟩
          · refine ((hSt.keep (br.keepT bx.2)).keep kt).snoc ?_
            unfold StepAt
            exact ⟨tr, rfl, kt.tup htr⟩
          · intro y hy
            rcases List.mem_append.mp hy with q | q
            · exact hRo y q
            · exact ⟨_, ts, lw, List.mem_singleton.mp q, by omega, by omega⟩
        · rintro Gy ⟨by0, acc, rs, hacc, hSt, hrs, hRo⟩
          dsimp only
          have b16 := b15.trans by0
          have q0 := M.roads_way (s := rs) h1 hd8 (by omega) (by omega) hRo
          have fz := M.fine_app hSm.fine q0.1 (by have := hSm.ln; have e : M.Way.steps (.mk h st0) = st0 := rfl; rw [e] at this; omega) (by rw [q0.2.2]; omega)
          have fz2 := M.fine_app q0.1 hSm.fine (by have := hSm.ln; have e : M.Way.steps (.mk h st0) = st0 := rfl; rw [e] at this; omega) (by rw [q0.2.2]; omega)
          refine set_then (i := 9) ⟨_, rfl, t, _, _, _, rfl, rfl, SqT.of (bt_tup by0 be.2 ht), at0, _, rfl, fun o dx hx hdx ne => made_at (st := rs) hx hdx ne (.inl hacc) hSt q0.1 fun Gf sf hO => ⟨rfl, ?_⟩⟩
          have hwf := (hwe.keep (by0.keepT be.2)).mono sf
          have hBf := sf _ _ (bt_lst by0 ne6 hBe)
          have b17 := b16.trans (Bt.same sf by0.2)
          have e6 : cutV (ni bs) none (some 6) = ni (bs.take 6) := ni_cut bs 6
          have small6 : ∀ b ∈ bs.take 6, b ≤ 1000 := fun b hb => small2 b (List.mem_of_mem_take hb)
          refine ⟨_, rfl, _, rfl, _, rfl, 6, rfl, D6, _, rfl, SqL.of hBf, fun D8 nD8 => ?_⟩
          rw [e6]
          have sg := Same.of_upd (o := .lst (ni (bs.take 6))) nD8
          refine ⟨aw, o, D8, true, h, st0, rs, bs.take 6, rfl, hwf.mono sg, hO.mono sg, hSm.fine, q0.1, fz, upd_same, small6, fun Gh sh => ⟨_, rfl, iteF ?_⟩⟩
          have sgh := sg.trans sh
          refine ⟨_, rfl, _, rfl, _, rfl, 6, rfl, D6, _, rfl, SqL.of (sgh _ _ hBf), fun D9 nD9 => ?_⟩
          rw [e6]
          have si := Same.of_upd (o := .lst (ni (bs.take 6))) nD9
          refine ⟨o, aw, D9, false, h, rs, st0, bs.take 6, rfl, hO.mono (sgh.trans si), hwf.mono (sgh.trans si), q0.1, hSm.fine, fz2, upd_same, small6, fun Gj sj => ⟨_, rfl, iteF ?_⟩⟩
          have sk := (sgh.trans si).trans sj
          have b18 := b17.trans (Bt.same sk b17.2)
          exact ⟨sameBt s8 hp0 b18, b18.2, _, _, _, _, _, _, _, _, rfl⟩
end
end WP

end
section
set_option autoImplicit false
set_option Elab.async false
set_option linter.all false
set_option maxRecDepth 100000
set_option maxHeartbeats 4000000
/-! ## what the top leaves -/
namespace WP
open PySem L2 G
section
variable {K : PySem.W.Frag} {mg : Str → Option Value} {h : Heap} {f : Addr} {fd : FuncData}
theorem fd_I (X : K.In h) (Gn : h.Ns mainGlobals mg) (a : PySem.W.nsIn K mainGlobals "is_integer" = some (some (.ref f))) (F : Fun K "is_integer" "is_integer" sInteger f fd) : Fd K mg "is_integer" sInteger ["value"] :=
  ⟨f, fd, F, PySem.W.mg_of X Gn a, F.kp, F.binds fun _ _ _ _ _ _ us hl => match us, hl with | [_], _ => rfl⟩
theorem fd_W (X : K.In h) (Gn : h.Ns mainGlobals mg) (a : PySem.W.nsIn K mainGlobals "is_within" = some (some (.ref f))) (F : Fun K "is_within" "is_within" sWithin f fd) : Fd K mg "is_within" sWithin ["value", "least", "greatest"] :=
  ⟨f, fd, F, PySem.W.mg_of X Gn a, F.kp, F.binds fun _ _ _ _ _ _ us hl => match us, hl with | [_, _, _], _ => rfl⟩
theorem fd_B (X : K.In h) (Gn : h.Ns mainGlobals mg) (a : PySem.W.nsIn K mainGlobals "is_body" = some (some (.ref f))) (F : Fun K "is_body" "is_body" sBody f fd) : Fd K mg "is_body" sBody ["value"] :=
  ⟨f, fd, F, PySem.W.mg_of X Gn a, F.kp, F.binds fun _ _ _ _ _ _ us hl => match us, hl with | [_], _ => rfl⟩
theorem fd_wk (X : K.In h) (Gn : h.Ns mainGlobals mg) (a : PySem.W.nsIn K mainGlobals "_walked" = some (some (.ref f))) (F : Fun K "_walked" "_walked" sWalked f fd) : Fd K mg "_walked" sWalked ["way", "body", "sealed"] :=
  ⟨f, fd, F, PySem.W.mg_of X Gn a, F.kp, F.binds fun _ _ _ _ _ _ us hl => match us, hl with | [_, _, _], _ => rfl⟩
theorem fd_se (X : K.In h) (Gn : h.Ns mainGlobals mg) (a : PySem.W.nsIn K mainGlobals "_seen_from_way" = some (some (.ref f))) (F : Fun K "_seen_from_way" "_seen_from_way" sSeen f fd) : Fd K mg "_seen_from_way" sSeen ["fate", "position"] :=
  ⟨f, fd, F, PySem.W.mg_of X Gn a, F.kp, F.binds fun _ _ _ _ _ _ us hl => match us, hl with | [_, _], _ => rfl⟩
theorem fd_bs (X : K.In h) (Gn : h.Ns mainGlobals mg) (a : PySem.W.nsIn K mainGlobals "_behind_step" = some (some (.ref f))) (F : Fun K "_behind_step" "_behind_step" sBStep f fd) : Fd K mg "_behind_step" sBStep ["way", "step", "stretches", "sealed"] :=
  ⟨f, fd, F, PySem.W.mg_of X Gn a, F.kp, F.binds fun _ _ _ _ _ _ us hl => match us, hl with | [_, _, _, _], _ => rfl⟩
theorem fd_br (X : K.In h) (Gn : h.Ns mainGlobals mg) (a : PySem.W.nsIn K mainGlobals "_behind_road" = some (some (.ref f))) (F : Fun K "_behind_road" "_behind_road" sBRoad f fd) : Fd K mg "_behind_road" sBRoad ["way", "step", "stretches", "sealed"] :=
  ⟨f, fd, F, PySem.W.mg_of X Gn a, F.kp, F.binds fun _ _ _ _ _ _ us hl => match us, hl with | [_, _, _, _], _ => rfl⟩
theorem fd_pa (X : K.In h) (Gn : h.Ns mainGlobals mg) (a : PySem.W.nsIn K mainGlobals "_parts" = some (some (.ref f))) (F : Fun K "_parts" "_parts" sParts f fd) : Fd K mg "_parts" sParts ["stretch", "carried"] :=
  ⟨f, fd, F, PySem.W.mg_of X Gn a, F.kp, F.binds fun _ _ _ _ _ _ us hl => match us, hl with | [_, _], _ => rfl⟩
theorem fd_bj (X : K.In h) (Gn : h.Ns mainGlobals mg) (a : PySem.W.nsIn K mainGlobals "_behind_join" = some (some (.ref f))) (F : Fun K "_behind_join" "_behind_join" sBJoin f fd) : Fd K mg "_behind_join" sBJoin ["step", "stretches"] :=
  ⟨f, fd, F, PySem.W.mg_of X Gn a, F.kp, F.binds fun _ _ _ _ _ _ us hl => match us, hl with | [_, _], _ => rfl⟩
theorem fd_bt (X : K.In h) (Gn : h.Ns mainGlobals mg) (a : PySem.W.nsIn K mainGlobals "_behind_tunnel" = some (some (.ref f))) (F : Fun K "_behind_tunnel" "_behind_tunnel" sBTun f fd) : Fd K mg "_behind_tunnel" sBTun ["way", "step", "stretches", "sealed"] :=
  ⟨f, fd, F, PySem.W.mg_of X Gn a, F.kp, F.binds fun _ _ _ _ _ _ us hl => match us, hl with | [_, _, _, _], _ => rfl⟩
theorem fd_tu (X : K.In h) (Gn : h.Ns mainGlobals mg) (a : PySem.W.nsIn K mainGlobals "_turned" = some (some (.ref f))) (F : Fun K "_turned" "_turned" sTurned f fd) : Fd K mg "_turned" sTurned ["fate", "inner", "tells"] :=
  ⟨f, fd, F, PySem.W.mg_of X Gn a, F.kp, F.binds fun _ _ _ _ _ _ us hl => match us, hl with | [_, _, _], _ => rfl⟩
theorem fd_li (X : K.In h) (Gn : h.Ns mainGlobals mg) (a : PySem.W.nsIn K mainGlobals "is_step_list" = some (some (.ref f))) (F : Fun K "is_step_list" "is_step_list" sList f fd) : Fd K mg "is_step_list" sList ["value"] :=
  ⟨f, fd, F, PySem.W.mg_of X Gn a, F.kp, F.binds fun _ _ _ _ _ _ us hl => match us, hl with | [_], _ => rfl⟩
theorem fd_st (X : K.In h) (Gn : h.Ns mainGlobals mg) (a : PySem.W.nsIn K mainGlobals "_is_step" = some (some (.ref f))) (F : Fun K "_is_step" "_is_step" sStep f fd) : Fd K mg "_is_step" sStep ["value", "head"] :=
  ⟨f, fd, F, PySem.W.mg_of X Gn a, F.kp, F.binds fun _ _ _ _ _ _ us hl => match us, hl with | [_, _], _ => rfl⟩
theorem fd_rd (X : K.In h) (Gn : h.Ns mainGlobals mg) (a : PySem.W.nsIn K mainGlobals "is_road" = some (some (.ref f))) (F : Fun K "is_road" "is_road" sRoad f fd) : Fd K mg "is_road" sRoad ["size", "sealed", "loose", "least"] :=
  ⟨f, fd, F, PySem.W.mg_of X Gn a, F.kp, F.binds fun _ _ _ _ _ _ us hl => match us, hl with | [_, _, _, _], _ => rfl⟩
theorem fd_tl (X : K.In h) (Gn : h.Ns mainGlobals mg) (a : PySem.W.nsIn K mainGlobals "is_tells" = some (some (.ref f))) (F : Fun K "is_tells" "is_tells" sTells f fd) : Fd K mg "is_tells" sTells ["value"] :=
  ⟨f, fd, F, PySem.W.mg_of X Gn a, F.kp, F.binds fun _ _ _ _ _ _ us hl => match us, hl with | [_], _ => rfl⟩
theorem fd_mo (X : K.In h) (Gn : h.Ns mainGlobals mg) (a : PySem.W.nsIn K mainGlobals "is_most" = some (some (.ref f))) (F : Fun K "is_most" "is_most" sMost f fd) : Fd K mg "is_most" sMost ["value"] :=
  ⟨f, fd, F, PySem.W.mg_of X Gn a, F.kp, F.binds fun _ _ _ _ _ _ us hl => match us, hl with | [_], _ => rfl⟩
theorem fd_hd (X : K.In h) (Gn : h.Ns mainGlobals mg) (a : PySem.W.nsIn K mainGlobals "is_head" = some (some (.ref f))) (F : Fun K "is_head" "is_head" sHead f fd) : Fd K mg "is_head" sHead ["value"] :=
  ⟨f, fd, F, PySem.W.mg_of X Gn a, F.kp, F.binds fun _ _ _ _ _ _ us hl => match us, hl with | [_], _ => rfl⟩
theorem fd_ls (X : K.In h) (Gn : h.Ns mainGlobals mg) (a : PySem.W.nsIn K mainGlobals "_law_source" = some (some (.ref f))) (F : Fun K "_law_source" "_law_source" S.sSource f fd) : Fd K mg "_law_source" S.sSource ["script", "start"] :=
  ⟨f, fd, F, PySem.W.mg_of X Gn a, F.kp, F.binds fun _ _ _ _ _ _ us hl => match us, hl with | [_, _], _ => rfl⟩
theorem fd_ld (X : K.In h) (Gn : h.Ns mainGlobals mg) (a : PySem.W.nsIn K mainGlobals "_law_draw" = some (some (.ref f))) (F : Fun K "_law_draw" "_law_draw" S.sDraw f fd) : Fd K mg "_law_draw" S.sDraw ["source", "span"] :=
  ⟨f, fd, F, PySem.W.mg_of X Gn a, F.kp, F.binds fun _ _ _ _ _ _ us hl => match us, hl with | [_, _], _ => rfl⟩
theorem fd_lp (X : K.In h) (Gn : h.Ns mainGlobals mg) (a : PySem.W.nsIn K mainGlobals "_law_pick" = some (some (.ref f))) (F : Fun K "_law_pick" "_law_pick" S.sPick f fd) : Fd K mg "_law_pick" S.sPick ["source", "items"] :=
  ⟨f, fd, F, PySem.W.mg_of X Gn a, F.kp, F.binds fun _ _ _ _ _ _ us hl => match us, hl with | [_, _], _ => rfl⟩
theorem fd_lm (X : K.In h) (Gn : h.Ns mainGlobals mg) (a : PySem.W.nsIn K mainGlobals "_law_most" = some (some (.ref f))) (F : Fun K "_law_most" "_law_most" sLMost f fd) : Fd K mg "_law_most" sLMost ["source"] :=
  ⟨f, fd, F, PySem.W.mg_of X Gn a, F.kp, F.binds fun _ _ _ _ _ _ us hl => match us, hl with | [_], _ => rfl⟩
theorem fd_lr (X : K.In h) (Gn : h.Ns mainGlobals mg) (a : PySem.W.nsIn K mainGlobals "_law_road" = some (some (.ref f))) (F : Fun K "_law_road" "_law_road" sLRoad f fd) : Fd K mg "_law_road" sLRoad ["source", "head"] :=
  ⟨f, fd, F, PySem.W.mg_of X Gn a, F.kp, F.binds fun _ _ _ _ _ _ us hl => match us, hl with | [_, _], _ => rfl⟩
theorem fd_ln (X : K.In h) (Gn : h.Ns mainGlobals mg) (a : PySem.W.nsIn K mainGlobals "_law_inner_road" = some (some (.ref f))) (F : Fun K "_law_inner_road" "_law_inner_road" sLInner f fd) : Fd K mg "_law_inner_road" sLInner ["source", "head", "low"] :=
  ⟨f, fd, F, PySem.W.mg_of X Gn a, F.kp, F.binds fun _ _ _ _ _ _ us hl => match us, hl with | [_, _, _], _ => rfl⟩
theorem fd_lf (X : K.In h) (Gn : h.Ns mainGlobals mg) (a : PySem.W.nsIn K mainGlobals "_law_fitting" = some (some (.ref f))) (F : Fun K "_law_fitting" "_law_fitting" sLFit f fd) : Fd K mg "_law_fitting" sLFit ["source", "depth", "many"] :=
  ⟨f, fd, F, PySem.W.mg_of X Gn a, F.kp, F.binds fun _ _ _ _ _ _ us hl => match us, hl with | [_, _, _], _ => rfl⟩
theorem fd_la (X : K.In h) (Gn : h.Ns mainGlobals mg) (a : PySem.W.nsIn K mainGlobals "_law_made" = some (some (.ref f))) (F : Fun K "_law_made" "_law_made" sLMade f fd) : Fd K mg "_law_made" sLMade ["rows"] :=
  ⟨f, fd, F, PySem.W.mg_of X Gn a, F.kp, F.binds fun _ _ _ _ _ _ us hl => match us, hl with | [_], _ => rfl⟩
theorem fd_lq (X : K.In h) (Gn : h.Ns mainGlobals mg) (a : PySem.W.nsIn K mainGlobals "_law_pieces_made" = some (some (.ref f))) (F : Fun K "_law_pieces_made" "_law_pieces_made" sLPm f fd) : Fd K mg "_law_pieces_made" sLPm ["rows", "body"] :=
  ⟨f, fd, F, PySem.W.mg_of X Gn a, F.kp, F.binds fun _ _ _ _ _ _ us hl => match us, hl with | [_, _], _ => rfl⟩
theorem fd_le (X : K.In h) (Gn : h.Ns mainGlobals mg) (a : PySem.W.nsIn K mainGlobals "_law_ends" = some (some (.ref f))) (F : Fun K "_law_ends" "_law_ends" sLEnds f fd) : Fd K mg "_law_ends" sLEnds ["rows", "least", "most"] :=
  ⟨f, fd, F, PySem.W.mg_of X Gn a, F.kp, F.binds fun _ _ _ _ _ _ us hl => match us, hl with | [_, _, _], _ => rfl⟩
theorem fd_lw (X : K.In h) (Gn : h.Ns mainGlobals mg) (a : PySem.W.nsIn K mainGlobals "_law_row_right" = some (some (.ref f))) (F : Fun K "_law_row_right" "_law_row_right" sLRow f fd) : Fd K mg "_law_row_right" sLRow ["way", "bodies", "closed"] :=
  ⟨f, fd, F, PySem.W.mg_of X Gn a, F.kp, F.binds fun _ _ _ _ _ _ us hl => match us, hl with | [_, _, _], _ => rfl⟩
theorem fd_lo (X : K.In h) (Gn : h.Ns mainGlobals mg) (a : PySem.W.nsIn K mainGlobals "_law_around_right" = some (some (.ref f))) (F : Fun K "_law_around_right" "_law_around_right" sLAround f fd) : Fd K mg "_law_around_right" sLAround ["way", "inner_head", "bodies"] :=
  ⟨f, fd, F, PySem.W.mg_of X Gn a, F.kp, F.binds fun _ _ _ _ _ _ us hl => match us, hl with | [_, _, _], _ => rfl⟩
theorem fd_lu (X : K.In h) (Gn : h.Ns mainGlobals mg) (a : PySem.W.nsIn K mainGlobals "_law_sum_right" = some (some (.ref f))) (F : Fun K "_law_sum_right" "_law_sum_right" sLSum f fd) : Fd K mg "_law_sum_right" sLSum ["one", "two", "bodies", "closed"] :=
  ⟨f, fd, F, PySem.W.mg_of X Gn a, F.kp, F.binds fun _ _ _ _ _ _ us hl => match us, hl with | [_, _, _, _], _ => rfl⟩
theorem words_of {a : Addr} {dd : Option Addr} {sl : Array (Option Value)} {n : Nat} {us : List Value} {xs : List V} (lk : K.lookup a = some ⟨.type "tuple", dd, .seq us.toArray n, sl⟩) (hl : xs.length ≤ sizeLine) (r : Vals xs us) : ∀ H, SqT K H a xs := fun H => .inr ⟨_, us.toArray, _, lk, rfl, rfl, by rw [List.size_toArray, ← r.length]; exact hl, by simpa using r⟩
end
theorem bn_mk {K : PySem.W.Frag} {mg : Str → Option Value} {h : Heap} (X : K.In h) (Gn : h.Ns mainGlobals mg) (a1 : PySem.W.nsIn K mainGlobals "isinstance" = some none) (a2 : PySem.W.nsIn K mainGlobals "bool" = some none) (a3 : PySem.W.nsIn K mainGlobals "int" = some none) (a4 : PySem.W.nsIn K mainGlobals "tuple" = some none) (a5 : PySem.W.nsIn K mainGlobals "list" = some none) (a6 : PySem.W.nsIn K mainGlobals "len" = some none)
    (a7 : PySem.W.nsIn K mainGlobals "enumerate" = some none) (a8 : PySem.W.nsIn K mainGlobals "max" = some none) (a9 : PySem.W.nsIn K mainGlobals "sum" = some none) : Bn mg := ⟨PySem.W.mg_none_of X Gn a1, PySem.W.mg_none_of X Gn a2, PySem.W.mg_none_of X Gn a3, PySem.W.mg_none_of X Gn a4, PySem.W.mg_none_of X Gn a5, PySem.W.mg_none_of X Gn a6, PySem.W.mg_none_of X Gn a7, PySem.W.mg_none_of X Gn a8, PySem.W.mg_none_of X Gn a9⟩
theorem lb_mk {K : PySem.W.Frag} {mg : Str → Option Value} {h : Heap} (X : K.In h) (Gn : h.Ns mainGlobals mg) (a1 : PySem.W.nsIn K mainGlobals "range" = some none) (a2 : PySem.W.nsIn K mainGlobals "min" = some none) (a3 : PySem.W.nsIn K mainGlobals "sorted" = some none) (a4 : PySem.W.nsIn K mainGlobals "set" = some none) : Lb mg := ⟨PySem.W.mg_none_of X Gn a1, PySem.W.mg_none_of X Gn a2, PySem.W.mg_none_of X Gn a3, PySem.W.mg_none_of X Gn a4⟩
theorem wt_mk {K : PySem.W.Frag} {mg : Str → Option Value} {h : Heap} {C aS aL aT : Addr} {t0 t1 t2 t3 t4 t5 u1 u2 u3 u4 u5 u6 u7 u8 : Tok} {dS dL dT : Option Addr} {nS nL nT : Nat} {sS sL sT : Array (Option Value)} (X : K.In h) (Gn : h.Ns mainGlobals mg) (cg : PySem.W.nsIn K mainGlobals "Way" = some (some (.ref C)))
    (c1 : PySem.W.plainGet K C Str.empty = true) (c2 : PySem.W.hasDictIn K C = true) (c3 : PySem.W.plainOver K C = true) (c4 : PySem.W.findIn K (.ref C) "__setattr__" = some (some (.builtin "object.__setattr__")))
    (c5 : PySem.W.findIn K (.ref C) "head" = some none) (c6 : PySem.W.findIn K (.ref C) "steps" = some none) (c7 : PySem.W.findIn K (.ref C) "depth" = some none) (c8 : PySem.W.findIn K (.ref C) "size" = some none)
    (iA : PySem.W.findIn K (.ref C) "__class__" = some (some (.builtin "object.__class__"))) (iN : PySem.W.specialIn K (.builtin "object.__class__") "__get__" = some (some (.builtin "getset_descriptor.__get__"))) (iT : PySem.W.takesIn K (.builtin "object.__class__") = some true) (iM : PySem.W.mroIn K C (.type "object") = some true)
    (d0 : PySem.W.nsIn K mainGlobals "GREATEST_HEAD" = some (some (.int 40 t0))) (d1 : PySem.W.nsIn K mainGlobals "GREATEST_ROAD" = some (some (.int 1000 t1))) (d2 : PySem.W.nsIn K mainGlobals "GREATEST_MOST" = some (some (.int 1000000000000 t2))) (d3 : PySem.W.nsIn K mainGlobals "MOST_STEPS" = some (some (.int 12 t3))) (d4 : PySem.W.nsIn K mainGlobals "GREATEST_DEPTH" = some (some (.int 3 t4))) (d5 : PySem.W.nsIn K mainGlobals "GREATEST_SIZE" = some (some (.int 40 t5)))
    (e1 : PySem.W.nsIn K mainGlobals "SEALED_WORDS" = some (some (.ref aS))) (f1 : K.lookup aS = some ⟨.type "tuple", dS, .seq [Value.str "tell" u1, .str "drop" u2].toArray nS, sS⟩)
    (e2 : PySem.W.nsIn K mainGlobals "LOOSE_WORDS" = some (some (.ref aL))) (f2 : K.lookup aL = some ⟨.type "tuple", dL, .seq [Value.str "cut" u3, .str "tell" u4, .str "drop" u5].toArray nL, sL⟩)
    (e3 : PySem.W.nsIn K mainGlobals "TELLS_WORDS" = some (some (.ref aT))) (f3 : K.lookup aT = some ⟨.type "tuple", dT, .seq [Value.str "turn" u6, .str "keep" u7, .str "lose" u8].toArray nT, sT⟩) : Wt K mg C :=
  ⟨PySem.W.mg_of X Gn cg, ⟨c1, c2, c3, c4⟩, c5, c6, c7, c8, iA, iN, iT, iM, ⟨_, PySem.W.mg_of X Gn d0⟩, ⟨_, PySem.W.mg_of X Gn d1⟩, ⟨_, PySem.W.mg_of X Gn d2⟩, ⟨_, PySem.W.mg_of X Gn d3⟩, ⟨_, PySem.W.mg_of X Gn d4⟩, ⟨_, PySem.W.mg_of X Gn d5⟩,
    ⟨_, PySem.W.mg_of X Gn e1, words_of f1 (by decide) (.cons ⟨_, rfl⟩ (.cons ⟨_, rfl⟩ .nil))⟩, ⟨_, PySem.W.mg_of X Gn e2, words_of f2 (by decide) (.cons ⟨_, rfl⟩ (.cons ⟨_, rfl⟩ (.cons ⟨_, rfl⟩ .nil)))⟩, ⟨_, PySem.W.mg_of X Gn e3, words_of f3 (by decide) (.cons ⟨_, rfl⟩ (.cons ⟨_, rfl⟩ (.cons ⟨_, rfl⟩ .nil)))⟩⟩
theorem big_mk {K : PySem.W.Frag} {mg : Str → Option Value} {h : Heap} {t : Tok} (X : K.In h) (Gn : h.Ns mainGlobals mg) (d : PySem.W.nsIn K mainGlobals "GREATEST_BODY" = some (some (.int 1000000000000000000 t))) : ∃ t, mg "GREATEST_BODY" = some (.int 1000000000000000000 t) := ⟨t, PySem.W.mg_of X Gn d⟩
theorem all_mk {l : PySem.W.OpenLaw} {w : World} {K : PySem.W.Frag} {h : Heap} {mg : Str → Option Value} {fa C fWk fI fL fA fLaw : Addr} {dWk dI dL dA dLaw : FuncData} (X : K.In h) (Gn : h.Ns mainGlobals mg) (hfa : mg "law" = some (.ref fa)) (B : Bn mg) (Z : Lb mg) (T : Wt K mg C) (gB : ∃ t, mg "GREATEST_BODY" = some (.int 1000000000000000000 t))
    (z_I : Fd K mg "is_integer" sInteger ["value"])
    (z_W : Fd K mg "is_within" sWithin ["value", "least", "greatest"])
    (z_B : Fd K mg "is_body" sBody ["value"])
    (z_wk : Fd K mg "_walked" sWalked ["way", "body", "sealed"])
    (z_se : Fd K mg "_seen_from_way" sSeen ["fate", "position"])
    (z_bs : Fd K mg "_behind_step" sBStep ["way", "step", "stretches", "sealed"])
    (z_br : Fd K mg "_behind_road" sBRoad ["way", "step", "stretches", "sealed"])
    (z_pa : Fd K mg "_parts" sParts ["stretch", "carried"])
    (z_bj : Fd K mg "_behind_join" sBJoin ["step", "stretches"])
    (z_bt : Fd K mg "_behind_tunnel" sBTun ["way", "step", "stretches", "sealed"])
    (z_tu : Fd K mg "_turned" sTurned ["fate", "inner", "tells"])
    (z_li : Fd K mg "is_step_list" sList ["value"])
    (z_st : Fd K mg "_is_step" sStep ["value", "head"])
    (z_rd : Fd K mg "is_road" sRoad ["size", "sealed", "loose", "least"])
    (z_tl : Fd K mg "is_tells" sTells ["value"])
    (z_mo : Fd K mg "is_most" sMost ["value"])
    (z_hd : Fd K mg "is_head" sHead ["value"])
    (z_ls : Fd K mg "_law_source" S.sSource ["script", "start"])
    (z_ld : Fd K mg "_law_draw" S.sDraw ["source", "span"])
    (z_lp : Fd K mg "_law_pick" S.sPick ["source", "items"])
    (z_lm : Fd K mg "_law_most" sLMost ["source"])
    (z_lr : Fd K mg "_law_road" sLRoad ["source", "head"])
    (z_ln : Fd K mg "_law_inner_road" sLInner ["source", "head", "low"])
    (z_lf : Fd K mg "_law_fitting" sLFit ["source", "depth", "many"])
    (z_la : Fd K mg "_law_made" sLMade ["rows"])
    (z_lq : Fd K mg "_law_pieces_made" sLPm ["rows", "body"])
    (z_le : Fd K mg "_law_ends" sLEnds ["rows", "least", "most"])
    (z_lw : Fd K mg "_law_row_right" sLRow ["way", "bodies", "closed"])
    (z_lo : Fd K mg "_law_around_right" sLAround ["way", "inner_head", "bodies"])
    (z_lu : Fd K mg "_law_sum_right" sLSum ["one", "two", "bodies", "closed"])
    (aWk : PySem.W.nsIn K mainGlobals "walk" = some (some (.ref fWk))) (FWk : Fun K "walk" "walk" sWalk fWk dWk)
    (M : Mk K C fI) (FI : Fun K "__init__" "Way.__init__" sInit fI dI) (OL : WO.Own K C fL "__len__") (FL : Fun K "__len__" "Way.__len__" sLen fL dL) (OA : WO.Own K C fA "__add__") (FA : Fun K "__add__" "Way.__add__" sAdd fA dA) (sf : PySem.W.selfFirst K C = true)
    (aL : PySem.W.nsIn K mainGlobals "law" = some (some (.ref fLaw))) (FLaw : Fun K "law" "law" sLaw fLaw dLaw) :
    ∃ fd : FuncData, (∀ (s : Shared) (u : Value), BindsTo s fd ⟨[u], []⟩ [("script", u)]) ∧ ∀ base : Heap, K.In base → base.Ns mainGlobals mg → G.Ok l.prog w K mg base CX0 13 fa fd ["script"] (spLaw K) := by
  have e := hfa.symm.trans (PySem.W.mg_of X Gn aL)
  cases e
  refine ⟨dLaw, ?_, fun base _ _ => G.Ok.of ?_⟩
  · obtain ⟨_, _, _, _, _, _, _, _, _, rfl, _, _⟩ := FLaw.ex
    exact fun s u => .of_eq rfl
  obtain ⟨fN, fdN, FN, gN, kN, bN⟩ := z_I.ex
  obtain ⟨fW, fdW, FW, gW, kW, bW⟩ := z_W.ex
  obtain ⟨tB, gB⟩ := gB
  obtain ⟨tM, gM⟩ := T.gMost
  have W0 : Wi l.prog w K mg base fW fdW := ⟨ok_within FW B FN gN bN, gW, kW, bW⟩
  have DW : Df l.prog w K mg base 2 "is_within" ["value", "least", "greatest"] spWithin := ⟨fW, fdW, W0.ok, gW, kW, bW⟩
  have DB : Df l.prog w K mg base 3 "is_body" ["value"] (spIn1 0 1000000000000000000) := z_B.df fun f fd F => ok_body F W0 gB
  have DM : Df l.prog w K mg base 3 "is_most" ["value"] (spIn1 1 1000000000000) := z_mo.df fun f fd F => ok_most F W0 gM
  have DRd : Df l.prog w K mg base 3 "is_road" ["size", "sealed", "loose", "least"] spRoad := z_rd.df fun f fd F => ok_road F T DW
  have DTn : Df l.prog w K mg base 1 "is_tells" ["value"] spTells := z_tl.df fun f fd F => ok_tells F T
  obtain ⟨tH, gH⟩ := T.gHead
  have DHd : Df l.prog w K mg base 3 "is_head" ["value"] (spIn1 1 40) := z_hd.df fun f fd F => ok_head F W0 gH
  have DLi : Df l.prog w K mg base 1 "is_step_list" ["value"] (spList K) := z_li.df fun f fd F => ok_list F B T
  have DSt : Df l.prog w K mg base 5 "_is_step" ["value", "head"] (spStep C) := z_st.df fun f fd F => ok_step F B T DRd DM DTn
  have MW : Mw l.prog w K mg base C := ⟨fI, dI, ok_init FI B T DHd DLi DSt, M, FI.binds fun _ _ _ _ _ _ us hl => match us, hl with | [_, _, _], _ => rfl⟩
  have LW : Lw l.prog w K mg base C := ⟨fL, dL, ok_len FL B T, OL, FL.binds fun _ _ _ _ _ _ us hl => match us, hl with | [_], _ => rfl⟩
  have AW : Aw l.prog w K mg base C := ⟨fA, dA, ok_add FA T MW, OA, FA.binds fun _ _ _ _ _ _ us hl => match us, hl with | [_, _], _ => rfl, sf⟩
  have DWd : Df l.prog w K mg base 10 "_walked" ["way", "body", "sealed"] (spWalked C 3) := df_walked B T ⟨z_pa, z_br, z_bj, z_tu, z_se, z_bt, z_bs, z_wk, Z.rng, Z.mn⟩ 3 (by decide)
  have DWk : Dw l.prog w K mg base C := ⟨fWk, dWk, ok_walk FWk DWd DB, PySem.W.mg_of X Gn aWk, FWk.kp, walk_kb FWk⟩
  have Bi : S.Bi mg := ⟨B.int, B.len⟩
  have DS : Df l.prog w K mg base 1 "_law_source" ["script", "start"] (S.spSource K) := z_ls.df fun f fd F => S.ok_source F Bi
  have DD : Df l.prog w K mg base 1 "_law_draw" ["source", "span"] S.spDraw := z_ld.df fun f fd F => S.ok_draw F Bi
  obtain ⟨fD, fdD, FD, gD, kD, bD⟩ := z_ld.ex
  have DP : Df l.prog w K mg base 2 "_law_pick" ["source", "items"] (S.spPick K) := z_lp.df fun f fd F => S.ok_pick F Bi FD gD bD
  have DMo : Df l.prog w K mg base 3 "_law_most" ["source"] spLMost := z_lm.df fun f fd F => ok_lmost F DD DP
  have DRo : Df l.prog w K mg base 3 "_law_road" ["source", "head"] spLRoad := z_lr.df fun f fd F => ok_lroad F DD DP
  have DIn : Df l.prog w K mg base 3 "_law_inner_road" ["source", "head", "low"] spLInner := z_ln.df fun f fd F => ok_linner F Z.rng DD DP
  have DFi : Df l.prog w K mg base 4 "_law_fitting" ["source", "depth", "many"] spLFit := z_lf.df fun f fd F => ok_lfit F Z.rng DD DP DIn DMo DRo
  have DMa : Df l.prog w K mg base 10 "_law_made" ["rows"] (spLMade C 2) := df_made T MW z_la 2
  have DPm : Df l.prog w K mg base 3 "_law_pieces_made" ["rows", "body"] (spLPm 2) := df_pm B Z.mn z_lq 2
  have DEn : Df l.prog w K mg base 3 "_law_ends" ["rows", "least", "most"] (spLEnds 2) := df_ends z_le 2
  have DRw : Df l.prog w K mg base 12 "_law_row_right" ["way", "bodies", "closed"] (spLRow C) := z_lw.df fun f fd F => ok_lrow F B Z.mn DWk
  have DAr : Df l.prog w K mg base 12 "_law_around_right" ["way", "inner_head", "bodies"] (spLAround C) := z_lo.df fun f fd F => ok_laround F T MW DWk
  have DSu : Df l.prog w K mg base 12 "_law_sum_right" ["one", "two", "bodies", "closed"] (spLSum C) := z_lu.df fun f fd F => ok_lsum F B T DWk LW AW
  exact ok_law FLaw B T Z MW DS DD DFi DMa DPm DEn DRo DRw DAr DSu
end WP

end
section
open PySem PySem.W PyProof.Rows
set_option Elab.async false
set_option pp.deepTerms false
set_option pp.maxSteps 60
set_option maxRecDepth 100000 in
set_option maxHeartbeats 0 in
theorem PySem.Challenge.cw_roadsizes_k04_whole_first_pieces_decide_holds : PySem.Challenge.rw_roadsizes_k04_whole_first_pieces_decide.Holds := by
  w_on; o_law; k_head; (case hw => w_witness2)
  k_fill
  refine G.walk (l := PySem.Challenge.rw_roadsizes_k04_whole_first_pieces_decide) (n := 63) (k := 13) (sp := WP.spLaw) (x := "script") rfl (by decide) rfl ⟨rfl, by decide, by decide⟩ (fun w h Y => PySem.W.kIn_of Y) ?F (fun K H a ns hl hb hS => ⟨a, ns, rfl, hS, hl, hb, fun _ => rfl⟩)
  case F =>
    intro w mg fa h KX hNs hmg
    refine' WP.all_mk KX hNs hmg (WP.bn_mk KX hNs ?y1 ?y2 ?y3 ?y4 ?y5 ?y6 ?y7 ?y8 ?y9) (WP.lb_mk KX hNs ?x1 ?x2 ?x3 ?x4)
      (WP.wt_mk KX hNs ?cg ?c1 ?c2 ?c3 ?c4 ?c5 ?c6 ?c7 ?c8 ?iA ?iN ?iT ?iM ?d0 ?d1 ?d2 ?d3 ?d4 ?d5 ?e1 ?f1 ?e2 ?f2 ?e3 ?f3) (WP.big_mk KX hNs ?gB)
      (WP.fd_I KX hNs ?aI (L2.fun_mk (st := WP.sInteger) ?lI ?oI ?kI))
      (WP.fd_W KX hNs ?aW (L2.fun_mk (st := WP.sWithin) ?lW ?oW ?kW))
      (WP.fd_B KX hNs ?aB (L2.fun_mk (st := WP.sBody) ?lB ?oB ?kB))
      (WP.fd_wk KX hNs ?awk (L2.fun_mk (st := WP.sWalked) ?lwk ?owk ?kwk))
      (WP.fd_se KX hNs ?ase (L2.fun_mk (st := WP.sSeen) ?lse ?ose ?kse))
      (WP.fd_bs KX hNs ?abs (L2.fun_mk (st := WP.sBStep) ?lbs ?obs ?kbs))
      (WP.fd_br KX hNs ?abr (L2.fun_mk (st := WP.sBRoad) ?lbr ?obr ?kbr))
      (WP.fd_pa KX hNs ?apa (L2.fun_mk (st := WP.sParts) ?lpa ?opa ?kpa))
      (WP.fd_bj KX hNs ?abj (L2.fun_mk (st := WP.sBJoin) ?lbj ?obj ?kbj))
      (WP.fd_bt KX hNs ?abt (L2.fun_mk (st := WP.sBTun) ?lbt ?obt ?kbt))
      (WP.fd_tu KX hNs ?atu (L2.fun_mk (st := WP.sTurned) ?ltu ?otu ?ktu))
      (WP.fd_li KX hNs ?ali (L2.fun_mk (st := WP.sList) ?lli ?oli ?kli))
      (WP.fd_st KX hNs ?ast (L2.fun_mk (st := WP.sStep) ?lst ?ost ?kst))
      (WP.fd_rd KX hNs ?ard (L2.fun_mk (st := WP.sRoad) ?lrd ?ord ?krd))
      (WP.fd_tl KX hNs ?atl (L2.fun_mk (st := WP.sTells) ?ltl ?otl ?ktl))
      (WP.fd_mo KX hNs ?amo (L2.fun_mk (st := WP.sMost) ?lmo ?omo ?kmo))
      (WP.fd_hd KX hNs ?ahd (L2.fun_mk (st := WP.sHead) ?lhd ?ohd ?khd))
      (WP.fd_ls KX hNs ?als (L2.fun_mk (st := S.sSource) ?lls ?ols ?kls))
      (WP.fd_ld KX hNs ?ald (L2.fun_mk (st := S.sDraw) ?lld ?old ?kld))
      (WP.fd_lp KX hNs ?alp (L2.fun_mk (st := S.sPick) ?llp ?olp ?klp))
      (WP.fd_lm KX hNs ?alm (L2.fun_mk (st := WP.sLMost) ?llm ?olm ?klm))
      (WP.fd_lr KX hNs ?alr (L2.fun_mk (st := WP.sLRoad) ?llr ?olr ?klr))
      (WP.fd_ln KX hNs ?aln (L2.fun_mk (st := WP.sLInner) ?lln ?oln ?kln))
      (WP.fd_lf KX hNs ?alf (L2.fun_mk (st := WP.sLFit) ?llf ?olf ?klf))
      (WP.fd_la KX hNs ?ala (L2.fun_mk (st := WP.sLMade) ?lla ?ola ?kla))
      (WP.fd_lq KX hNs ?alq (L2.fun_mk (st := WP.sLPm) ?llq ?olq ?klq))
      (WP.fd_le KX hNs ?ale (L2.fun_mk (st := WP.sLEnds) ?lle ?ole ?kle))
      (WP.fd_lw KX hNs ?alw (L2.fun_mk (st := WP.sLRow) ?llw ?olw ?klw))
      (WP.fd_lo KX hNs ?alo (L2.fun_mk (st := WP.sLAround) ?llo ?olo ?klo))
      (WP.fd_lu KX hNs ?alu (L2.fun_mk (st := WP.sLSum) ?llu ?olu ?klu))
      ?aWk (L2.fun_mk (st := WP.sWalk) ?lWk ?oWk ?kWk) ⟨?m1, ?m2, ?m3, ?m4⟩ (L2.fun_mk (st := WP.sInit) ?lIni ?oIni ?kIni) ⟨?n1, ?n2⟩ (L2.fun_mk (st := WP.sLen) ?lLen ?oLen ?kLen) ⟨?n3, ?n4⟩ (L2.fun_mk (st := WP.sAdd) ?lAdd ?oAdd ?kAdd) ?n5 ?aLaw (L2.fun_mk (st := WP.sLaw) ?lLaw ?oLaw ?kLaw)
    (case y1 => k_is)
    (case y2 => k_is)
    (case y3 => k_is)
    (case y4 => k_is)
    (case y5 => k_is)
    (case y6 => k_is)
    (case y7 => k_is)
    (case y8 => k_is)
    (case y9 => k_is)
    (case x1 => k_is)
    (case x2 => k_is)
    (case x3 => k_is)
    (case x4 => k_is)
    (case cg => k_is)
    (case c1 => k_is)
    (case c2 => k_is)
    (case c3 => k_is)
    (case c4 => k_is)
    (case c5 => k_is)
    (case c6 => k_is)
    (case c7 => k_is)
    (case c8 => k_is)
    (case iA => k_is)
    (case iN => k_is)
    (case iT => k_is)
    (case iM => k_is)
    (case d0 => k_is)
    (case d1 => k_is)
    (case d2 => k_is)
    (case d3 => k_is)
    (case d4 => k_is)
    (case d5 => k_is)
    (case e1 => k_is)
    (case f1 => k_is)
    (case e2 => k_is)
    (case f2 => k_is)
    (case e3 => k_is)
    (case f3 => k_is)
    (case aI => k_is)
    (case lI => k_is)
    (case oI => k_is)
    (case kI => k_is)
    (case aW => k_is)
    (case lW => k_is)
    (case oW => k_is)
    (case kW => k_is)
    (case aB => k_is)
    (case lB => k_is)
    (case oB => k_is)
    (case kB => k_is)
    (case awk => k_is)
    (case lwk => k_is)
    (case owk => k_is)
    (case kwk => k_is)
    (case ase => k_is)
    (case lse => k_is)
    (case ose => k_is)
    (case kse => k_is)
    (case abs => k_is)
    (case lbs => k_is)
    (case obs => k_is)
    (case kbs => k_is)
    (case abr => k_is)
    (case lbr => k_is)
    (case obr => k_is)
    (case kbr => k_is)
    (case apa => k_is)
    (case lpa => k_is)
    (case opa => k_is)
    (case kpa => k_is)
    (case abj => k_is)
    (case lbj => k_is)
    (case obj => k_is)
    (case kbj => k_is)
    (case abt => k_is)
    (case lbt => k_is)
    (case obt => k_is)
    (case kbt => k_is)
    (case atu => k_is)
    (case ltu => k_is)
    (case otu => k_is)
    (case ktu => k_is)
    (case ali => k_is)
    (case lli => k_is)
    (case oli => k_is)
    (case kli => k_is)
    (case ast => k_is)
    (case lst => k_is)
    (case ost => k_is)
    (case kst => k_is)
    (case ard => k_is)
    (case lrd => k_is)
    (case ord => k_is)
    (case krd => k_is)
    (case atl => k_is)
    (case ltl => k_is)
    (case otl => k_is)
    (case ktl => k_is)
    (case amo => k_is)
    (case lmo => k_is)
    (case omo => k_is)
    (case kmo => k_is)
    (case ahd => k_is)
    (case lhd => k_is)
    (case ohd => k_is)
    (case khd => k_is)
    (case als => k_is)
    (case lls => k_is)
    (case ols => k_is)
    (case kls => k_is)
    (case ald => k_is)
    (case lld => k_is)
    (case old => k_is)
    (case kld => k_is)
    (case alp => k_is)
    (case llp => k_is)
    (case olp => k_is)
    (case klp => k_is)
    (case alm => k_is)
    (case llm => k_is)
    (case olm => k_is)
    (case klm => k_is)
    (case alr => k_is)
    (case llr => k_is)
    (case olr => k_is)
    (case klr => k_is)
    (case aln => k_is)
    (case lln => k_is)
    (case oln => k_is)
    (case kln => k_is)
    (case alf => k_is)
    (case llf => k_is)
    (case olf => k_is)
    (case klf => k_is)
    (case ala => k_is)
    (case lla => k_is)
    (case ola => k_is)
    (case kla => k_is)
    (case alq => k_is)
    (case llq => k_is)
    (case olq => k_is)
    (case klq => k_is)
    (case ale => k_is)
    (case lle => k_is)
    (case ole => k_is)
    (case kle => k_is)
    (case alw => k_is)
    (case llw => k_is)
    (case olw => k_is)
    (case klw => k_is)
    (case alo => k_is)
    (case llo => k_is)
    (case olo => k_is)
    (case klo => k_is)
    (case alu => k_is)
    (case llu => k_is)
    (case olu => k_is)
    (case klu => k_is)
    (case aWk => k_is)
    (case lWk => k_is)
    (case oWk => k_is)
    (case kWk => k_is)
    (case m1 => k_is)
    (case m2 => k_is)
    (case m3 => k_is)
    (case m4 => k_is)
    (case lIni => k_is)
    (case oIni => k_is)
    (case kIni => k_is)
    (case n1 => k_is)
    (case n2 => k_is)
    (case lLen => k_is)
    (case oLen => k_is)
    (case kLen => k_is)
    (case n3 => k_is)
    (case n4 => k_is)
    (case lAdd => k_is)
    (case oAdd => k_is)
    (case kAdd => k_is)
    (case n5 => k_is)
    (case aLaw => k_is)
    (case lLaw => k_is)
    (case oLaw => k_is)
    (case kLaw => k_is)
    (case gB => k_is)

end
