import PyProof.Rows.All
import Wide.All
import OpenK.AllK
import Wide.FinOn
import HandS.ForMost
import HandS.EndBits
import HandS.Wide
import PyProof.ReprRoads
import HandS.SortKw
import KE.DataMinMax
import HandS.IsInst
import HandS.More
import KE.GoesEnum
import HandS.Walk
import HandS.Flow
import HandS.OwnEq
import HandS.SetFor
import HandS.Strs
import HandS.Zip
import HandS.Star
import HandS.TupAny
import HandS.Style
import KE.KRevSl
import PyProof.ReprBulk
import HandS.Text
import HandS.FStr
import HandS.RaiseMore
import HandS.StrMore
import HandS.MakeKwOnly
import HandS.Defaults
import PySem.Challenge.RW_roadsizes_k80_texts_of_ways
section
set_option Elab.async false
set_option linter.all false
set_option maxRecDepth 100000
set_option maxHeartbeats 4000000
/-! ## G: defs that are entered with no repr under way (guards known), so that repr of containers can be told -/
namespace G
open PySem PySem.Spec PyProof.Rows L2

/-- a def's promise, kept where no repr is under way -/
structure Ok (P : Program) (w : World) (K : PySem.W.Frag) (mg : Str → Option Value) (base : Heap) (CX : CXT) (k : Nat) (f : Addr) (fd : FuncData) (ps : List Str) (sp : Sp) : Prop where
  len : ∀ vs H Q E, sp vs H Q E → vs.length = ps.length
  go : ∀ (A : Around), A.guards = some [] → ∀ (outer : List Env) (s : Shared) (H : Hp) (args : Args) (us : List Value) (vs : List V) (Q : VK) (E : XK),
    Room k A → Env0 P w K mg base A outer s H → BindsTo s fd args (ps.zip us) → Vals vs us → sp vs H Q E → codeAny (model P w) A (.call (.ref f) args) (CR CX outer P w H s Q E) s
section
variable {P : Program} {w : World} {K : PySem.W.Frag} {mg : Str → Option Value} {base : Heap} {CX : CXT}
theorem Ok.mono {j k : Nat} {f : Addr} {fd : FuncData} {ps : List Str} {sp : Sp} (F : Ok P w K mg base CX j f fd ps sp) (h : j ≤ k) : Ok P w K mg base CX k f fd ps sp :=
  ⟨F.len, fun A hg outer s H args us vs Q E hr => F.go A hg outer s H args us vs Q E (hr.mono h)⟩
theorem Ok.of {k : Nat} {f : Addr} {fd : FuncData} {ps : List Str} {sp : Sp} (F : FnOk P w K mg base CX k f fd ps sp) : Ok P w K mg base CX k f fd ps sp :=
  ⟨F.len, fun A _ => F.run A⟩

theorem mk {k : Nat} {x qual : Str} {st : Stmt} {f : Addr} {fd : FuncData} {N ps : List Str} {sp : Sp} (F : Fun K x qual st f fd) (S : FnScope N ps (defScope st)) (len : ∀ vs H Q E, sp vs H Q E → vs.length = ps.length)
    (walk : ∀ (cdv : Value) (A : Around) (outer : List Env) (s : Shared) (H : Hp) (vs : List V) (Q : VK) (E : XK), A.guards = some [] → Room k (A.deeper (envOfC qual (defScope st) s.heap.objs.size f cdv)) → sp vs H Q E →
      ∃ t, PSs (cxOf CX P w K mg base N qual (defScope st) f cdv A outer s H E).nox (defBody st) t ∧ t { nx := fun _ H' => Q .non H', rt := Q } (start N vs) H) :
    Ok P w K mg base CX (k + 1) f fd ps sp := by
  refine ⟨len, ?_⟩
  obtain ⟨oc, od, kV, doc, pm, an, cdv, ct, osl, hfd, lk, cd⟩ := F.ex
  intro A hg outer s H args us vs Q E hr e0 hb rv hsp
  subst hfd
  have stay : ∀ b o, base.get? b = some o → s.heap.get? b = some o := fun b o e => (e0.bs b o e).1
  have KX : K.In s.heap := e0.mod.kin.keeps stay
  have par : ∀ y ∈ ps.zip us, (defScope st).names.lookup y.1 = some .local ∨ ((defScope st).names.lookup y.1 = some .cell ∧ ((cellsFrom (s.heap.objs.size + 1) (defScope st).names []).lookup y.1).isSome = true) := by
    rintro ⟨n, v⟩ hy
    cases S.par n (List.of_mem_zip hy).1 with
    | inl q => exact .inl q
    | inr q => exact .inr ⟨q, PySem.W.cellsFrom_some _ _ _ (.inl q)⟩
  refine codeAny_call_function hr.depth (KX _ _ lk) rfl S.co S.gen rfl (PySem.W.codeRec_of KX cd) (hb _ _ _ _ (wpAny_newFunctionEnv_cells S.kind par ?_))
  intro env he s1 x
  subst he
  refine ⟨(e0.mod.nolimit.keeps stay).keeps x.toInCall.keep, codeAny_func ?_⟩
  obtain ⟨t, ht, hq⟩ := walk cdv A outer s H vs Q E hg (hr.deeper _) hsp
  refine wpAny_mono (ht.nox.run [] s1 (start N vs) H _ (inv_start S hr.hd e0 (len _ _ _ _ hsp) rv x) hq) ?_ fun e s' hs => hs
  intro fl s' hs
  cases fl with
  | ret u => obtain ⟨v, σ', H', J, ru, q⟩ := hs; exact ⟨v, H', J.os, J.bare, J.base, J.hok, ru, q⟩
  | next => obtain ⟨σ', H', J, q⟩ := hs; exact ⟨.non, H', J.os, J.bare, J.base, J.hok, rfl, q⟩
  | brk => obtain ⟨_, _, _, q⟩ := hs; exact q.elim
  | cont => obtain ⟨_, _, _, q⟩ := hs; exact q.elim

/-- the law's entry: callerA has no guard -/
theorem enter {mb : Str → Option Value} {k : Nat} {fa a : Addr} {fd : FuncData} {x : Str} {sp : Sp} {s₁ : Shared} {vs : List Value} {H : Hp}
    (KX : K.In s₁.heap) (hns : s₁.heap.Ns mainGlobals mg) (hb : s₁.heap.Ns builtinsNs mb) (hbb : ∀ x : Str, x ≠ "__name__" → mb x = bootBuiltins x) (hlim : s₁.heap.NoLimit) (hgen : s₁.gens = #[])
    (ha : s₁.heap.get? a = some { cls := .type "list", data := .seq vs.toArray }) (hr : Room k callerA)
    (F : ∀ base : Heap, K.In base → base.Ns mainGlobals mg → Ok P w K mg base CX k fa fd [x] sp) (hbind : ∀ (s : Shared) (u : Value), BindsTo s fd ⟨[u], []⟩ [(x, u)])
    (hO : Only H) (hok : HOk P w H s₁.heap) (only_a : ∀ b o, H b = some o → b = a) (notK : (∃ o, H a = some o) → K.lookup a = none)
    (hsp : sp [.ref a] H (fun v _ => v = .bl true) fun _ _ _ => False) (hCX : ∀ H e s', CX [] H s₁ (fun _ _ _ => False) e s' → False) :
    codeAny (model P w) callerA (.call (.ref fa) ⟨[.ref a], []⟩) (fun r s' => r = .ok (.ret (.bool true)) ∧ OldK s₁.heap s'.heap ∧ s'.os = s₁.os ∧ AllBare s'.gens) s₁ := by
  have free : ∀ {b : Addr}, b ≠ a → H b = none := fun {b} hne => by
    cases q : H b with
    | none => rfl
    | some u => exact absurd (only_a b u q) hne
  have dic : ∀ {b : Addr} {m : Str → Option Value}, s₁.heap.Ns b m → (hidT s₁.heap H).Ns b m := by
    rintro b m ⟨o, es, ep, e, d, r⟩
    refine ⟨o, es, ep, hidT_get e (free ?_), d, r⟩
    rintro rfl
    rw [ha] at e
    cases e
    cases d
  have kin : K.In (hidT s₁.heap H) := by
    intro b o e
    refine hidT_get (KX b o e) ?_
    cases q : H b with
    | none => rfl
    | some u =>
      have hba := only_a b u q
      subst hba
      rw [notK ⟨u, q⟩] at e
      cases e
  obtain ⟨mc, l1, l2⟩ := hlim
  have e0 : Env0 P w K mg (hidT s₁.heap H) callerA [] s₁ H :=
    { frames := rfl, mod := ⟨kin, dic hns, ⟨mb, dic hb, hbb⟩, ⟨mc, dic l1, l2⟩⟩, bs := fun b o e => of_hidT e, bsz := Nat.le_of_eq (hidT_size _ _), funs := trivial, frf := fun b z => (List.not_mem_nil z).elim, hok := hok, bare := .of_eq hgen }
  refine codeAny_mono ((F _ kin (dic hns)).go callerA rfl [] s₁ H _ [.ref a] _ _ _ hr e0 (hbind s₁ (.ref a)) (.cons (show RelV (.ref a) (.ref a) from rfl) .nil) hsp) ?_
  intro r s' h
  match r, h with
  | .error e, h => exact (hCX H e s' h).elim
  | .ok .next, h => exact h.elim
  | .ok .brk, h => exact h.elim
  | .ok .cont, h => exact h.elim
  | .ok (.ret u), ⟨v, H', os, bare, un, hok', rv, q⟩ =>
    cases (q : v = .bl true)
    cases (rv : u = .bool true)
    refine ⟨rfl, OldK.of_keep fun b o e => ?_, os, bare⟩
    by_cases q : H b = none
    · exact un.keep b o e q List.not_mem_nil List.not_mem_nil
    · rcases hO b with z | ⟨ob, xs, z⟩
      · exact absurd z q
      · have k1 := (hok b _ z).1
        rw [e] at k1
        cases k1
        exact (hok' b _ (un.frzs b _ _ z)).1

theorem walk {l : PySem.W.OpenLaw} {n k : Nat} {q : Program} {loose : List Str} {XP : (Str → Option Value) → Heap → Prop} {YP : World → Heap → Prop} {d : DefRec} {K : Params → PySem.W.Frag} {sp : PySem.W.Frag → Sp} {x : Str}
    (hn : l.most = some n) (hn2 : n ≤ sizeLine) (hdf : d.params.defaults = []) (hr : Room k callerA) (hY : ∀ (w : World) (h : Heap), YP w h → (K w.params).In h)
    (F : ∀ (w : World) (mg : Str → Option Value) (fa : Addr) (h : Heap), (K w.params).In h → h.Ns mainGlobals mg → mg d.name = some (.ref fa) →
      ∃ fd : FuncData, (∀ (s : Shared) (u : Value), BindsTo s fd ⟨[u], []⟩ [(x, u)]) ∧ ∀ base : Heap, (K w.params).In base → base.Ns mainGlobals mg → Ok l.prog w (K w.params) mg base CX0 k fa fd [x] (sp (K w.params)))
    (hsp : ∀ (K : PySem.W.Frag) (H : Hp) (a : Addr) (ns : List Int), ns.length ≤ n → (∀ z ∈ ns, Builtin.Int.intBits z ≤ 1048576) → SqL K H a (ns.map V.int) → sp K [.ref a] H (fun v _ => v = .bl true) fun _ _ _ => False) :
    PySem.W.WalkO q loose XP YP l.row.toRowW d [] (fun f vs => PySem.call f vs) := by
  refine Att.attach_callB hn hdf ?_
  intro w s₀ s₁ mg mb fa o pm cd doc a vs ns G Y ho hd hcd hmg hobj hints hlen hbits hg
  have KX := hY w _ Y
  obtain ⟨fd, hb, hF⟩ := F w mg fa _ KX G.T.g hmg
  have rv := vals_ints hints
  have zl : ns.length ≤ sizeLine := Nat.le_trans hlen hn2
  have wish := fun (H : Hp) (S : SqL (K w.params) H a (ns.map V.int)) => hsp (K w.params) H a ns hlen hbits S
  by_cases hk : (K w.params).lookup a = none
  · refine enter (H := fun b => if b = a then some (.frz { cls := .type "list", data := .seq vs.toArray } (.lst (ns.map V.int))) else none) KX G.T.g G.T.b G.T.builtins G.T.nolimit hg hobj hr hF hb ?_ ?_ ?_ (fun _ => hk) (wish _ ?_) fun _ _ _ z => z
    · intro b
      by_cases e : b = a
      · exact .inr ⟨_, _, if_pos e⟩
      · exact .inl (if_neg e)
    · intro b o e
      by_cases z : b = a
      · subst z
        cases (if_pos rfl).symm.trans e
        exact ⟨hobj, by rw [List.length_map]; exact zl, vs, _, rv, hobj⟩
      · cases (if_neg z).symm.trans e
    · intro b o e
      by_cases z : b = a
      · exact z
      · cases (if_neg z).symm.trans e
    · exact .inl (.inr ⟨_, if_pos rfl⟩)
  · obtain ⟨o, ek⟩ := Option.ne_none_iff_exists'.mp hk
    have eo := (KX a o ek).symm.trans hobj
    cases eo
    refine enter (H := fun _ => none) KX G.T.g G.T.b G.T.builtins G.T.nolimit hg hobj hr hF hb (fun _ => .inl rfl) (fun b o e => nomatch e) (fun b o e => nomatch e) (fun ⟨o, e⟩ => nomatch e) (wish _ ?_) fun _ _ _ z => z
    refine .inr ⟨_, vs.toArray, _, ek, rfl, rfl, rfl, ?_, by simpa using rv⟩
    rw [List.size_toArray, hints.length]
    exact zl
end
end G

end
section
set_option Elab.async false
set_option linter.all false
set_option maxRecDepth 100000
set_option maxHeartbeats 4000000
/-! ## repr of containers; int ** int of great ints -/
namespace G
open PySem PySem.Spec PyProof.Rows L2
def keyD : Key → PyData
  | .inl i => .int i
  | .inr x => .str x
mutual
/-- data at a value: as it is read off the abstract heap; lists and no dict (true), or dicts and no list (false) -/
inductive Dr (K : PySem.W.Frag) (H : Hp) : Bool → V → PyData → Prop
  | non {m : Bool} : Dr K H m .non .none
  | bl {m : Bool} (b : Bool) : Dr K H m (.bl b) (.bool b)
  | int {m : Bool} (i : Int) : Dr K H m (.int i) (.int i)
  | str {m : Bool} (x : Str) : Dr K H m (.str x) (.str x)
  | lst {a : Addr} {xs : List V} {ds : List PyData} : SqL K H a xs → DrA K H true xs ds → Dr K H true (.ref a) (.list ds)
  | tup {m : Bool} {a : Addr} {xs : List V} {ds : List PyData} : SqT K H a xs → DrA K H m xs ds → Dr K H m (.ref a) (.tuple ds)
  | dic {a : Addr} {kvs : List (Key × V)} {ds : List PyData} : H a = some (.dK kvs) → DrA K H false (kvs.map (·.2)) ds → Dr K H false (.ref a) (.dict ((kvs.map fun p => keyD p.1).zip ds))
inductive DrA (K : PySem.W.Frag) (H : Hp) : Bool → List V → List PyData → Prop
  | nil {m : Bool} : DrA K H m [] []
  | cons {m : Bool} {v : V} {vs : List V} {d : PyData} {ds : List PyData} : Dr K H m v d → DrA K H m vs ds → DrA K H m (v :: vs) (d :: ds)
end
theorem DrA.len {K : PySem.W.Frag} {H : Hp} {m : Bool} : ∀ {vs : List V} {ds : List PyData}, DrA K H m vs ds → vs.length = ds.length
  | _, _, .nil => rfl
  | _, _, .cons _ t => congrArg Nat.succ (DrA.len t)
mutual
theorem Dr.noDict {K : PySem.W.Frag} {H : Hp} : ∀ (d : PyData) (v : V), Dr K H true v d → d.hasDict = false
  | .none, _, _ => by simp only [PyData.hasDict]
  | .bool _, _, _ => by simp only [PyData.hasDict]
  | .int _, _, _ => by simp only [PyData.hasDict]
  | .str _, _, _ => by simp only [PyData.hasDict]
  | .list ds, _, h => by
    cases h with
    | lst _ ha => simp only [PyData.hasDict]; exact DrA.noDict ds _ ha
  | .tuple ds, _, h => by
    cases h with
    | tup _ ha => simp only [PyData.hasDict]; exact DrA.noDict ds _ ha
  | .dict _, _, h => by cases h
theorem DrA.noDict {K : PySem.W.Frag} {H : Hp} : ∀ (ds : List PyData) (vs : List V), DrA K H true vs ds → PyData.hasDictAll ds = false
  | [], _, _ => by simp only [PyData.hasDictAll]
  | d :: ds, _, h => by
    cases h with
    | cons a b => simp only [PyData.hasDictAll, Dr.noDict d _ a, DrA.noDict ds _ b, Bool.or_self]
end
theorem keys_read {P : Program} {w : World} {h : Heap} : ∀ {es : List DictEntry} {kvs : List (Key × V)} {vs : List (Key × Value)}, Pairs (mixKind P w) es vs → KV kvs vs →
    ∃ as, ReadsAll h (es.map (·.key)) (kvs.map fun p => keyD p.1) as ∧ as = []
  | _, _, _, .nil, .nil => ⟨_, .nil, rfl⟩
  | _, _, _, .cons hk hv hp, .cons r t => by
    obtain ⟨as, q, e⟩ := keys_read (P := P) (w := w) (h := h) hp t
    subst e
    have hk' : keyIs _ _ = true := hk
    rw [← r.1] at hk'
    rename_i e' _ _ _ p' _
    rcases keyIs_shape hk' with ⟨i, t, ek, ev⟩ | ⟨x, t, ek, ev⟩
    · refine ⟨[], ?_, rfl⟩
      have z := ReadsAll.cons (h := h) (Reads.int i t) q
      rw [← ev] at z
      have ke : keyD p'.1 = .int i := by rw [ek]; rfl
      rw [List.map_cons, List.map_cons, ke]
      exact z
    · refine ⟨[], ?_, rfl⟩
      have z := ReadsAll.cons (h := h) (Reads.str x t) q
      rw [← ev] at z
      have ke : keyD p'.1 = .str x := by rw [ek]; rfl
      rw [List.map_cons, List.map_cons, ke]
      exact z
theorem vals_of {P : Program} {w : World} : ∀ {es : List DictEntry} {kvs : List (Key × V)} {vs : List (Key × Value)}, Pairs (mixKind P w) es vs → KV kvs vs → Vals (kvs.map (·.2)) (es.map (·.val))
  | _, _, _, .nil, .nil => .nil
  | _, _, _, .cons hk hv hp, .cons r t => .cons (by show RelV _ (DictEntry.val _); rw [hv]; exact r.2) (vals_of hp t)
section
variable {X : Cx} {pins : List (Addr × Obj)} {σ : L2.St} {H : Hp} {s : Shared}
mutual
theorem Dr.reads (I : Inv X pins σ H s) {m : Bool} : ∀ (d : PyData) (v : V) (u : Value), Dr X.K H m v d → RelV v u → ∃ as, Reads s.heap u d as ∧ (m = false → sysModules ∉ as)
  | .none, _, _, h, r => by
    cases h
    cases r
    exact ⟨_, Reads.none, fun _ => List.not_mem_nil⟩
  | .bool b, _, _, h, r => by
    cases h
    cases r
    exact ⟨_, Reads.bool b, fun _ => List.not_mem_nil⟩
  | .int i, _, _, h, r => by
    cases h
    obtain ⟨t, rfl⟩ := r
    exact ⟨_, Reads.int i t, fun _ => List.not_mem_nil⟩
  | .str x, _, _, h, r => by
    cases h
    obtain ⟨t, rfl⟩ := r
    exact ⟨_, Reads.str x t, fun _ => List.not_mem_nil⟩
  | .list ds, _, _, h, r => by
    cases h with
    | @lst a xs _ hs ha =>
      cases r
      obtain ⟨its, rv, ⟨o, n, ho, hc, _, hd⟩, _⟩ := I.list hs
      obtain ⟨as, hr, hn⟩ := DrA.reads I ds _ its ha rv
      exact ⟨_, Reads.list ho hc hd hr, fun z => by cases z⟩
  | .tuple ds, _, _, h, r => by
    cases h with
    | tup hs ha =>
      cases r
      obtain ⟨its, rv, ⟨o, ho, hc, n, hd⟩, _⟩ := I.tuple hs
      obtain ⟨as, hr, hn⟩ := DrA.reads I ds _ its ha rv
      exact ⟨_, Reads.tuple ho hc hd hr, hn⟩
  | .dict kds, _, _, h, r => by
    cases h with
    | @dic a kvs ds hs ha =>
      cases r
      obtain ⟨_, hsys, vs, rk, o, es, ep, ho, hx, hd, _, hp, _⟩ := (show ObjOk X.prog X.w H s.heap a (.dK kvs) from I.hok a _ hs)
      obtain ⟨_, hk, e⟩ := keys_read (h := s.heap) hp rk
      subst e
      have hl : (kvs.map fun p => keyD p.1).length = ds.length := by rw [List.length_map, ← ha.len, List.length_map]
      have e1 : ((kvs.map fun p => keyD p.1).zip ds).map (·.1) = kvs.map fun p => keyD p.1 := List.map_fst_zip (Nat.le_of_eq hl)
      have e2 : ((kvs.map fun p => keyD p.1).zip ds).map (·.2) = ds := List.map_snd_zip (Nat.le_of_eq hl.symm)
      have ha' : DrA X.K H false (kvs.map (·.2)) (((kvs.map fun p => keyD p.1).zip ds).map (·.2)) := by rw [e2]; exact ha
      obtain ⟨bs, hr, hn⟩ := DrA.reads2 I ((kvs.map fun p => keyD p.1).zip ds) _ _ ha' (vals_of hp rk)
      refine ⟨_, Reads.dict ho hx.1 hd (by rw [e1]; exact hk) hr, fun _ z => ?_⟩
      rcases List.mem_append.mp z with z | z
      · rcases List.mem_cons.mp z with e | e
        · rw [← e] at hsys
          simp at hsys
        · exact absurd e List.not_mem_nil
      · exact hn rfl z
theorem DrA.reads (I : Inv X pins σ H s) {m : Bool} : ∀ (ds : List PyData) (vs : List V) (us : List Value), DrA X.K H m vs ds → Vals vs us → ∃ as, ReadsAll s.heap us ds as ∧ (m = false → sysModules ∉ as)
  | [], _, _, h, r => by
    cases h
    cases r
    exact ⟨_, ReadsAll.nil, fun _ => List.not_mem_nil⟩
  | d :: ds, _, _, h, r => by
    cases h with
    | cons h1 h2 =>
      cases r with
      | cons r1 r2 =>
        obtain ⟨as, q1, n1⟩ := Dr.reads I d _ _ h1 r1
        obtain ⟨bs, q2, n2⟩ := DrA.reads I ds _ _ h2 r2
        exact ⟨_, ReadsAll.cons q1 q2, fun e z => (List.mem_append.mp z).elim (n1 e) (n2 e)⟩
theorem DrA.reads2 (I : Inv X pins σ H s) {m : Bool} : ∀ (kds : List (PyData × PyData)) (vs : List V) (us : List Value), DrA X.K H m vs (kds.map (·.2)) → Vals vs us → ∃ as, ReadsAll s.heap us (kds.map (·.2)) as ∧ (m = false → sysModules ∉ as)
  | [], _, _, h, r => by
    cases h
    cases r
    exact ⟨_, ReadsAll.nil, fun _ => List.not_mem_nil⟩
  | (k, d) :: ds, _, _, h, r => by
    cases h with
    | cons h1 h2 =>
      cases r with
      | cons r1 r2 =>
        obtain ⟨as, q1, n1⟩ := Dr.reads I d _ _ h1 r1
        obtain ⟨bs, q2, n2⟩ := DrA.reads2 I ds _ _ h2 r2
        exact ⟨_, ReadsAll.cons q1 q2, fun e z => (List.mem_append.mp z).elim (n1 e) (n2 e)⟩
end
end
/-- repr of a list that is not empty: what is read below it is none of the interpreter's own dict -/
theorem repr_top {prog : Program} {w : World} {A : Around} {E : Value → Shared → Prop} {s : Shared} {a : Addr} {o : Obj} {v : Value} {vs : List Value} {n : Nat} {ds : List PyData} {as : List Addr} {Q : Value → Shared → Prop} (ho : s.heap.get? a = some o) (hc : o.cls = .type "list") (hd : o.data = .seq (v :: vs).toArray n)
    (hr : ReadsAll s.heap (v :: vs) ds as) (hn : sysModules ∉ as) (hs : PyData.showableAll ds = true) (hg : A.guards = some []) (hu : A.units + ((PyData.list ds).depth + 1) < cLine) (hz : (PyData.list ds).shown.length ≤ sizeLine)
    (hQ : ∀ h' u tk, (∀ b o, s.heap.get? b = some o → h'.get? b = some o) → Q (.str (PyData.list ds).shown u) { s with heap := h', toks := tk }) : wpAny (model prog w) A (call (.builtin "repr") [.ref a]) Q E s := by
  have depth : (PyData.list ds).depth = PyData.depthAll ds + 1 := by simp only [PyData.depth]
  have text : (PyData.list ds).shown = listText (PyData.shownAll ds) := by simp only [PyData.shown]
  rw [text] at hz
  rw [depth] at hu
  obtain ⟨bs, most, items⟩ := ReprAllK.of_readsAll (prog := prog) (w := w) hr hs (fun _ => hn) (fun t ht => Nat.le_trans (listText_mem_le ht) hz)
  have apart : a ∉ bs := not_mem_of_deeper (.list ho hc hd (by simpa using hr)) (by rw [depth]; omega) most
  refine call_repr_slot (by omega) ⟨o, ho, hc⟩ F.slot_list_repr.toG ?_
  refine call_list_reprK ho hc hd apart (by simpa using items.length_eq) (fun i y e => items.item i y (by simpa using e)) hg (fun b _ => Clear.nil b) (by show A.units + 1 + _ < cLine; omega) (fun _ _ e => e) (fun h' u tk k => ⟨_, _, rfl, ?_⟩) hz
  rw [← text]
  exact hQ h' u tk k
def rRepr (K : PySem.W.Frag) : List V → Hp → VK → Prop := fun xs H Q => ∃ (a : Addr) (m : Bool) (y : V) (ys : List V) (ds : List PyData), xs = [.ref a] ∧ SqL K H a (y :: ys) ∧ DrA K H m (y :: ys) ds ∧ (PyData.list ds).showable = true ∧ (PyData.list ds).depth ≤ 20 ∧ (PyData.list ds).shown.length ≤ sizeLine ∧ Q (.str (PyData.list ds).shown) H
theorem call_repr {X : Cx} (hg : X.A.guards = some []) (hu : X.A.units + 64 < cLine) : CallR X (.builtin "repr") (rRepr X.K) := by
  intro pins s σ H xs us Q I r h
  obtain ⟨a, m, y, ys, ds, rfl, hL, hd, hs, hl, hz, q⟩ := h
  cases r with
  | cons rx rr =>
    cases rr
    cases rx
    have fin : ∀ (h' : Heap) (u : Tok) (tk : Nat), (∀ b o, s.heap.get? b = some o → h'.get? b = some o) → EP X pins σ Q (.str (PyData.list ds).shown u) { s with heap := h', toks := tk } := fun h' u tk k => ⟨.str (PyData.list ds).shown, H, I.kept (t' := tk) k, ⟨u, rfl⟩, q⟩
    obtain ⟨its, rv, ⟨o, n, ho, hc, _, hd'⟩, _⟩ := I.list hL
    obtain ⟨as, hr, hn⟩ := DrA.reads I ds _ its hd rv
    cases m with
    | true =>
      refine repr_of_reads' (.list ho hc hd' hr) hs (fun z => ?_) hg (by omega) (fun _ _ e => e) fin hz
      rw [show (PyData.list ds).hasDict = PyData.hasDictAll ds by simp only [PyData.hasDict], DrA.noDict ds _ hd] at z
      cases z
    | false =>
      cases rv with
      | cons r1 r2 => exact repr_top ho hc hd' hr (hn rfl) (by simpa only [PyData.showable] using hs) hg (by omega) hz fin
def rReprF : List V → Hp → VK → Prop := fun xs H Q => (xs = [.non] ∧ Q (.str "None") H) ∨ (∃ b, xs = [.bl b] ∧ Q (.str (if b then "True" else "False")) H) ∨ ∃ i, xs = [.int i] ∧ i.natAbs.log2 < 1920 ∧ Q (.str (toString i)) H
theorem call_reprF {X : Cx} : CallR X (.builtin "repr") rReprF := by
  intro pins s σ H xs us Q I r h
  rcases h with ⟨rfl, q⟩ | ⟨b, rfl, q⟩ | ⟨i, rfl, hz, q⟩
  · cases r with
    | cons rx rr => cases rr; cases rx; exact PySem.P.repr_of_none ⟨.str _, H, I.tok _, ⟨_, rfl⟩, q⟩
  · cases r with
    | cons rx rr => cases rr; cases rx; exact PySem.P.repr_of_bool ⟨.str _, H, I.tok _, ⟨_, rfl⟩, q⟩
  · cases r with
    | cons rx rr => cases rr; obtain ⟨t, rfl⟩ := rx; exact PySem.P.repr_of_int hz ⟨.str _, H, I.tok _, ⟨_, rfl⟩, q⟩
/-- a ** n, n a small written number, a of any size -/
theorem op_powN {X : Cx} : OpR X (binaryOp .Pow) (rI (fun i j => 0 ≤ j ∧ (Builtin.Int.intBits i : Int) * j ≤ 2 ^ 27) fun i j => .int (i ^ j.toNat)) := opI fun _ _ _ _ _ _ _ hc q => pow_int hc.1 hc.2 q
end G

end
section
set_option Elab.async false
set_option linter.all false
set_option maxRecDepth 100000
set_option maxHeartbeats 4000000
/-! ## max of a list of ints, with and without default= -/
namespace G
open PySem PySem.Spec PyProof.Rows L2 PySem.W
theorem ints_reads {h : Heap} : ∀ {ns : List Int} {us : List Value}, Vals (ns.map V.int) us → ReadsAll h us (ns.map PyData.int) []
  | [], _, r => by cases r; exact .nil
  | n :: ns, _, r => by
    cases r with
    | cons a b =>
      obtain ⟨t, rfl⟩ := a
      exact .cons (as := []) (bs := []) (.int n t) (ints_reads b)
theorem ints_alike : ∀ ns : List Int, AlikeAll (ns.map PyData.int) := by
  intro ns
  refine ⟨fun x hx y hy => ?_, fun x hx => ?_⟩
  · obtain ⟨a, _, rfl⟩ := List.mem_map.mp hx
    obtain ⟨b, _, rfl⟩ := List.mem_map.mp hy
    rfl
  · obtain ⟨a, _, rfl⟩ := List.mem_map.mp hx
    intro z
    cases z
theorem ints_depth : ∀ ns : List Int, PyData.depthAll (ns.map PyData.int) = 0
  | [] => by simp only [List.map_nil, PyData.depthAll]
  | n :: ns => by simp only [List.map_cons, PyData.depthAll, PyData.depth, ints_depth ns, Nat.max_self]
theorem int_reads {h : Heap} {v : Value} {n : Int} {bs : List Addr} (r : Reads h v (.int n) bs) : RelV (.int n) v := by
  cases r
  exact ⟨_, rfl⟩
def rMaxID (K : PySem.W.Frag) : List V → List V → Hp → VK → Prop := fun xs zs H Q => ∃ (a : Addr) (ns : List Int) (d : Int), xs = [.ref a] ∧ zs = [.int d] ∧ SqL K H a (ns.map V.int) ∧ Q (.int (match ns with | [] => d | n :: r => r.foldl max n)) H
section
variable {X : Cx}
theorem call_maxID (hc : X.calm = true) (hu : X.A.units + 64 < cLine) : CallRK X (.builtin "max") ["default"] (rMaxID X.K) := by
  intro pins s σ H xs zs us ws Q I r rz h
  obtain ⟨a, ns, d, rfl, rfl, hL, q⟩ := h
  cases r with
  | cons rx rr =>
    cases rr
    cases rx
    cases rz with
    | cons ra rb =>
      cases rb
      obtain ⟨td, rfl⟩ := ra
      obtain ⟨its, rv, pl, _⟩ := I.list hL
      have hr := ints_reads (h := s.heap) rv
      refine max_list_default (xs := ns.map .int) (d := .int d td) (I.ok.hd hc) pl.isList (by simpa using hr) (ints_alike ns) (by rw [ints_depth]; omega) (fun e h' tk k => ?_) fun y ys i v h' tk bs e hv hR k => ?_
      · cases ns with
        | nil => exact ⟨.int d, H, I.kept (t' := tk) k, ⟨td, rfl⟩, q⟩
        | cons n r => cases e
      · cases ns with
        | nil => cases e
        | cons n r =>
          injection e with e1 e2
          subst e1 e2
          rw [maxD_ints] at hR
          exact ⟨.int _, H, I.kept (t' := tk) k, int_reads hR, q⟩
end
end G

end
section
set_option autoImplicit false
/-! ## ways and what becomes of letters: a mirror, and that a lesser body fares no worse -/
namespace M
inductive LW where
  | cut | tell | drop
  deriving DecidableEq
inductive TW where
  | turn | keep | lose
  deriving DecidableEq
mutual
inductive Way where
  | mk (head : Nat) (steps : List Step)
inductive Step where
  | road (size : Nat) (tellS : Bool) (loose : LW)
  | join (most : Nat)
  | tunnel (w : Way) (most : Nat) (t : TW)
end
def Way.head : Way → Nat
  | .mk h _ => h
def Way.steps : Way → List Step
  | .mk _ s => s
inductive Fate where
  | comes (l : List Nat)
  | told (size : Int) (place : List Nat)
  | silent (place : List Nat)
  deriving DecidableEq
/-- what a step makes of stretches; an end as it is seen from the step -/
def parts (c x : Nat) : List Nat := (List.range ((x + c - 1) / c)).map fun k => min c (x - k * c)
def cutAll (c : Nat) (l : List Nat) : List Nat := l.flatMap (parts c)
def road (h size : Nat) (tellS : Bool) (lw : LW) (sealed : Bool) (l : List Nat) : Fate :=
  if ∀ x ∈ l, x ≤ size - h then .comes l
  else if sealed then (if tellS then .told size [] else .silent [])
  else match lw with
    | .cut => .comes (cutAll (size - h) l)
    | .tell => .told size []
    | .drop => .silent []
def join (most : Nat) (l : List Nat) : Fate := if l.length > most then .silent [] else .comes [l.sum]
def turned (ih : Nat) (t : TW) : Fate → Fate
  | .told s p => if t = .turn then .told (s - ih) p else .silent p
  | .silent p => .silent p
  | .comes _ => .silent []
def seen (i : Nat) : Fate → Fate
  | .told s p => .told s (i :: p)
  | .silent p => .silent (i :: p)
  | .comes l => .comes l
/-- the tunnel, by what the inner way makes of each stretch -/
def tunnel (inner : Nat → Fate) (ih most : Nat) (t : TW) (l : List Nat) : List Nat → Fate
  | [] => .comes l
  | x :: r => match inner x with
    | .comes m => if m.length > most then .silent [] else tunnel inner ih most t l r
    | f => turned ih t f
mutual
def Way.walk (sealed : Bool) : Way → Nat → Fate
  | .mk h steps, b => Way.from sealed h steps 0 [b]
def Way.from (sealed : Bool) (h : Nat) : List Step → Nat → List Nat → Fate
  | [], _, l => .comes l
  | s :: r, i, l => match Step.does sealed h s l with
    | .comes m => Way.from sealed h r (i + 1) m
    | f => seen i f
def Step.does (sealed : Bool) (h : Nat) : Step → List Nat → Fate
  | .road size ts lw, l => road h size ts lw sealed l
  | .join most, l => join most l
  | .tunnel w most t, l => tunnel (fun x => Way.walk sealed w (h + x)) w.head most t l l
end
/-! ### truncation -/
def tr : List Nat → Nat → List Nat
  | _, 0 => []
  | [], _ + 1 => []
  | x :: l, b + 1 => if b + 1 ≤ x then [b + 1] else x :: tr l (b + 1 - x)
theorem tr_zero (l : List Nat) : tr l 0 = [] := by cases l <;> rfl
theorem tr_cons {x b : Nat} {l : List Nat} (hb : 0 < b) : tr (x :: l) b = if b ≤ x then [b] else x :: tr l (b - x) := by
  cases b with
  | zero => omega
  | succ b => rfl
theorem tr_nil (b : Nat) : tr [] b = [] := by cases b <;> rfl
theorem tr_mem : ∀ (l : List Nat) (b x : Nat), x ∈ tr l b → ∃ y ∈ l, x ≤ y
  | [], b, x, h => by rw [tr_nil] at h; cases h
  | y :: l, b, x, h => by
    by_cases hb : 0 < b
    · rw [tr_cons hb] at h
      split at h
      · rename_i hy
        have e : x = b := by simpa using h
        exact ⟨y, List.mem_cons_self, by omega⟩
      · rcases List.mem_cons.mp h with e | e
        · exact ⟨y, List.mem_cons_self, by omega⟩
        · obtain ⟨z, hz, hx⟩ := tr_mem l _ x e
          exact ⟨z, List.mem_cons_of_mem _ hz, hx⟩
    · have e : b = 0 := by omega
      subst e
      rw [tr_zero] at h
      cases h
theorem tr_len : ∀ (l : List Nat) (b : Nat), (tr l b).length ≤ l.length
  | [], b => by rw [tr_nil]; exact Nat.le_refl _
  | y :: l, b => by
    by_cases hb : 0 < b
    · rw [tr_cons hb]
      split
      · simp
      · have := tr_len l (b - y)
        simp; omega
    · have e : b = 0 := by omega
      subst e
      rw [tr_zero]; simp
theorem tr_sum : ∀ (l : List Nat) (b : Nat), b ≤ l.sum → (tr l b).sum = b
  | [], b, h => by rw [tr_nil]; simp at h ⊢; omega
  | y :: l, b, h => by
    by_cases hb : 0 < b
    · rw [tr_cons hb]
      split
      · simp
      · simp at h ⊢
        have := tr_sum l (b - y) (by omega)
        omega
    · have e : b = 0 := by omega
      subst e
      rw [tr_zero]; rfl
theorem tr_all {l : List Nat} (h : ∀ x ∈ l, 0 < x) : tr l l.sum = l := by
  induction l with
  | nil => rfl
  | cons x l ih =>
    have hx := h x List.mem_cons_self
    rw [tr_cons (by simp; omega)]
    cases l with
    | nil => simp
    | cons y r =>
      have hy := h y (by simp)
      rw [if_neg (by simp; omega)]
      have e : (x :: y :: r).sum - x = (y :: r).sum := by simp
      rw [e, ih fun z hz => h z (List.mem_cons_of_mem _ hz)]
theorem tr_append : ∀ (l m : List Nat) (b : Nat), tr (l ++ m) b = if b ≤ l.sum then tr l b else l ++ tr m (b - l.sum)
  | [], m, b => by
    cases b with
    | zero => simp [tr_zero]
    | succ b => simp
  | x :: l, m, b => by
    by_cases hb : 0 < b
    · rw [List.cons_append, tr_cons hb, tr_cons hb, tr_append l m (b - x), List.sum_cons]
      by_cases h1 : b ≤ x
      · rw [if_pos h1, if_pos (by omega), if_pos h1]
      · rw [if_neg h1, if_neg h1]
        by_cases h2 : b ≤ x + l.sum
        · rw [if_pos (by omega), if_pos h2]
        · rw [if_neg (by omega), if_neg h2]
          have e : b - x - l.sum = b - (x + l.sum) := by omega
          rw [e]; rfl
    · have e : b = 0 := by omega
      subst e
      simp [tr_zero]
/-! ### cutting -/
theorem parts_small {c x : Nat} (h0 : 0 < x) (h : x ≤ c) : parts c x = [x] := by
  unfold parts
  have e : (x + c - 1) / c = 1 := by
    have e1 : x + c - 1 = (x - 1) + c * 1 := by omega
    rw [e1, Nat.add_mul_div_left _ _ (by omega : 0 < c), Nat.div_eq_of_lt (by omega)]
  rw [e]
  show [min c (x - 0 * c)] = [x]
  rw [Nat.zero_mul, Nat.sub_zero, Nat.min_eq_right h]
theorem parts_more {c x : Nat} (hc : 0 < c) (h : c < x) : parts c x = c :: parts c (x - c) := by
  unfold parts
  have e : (x + c - 1) / c = (x - c + c - 1) / c + 1 := by
    have e1 : x + c - 1 = (x - c + c - 1) + c * 1 := by omega
    rw [e1, Nat.add_mul_div_left _ _ hc]
  rw [e, List.range_succ_eq_map, List.map_cons, List.map_map]
  congr 1
  · rw [Nat.zero_mul, Nat.sub_zero, Nat.min_eq_left (by omega)]
  · apply List.map_congr_left
    intro k _
    show min c (x - (k + 1) * c) = min c (x - c - k * c)
    rw [Nat.succ_mul]
    congr 1
    omega
theorem parts_ind {c : Nat} {P : Nat → Prop} (hc : 0 < c) (small : ∀ x, 0 < x → x ≤ c → P x) (more : ∀ x, c < x → P (x - c) → P x) (x : Nat) (hx : 0 < x) : P x := by
  induction x using Nat.strongRecOn with
  | _ x ih =>
    by_cases h : x ≤ c
    · exact small x hx h
    · exact more x (by omega) (ih (x - c) (by omega) (by omega))
theorem parts_sum {c x : Nat} (hc : 0 < c) (hx : 0 < x) : (parts c x).sum = x := by
  refine parts_ind (P := fun x => (parts c x).sum = x) hc (fun x h1 h2 => ?_) (fun x h1 ih => ?_) x hx
  · rw [parts_small h1 h2]; simp
  · rw [parts_more hc h1, List.sum_cons, ih]; omega
theorem parts_pos {c x : Nat} (hc : 0 < c) (hx : 0 < x) : ∀ y ∈ parts c x, 0 < y ∧ y ≤ c ∧ y ≤ x := by
  refine parts_ind (P := fun x => ∀ y ∈ parts c x, 0 < y ∧ y ≤ c ∧ y ≤ x) hc (fun x h1 h2 => ?_) (fun x h1 ih => ?_) x hx
  · rw [parts_small h1 h2]
    intro y hy
    have e : y = x := by simpa using hy
    omega
  · rw [parts_more hc h1]
    intro y hy
    rcases List.mem_cons.mp hy with e | e
    · omega
    · have := ih y e
      omega
/-- the first piece -/
theorem parts_head {c x : Nat} (hc : 0 < c) (hx : 0 < x) : ∃ r, parts c x = min c x :: r := by
  by_cases h : x ≤ c
  · exact ⟨[], by rw [parts_small hx h, Nat.min_eq_right h]⟩
  · exact ⟨_, by rw [parts_more hc (by omega), Nat.min_eq_left (by omega)]⟩
theorem parts_tr {c : Nat} (hc : 0 < c) (x : Nat) (hx : 0 < x) : ∀ b, 0 < b → b ≤ x → tr (parts c x) b = parts c b := by
  refine parts_ind (P := fun x => ∀ b, 0 < b → b ≤ x → tr (parts c x) b = parts c b) hc (fun x h1 h2 b hb hbx => ?_) (fun x h1 ih b hb hbx => ?_) x hx
  · rw [parts_small h1 h2, tr_cons hb, if_pos hbx, parts_small hb (by omega)]
  · rw [parts_more hc h1, tr_cons hb]
    by_cases h : b ≤ c
    · rw [if_pos h, parts_small hb h]
    · rw [if_neg h, parts_more (x := b) hc (by omega), ih (b - c) (by omega) (by omega)]
theorem cut_sum {c : Nat} (hc : 0 < c) : ∀ {l : List Nat}, (∀ x ∈ l, 0 < x) → (cutAll c l).sum = l.sum
  | [], _ => rfl
  | x :: l, h => by
    show (parts c x ++ cutAll c l).sum = _
    rw [List.sum_append, parts_sum hc (h x List.mem_cons_self), cut_sum hc fun y hy => h y (List.mem_cons_of_mem _ hy), List.sum_cons]
theorem cut_tr {c : Nat} (hc : 0 < c) : ∀ {l : List Nat} {b : Nat}, (∀ x ∈ l, 0 < x) → b ≤ l.sum → cutAll c (tr l b) = tr (cutAll c l) b
  | [], b, _, _ => by rw [tr_nil]; show [] = tr [] b; rw [tr_nil]
  | x :: l, b, h, hb => by
    have hx := h x List.mem_cons_self
    show _ = tr (parts c x ++ cutAll c l) b
    by_cases h0 : 0 < b
    · rw [tr_append, parts_sum hc hx, tr_cons h0]
      by_cases h1 : b ≤ x
      · rw [if_pos h1, if_pos h1, parts_tr hc x hx b h0 h1]
        show parts c b ++ [] = _
        rw [List.append_nil]
      · rw [if_neg h1, if_neg h1]
        show parts c x ++ cutAll c (tr l (b - x)) = _
        rw [cut_tr hc (fun y hy => h y (List.mem_cons_of_mem _ hy)) (by simp at hb; omega)]
    · have e : b = 0 := by omega
      subst e
      rw [tr_zero, tr_zero]; rfl
theorem cut_same {c : Nat} : ∀ {l : List Nat}, (∀ x ∈ l, 0 < x ∧ x ≤ c) → cutAll c l = l
  | [], _ => rfl
  | x :: l, h => by
    show parts c x ++ cutAll c l = _
    have hx := h x List.mem_cons_self
    rw [parts_small hx.1 hx.2, cut_same fun y hy => h y (List.mem_cons_of_mem _ hy)]
    rfl
/-! ### the stretches of a letter, and those of a lesser one -/
/-- stretches of a body b -/
structure Good (b : Nat) (l : List Nat) : Prop where
  sum : l.sum = b
  ne : l ≠ []
  pos : 0 < b → ∀ x ∈ l, 0 < x
  zero : b = 0 → l = [0]
  first : ∀ x ∈ l, x ≤ l.headD 0
/-- stretches of b beside those of a body that is not less -/
def Rel (b : Nat) (l l' : List Nat) : Prop := if b = 0 then l = [0] else l = tr l' b
theorem good_one (b : Nat) : Good b [b] where
  sum := by simp
  ne := by simp
  pos := fun h x hx => by
    have e : x = b := by simpa using hx
    omega
  zero := fun h => by rw [h]
  first := fun x hx => by
    have e : x = b := by simpa using hx
    rw [e]
    exact Nat.le_refl b
theorem rel_one {b b' : Nat} (h : b ≤ b') : Rel b [b] [b'] := by
  unfold Rel
  split
  · rename_i e; rw [e]
  · rw [tr_cons (by omega), if_pos h]
/-- lesser stretches: each at most one of the greater, the first at most the first; no more of them -/
theorem rel_mem {b b' : Nat} {l l' : List Nat} (h : Rel b l l') (g : Good b' l') : ∀ x ∈ l, ∃ y ∈ l', x ≤ y := by
  unfold Rel at h
  split at h
  · subst h
    intro x hx
    have e : x = 0 := by simpa using hx
    cases l' with
    | nil => exact absurd rfl g.ne
    | cons y r => exact ⟨y, List.mem_cons_self, by omega⟩
  · subst h
    exact tr_mem l' b
theorem rel_len {b b' : Nat} {l l' : List Nat} (h : Rel b l l') (g : Good b' l') : l.length ≤ l'.length := by
  unfold Rel at h
  split at h
  · subst h
    cases l' with
    | nil => exact absurd rfl g.ne
    | cons y r => simp
  · subst h
    exact tr_len l' b
theorem good_cut {b c : Nat} {l : List Nat} (hc : 0 < c) (hb : 0 < b) (g : Good b l) : Good b (cutAll c l) := by
  have p := g.pos hb
  obtain ⟨y, r, rfl⟩ : ∃ y r, l = y :: r := by
    cases l with
    | nil => exact absurd rfl g.ne
    | cons y r => exact ⟨y, r, rfl⟩
  obtain ⟨r', hr⟩ := parts_head hc (p y List.mem_cons_self)
  have e : cutAll c (y :: r) = min c y :: (r' ++ cutAll c r) := by
    show parts c y ++ cutAll c r = _
    rw [hr]; rfl
  refine ⟨by rw [cut_sum hc p, g.sum], by rw [e]; simp, fun _ x hx => ?_, fun h => by omega, fun x hx => ?_⟩
  · obtain ⟨z, hz, hx⟩ := List.mem_flatMap.mp hx
    exact (parts_pos hc (p z hz) x hx).1
  · rw [e]
    show x ≤ min c y
    obtain ⟨z, hz, hx⟩ := List.mem_flatMap.mp hx
    have q := parts_pos hc (p z hz) x hx
    have f : z ≤ y := g.first z hz
    omega
mutual
/-- what a way's steps are: sizes above heads, at least one piece put together -/
def Way.ok : Way → Prop
  | .mk h steps => 0 < h ∧ Step.okAll h steps
def Step.okAll (h : Nat) : List Step → Prop
  | [] => True
  | s :: r => Step.ok h s ∧ Step.okAll h r
def Step.ok (h : Nat) : Step → Prop
  | .road size _ _ => h < size
  | .join most => 0 < most
  | .tunnel w most _ => Way.ok w ∧ 0 < most
end
theorem road_comes {h size : Nat} {ts : Bool} {lw : LW} {sealed : Bool} {l m : List Nat} (e : road h size ts lw sealed l = .comes m) : (m = l ∧ ∀ x ∈ l, x ≤ size - h) ∨ (m = cutAll (size - h) l ∧ sealed = false ∧ lw = .cut ∧ ¬ ∀ x ∈ l, x ≤ size - h) := by
  unfold road at e
  split at e
  · rename_i q
    injection e with e
    exact .inl ⟨e.symm, q⟩
  · rename_i q
    split at e
    · split at e <;> cases e
    · rename_i qs
      split at e
      · injection e with e
        exact .inr ⟨e.symm, by simpa using qs, rfl, q⟩
      · cases e
      · cases e
theorem tunnel_comes {inner : Nat → Fate} {ih most : Nat} {t : TW} {l m : List Nat} : ∀ {r : List Nat}, tunnel inner ih most t l r = .comes m → m = l ∧ ∀ x ∈ r, ∃ k, inner x = .comes k ∧ k.length ≤ most
  | [], e => by
    unfold tunnel at e
    injection e with e
    exact ⟨e.symm, fun x hx => by cases hx⟩
  | x :: r, e => by
    unfold tunnel at e
    split at e
    · rename_i k hk
      split at e
      · cases e
      · rename_i hl
        obtain ⟨h1, h2⟩ := tunnel_comes e
        refine ⟨h1, fun y hy => ?_⟩
        rcases List.mem_cons.mp hy with z | z
        · exact ⟨k, z ▸ hk, by omega⟩
        · exact h2 y z
    · rename_i f hf
      cases hi : inner x with
      | comes k => exact absurd hi (hf k)
      | told s p =>
        rw [hi] at e
        simp only [turned] at e
        split at e <;> cases e
      | silent p =>
        rw [hi] at e
        cases e
theorem tunnel_pass {inner : Nat → Fate} {ih most : Nat} {t : TW} {l : List Nat} : ∀ {r : List Nat}, (∀ x ∈ r, ∃ k, inner x = .comes k ∧ k.length ≤ most) → tunnel inner ih most t l r = .comes l
  | [], _ => rfl
  | x :: r, h => by
    obtain ⟨k, e, hk⟩ := h x List.mem_cons_self
    unfold tunnel
    rw [e]
    show (if k.length > most then _ else _) = _
    rw [if_neg (by omega)]
    exact tunnel_pass fun y hy => h y (List.mem_cons_of_mem _ hy)
theorem rel_cut {b b' c : Nat} {l l' : List Nat} (hc : 0 < c) (hle : b ≤ b') (h : Rel b l l') (g : Good b' l') (g0 : Good b l) : Rel b (if b = 0 then l else cutAll c l) (cutAll c l') := by
  unfold Rel at h ⊢
  split
  · rename_i e
    rw [if_pos e] at h
    exact h
  · rename_i e
    rw [if_neg e] at h
    subst h
    exact cut_tr hc (g.pos (by omega)) (by rw [g.sum]; exact hle)
/-- one road, both letters -/
theorem road_mono {h size : Nat} {ts : Bool} {lw : LW} {sealed : Bool} {b b' : Nat} {l l' m' : List Nat} (hs : h < size) (hle : b ≤ b') (g : Good b l) (g' : Good b' l') (r : Rel b l l') (e : road h size ts lw sealed l' = .comes m') :
    ∃ m, road h size ts lw sealed l = .comes m ∧ Good b m ∧ Good b' m' ∧ Rel b m m' := by
  have hc : 0 < size - h := by omega
  rcases road_comes e with ⟨rfl, ha⟩ | ⟨rfl, rfl, rfl, hn⟩
  · have hl : ∀ x ∈ l, x ≤ size - h := fun x hx => by
      obtain ⟨y, hy, hxy⟩ := rel_mem r g' x hx
      exact Nat.le_trans hxy (ha y hy)
    exact ⟨l, by unfold road; rw [if_pos hl], g, g', r⟩
  · have hb' : 0 < b' := by
      rcases Nat.eq_zero_or_pos b' with z | z
      · rw [g'.zero z] at hn
        exact absurd (fun x hx => by have e : x = 0 := by simpa using hx
                                     omega) hn
      · exact z
    have gm' := good_cut hc hb' g'
    have rm := rel_cut hc hle r g' g
    by_cases hl : ∀ x ∈ l, x ≤ size - h
    · refine ⟨l, by unfold road; rw [if_pos hl], g, gm', ?_⟩
      by_cases hb : b = 0
      · rw [if_pos hb] at rm; exact rm
      · rw [if_neg hb, cut_same fun x hx => ⟨g.pos (by omega) x hx, hl x hx⟩] at rm
        exact rm
    · have hb : ¬ b = 0 := fun z => hl fun x hx => by
        rw [g.zero z] at hx
        have e : x = 0 := by simpa using hx
        omega
      rw [if_neg hb] at rm
      exact ⟨_, by unfold road; rw [if_neg hl, if_neg (by simp)], good_cut hc (by omega) g, gm', rm⟩
mutual
/-- a letter that comes does so for each lesser body -/
theorem Way.mono (sealed : Bool) : ∀ (w : Way), w.ok → ∀ (b b' : Nat) (m' : List Nat), b ≤ b' → w.walk sealed b' = .comes m' → ∃ m, w.walk sealed b = .comes m ∧ Good b m ∧ Good b' m' ∧ Rel b m m'
  | .mk h steps, hw, b, b', m', hle, e => Way.from_mono sealed h steps hw.1 hw.2 0 b b' [b] [b'] m' hle (good_one b) (good_one b') (rel_one hle) e
theorem Way.from_mono (sealed : Bool) (h : Nat) : ∀ (steps : List Step), 0 < h → Step.okAll h steps → ∀ (i b b' : Nat) (l l' m' : List Nat), b ≤ b' → Good b l → Good b' l' → Rel b l l' → Way.from sealed h steps i l' = .comes m' →
    ∃ m, Way.from sealed h steps i l = .comes m ∧ Good b m ∧ Good b' m' ∧ Rel b m m'
  | [], _, _, i, b, b', l, l', m', hle, g, g', r, e => by
    unfold Way.from at e
    injection e with e
    subst e
    exact ⟨l, by unfold Way.from; rfl, g, g', r⟩
  | s :: rest, h0, hok, i, b, b', l, l', m', hle, g, g', r, e => by
    unfold Way.from at e
    split at e
    · rename_i k' hk
      obtain ⟨k, e1, gk, gk', rk⟩ := Step.mono sealed h s h0 hok.1 b b' l l' k' hle g g' r hk
      obtain ⟨m, e2, q⟩ := Way.from_mono sealed h rest h0 hok.2 (i + 1) b b' k k' m' hle gk gk' rk e
      exact ⟨m, by unfold Way.from; rw [e1]; exact e2, q⟩
    · rename_i f hf
      cases hd : Step.does sealed h s l' with
      | comes k => exact absurd hd (hf k)
      | told a p => rw [hd] at e; cases e
      | silent p => rw [hd] at e; cases e
theorem Step.mono (sealed : Bool) (h : Nat) : ∀ (s : Step), 0 < h → Step.ok h s → ∀ (b b' : Nat) (l l' m' : List Nat), b ≤ b' → Good b l → Good b' l' → Rel b l l' → Step.does sealed h s l' = .comes m' →
    ∃ m, Step.does sealed h s l = .comes m ∧ Good b m ∧ Good b' m' ∧ Rel b m m'
  | .road size ts lw, _, hok, b, b', l, l', m', hle, g, g', r, e => by
    unfold Step.does at e ⊢
    exact road_mono hok hle g g' r e
  | .join most, _, hok, b, b', l, l', m', hle, g, g', r, e => by
    unfold Step.does join at e
    split at e
    · cases e
    · rename_i q
      injection e with e
      subst e
      refine ⟨[b], ?_, good_one b, by rw [g'.sum]; exact good_one b', by rw [g'.sum]; exact rel_one hle⟩
      unfold Step.does join
      rw [if_neg (by have := rel_len r g'; omega), g.sum]
  | .tunnel w most t, _, hok, b, b', l, l', m', hle, g, g', r, e => by
    unfold Step.does at e ⊢
    obtain ⟨rfl, ha⟩ := tunnel_comes e
    refine ⟨l, tunnel_pass fun x hx => ?_, g, g', r⟩
    obtain ⟨y, hy, hxy⟩ := rel_mem r g' x hx
    obtain ⟨k', hk', hl'⟩ := ha y hy
    obtain ⟨k, hk, gk, gk', rk⟩ := Way.mono sealed w hok.1 (h + x) (h + y) k' (by omega) hk'
    exact ⟨k, hk, by have := rel_len rk gk'; omega⟩
end
/-- a sealed letter is one piece -/
theorem Way.from_sealed (h : Nat) : ∀ (steps : List Step) (i b : Nat) (m : List Nat), Way.from true h steps i [b] = .comes m → m = [b]
  | [], i, b, m, e => by
    unfold Way.from at e
    injection e with e
    exact e.symm
  | s :: rest, i, b, m, e => by
    unfold Way.from at e
    split at e
    · rename_i k hk
      have hb : k = [b] := by
        cases s with
        | road size ts lw =>
          unfold Step.does at hk
          rcases road_comes hk with ⟨q, _⟩ | ⟨_, q, _⟩
          · exact q
          · cases q
        | join most =>
          unfold Step.does join at hk
          split at hk
          · cases hk
          · injection hk with hk
            simpa using hk.symm
        | tunnel w most t =>
          unfold Step.does at hk
          exact (tunnel_comes hk).1
      subst hb
      exact Way.from_sealed h rest (i + 1) b m e
    · rename_i f hf
      cases hd : Step.does true h s [b] with
      | comes k => exact absurd hd (hf k)
      | told a p => rw [hd] at e; cases e
      | silent p => rw [hd] at e; cases e
theorem Way.walk_sealed (w : Way) (b : Nat) (m : List Nat) (e : w.walk true b = .comes m) : m = [b] := by
  obtain ⟨h, steps⟩ := w
  exact Way.from_sealed h steps 0 b m e
theorem from_cons (sealed : Bool) (h : Nat) (x : Step) (s : List Step) (i : Nat) (l : List Nat) : Way.from sealed h (x :: s) i l = match Step.does sealed h x l with
    | .comes m => Way.from sealed h s (i + 1) m
    | f => seen i f := by
  conv => lhs; unfold Way.from
/-- one way behind another -/
theorem Way.from_append (sealed : Bool) (h : Nat) (r : List Step) : ∀ (s : List Step) (i : Nat) (l : List Nat), Way.from sealed h (s ++ r) i l = match Way.from sealed h s i l with
    | .comes m => Way.from sealed h r (i + s.length) m
    | f => f
  | [], i, l => by
    show Way.from sealed h r i l = _
    rw [show Way.from sealed h [] i l = .comes l by unfold Way.from; rfl]
    rfl
  | x :: s, i, l => by
    rw [List.cons_append, from_cons, from_cons]
    cases hd : Step.does sealed h x l with
    | comes k =>
      show Way.from sealed h (s ++ r) (i + 1) k = _
      rw [Way.from_append sealed h r s (i + 1) k]
      have e : i + 1 + s.length = i + (x :: s).length := by simp; omega
      rw [e]
    | told a p => rfl
    | silent p => rfl
/-- the places of the steps behind i: as if the way began there -/
def shift (i : Nat) : Fate → Fate
  | .told s (p :: q) => .told s ((p + i) :: q)
  | .silent (p :: q) => .silent ((p + i) :: q)
  | f => f
theorem shift_seen (i j : Nat) (f : Fate) : shift i (seen j f) = seen (j + i) f := by cases f <;> rfl
theorem Way.from_shift (sealed : Bool) (h i : Nat) : ∀ (s : List Step) (j : Nat) (l : List Nat), Way.from sealed h s (j + i) l = shift i (Way.from sealed h s j l)
  | [], j, l => by
    rw [show Way.from sealed h [] j l = .comes l by unfold Way.from; rfl, show Way.from sealed h [] (j + i) l = .comes l by unfold Way.from; rfl]
    rfl
  | x :: s, j, l => by
    rw [from_cons, from_cons]
    cases hd : Step.does sealed h x l with
    | comes k =>
      show Way.from sealed h s (j + i + 1) k = shift i (Way.from sealed h s (j + 1) k)
      rw [show j + i + 1 = j + 1 + i by omega]
      exact Way.from_shift sealed h i s (j + 1) k
    | told a p => exact (shift_seen i j _).symm
    | silent p => exact (shift_seen i j _).symm
end M

end
section
set_option Elab.async false
set_option linter.all false
set_option maxRecDepth 100000
set_option maxHeartbeats 4000000
/-! ## the program's ways: good ones -/
namespace WP
open PySem L2 G
def top (i : Nat) : Stmt := PySem.Challenge.pw_roadsizes_k80_texts_of_ways.main.body.getD i (.Pass ⟨0, 0, 0, 0⟩)
abbrev sInteger : Stmt := top 3
abbrev sWithin : Stmt := top 4
abbrev sMost : Stmt := top 30
abbrev sList : Stmt := top 28
abbrev sStep : Stmt := top 32
abbrev sRoad : Stmt := top 29
abbrev sTells : Stmt := top 31
abbrev sHead : Stmt := top 27
abbrev sInit : Stmt := inClass (top 26) 0
abbrev sLen : Stmt := inClass (top 26) 1
abbrev sAdd : Stmt := inClass (top 26) 5
structure Bn (mg : Str → Option Value) : Prop where
  isi : mg "isinstance" = none
  bool : mg "bool" = none
  int : mg "int" = none
  tuple : mg "tuple" = none
  list : mg "list" = none
  len : mg "len" = none
  enum : mg "enumerate" = none
  max : mg "max" = none
  sum : mg "sum" = none
section
variable {P : Program} {w : World} {K : PySem.W.Frag} {mg : Str → Option Value} {base : Heap}
def spInteger : Sp := fun vs H Q _ => ∃ v : Int, vs = [.int v] ∧ Q (.bl true) H
theorem scIn : FnScope ["value"] ["value"] (defScope sInteger) := ⟨rfl, rfl, rfl, by decide +kernel, rfl, by decide +kernel, by decide +kernel⟩
theorem ok_integer {f : Addr} {fd : FuncData} (F : Fun K "is_integer" "is_integer" sInteger f fd) (B : Bn mg) : FnOk P w K mg base CX0 1 f fd ["value"] spInteger := by
  refine F.ok scIn (fun vs H Q E h => ?_) (fun cdv A outer s H vs Q E hr h => ?_)
  · obtain ⟨v, rfl, _⟩ := h
    rfl
  · obtain ⟨v, rfl, k⟩ := h
    refine ⟨_, pss_one (ps_ret (pe_and (pe_callB call_isi (by rfl) B.isi (by decide +kernel) (pa_cons (pv 0) (pa_cons (pe_bltn (v := .ty "int") (by rfl) B.int (by decide +kernel) rfl) pa_nil)))
      (pe_one (pe_not (pe_callB call_isi (by rfl) B.isi (by decide +kernel) (pa_cons (pv 0) (pa_cons (pe_bltn (v := .ty "bool") (by rfl) B.bool (by decide +kernel) rfl) pa_nil))))))), ?_⟩
    exact ⟨_, rfl, _, _, _, _, _, rfl, .ty _, .base (.int _), kit_ty (r := true) (by decide +kernel), _, rfl, iteT ⟨_, rfl, _, _, _, _, _, rfl, .ty _, .base (.int _), kit_ty (r := false) (by decide +kernel), _, rfl, k⟩⟩
def spWithin : Sp := fun vs H Q _ => ∃ v a b : Int, vs = [.int v, .int a, .int b] ∧ Q (.bl (decide (a ≤ v ∧ v ≤ b))) H
theorem sc3 : FnScope ["value", "least", "greatest"] ["value", "least", "greatest"] (defScope sWithin) := ⟨rfl, rfl, rfl, by decide +kernel, rfl, by decide +kernel, by decide +kernel⟩
theorem ok_within {f fI : Addr} {fd fdI : FuncData} (F : Fun K "is_within" "is_within" sWithin f fd) (B : Bn mg) (FI : Fun K "is_integer" "is_integer" sInteger fI fdI) (gI : mg "is_integer" = some (.ref fI)) (bI : Binds K fdI ["value"] []) : FnOk P w K mg base CX0 2 f fd ["value", "least", "greatest"] spWithin := by
  have GI : FnOk P w K mg base CX0 1 fI fdI ["value"] spInteger := ok_integer FI B
  refine F.ok sc3 (fun vs H Q E h => ?_) (fun cdv A outer s H vs Q E hr h => ?_)
  · obtain ⟨v, a, b, rfl, _⟩ := h
    rfl
  · obtain ⟨v, a, b, rfl, k⟩ := h
    refine ⟨_, pss_one (ps_ret (pe_and (pe_call GI hr rfl gI FI.kp bI .nil pass0 (pa_cons (pv 0) pa_nil)) (pe_one (pe_chain op_le op_le (pv 1) (pv 0) (pv 2))))), ?_⟩
    refine ⟨_, rfl, v, rfl, _, rfl, iteT ?_⟩
    refine ⟨_, rfl, _, rfl, _, _, rfl, rfl, _, rfl, ?_⟩
    refine ite2 (fun h1 => ⟨_, rfl, _, _, rfl, rfl, ?_⟩) (fun h1 => ?_)
    · have e1 : a ≤ v := of_decide_eq_true h1
      have e : decide (a ≤ v ∧ v ≤ b) = decide (v ≤ b) := by
        by_cases z : v ≤ b
        · rw [decide_eq_true z, decide_eq_true ⟨e1, z⟩]
        · rw [decide_eq_false z, decide_eq_false fun q => z q.2]
      rw [e] at k
      exact k
    · have e : decide (a ≤ v ∧ v ≤ b) = false := decide_eq_false fun q => h1 (decide_eq_true q.1)
      rw [e] at k
      exact k
/-- is_body, _is_most of ints -/
def spIn1 (a b : Int) : Sp := fun vs H Q _ => ∃ v : Int, vs = [.int v] ∧ Q (.bl (decide (a ≤ v ∧ v ≤ b))) H
structure Wi (P : Program) (w : World) (K : PySem.W.Frag) (mg : Str → Option Value) (base : Heap) (f : Addr) (fd : FuncData) : Prop where
  ok : FnOk P w K mg base CX0 2 f fd ["value", "least", "greatest"] spWithin
  g : mg "is_within" = some (.ref f)
  k : PySem.W.keepIn K (.ref f) = true
  b : Binds K fd ["value", "least", "greatest"] []
theorem scM : FnScope ["value"] ["value"] (defScope sMost) := ⟨rfl, rfl, rfl, by decide +kernel, rfl, by decide +kernel, by decide +kernel⟩
theorem ok_most {f fW : Addr} {fd fdW : FuncData} {t : Tok} (F : Fun K "is_most" "is_most" sMost f fd) (W : Wi P w K mg base fW fdW) (g : mg "GREATEST_MOST" = some (.int 1000000000000 t)) : FnOk P w K mg base CX0 3 f fd ["value"] (spIn1 1 1000000000000) := by
  refine F.ok scM (fun vs H Q E h => ?_) (fun cdv A outer s H vs Q E hr h => ?_)
  · obtain ⟨v, rfl, _⟩ := h
    rfl
  · obtain ⟨v, rfl, k⟩ := h
    exact ⟨_, pss_one (ps_ret (pe_call W.ok hr rfl W.g W.k W.b .nil pass0 (pa_cons (pv 0) (pa_cons pe_int (pa_cons (pe_glob (v := .int 1000000000000) rfl g ⟨_, rfl⟩) pa_nil))))), _, rfl, v, 1, 1000000000000, rfl, k⟩
theorem scHd : FnScope ["value"] ["value"] (defScope sHead) := ⟨rfl, rfl, rfl, by decide +kernel, rfl, by decide +kernel, by decide +kernel⟩
theorem ok_head {f fW : Addr} {fd fdW : FuncData} {t : Tok} (F : Fun K "is_head" "is_head" sHead f fd) (W : Wi P w K mg base fW fdW) (g : mg "GREATEST_HEAD" = some (.int 40 t)) : FnOk P w K mg base CX0 3 f fd ["value"] (spIn1 1 40) := by
  refine F.ok scHd (fun vs H Q E h => ?_) (fun cdv A outer s H vs Q E hr h => ?_)
  · obtain ⟨v, rfl, _⟩ := h
    rfl
  · obtain ⟨v, rfl, k⟩ := h
    exact ⟨_, pss_one (ps_ret (pe_call W.ok hr rfl W.g W.k W.b .nil pass0 (pa_cons (pv 0) (pa_cons pe_int (pa_cons (pe_glob (v := .int 40) rfl g ⟨_, rfl⟩) pa_nil))))), _, rfl, v, 1, 40, rfl, k⟩
end
end WP

end
section
set_option Elab.async false
set_option linter.all false
set_option maxRecDepth 100000
set_option maxHeartbeats 4000000
/-! ## ways on the heap -/
namespace M
mutual
def Way.depth : Way → Nat
  | .mk _ s => 1 + Step.deepest s
def Step.deepest : List Step → Nat
  | [] => 0
  | .tunnel w _ _ :: r => max w.depth (Step.deepest r)
  | .road _ _ _ :: r => Step.deepest r
  | .join _ :: r => Step.deepest r
end
mutual
def Way.size : Way → Nat
  | .mk _ s => s.length + Step.inner s
def Step.inner : List Step → Nat
  | [] => 0
  | .tunnel w _ _ :: r => w.size + Step.inner r
  | .road _ _ _ :: r => Step.inner r
  | .join _ :: r => Step.inner r
end
mutual
/-- a way that the program takes -/
def Way.fine : Way → Prop
  | .mk h s => (1 ≤ h ∧ h ≤ 40) ∧ (1 ≤ s.length ∧ s.length ≤ 12) ∧ Step.fineAll h s ∧ 1 + Step.deepest s ≤ 3 ∧ s.length + Step.inner s ≤ 40
def Step.fineAll (h : Nat) : List Step → Prop
  | [] => True
  | s :: r => Step.fine h s ∧ Step.fineAll h r
def Step.fine (h : Nat) : Step → Prop
  | .road size _ _ => h < size ∧ size ≤ 1000
  | .join most => 1 ≤ most ∧ most ≤ 1000000000000
  | .tunnel w most _ => Way.fine w ∧ 1 ≤ most ∧ most ≤ 1000000000000
end
end M
namespace WP
open PySem L2 G
def sdS (b : Bool) : Str := if b then "tell" else "drop"
def lwS : M.LW → Str
  | .cut => "cut"
  | .tell => "tell"
  | .drop => "drop"
def twS : M.TW → Str
  | .turn => "turn"
  | .keep => "keep"
  | .lose => "lose"
def flds (h : Int) (t : Addr) (D Z : Int) : List (Str × V) := putF "size" (.int Z) (putF "depth" (.int D) (putF "steps" (.ref t) (putF "head" (.int h) [])))
theorem nk : ¬ (("head" : Str) = "steps") ∧ ¬ (("head" : Str) = "depth") ∧ ¬ (("head" : Str) = "size") ∧ ¬ (("steps" : Str) = "depth") ∧ ¬ (("steps" : Str) = "size") ∧ ¬ (("depth" : Str) = "size") := by decide +kernel
theorem flds_head (h : Int) (t : Addr) (D Z : Int) : (flds h t D Z).lookup ("head" : Str) = some (.int h) := by
  unfold flds
  rw [lookup_putF, if_neg nk.2.2.1, lookup_putF, if_neg nk.2.1, lookup_putF, if_neg nk.1, lookup_putF, if_pos rfl]
theorem flds_steps (h : Int) (t : Addr) (D Z : Int) : (flds h t D Z).lookup ("steps" : Str) = some (.ref t) := by
  unfold flds
  rw [lookup_putF, if_neg nk.2.2.2.2.1, lookup_putF, if_neg nk.2.2.2.1, lookup_putF, if_pos rfl]
theorem flds_depth (h : Int) (t : Addr) (D Z : Int) : (flds h t D Z).lookup ("depth" : Str) = some (.int D) := by
  unfold flds
  rw [lookup_putF, if_neg nk.2.2.2.2.2, lookup_putF, if_pos rfl]
theorem flds_size (h : Int) (t : Addr) (D Z : Int) : (flds h t D Z).lookup ("size" : Str) = some (.int Z) := by
  unfold flds
  rw [lookup_putF, if_pos rfl]
mutual
/-- a way stands at a -/
def WayAt (C : Addr) (H : Hp) : M.Way → Addr → Prop
  | .mk h s, a => ∃ dx t xs, H a = some (.ins C dx (flds h t ((1 + M.Step.deepest s : Nat) : Int) ((s.length + M.Step.inner s : Nat) : Int))) ∧ H t = some (.tup xs) ∧ StepsAt C H s xs
def StepsAt (C : Addr) (H : Hp) : List M.Step → List V → Prop
  | [], xs => xs = []
  | s :: r, xs => ∃ x ys, xs = x :: ys ∧ StepAt C H s x ∧ StepsAt C H r ys
def StepAt (C : Addr) (H : Hp) : M.Step → V → Prop
  | .road size ts lw, x => ∃ t, x = .ref t ∧ H t = some (.tup [.str "road", .int (size : Int), .str (sdS ts), .str (lwS lw)])
  | .join most, x => ∃ t, x = .ref t ∧ H t = some (.tup [.str "join", .int (most : Int)])
  | .tunnel w most tw, x => ∃ t a, x = .ref t ∧ H t = some (.tup [.str "tunnel", .ref a, .int (most : Int), .str (twS tw)]) ∧ WayAt C H w a
end
mutual
theorem WayAt.mono {C : Addr} {H H' : Hp} (s : Same H H') : ∀ {w : M.Way} {a : Addr}, WayAt C H w a → WayAt C H' w a
  | .mk h st, a, x => by
    unfold WayAt at x ⊢
    obtain ⟨dx, t, xs, h1, h2, h3⟩ := x
    exact ⟨dx, t, xs, s _ _ h1, s _ _ h2, StepsAt.mono s h3⟩
theorem StepsAt.mono {C : Addr} {H H' : Hp} (s : Same H H') : ∀ {st : List M.Step} {xs : List V}, StepsAt C H st xs → StepsAt C H' st xs
  | [], xs, x => by
    unfold StepsAt at x ⊢
    exact x
  | y :: r, xs, x => by
    unfold StepsAt at x ⊢
    obtain ⟨u, ys, e, h1, h2⟩ := x
    exact ⟨u, ys, e, StepAt.mono s h1, StepsAt.mono s h2⟩
theorem StepAt.mono {C : Addr} {H H' : Hp} (s : Same H H') : ∀ {st : M.Step} {x : V}, StepAt C H st x → StepAt C H' st x
  | .road size ts lw, v, x => by
    unfold StepAt at x ⊢
    obtain ⟨t, e, h⟩ := x
    exact ⟨t, e, s _ _ h⟩
  | .join most, v, x => by
    unfold StepAt at x ⊢
    obtain ⟨t, e, h⟩ := x
    exact ⟨t, e, s _ _ h⟩
  | .tunnel w most tw, v, x => by
    unfold StepAt at x ⊢
    obtain ⟨t, a, e, h, h2⟩ := x
    exact ⟨t, a, e, s _ _ h, WayAt.mono s h2⟩
end
theorem StepsAt.get {C : Addr} {H : Hp} : ∀ {st : List M.Step} {xs : List V} {i : Nat} {x : V}, StepsAt C H st xs → xs[i]? = some x → ∃ s, st[i]? = some s ∧ StepAt C H s x
  | [], xs, i, x, h, e => by
    unfold StepsAt at h
    subst h
    cases e
  | y :: r, xs, 0, x, h, e => by
    unfold StepsAt at h
    obtain ⟨u, ys, rfl, h1, _⟩ := h
    cases e
    exact ⟨y, rfl, h1⟩
  | y :: r, xs, i + 1, x, h, e => by
    unfold StepsAt at h
    obtain ⟨u, ys, rfl, _, h2⟩ := h
    obtain ⟨s, a, b⟩ := StepsAt.get (i := i) h2 e
    exact ⟨s, a, b⟩
theorem StepsAt.len {C : Addr} {H : Hp} : ∀ {st : List M.Step} {xs : List V}, StepsAt C H st xs → xs.length = st.length
  | [], xs, h => by
    unfold StepsAt at h
    subst h
    rfl
  | y :: r, xs, h => by
    unfold StepsAt at h
    obtain ⟨u, ys, rfl, _, h2⟩ := h
    exact congrArg Nat.succ h2.len
theorem fine_get {h : Nat} : ∀ {st : List M.Step} {i : Nat} {s : M.Step}, M.Step.fineAll h st → st[i]? = some s → M.Step.fine h s
  | [], i, s, _, e => by cases e
  | y :: r, 0, s, f, e => by
    unfold M.Step.fineAll at f
    cases e
    exact f.1
  | y :: r, i + 1, s, f, e => by
    unfold M.Step.fineAll at f
    exact fine_get (i := i) f.2 e
end WP

end
section
set_option Elab.async false
set_option linter.all false
set_option maxRecDepth 100000
set_option maxHeartbeats 4000000
namespace WP
open PySem L2 G
theorem Same.of_upd {H : Hp} {p : Addr} {o : HO} (h : H p = none) : Same H (upd H p o) := fun a u e => by
  rw [upd_ne (ne_of_none e h)]
  exact e
/-- the class Way, the module's constants -/
structure Wt (K : PySem.W.Frag) (mg : Str → Option Value) (C : Addr) : Prop where
  g : mg "Way" = some (.ref C)
  cl : Cls K C
  nH : NoAttr K C "head"
  nS : NoAttr K C "steps"
  nD : NoAttr K C "depth"
  nZ : NoAttr K C "size"
  iA : PySem.W.findIn K (.ref C) "__class__" = some (some (.builtin "object.__class__"))
  iN : PySem.W.specialIn K (.builtin "object.__class__") "__get__" = some (some (.builtin "getset_descriptor.__get__"))
  iT : PySem.W.takesIn K (.builtin "object.__class__") = some true
  iM : PySem.W.mroIn K C (.type "object") = some true
  gHead : ∃ t, mg "GREATEST_HEAD" = some (.int 40 t)
  gRoad : ∃ t, mg "GREATEST_ROAD" = some (.int 1000 t)
  gMost : ∃ t, mg "GREATEST_MOST" = some (.int 1000000000000 t)
  gSteps : ∃ t, mg "MOST_STEPS" = some (.int 12 t)
  gDepth : ∃ t, mg "GREATEST_DEPTH" = some (.int 3 t)
  gSize : ∃ t, mg "GREATEST_SIZE" = some (.int 40 t)
  wS : ∃ a, mg "SEALED_WORDS" = some (.ref a) ∧ ∀ H, SqT K H a [.str "tell", .str "drop"]
  wL : ∃ a, mg "LOOSE_WORDS" = some (.ref a) ∧ ∀ H, SqT K H a [.str "cut", .str "tell", .str "drop"]
  wT : ∃ a, mg "TELLS_WORDS" = some (.ref a) ∧ ∀ H, SqT K H a [.str "turn", .str "keep", .str "lose"]
/-- a def of the text that is called by its name -/
structure Df (P : Program) (w : World) (K : PySem.W.Frag) (mg : Str → Option Value) (base : Heap) (k : Nat) (x : Str) (ps : List Str) (sp : Sp) : Prop where
  ex : ∃ (f : Addr) (fd : FuncData), FnOk P w K mg base CX0 k f fd ps sp ∧ mg x = some (.ref f) ∧ PySem.W.keepIn K (.ref f) = true ∧ Binds K fd ps []
section
variable {P : Program} {w : World} {K : PySem.W.Frag} {mg : Str → Option Value} {base : Heap} {C : Addr}
def spRoad : Sp := fun vs H Q _ => ∃ (size : Nat) (least : Int) (ts : Bool) (lw : M.LW), vs = [.int (size : Int), .str (sdS ts), .str (lwS lw), .int least] ∧ least ≤ (size : Int) ∧ size ≤ 1000 ∧ Q (.bl true) H
theorem in_sd (b : Bool) : inV (.str (sdS b)) [.str "tell", .str "drop"] = true := by cases b <;> decide +kernel
theorem in_lw (l : M.LW) : inV (.str (lwS l)) [.str "cut", .str "tell", .str "drop"] = true := by cases l <;> decide +kernel
theorem in_tw (l : M.TW) : inV (.str (twS l)) [.str "turn", .str "keep", .str "lose"] = true := by cases l <;> decide +kernel
theorem scR : FnScope ["size", "sealed", "loose", "least"] ["size", "sealed", "loose", "least"] (defScope sRoad) := ⟨rfl, rfl, rfl, by decide +kernel, rfl, by decide +kernel, by decide +kernel⟩
theorem ok_road {f : Addr} {fd : FuncData} (F : Fun K "is_road" "is_road" sRoad f fd) (T : Wt K mg C) (W : Df P w K mg base 2 "is_within" ["value", "least", "greatest"] spWithin) : FnOk P w K mg base CX0 3 f fd ["size", "sealed", "loose", "least"] spRoad := by
  obtain ⟨fW, fdW, GW, gW, kW, bW⟩ := W.ex
  obtain ⟨t1, g1⟩ := T.gRoad
  obtain ⟨aS, g2, q2⟩ := T.wS
  obtain ⟨aL, g3, q3⟩ := T.wL
  refine F.ok scR (fun vs H Q E h => ?_) (fun cdv A outer s H vs Q E hr h => ?_)
  · obtain ⟨size, least, ts, lw, rfl, _⟩ := h
    rfl
  · obtain ⟨size, least, ts, lw, rfl, hs, hs2, k⟩ := h
    refine ⟨_, pss_one (ps_ret (pe_and (pe_call GW hr rfl gW kW bW .nil pass0 (pa_cons (pv 0) (pa_cons (pv 3) (pa_cons (pe_glob (v := .int 1000) rfl g1 ⟨_, rfl⟩) pa_nil)))) (pe_and (pe_cmpR op_in_seq (pv 1) (pe_glob (v := .ref aS) rfl g2 rfl) (by rfl)) (pe_one (pe_cmpR op_in_seq (pv 2) (pe_glob (v := .ref aL) rfl g3 rfl) (by rfl)))))), ?_⟩
    have e : decide (least ≤ (size : Int) ∧ (size : Int) ≤ 1000) = true := decide_eq_true (by omega)
    refine ⟨_, rfl, _, rfl, (size : Int), least, 1000, rfl, ?_⟩
    rw [e]
    refine ⟨_, rfl, ?_⟩
    refine iteT ⟨_, rfl, aS, _, rfl, .inr (q2 _), rfl, rfl, ?_⟩
    rw [in_sd]
    refine ⟨_, rfl, iteT ⟨_, rfl, aL, _, rfl, .inr (q3 _), rfl, rfl, ?_⟩⟩
    rw [in_lw]
    exact k
def spTells : Sp := fun vs H Q _ => ∃ tw : M.TW, vs = [.str (twS tw)] ∧ Q (.bl true) H
theorem scT : FnScope ["value"] ["value"] (defScope sTells) := ⟨rfl, rfl, rfl, by decide +kernel, rfl, by decide +kernel, by decide +kernel⟩
theorem ok_tells {f : Addr} {fd : FuncData} (F : Fun K "is_tells" "is_tells" sTells f fd) (T : Wt K mg C) : FnOk P w K mg base CX0 1 f fd ["value"] spTells := by
  obtain ⟨aT, g2, q2⟩ := T.wT
  refine F.ok scT (fun vs H Q E h => ?_) (fun cdv A outer s H vs Q E hr h => ?_)
  · obtain ⟨tw, rfl, _⟩ := h
    rfl
  · obtain ⟨tw, rfl, k⟩ := h
    refine ⟨_, pss_one (ps_ret (pe_cmpR op_in_seq (pv 0) (pe_glob (v := .ref aT) rfl g2 rfl) (by rfl))), ?_⟩
    refine ⟨_, rfl, aT, _, rfl, .inr (q2 _), rfl, rfl, ?_⟩
    rw [in_tw]
    exact k
/-- is_step_list, of a list or a tuple -/
def spList (K : PySem.W.Frag) : Sp := fun vs H Q _ => ∃ (l : Addr) (xs : List V), vs = [.ref l] ∧ (H l = some (.lst xs) ∨ H l = some (.tup xs)) ∧ 1 ≤ xs.length ∧ xs.length ≤ 12 ∧ ∀ H', Same H H' → Q (.bl true) H'
theorem scLi : FnScope ["value"] ["value"] (defScope sList) := ⟨rfl, rfl, rfl, by decide +kernel, rfl, by decide +kernel, by decide +kernel⟩
theorem ok_list {f : Addr} {fd : FuncData} (F : Fun K "is_step_list" "is_step_list" sList f fd) (B : Bn mg) (T : Wt K mg C) : FnOk P w K mg base CX0 1 f fd ["value"] (spList K) := by
  obtain ⟨t1, g1⟩ := T.gSteps
  refine F.ok scLi (fun vs H Q E h => ?_) (fun cdv A outer s H vs Q E hr h => ?_)
  · obtain ⟨l, xs, rfl, _⟩ := h
    rfl
  · obtain ⟨l, xs, rfl, hl, l1, l2, k⟩ := h
    refine ⟨_, pss_one (ps_ret (pe_and (pe_callB call_isiT (by rfl) B.isi (by decide +kernel) (pa_cons (pv 0) (pa_cons (pe_tup (pa_cons (pe_bltn (v := .ty "list") (by rfl) B.list (by decide +kernel) rfl) (pa_cons (pe_bltn (v := .ty "tuple") (by rfl) B.tuple (by decide +kernel) rfl) pa_nil))) pa_nil)))
      (pe_one (pe_chain op_le op_le pe_int (pe_callB call_len_seq (by rfl) B.len PySem.boot_len (pa_cons (pv 0) pa_nil)) (pe_glob (v := .int 12) rfl g1 ⟨_, rfl⟩))))), ?_⟩
    refine ⟨_, rfl, by show 2 ≤ sizeLine; decide, fun p np => ?_⟩
    have sp : Same H (upd H p (.tup [.ty "list", .ty "tuple"])) := Same.of_upd np
    have fin : ∀ (n : Int), n = (xs.length : Int) → ∀ Q' : VK, (∀ H', Same H H' → Q' (.bl true) H') → (∃ i j, V.int 1 = .int i ∧ V.int n = .int j ∧ ∃ k, V.bl (decide (i ≤ j)) = .bl k ∧ if k = true then ∃ i2 j2, V.int n = .int i2 ∧ V.int 12 = .int j2 ∧ Q' (.bl (decide (i2 ≤ j2))) (upd H p (.tup [.ty "list", .ty "tuple"])) else Q' (.bl false) (upd H p (.tup [.ty "list", .ty "tuple"]))) := by
      intro n hn Q' k'
      refine ⟨_, _, rfl, rfl, _, rfl, ?_⟩
      rw [decide_eq_true (by omega)]
      refine iteT ⟨_, _, rfl, rfl, ?_⟩
      rw [decide_eq_true (by omega)]
      exact k' _ sp
    have kl : PySem.W.kitAny K (.type "list") [.type "list", .type "tuple"] = some true := by
      unfold PySem.W.kitAny
      rw [kit_ty (r := true) (by decide +kernel)]
    have kt : PySem.W.kitAny K (.type "tuple") [.type "list", .type "tuple"] = some true := by
      unfold PySem.W.kitAny
      rw [kit_ty (r := false) (by decide +kernel)]
      unfold PySem.W.kitAny
      rw [kit_ty (r := true) (by decide +kernel)]
    rcases hl with hl | hl
    · exact ⟨_, p, _, _, _, _, rfl, upd_same, .cons (.ty _) (.cons (.ty _) .nil), .base (.lst (sp _ _ hl)), kl, _, rfl, iteT ⟨_, rfl, l, xs, rfl, .inl (SqL.of (sp _ _ hl)), fin _ rfl _ k⟩⟩
    · exact ⟨_, p, _, _, _, _, rfl, upd_same, .cons (.ty _) (.cons (.ty _) .nil), .base (.tup (sp _ _ hl)), kt, _, rfl, iteT ⟨_, rfl, l, xs, rfl, .inr (SqT.of (sp _ _ hl)), fin _ rfl _ k⟩⟩
/-- _is_step of a good step -/
def spStep (C : Addr) : Sp := fun vs H Q _ => ∃ (x : V) (h : Nat) (st : M.Step), vs = [x, .int (h : Int)] ∧ StepAt C H st x ∧ M.Step.fine h st ∧ Q (.bl true) H
theorem scSt : FnScope ["value", "head", "kind"] ["value", "head"] (defScope sStep) := ⟨rfl, rfl, rfl, by decide +kernel, rfl, by decide +kernel, by decide +kernel⟩
theorem kinds : ("road" : Str) ≠ "join" ∧ ("road" : Str) ≠ "tunnel" ∧ ("join" : Str) ≠ "tunnel" ∧ ("join" : Str) ≠ "road" ∧ ("tunnel" : Str) ≠ "road" ∧ ("tunnel" : Str) ≠ "join" := by decide +kernel
theorem ok_step {f : Addr} {fd : FuncData} (F : Fun K "_is_step" "_is_step" sStep f fd) (B : Bn mg) (T : Wt K mg C) (WR : Df P w K mg base 3 "is_road" ["size", "sealed", "loose", "least"] spRoad) (WM : Df P w K mg base 3 "is_most" ["value"] (spIn1 1 1000000000000)) (WT : Df P w K mg base 1 "is_tells" ["value"] spTells) :
    FnOk P w K mg base CX0 5 f fd ["value", "head"] (spStep C) := by
  obtain ⟨fR, fdR, GR, gR, kR, bR⟩ := WR.ex
  obtain ⟨fM, fdM, GM, gM, kM, bM⟩ := WM.ex
  obtain ⟨fT, fdT, GT, gT, kT, bT⟩ := WT.ex
  refine F.ok scSt (fun vs H Q E h => ?_) (fun cdv A outer s H vs Q E hr h => ?_)
  · obtain ⟨x, h, st, rfl, _⟩ := h
    rfl
  · obtain ⟨x, h, st, rfl, hx, hf, k⟩ := h
    refine ⟨_, pss_cons (ps_if (PW.pt (pw_or (pt_not (pt_val (pe_callB call_isi (by rfl) B.isi (by decide +kernel) (pa_cons (pv 0) (pa_cons (pe_bltn (v := .ty "tuple") (by rfl) B.tuple (by decide +kernel) rfl) pa_nil))))) (pw_or1 (pt_cmpR (op_eq) (pe_callB call_len_seq (by rfl) B.len PySem.boot_len (pa_cons (pv 0) pa_nil)) (pe_int) (nomark _))))) (pss_one (ps_ret pe_bl)) (pss_nil))
      (pss_cons (ps_set (i := 2) scSt.nd rfl (Or.inl rfl) (pe_ix ix_tup (pv 0) pe_int (fun _ _ => rfl)))
      (pss_cons (ps_if (pt_cmpR (op_eq) (pv 2) (pe_str) (nomark _)) (pss_one (ps_ret (pe_and (pe_cmpR (op_eq) (pe_callB call_len_seq (by rfl) B.len PySem.boot_len (pa_cons (pv 0) pa_nil)) (pe_int) (nomark _)) (pe_one (pe_call GR (hr.mono (by decide)) rfl gR kR bR .nil pass0 (pa_cons (pe_ix ix_tup (pv 0) pe_int (fun _ _ => rfl)) (pa_cons (pe_ix ix_tup (pv 0) pe_int (fun _ _ => rfl)) (pa_cons (pe_ix ix_tup (pv 0) pe_int (fun _ _ => rfl)) (pa_cons (pe_op op_add (pv 1) (pe_int)) pa_nil))))))))) (pss_nil))
      (pss_cons (ps_if (pt_cmpR (op_eq) (pv 2) (pe_str) (nomark _)) (pss_one (ps_ret (pe_and (pe_cmpR (op_eq) (pe_callB call_len_seq (by rfl) B.len PySem.boot_len (pa_cons (pv 0) pa_nil)) (pe_int) (nomark _)) (pe_one (pe_call GM (hr.mono (by decide)) rfl gM kM bM .nil pass0 (pa_cons (pe_ix ix_tup (pv 0) pe_int (fun _ _ => rfl)) pa_nil)))))) (pss_nil))
      (pss_cons (ps_if (pt_cmpR (op_eq) (pv 2) (pe_str) (nomark _)) (pss_one (ps_ret (pe_and (pe_cmpR (op_eq) (pe_callB call_len_seq (by rfl) B.len PySem.boot_len (pa_cons (pv 0) pa_nil)) (pe_int) (nomark _)) (pe_and (pe_callB call_isi (by rfl) B.isi (by decide +kernel) (pa_cons (pe_ix ix_tup (pv 0) pe_int (fun _ _ => rfl)) (pa_cons (pe_glob (v := .ref C) rfl T.g rfl) pa_nil))) (pe_and (pe_call GM (hr.mono (by decide)) rfl gM kM bM .nil pass0 (pa_cons (pe_ix ix_tup (pv 0) pe_int (fun _ _ => rfl)) pa_nil)) (pe_one (pe_call GT (hr.mono (by decide)) rfl gT kT bT .nil pass0 (pa_cons (pe_ix ix_tup (pv 0) pe_int (fun _ _ => rfl)) pa_nil)))))))) (pss_nil))
      (pss_one (ps_ret pe_bl)))))), ?_⟩
    have pre : ∀ (t : Addr) (y : V) (ys : List V), x = .ref t → H t = some (.tup (y :: ys)) → ∀ (D : Ends) (rest : TS), rest D [some x, some (.int (h : Int)), some y] H →
        tSeq (tIfS (tOr (tNot (tB (tCB (rIsi K) (tCons (tVar 0) (tCons (tC (.ty "tuple")) tNil))))) (tTest (tOp rEq (tCB (fun xs H Q => ∃ p ys, xs = [.ref p] ∧ (SqL K H p ys ∨ SqT K H p ys) ∧ Q (.int ys.length) H) (tCons (tVar 0) tNil)) (tC (.int 0))))) (tRet (tC (.bl false))) tNext)
          (tSeq (tAsg (tOp (rIxT K) (tVar 0) (tC (.int 0))) (gName 2)) rest) D [some x, some (.int (h : Int)), none] H := by
      intro t y ys ex ht D rest q
      subst ex
      refine ⟨_, rfl, _, _, _, _, _, rfl, .ty _, .base (.tup ht), kit_ty (r := true) (by decide +kernel), _, rfl, iteF ⟨_, rfl, t, _, rfl, .inr (SqT.of ht), rfl, _, rfl, ?_⟩⟩
      have e : decide (V.int ((y :: ys).length : Int) = V.int 0) = false := decide_eq_false (by
        intro z
        injection z with z
        simp at z
        omega)
      rw [e]
      exact iteF ⟨_, rfl, t, _, _, y, rfl, rfl, SqT.of ht, (by exact atI_nat (xs := y :: ys) (j := 0) rfl), q⟩
    have yes : ∀ {a : Str}, decide (V.str a = V.str a) = true := decide_eq_true rfl
    have no : ∀ {a b : Str}, a ≠ b → decide (V.str a = V.str b) = false := fun h => decide_eq_false fun z => h (V.str.inj z)
    cases st with
    | road size ts lw =>
      unfold StepAt at hx
      unfold M.Step.fine at hf
      obtain ⟨t, rfl, ht⟩ := hx
      refine pre t _ _ rfl ht _ _ ⟨_, rfl, rfl, _, rfl, ?_⟩
      rw [yes]
      exact iteT ⟨_, rfl, t, _, rfl, .inr (SqT.of ht), rfl, _, rfl, iteT ⟨_, rfl, t, _, _, _, rfl, rfl, SqT.of ht, (by exact atI_nat (xs := [V.str "road", .int (size : Int), .str (sdS ts), .str (lwS lw)]) (j := 1) rfl), _, rfl, t, _, _, _, rfl, rfl, SqT.of ht, (by exact atI_nat (xs := [V.str "road", .int (size : Int), .str (sdS ts), .str (lwS lw)]) (j := 2) rfl), _, rfl, t, _, _, _, rfl, rfl, SqT.of ht, (by exact atI_nat (xs := [V.str "road", .int (size : Int), .str (sdS ts), .str (lwS lw)]) (j := 3) rfl), _, rfl, _, _, rfl, rfl, size, (h : Int) + 1, ts, lw, rfl, by omega, hf.2, k⟩⟩
    | join most =>
      unfold StepAt at hx
      unfold M.Step.fine at hf
      obtain ⟨t, rfl, ht⟩ := hx
      refine pre t _ _ rfl ht _ _ ⟨_, rfl, rfl, _, rfl, ?_⟩
      rw [no kinds.2.2.2.1]
      refine iteF ⟨_, rfl, rfl, _, rfl, ?_⟩
      rw [yes]
      refine iteT ⟨_, rfl, t, _, rfl, .inr (SqT.of ht), rfl, _, rfl, iteT ⟨_, rfl, t, _, _, _, rfl, rfl, SqT.of ht, (by exact atI_nat (xs := [V.str "join", V.int (most : Int)]) (j := 1) rfl), most, rfl, ?_⟩⟩
      rw [decide_eq_true (by omega)]
      exact k
    | tunnel w most tw =>
      unfold StepAt at hx
      unfold M.Step.fine at hf
      obtain ⟨t, a, rfl, ht, hw⟩ := hx
      refine pre t _ _ rfl ht _ _ ⟨_, rfl, rfl, _, rfl, ?_⟩
      rw [no kinds.2.2.2.2.1]
      refine iteF ⟨_, rfl, rfl, _, rfl, ?_⟩
      rw [no kinds.2.2.2.2.2]
      refine iteF ⟨_, rfl, rfl, _, rfl, ?_⟩
      rw [yes]
      obtain ⟨wh, ws⟩ := w
      unfold WayAt at hw
      obtain ⟨dx, u, xs, h1, _, _⟩ := hw
      have kit : PySem.W.kitOne K (.ref C) (.ref C) = some true := by
        unfold PySem.W.kitOne
        rw [if_pos (by simp)]
      refine iteT ⟨_, rfl, t, _, rfl, .inr (SqT.of ht), rfl, _, rfl, iteT ⟨_, rfl, t, _, _, _, rfl, rfl, SqT.of ht, (by exact atI_nat (xs := [V.str "tunnel", .ref a, .int (most : Int), .str (twS tw)]) (j := 1) rfl), _, _, _, _, true, rfl, .own C, .base (.ins h1 T.cl T.iA T.iN T.iT T.iM), kit, _, rfl, iteT ⟨_, rfl, t, _, _, _, rfl, rfl, SqT.of ht, (by exact atI_nat (xs := [V.str "tunnel", .ref a, .int (most : Int), .str (twS tw)]) (j := 2) rfl), most, rfl, ?_⟩⟩⟩
      rw [decide_eq_true (by omega)]
      exact ⟨_, rfl, iteT ⟨_, rfl, t, _, _, _, rfl, rfl, SqT.of ht, (by exact atI_nat (xs := [V.str "tunnel", .ref a, .int (most : Int), .str (twS tw)]) (j := 3) rfl), tw, rfl, k⟩⟩
end
end WP

end
section
set_option autoImplicit false
set_option Elab.async false
set_option linter.all false
set_option maxRecDepth 100000
set_option maxHeartbeats 4000000
namespace WP
open PySem L2 G PyProof.Rows
/-! ### a tuple that is counted through -/
theorem en_new {v : Value} {o : Obj} {Hd : Heap → Prop} (B : Begins v o Hd) : Meets (Builtin.«enumerate.__new__» ⟨[.type "enumerate", v], []⟩) (fun _ R u => Hd u.heap ∧ R (.ok (.ret (.ref (u.heap.push o).objs.size))) { u with heap := (u.heap.push o).push { cls := .type "enumerate", data := .fields #[.none, .bool false, .ref u.heap.objs.size, rawInt 0, .none, .none] } }) :=
  .of_wp fun prog w A R u h => by
    obtain ⟨x, g, d, k, os⟩ := u
    obtain ⟨h1, h⟩ := h
    have sb := sub_enumerate
    have q1 : ∀ {A2 : Around} {E : Value → Shared → Prop} {Q : Value → Shared → Prop}, Q (.ref x.objs.size) ⟨x.push o, g, d, k, os⟩ → wpAny (model prog w) A2 (pyIter v) Q E ⟨x, g, d, k, os⟩ := fun q => B.iter prog w _ _ ⟨x, g, d, k, os⟩ _ h1 q
    wp_walk using q1
    refine wpAny_stack_any fun _ => wpAny_pure ?_
    split
    · rename_i c _ _ _ _ _
      cases (c == Value.type "enumerate") <;> (wp_walk using q1; exact ⟨_, rfl, h⟩)
    · (wp_walk using q1; exact ⟨_, rfl, h⟩)
theorem en_call {prog : Program} {w : World} {A : Around} {E : Value → Shared → Prop} {s : Shared} {v : Value} {o : Obj} {Hd : Heap → Prop} {Q : Value → Shared → Prop} (B : Begins v o Hd) (h1 : Hd s.heap)
    (h : ∀ u, IsEnum u (s.heap.objs.size + 1) s.heap.objs.size 0 .none → u.get? s.heap.objs.size = some o → (∀ b p, s.heap.get? b = some p → u.get? b = some p) → Q (.ref (s.heap.objs.size + 1)) { s with heap := u }) : wpAny (model prog w) A (call (.type "enumerate") [v]) Q E s := by
  refine callType_new F.called_enumerate (by decide) (F.typeCall_enumerate_1 _) (F.newCall_enumerate_1 _) (fun x => F.args_object_init_2 x _) F.entry_enumerate_new (en_new B) ⟨h1, ?_⟩
  have z : (s.heap.push o).objs.size = s.heap.objs.size + 1 := Heap.size_push ..
  show _ ∧ _
  rw [z]
  have he := Heap.get?_push_size (s.heap.push o) (o := { cls := .type "enumerate", data := .fields #[.none, .bool false, .ref s.heap.objs.size, rawInt 0, .none, .none] }) rfl
  rw [z] at he
  exact ⟨⟨_, he, rfl⟩, h _ he (Heap.get?_push_of_some _ (Heap.get?_push_size _ B.free)) fun b p e => Heap.get?_push_of_some _ (Heap.get?_push_of_some _ e)⟩
/-- the tuple at a, each item in a new pair behind its place -/
def Iet (K : PySem.W.Frag) (a : Addr) : It where
  go := fun i H => ∃ (xs : List V) (x : V), SqT K H a xs ∧ xs[i]? = some x
  yld := fun i H v H' => ∃ T x, v = .ref T ∧ H T = none ∧ H' = upd H T (.tup [.int (i : Nat), x]) ∧ ∀ xs, SqT K H a xs → xs[i]? = some x
  stop := fun i H => ∃ xs : List V, SqT K H a xs ∧ xs.length ≤ i
theorem turn_et {P : Program} {w : World} {K : PySem.W.Frag} {elts : List Expr} {kk : Nat} {tpos : Pos} (a e it : Addr) (hae : a ≠ e) (hai : a ≠ it) :
    Turn P w K (.Tuple elts kk tpos) (Iet K a) [e, it] e (fun i h => (∃ x, IsEnum h e it ((i : Nat) : Int) x) ∧ h.IsTupleIter it a i ∧ e ≠ it) where
  mem := List.mem_cons_self
  obj := fun i h st b hb => by
    obtain ⟨⟨x, he⟩, ⟨o, ho, hc, hd⟩, _⟩ := st
    rcases List.mem_cons.mp hb with z | z
    · subst z
      exact ⟨_, he, fun v q => nomatch q⟩
    · have z2 : b = it := by simpa using z
      subst z2
      exact ⟨o, ho, fun v q => by rw [hd] at q; cases q⟩
  keep := fun i h h' st k => by
    obtain ⟨⟨x, he⟩, hi, hn⟩ := st
    exact ⟨⟨x, k e (by simp) _ he⟩, hi.at fun o q => k it (by simp) o q, hn⟩
  item := by
    intro X hP hw hK hc i
    intro pins s σ H E I hf st hg
    subst hP hw hK
    obtain ⟨⟨_, he⟩, hit, hne⟩ := st
    obtain ⟨xs, x, hq, hx⟩ := hg
    obtain ⟨its, rv, p, lz⟩ := I.tuple hq
    obtain ⟨u, hu, ru⟩ := rv.get hx
    have hi : i < its.toArray.size := by
      have := List.getElem?_eq_some_iff.mp hu
      obtain ⟨z, _⟩ := this
      simpa using z
    have le : e < s.heap.objs.size := Heap.lt_size he
    have li : it < s.heap.objs.size := by
      obtain ⟨_, q, _⟩ := hit
      exact Heap.lt_size q
    have hef : e ∉ [it, a] := by
      intro z
      rcases List.mem_cons.mp z with z | z
      · exact hne z
      · have z2 : e = a := by simpa using z
        exact hae z2.symm
    refine wpAny_pyNext_enum_itemD (Draws.tuple (A := X.A.in1) (by exact I.ok.hd hc) it a hai its.toArray) he ⟨hit, show s.heap.IsTuple a its.toArray from p⟩ hi hne hef fun y h' tk hy ho hs hT hsz hk => ?_
    have ey : y = u := by
      have q : its.toArray[i]? = some u := by simpa using hu
      rw [q] at hy
      exact (Option.some.inj hy).symm
    subst ey
    refine ⟨_, rfl, wpAny_letOwnedTupleGo_enum (s := { s with heap := h', toks := tk + 1 }) ho fun h2 he2 sb => ?_⟩
    have hT2 : h2.get? s.heap.objs.size = some { cls := .type "tuple", data := .seq #[.int i tk, y] } := (sb.2 _ (Nat.ne_of_gt le)).trans hT
    have new : ObjOk X.prog X.w (upd H s.heap.objs.size (.tup [.int (i : Nat), x])) h2 s.heap.objs.size (.tup [.int (i : Nat), x]) :=
      ⟨by show 2 ≤ sizeLine; decide, [.int i tk, y], .cons ⟨_, rfl⟩ (.cons ru .nil), ⟨_, hT2, rfl, _, rfl⟩⟩
    have keep : ∀ b ob, b ∉ [e, it] → s.heap.get? b = some ob → h2.get? b = some ob := fun b ob hb q => (sb.2 b (fun z => hb (by simp [z]))).trans (hk b ob (fun z => hb (by simp [z])) (fun z => hb (by simp [z])) q)
    have I1 : Inv X pins σ (upd H s.heap.objs.size (.tup [.int (i : Nat), x])) { s with heap := h2, toks := tk + 1 } := I.turnedNew (ch := [e, it]) keep hf (Nat.le_refl _) new
    refine ⟨.ref s.heap.objs.size, _, I1, rfl, ⟨_, x, rfl, I.hok.fresh (Nat.le_refl _), rfl, fun ys hy => by rw [I.tuple_inj hy hq]; exact hx⟩, ⟨⟨y, ?_⟩, hs.1.at fun o q => (sb.2 it (Ne.symm hne)).trans q, hne⟩, fun b hb => ?_⟩
    · rw [show ((i + 1 : Nat) : Int) = (i : Int) + 1 by omega]
      exact he2
    · have lb : b < s.heap.objs.size := by
        rcases List.mem_cons.mp hb with z | z
        · rw [z]; exact le
        · rw [show b = it by simpa using z]; exact li
      rw [upd_ne (Nat.ne_of_lt lb)]
      exact (hf b hb).1
  done := by
    intro X hP hw hK hc i
    intro pins s σ H E I hf st hg
    subst hP hw hK
    obtain ⟨⟨_, he⟩, hit, hne⟩ := st
    obtain ⟨xs, hq, hx⟩ := hg
    obtain ⟨its, rv, p, lz⟩ := I.tuple hq
    have ⟨f0, f1, f2, f3, f4, f5⟩ := hf it (List.mem_cons_of_mem _ List.mem_cons_self)
    have hl := rv.length
    have hTe : s.TypeIs (.ref e) "enumerate" := ⟨_, he, rfl⟩
    unfold pyNext
    refine wpAny_bind (wpAny_attempt (wpAny_callSpecial?_slot (name := Str.ofString "__next__") hTe F.slot_enumerate_next (wpAny_call_entry F.slot_enumerate_next hTe F.entry_enumerate_next ?_ (F.args_enumerate_next_1 _))))
    refine (show wpAny _ _ (field (.ref e) 2 >>= _) _ _ _ from ?_)
    refine wpAny_bind (wpAny_field he rfl (x := .ref it) rfl (wpAny_bind (wpAny_nextOf_tuple_end (I.ok.hd hc) hit (show s.heap.IsTuple a its.toArray from p) (by simp; omega) fun h' x hx1 hx2 => ?_)))
    obtain ⟨o, ho, hc2⟩ := hx2
    exact wpAny_bind (wpAny_isInstance (T := "StopIteration") (b := true) ⟨o, ho, hc2⟩ isSubtype_stop (wpAny_pure ⟨rfl, I.turned (t' := s.toks) (fun b o hb q => hx1 b o hb q) f0 f1 f3 f4 f5⟩))
  self := fun _ _ s Q E st h => by
    obtain ⟨⟨x, he⟩, _⟩ := st
    exact wpAny_pyIter_enum he h
def iEnT (K : PySem.W.Frag) (ta : TA) : TI := fun σ H R => ta σ H fun vs H1 => ∃ a xs, vs = [.ref a] ∧ SqT K H1 a xs ∧ R (Iet K a) H1
theorem pi_et {X : Cx} {e : Expr} {ta : TA} {p pos tpos : Pos} {elts : List Expr} {kk : Nat} (hg : Gl X "enumerate") (hm : X.mg "enumerate" = none) (ha : PA X [e] ta) (hs : starEach [e] X.env = [(false, eval e X.env)] := by rfl) : PI X (.Tuple elts kk tpos) (.Call (.Name "enumerate" p) [e] [] pos) (iEnT X.K ta) := by
  constructor
  intro pins s σ H R I h
  refine Call_ (ld_blt I hg hm boot_enumerate (PyProof.Rows.callWith_type1 (thn (ha.run pos pins s σ H _ I h) fun us s1 ⟨vs, H1, I1, r1, a, xs, ex, hq, q⟩ => ?_) hs rfl))
  subst ex
  cases r1 with
  | cons r rr =>
    cases rr
    cases r
    obtain ⟨its, rv, p', hz⟩ := I1.tuple hq
    have p2 : s1.heap.IsTuple a its.toArray := p'
    have la : a < s1.heap.objs.size := by
      obtain ⟨_, q, _⟩ := p2
      exact Heap.lt_size q
    refine en_call (begins_tuple a its.toArray) p2 fun u he hit hk => wpAny_pyIter_enum he ?_
    have I2 : Inv X pins σ H1 { s1 with heap := u } := I1.kept (t' := s1.toks) hk
    refine ⟨_, [s1.heap.objs.size + 1, s1.heap.objs.size], _, _, H1, rfl, I2, turn_et a (s1.heap.objs.size + 1) s1.heap.objs.size (Nat.ne_of_lt (Nat.lt_succ_of_lt la)) (Nat.ne_of_lt la), ⟨⟨.none, he⟩, ⟨_, hit, rfl, rfl⟩, Nat.succ_ne_self _⟩, fun b hb => ?_, q⟩
    have sb : s1.heap.objs.size ≤ b := by
      rcases List.mem_cons.mp hb with z | z
      · rw [z]; exact Nat.le_add_right _ _
      · rw [show b = s1.heap.objs.size by simpa using z]
        exact Nat.le_refl _
    exact I1.fpOk sb (I1.hok.fresh sb)
theorem walk_et {K : PySem.W.Frag} {a : Addr} {xs : List V} : Walk (Iet K a) xs.length (fun H => SqT K H a xs) (YPair (fun i => some (.int (i : Nat))) (fun i => xs[i]?)) where
  goes := fun i _ hi q => ⟨xs, xs[i], q, by simp [hi]⟩
  stops := fun _ q => ⟨xs, q, Nat.le_refl _⟩
  yields := fun i H v H' _ q y => by
    obtain ⟨T, x, h1, h2, h3, h4⟩ := y
    exact ⟨T, _, x, h1, h2, h3, rfl, h4 xs q⟩
end WP

end
section
set_option autoImplicit false
set_option Elab.async false
set_option linter.all false
set_option maxRecDepth 100000
set_option maxHeartbeats 4000000
/-! ## Way.__init__ for good rows: the pieces -/
namespace M
def tuns : List Step → List Way
  | [] => []
  | .tunnel w _ _ :: r => w :: tuns r
  | .road _ _ _ :: r => tuns r
  | .join _ :: r => tuns r
theorem tuns_app : ∀ (l m : List Step), tuns (l ++ m) = tuns l ++ tuns m
  | [], m => rfl
  | .tunnel w a b :: r, m => by
    show w :: tuns (r ++ m) = w :: tuns r ++ tuns m
    rw [tuns_app r m]; rfl
  | .road a b c :: r, m => tuns_app r m
  | .join a :: r, m => tuns_app r m
theorem tuns_len : ∀ l : List Step, (tuns l).length ≤ l.length
  | [] => Nat.le_refl _
  | .tunnel w a b :: r => by
    show (tuns r).length + 1 ≤ r.length + 1
    exact Nat.succ_le_succ (tuns_len r)
  | .road a b c :: r => Nat.le_succ_of_le (tuns_len r)
  | .join a :: r => Nat.le_succ_of_le (tuns_len r)
theorem inner_eq : ∀ st : List Step, Step.inner st = ((tuns st).map Way.size).sum
  | [] => by simp [Step.inner, tuns]
  | .tunnel w a b :: r => by
    unfold Step.inner tuns
    rw [inner_eq r, List.map_cons, List.sum_cons]
  | .road a b c :: r => by
    unfold Step.inner tuns
    exact inner_eq r
  | .join a :: r => by
    unfold Step.inner tuns
    exact inner_eq r
theorem deepest_eq : ∀ st : List Step, Step.deepest st = (tuns st).foldr (fun w d => max w.depth d) 0
  | [] => by simp [Step.deepest, tuns]
  | .tunnel w a b :: r => by
    unfold Step.deepest tuns
    rw [deepest_eq r, List.foldr_cons]
  | .road a b c :: r => by
    unfold Step.deepest tuns
    exact deepest_eq r
  | .join a :: r => by
    unfold Step.deepest tuns
    exact deepest_eq r
theorem fold_max : ∀ (l : List Int) (a b : Int), (l.foldl max (max a b)) = max a (l.foldl max b)
  | [], a, b => rfl
  | c :: r, a, b => by
    show r.foldl max (max (max a b) c) = max a (r.foldl max (max b c))
    rw [Int.max_assoc, fold_max r a (max b c)]
theorem deep_max (ws : List Way) : (match ws.map fun w => ((w.depth : Nat) : Int) with | [] => (0 : Int) | n :: r => r.foldl max n) = ((ws.foldr (fun w d => max w.depth d) 0 : Nat) : Int) := by
  induction ws with
  | nil => rfl
  | cons w r ih =>
    show ((r.map fun w => ((w.depth : Nat) : Int)).foldl max ((w.depth : Nat) : Int)) = _
    cases r with
    | nil => show ((w.depth : Nat) : Int) = ((max w.depth 0 : Nat) : Int); rw [Nat.max_zero]
    | cons v q =>
      show ((q.map fun w => ((w.depth : Nat) : Int)).foldl max (max ((w.depth : Nat) : Int) ((v.depth : Nat) : Int))) = _
      rw [fold_max]
      have e : ((q.map fun w => ((w.depth : Nat) : Int)).foldl max ((v.depth : Nat) : Int)) = (((v :: q).foldr (fun w d => max w.depth d) 0 : Nat) : Int) := ih
      rw [e]
      show _ = ((max w.depth ((v :: q).foldr (fun w d => max w.depth d) 0) : Nat) : Int)
      omega
theorem sum_cast (ws : List Way) : (ws.map fun w => ((w.size : Nat) : Int)).sum = (((ws.map Way.size).sum : Nat) : Int) := by
  induction ws with
  | nil => rfl
  | cons w r ih => rw [List.map_cons, List.sum_cons, ih, List.map_cons, List.sum_cons]; omega
end M
namespace WP
open PySem L2 G
section
variable {X : Cx} {tg it : Expr}
theorem pi_or {w1 w2 : TI} (h1 : PI X tg it w1) (h2 : PI X tg it w2) : PI X tg it (fun σ H R => w1 σ H R ∨ w2 σ H R) := ⟨fun pins s σ H R I h => h.elim (h1.run pins s σ H R I) (h2.run pins s σ H R I)⟩
def tDead : TS := fun _ _ _ => False
theorem ps_dead {b : List Stmt} : PSs X b tDead := ⟨fun _ _ _ _ _ _ h => h.elim⟩
end
def SAt (H : Hp) (l : Addr) (xs : List V) : Prop := H l = some (.lst xs) ∨ H l = some (.tup xs)
theorem SAt.mono {H H' : Hp} {l : Addr} {xs : List V} (s : Same H H') (h : SAt H l xs) : SAt H' l xs := h.elim (fun e => .inl (s _ _ e)) fun e => .inr (s _ _ e)
section
variable {K : PySem.W.Frag} {H : Hp} {σ : St} {l : Addr} {xs : List V}
theorem or_seq {te : TE} {R : It → Hp → Prop} (ht : ∀ Q : VK, Q (.ref l) H → te σ H Q) (hl : SAt H l xs) (k : ∀ (J : It) (Gd : Hp → Prop), (∀ H', Same H H' → Gd H') → Walk J xs.length Gd (YAt xs) → R J H) : iList K te σ H R ∨ iTup K te σ H R :=
  hl.elim (fun e => .inl (ht _ ⟨l, rfl, ⟨xs, SqL.of e⟩, k _ _ (fun H' s => SqL.of (s _ _ e)) walk_list⟩)) fun e => .inr (ht _ ⟨l, rfl, ⟨xs, SqT.of e⟩, k _ _ (fun H' s => SqT.of (s _ _ e)) walk_tup⟩)
theorem or_enum {ta : TA} {R : It → Hp → Prop} (ht : ∀ Q : List V → Hp → Prop, Q [.ref l] H → ta σ H Q) (hl : SAt H l xs) (k : ∀ (J : It) (Gd : Hp → Prop), (∀ H', Same H H' → Gd H') → Walk J xs.length Gd (YPair (fun i => some (.int (i : Nat))) (fun i => xs[i]?)) → R J H) : iEnum K ta σ H R ∨ iEnT K ta σ H R :=
  hl.elim (fun e => .inl (ht _ ⟨l, xs, rfl, SqL.of e, k _ _ (fun H' s => SqL.of (s _ _ e)) walk_enum⟩)) fun e => .inr (ht _ ⟨l, xs, rfl, SqT.of e, k _ _ (fun H' s => SqT.of (s _ _ e)) walk_et⟩)
end
/-- ways at addresses -/
inductive WaysAt (C : Addr) (H : Hp) : List M.Way → List V → Prop
  | nil : WaysAt C H [] []
  | cons {w : M.Way} {a : Addr} {ws : List M.Way} {vs : List V} (h : WayAt C H w a) (t : WaysAt C H ws vs) : WaysAt C H (w :: ws) (.ref a :: vs)
theorem WaysAt.mono {C : Addr} {H H' : Hp} (s : Same H H') {ws : List M.Way} {vs : List V} (h : WaysAt C H ws vs) : WaysAt C H' ws vs := by
  induction h with
  | nil => exact .nil
  | cons h _ ih => exact .cons (h.mono s) ih
theorem WaysAt.snoc {C : Addr} {H : Hp} {ws : List M.Way} {vs : List V} {w : M.Way} {a : Addr} (h : WaysAt C H ws vs) (hw : WayAt C H w a) : WaysAt C H (ws ++ [w]) (vs ++ [.ref a]) := by
  induction h with
  | nil => exact .cons hw .nil
  | cons h _ ih => exact .cons h ih
theorem WaysAt.len {C : Addr} {H : Hp} {ws : List M.Way} {vs : List V} (h : WaysAt C H ws vs) : vs.length = ws.length := by
  induction h with
  | nil => rfl
  | cons _ _ ih => simp [ih]
theorem WaysAt.get {C : Addr} {H : Hp} {ws : List M.Way} {vs : List V} (h : WaysAt C H ws vs) : ∀ {i : Nat} {v : V}, vs[i]? = some v → ∃ w a, ws[i]? = some w ∧ v = .ref a ∧ WayAt C H w a := by
  induction h with
  | nil => intro i v e; cases e
  | cons h t ih =>
    intro i v e
    cases i with
    | zero => cases e; exact ⟨_, _, rfl, rfl, h⟩
    | succ i => obtain ⟨w, a, e1, e2, e3⟩ := ih (i := i) e; exact ⟨w, a, e1, e2, e3⟩
end WP

end
section
set_option autoImplicit false
set_option Elab.async false
set_option linter.all false
set_option maxRecDepth 100000
set_option maxHeartbeats 4000000
/-! ## Way.__init__ for good rows -/
namespace WP
open PySem L2 G
section
variable {P : Program} {w : World} {K : PySem.W.Frag} {mg : Str → Option Value} {base : Heap} {C : Addr}
abbrev NI : List Str := ["self", "head", "steps", "position", "step", "inner_ways", "depth", "size", "inner"]
theorem scI : FnScope NI ["self", "head", "steps"] (defScope sInit) := ⟨rfl, rfl, rfl, by decide +kernel, rfl, by decide +kernel, by decide +kernel⟩
/-- the ways of the tunnels -/
def tTuns (K : PySem.W.Frag) : TE := tLc (fun σ H R => iList K (tVar 2) σ H R ∨ iTup K (tVar 2) σ H R) (gName 4) (tTest (tOp rEq (tOp (rIxT K) (tVar 4) (tC (.int 0))) (tC (.str "tunnel")))) (tOp (rIxT K) (tVar 4) (tC (.int 1))) [4]
theorem add_upd {H G : Hp} {D : Addr} {o : HO} (nD : H D = none) (s : Same H G) : Same H (upd G D o) := fun b u e => by
  rw [upd_ne (ne_of_none e nD)]
  exact s _ _ e
theorem take_snoc {α : Type} {l : List α} {i : Nat} {x : α} (h : l[i]? = some x) : l.take (i + 1) = l.take i ++ [x] := by
  rw [List.take_succ, h]
  rfl
theorem tuns_run {σ : St} {H : Hp} {a0 a1 p q a5 a6 a7 a8 : Option V} {l : Addr} {xs : List V} {st : List M.Step} {Q : VK} (hσ : σ = [a0, a1, some (.ref l), p, q, a5, a6, a7, a8]) (hl : SAt H l xs) (hs : StepsAt C H st xs) (hn : xs.length ≤ 1000)
    (k : ∀ D vs H', Same H H' → H' D = some (.lst vs) → WaysAt C H (M.tuns st) vs → Q (.ref D) H') : tTuns K σ H Q := by
  subst hσ
  have yes : ∀ {a : Str}, decide (V.str a = V.str a) = true := decide_eq_true rfl
  have no : ∀ {a b : Str}, a ≠ b → decide (V.str a = V.str b) = false := fun h => decide_eq_false fun z => h (V.str.inj z)
  refine or_seq (fun Q h => ⟨_, rfl, h⟩) hl fun J Gd hG wk D nD => ?_
  refine lc_it wk (fun i G => Same H G ∧ ∃ acc, acc.length ≤ i ∧ G D = some (.lst acc) ∧ WaysAt C H (M.tuns (st.take i)) acc) ⟨Same.of_upd nD, [], Nat.le_refl _, upd_same, .nil⟩ (fun i G _ p => hG G p.1) ?_ ?_
  · rintro i v G G' hi ⟨s, acc, hA, hD, hw⟩ ⟨rfl, hx⟩
    obtain ⟨sp, hsp, hst⟩ := hs.get hx
    have et := take_snoc hsp
    have la : acc.length < sizeLine := Nat.lt_of_lt_of_le (Nat.lt_of_le_of_lt hA hi) (Nat.le_trans hn (by decide))
    have z1 : ∀ {y0 : V} {ys : List V}, atI (y0 :: ys) (0 : Int) = some y0 := fun {y0 ys} => by exact atI_nat (xs := y0 :: ys) (j := 0) rfl
    refine ⟨rfl, ?_⟩
    have hst2 := hst
    cases sp with
    | road size ts lw =>
      unfold StepAt at hst
      obtain ⟨t, rfl, ht⟩ := hst
      refine ⟨_, rfl, t, _, _, _, rfl, rfl, SqT.of (s _ _ ht), z1, rfl, _, rfl, ?_⟩
      rw [no kinds.2.1]
      refine iteF ⟨s, acc, Nat.le_succ_of_le hA, hD, ?_⟩
      rw [et, M.tuns_app]
      exact (List.append_nil _).symm ▸ hw
    | join most =>
      unfold StepAt at hst
      obtain ⟨t, rfl, ht⟩ := hst
      refine ⟨_, rfl, t, _, _, _, rfl, rfl, SqT.of (s _ _ ht), z1, rfl, _, rfl, ?_⟩
      rw [no kinds.2.2.1]
      refine iteF ⟨s, acc, Nat.le_succ_of_le hA, hD, ?_⟩
      rw [et, M.tuns_app]
      exact (List.append_nil _).symm ▸ hw
    | tunnel wy most tw =>
      unfold StepAt at hst
      obtain ⟨t, a, rfl, ht, hway⟩ := hst
      refine ⟨_, rfl, t, _, _, _, rfl, rfl, SqT.of (s _ _ ht), z1, rfl, _, rfl, ?_⟩
      rw [yes]
      refine iteT ⟨_, rfl, t, _, _, _, rfl, rfl, SqT.of (s _ _ ht), (by exact atI_nat (xs := [V.str "tunnel", V.ref a, V.int (most : Int), V.str (twS tw)]) (j := 1) rfl), acc, hD, la, add_upd nD s, _, by simp; exact hA, upd_same, ?_⟩
      rw [et, M.tuns_app]
      exact hw.snoc hway
  · rintro G ⟨s, acc, hA, hD, hw⟩
    have e : st.take xs.length = st := by rw [hs.len]; exact List.take_length
    rw [e] at hw
    exact k D acc G s hD hw
/-- a field of each of the ways, ints -/
def tFlds (K : PySem.W.Frag) (f : Str) : TE := tLc (iList K (tVar 5)) (gName 8) tYes (tFld K (tVar 8) f) [8]
theorem flds_run {f : Str} {g : M.Way → Int} {σ : St} {H : Hp} {a0 a1 a2 p q a6 a7 a8 : Option V} {D0 : Addr} {vs : List V} {ws : List M.Way} {Q : VK} (T : Wt K mg C) (nf : NoAttr K C f) (hg : ∀ H wy a, WayAt C H wy a → ∃ dx fs, H a = some (.ins C dx fs) ∧ fs.lookup f = some (.int (g wy)))
    (hσ : σ = [a0, a1, a2, p, q, some (.ref D0), a6, a7, a8]) (hl : H D0 = some (.lst vs)) (hw : WaysAt C H ws vs) (hn : vs.length ≤ 1000) (k : ∀ D H', Same H H' → H' D = some (.lst ((ws.map g).map V.int)) → Q (.ref D) H') : tFlds K f σ H Q := by
  subst hσ
  refine ⟨_, rfl, D0, rfl, ⟨vs, SqL.of hl⟩, fun D nD => ?_⟩
  refine lc_it walk_list (fun i G => Same H G ∧ G D = some (.lst ((((ws.take i).map g)).map V.int))) ⟨Same.of_upd nD, upd_same⟩ (fun i G _ p => SqL.of (p.1 _ _ hl)) ?_ ?_
  · rintro i v G G' hi ⟨s, hD⟩ ⟨rfl, hx⟩
    obtain ⟨wy, a, hwi, rfl, hat⟩ := hw.get hx
    obtain ⟨dx, fs, h1, h2⟩ := hg H wy a hat
    refine ⟨rfl, _, rfl, a, C, dx, fs, _, rfl, s _ _ h1, T.cl, nf, h2, _, hD, ?_, add_upd nD s, ?_⟩
    · rw [List.length_map, List.length_map, List.length_take]
      exact Nat.lt_of_le_of_lt (Nat.le_trans (Nat.min_le_left _ _) (Nat.le_of_lt (Nat.lt_of_lt_of_le hi hn))) (by decide)
    · rw [take_snoc hwi, List.map_append, List.map_append, upd_same]
      rfl
  · rintro G ⟨s, hD⟩
    have e : ws.take vs.length = ws := by rw [hw.len]; exact List.take_length
    rw [e] at hD
    exact k D G s hD
theorem depth_fld (H : Hp) (wy : M.Way) (a : Addr) (h : WayAt C H wy a) : ∃ dx fs, H a = some (.ins C dx fs) ∧ fs.lookup ("depth" : Str) = some (.int ((wy.depth : Nat) : Int)) := by
  obtain ⟨wh, ws⟩ := wy
  unfold WayAt at h
  obtain ⟨dx, t, xs, h1, _, _⟩ := h
  refine ⟨dx, _, h1, ?_⟩
  rw [flds_depth]
  unfold M.Way.depth
  rfl
theorem size_fld (H : Hp) (wy : M.Way) (a : Addr) (h : WayAt C H wy a) : ∃ dx fs, H a = some (.ins C dx fs) ∧ fs.lookup ("size" : Str) = some (.int ((wy.size : Nat) : Int)) := by
  obtain ⟨wh, ws⟩ := wy
  unfold WayAt at h
  obtain ⟨dx, t, xs, h1, _, _⟩ := h
  refine ⟨dx, _, h1, ?_⟩
  rw [flds_size]
  unfold M.Way.size
  rfl
end
end WP

end
section
set_option autoImplicit false
set_option Elab.async false
set_option linter.all false
set_option maxRecDepth 100000
set_option maxHeartbeats 4000000
/-! ## Way.__init__ for good rows: the def -/
namespace WP
open PySem L2 G
theorem set_then {te : TE} {i : Nat} {t2 : TS} {D : Ends} {σ : St} {H : Hp} (h : te σ H fun v H1 => t2 D (σ.set i (some v)) H1) : tSeq (tAsg te (gName i)) t2 D σ H := h
theorem add_of {tb : TE} {i : Int} {σ : St} {H : Hp} {Q : VK} (h : tb σ H fun y H2 => ∃ a b, V.int i = .int a ∧ y = .int b ∧ Q (.int (a + b)) H2) : tOp (rI0 fun i j => .int (i + j)) (tC (.int i)) tb σ H Q := h
theorem maxID_at {K : PySem.W.Frag} {H : Hp} {Q : VK} {a : Addr} {ns : List Int} {n : Int} (e : (match ns with | [] => (0 : Int) | n :: r => r.foldl max n) = n) (hq : SqL K H a (ns.map V.int)) (q : Q (.int n) H) : G.rMaxID K [.ref a] [.int 0] H Q := by
  subst e
  refine ⟨a, ns, 0, rfl, rfl, hq, ?_⟩
  cases ns <;> exact q
theorem maxD_of {K : PySem.W.Frag} {tl : TE} {σ : St} {H : Hp} {Q : VK} (h : tl σ H fun x H1 => G.rMaxID K [x] [.int 0] H1 Q) : tCKw (G.rMaxID K) (tCons tl tNil) (tCons (tC (.int 0)) tNil) σ H Q := h
theorem sum_of {K : PySem.W.Frag} {tl : TE} {σ : St} {H : Hp} {Q : VK} (h : tl σ H fun x H1 => rSum K [x] H1 Q) : tCB (rSum K) (tCons tl tNil) σ H Q := h
theorem len_add {K : PySem.W.Frag} {tl : TE} {σ : St} {H : Hp} {Q : VK} {l : Addr} {xs : List V} (hσ : σ[2]? = some (some (.ref l))) (hl : SAt H l xs) (h : tl σ H fun x H1 => rSum K [x] H1 fun y H2 => ∃ a b, V.int (xs.length : Int) = .int a ∧ y = .int b ∧ Q (.int (a + b)) H2) :
    tOp (rI0 fun i j => .int (i + j)) (tCB (fun zs H Q => ∃ p ys, zs = [.ref p] ∧ (SqL K H p ys ∨ SqT K H p ys) ∧ Q (.int ys.length) H) (tCons (tVar 2) tNil)) (tCB (rSum K) (tCons tl tNil)) σ H Q :=
  ⟨_, hσ, l, xs, rfl, hl.elim (fun e => .inl (SqL.of e)) (fun e => .inr (SqT.of e)), h⟩
theorem tup_or {K : PySem.W.Frag} {H : Hp} {l : Addr} {xs : List V} {Q : VK} (hl : SAt H l xs) (k : ∀ t G, Same H G → G t = some (.tup xs) → Q (.ref t) G) : (SqL K H l xs ∧ ∀ q, H q = none → Q (.ref q) (upd H q (.tup xs))) ∨ (SqT K H l xs ∧ Q (.ref l) H) :=
  hl.elim (fun e => .inl ⟨SqL.of e, fun q hq => k _ _ (Same.of_upd hq) upd_same⟩) fun e => .inr ⟨SqT.of e, k _ _ (Same.refl _) e⟩
theorem len_put {f : Str} {v : V} {fs : List (Str × V)} {n : Nat} (h : fs.length < n) : (putF f v fs).length < n + 1 := by
  exact Nat.lt_of_le_of_lt (length_putF f v fs) (Nat.succ_lt_succ h)
section
variable {P : Program} {w : World} {K : PySem.W.Frag} {mg : Str → Option Value} {base : Heap} {C : Addr}
/-- at a new instance x: steps of a list or a tuple, as they stood before it was made -/
def spInit (C : Addr) : Sp := fun vs H Q _ => ∃ (x l dx : Addr) (h : Nat) (xs : List V) (st : List M.Step) (H0 : Hp), vs = [.ref x, .int (h : Int), .ref l] ∧ H x = some (.ins C dx []) ∧ H0 x = none ∧ Same H0 H ∧ SAt H0 l xs ∧ StepsAt C H0 st xs ∧ M.Way.fine (.mk h st) ∧
  ∀ H', Same H0 H' → WayAt C H' (.mk h st) x → Q .non H'
theorem ok_init {f : Addr} {fd : FuncData} (F : Fun K "__init__" "Way.__init__" sInit f fd) (B : Bn mg) (T : Wt K mg C) (W : Df P w K mg base 3 "is_head" ["value"] (spIn1 1 40)) (WL : Df P w K mg base 1 "is_step_list" ["value"] (spList K)) (WS : Df P w K mg base 5 "_is_step" ["value", "head"] (spStep C)) :
    FnOk P w K mg base CX0 6 f fd ["self", "head", "steps"] (spInit C) := by
  obtain ⟨fW, fdW, GW, gW, kW, bW⟩ := W.ex
  obtain ⟨fL, fdL, GL, gL, kL, bL⟩ := WL.ex
  obtain ⟨fS, fdS, GS, gS, kS, bS⟩ := WS.ex
  obtain ⟨t2, g2⟩ := T.gDepth
  obtain ⟨t3, g3⟩ := T.gSize
  refine F.ok scI (fun vs H Q E h => ?_) (fun cdv A outer s H vs Q E hr h => ?_)
  · obtain ⟨x, l, dx, h, xs, st, H0, rfl, _⟩ := h
    rfl
  · obtain ⟨x, l, dx, h, xs, st, H0, rfl, hx, hx0, s0, hl, hs, hf, k⟩ := h
    have r1 := hr.mono (by decide : 1 ≤ 5)
    have r0 := hr.mono (by decide : 3 ≤ 5)
    refine ⟨_, pss_cons (ps_if (pt_not (pt_val (pe_call GW r0 rfl gW kW bW .nil pass0 (pa_cons (pv 1) pa_nil)))) ps_dead pss_nil)
      (pss_cons (ps_if (pt_not (pt_val (pe_call GL r1 rfl gL kL bL .nil pass0 (pa_cons (pv 2) pa_nil)))) ps_dead pss_nil)
      (pss_cons (ps_for PassesOwn.never rfl (pi_or (pi_enum (by rfl) B.enum (pa_cons (pv 2) pa_nil)) (pi_et (by rfl) B.enum (pa_cons (pv 2) pa_nil))) (pg_tup (by rfl) (pgs_cons (pg_name (i := 3) scI.nd rfl (Or.inl rfl)) (pgs_cons (pg_name (i := 4) scI.nd rfl (Or.inl rfl)) pgs_nil)))
        (pss_one (ps_if (pt_not (pt_val (pe_call GS hr rfl gS kS bS .nil pass0 (pa_cons (pv 4) (pa_cons (pv 1) pa_nil))))) ps_dead pss_nil)))
      (pss_cons (ps_setLc (i := 5) (own := [("step", 4)]) (g := gName 4) (tt := tTest (tOp rEq (tOp (rIxT K) (tVar 4) (tC (.int 0))) (tC (.str "tunnel")))) (te := tOp (rIxT K) (tVar 4) (tC (.int 1))) rfl scI.nd rfl rfl (sw_true rfl rfl rfl (by decide +kernel)) (pi_or (pi_list (pv 2)) (pi_tup (pv 2))) (blkOk_by (N := NI) (sc := defScope sInit) (by decide +kernel))
          (fun _ _ _ _ _ => pg_name (i := 4) scI.nd rfl (Or.inl rfl)) (fun _ _ _ _ _ => pts_one (by exact pt_cmpR op_eq (pe_ix ix_tup (pv 4) pe_int (fun _ _ => rfl)) pe_str (nomark _))) (fun _ _ _ _ _ => by exact pe_ix ix_tup (pv 4) pe_int (fun _ _ => rfl)))
      (pss_cons (ps_set (i := 6) scI.nd rfl (Or.inl rfl) (pe_op op_add pe_int (pe_callBK (G.call_maxID rfl hr.units) (by rfl) B.max (by decide +kernel) (pa_cons (pe_lc (own := [("inner", 8)]) (g := gName 8) (tt := tYes) (te := tFld K (tVar 8) "depth") rfl scI.nd (pi_list (pv 5)) (blkOk_by (N := NI) (sc := defScope sInit) (by decide +kernel))
          (fun _ _ _ _ _ => pg_name (i := 8) scI.nd rfl (Or.inl rfl)) (fun _ _ _ _ _ => pts_nil) (fun _ _ _ _ _ => by exact pe_fld (pv 8) rfl)) pa_nil) (pk_cons pe_int pk_nil))))
      (pss_cons (ps_if (pt_cmpR op_gt (pv 6) (pe_glob (v := .int 3) rfl g2 ⟨_, rfl⟩) (nomark _)) ps_dead pss_nil)
      (pss_cons (ps_set (i := 7) scI.nd rfl (Or.inl rfl) (pe_op op_add (pe_callB call_len_seq (by rfl) B.len PySem.boot_len (pa_cons (pv 2) pa_nil)) (pe_callB (cr_sum rfl) (by rfl) B.sum (by decide +kernel) (pa_cons (pe_lc (own := [("inner", 8)]) (g := gName 8) (tt := tYes) (te := tFld K (tVar 8) "size") rfl scI.nd (pi_list (pv 5)) (blkOk_by (N := NI) (sc := defScope sInit) (by decide +kernel))
          (fun _ _ _ _ _ => pg_name (i := 8) scI.nd rfl (Or.inl rfl)) (fun _ _ _ _ _ => pts_nil) (fun _ _ _ _ _ => by exact pe_fld (pv 8) rfl)) pa_nil))))
      (pss_cons (ps_if (pt_cmpR op_gt (pv 7) (pe_glob (v := .int 40) rfl g3 ⟨_, rfl⟩) (nomark _)) ps_dead pss_nil)
      (pss_cons (ps_fld (pv 0) (pv 1) rfl)
      (pss_cons (ps_fld (pv 0) (pe_callTy call_tuple_of (by rfl) B.tuple (by decide +kernel) (pa_cons (pv 2) pa_nil)) rfl)
      (pss_cons (ps_fld (pv 0) (pv 6) rfl)
      (pss_one (ps_fld (pv 0) (pv 7) rfl)))))))))))), ?_⟩
    unfold M.Way.fine at hf
    obtain ⟨hh, hn, hall, hd, hz⟩ := hf
    have ln := hs.len
    refine ⟨_, rfl, (h : Int), rfl, ?_⟩
    rw [decide_eq_true (by omega)]
    refine ⟨_, rfl, iteF ⟨_, rfl, l, xs, rfl, hl.mono s0, by omega, by omega, fun H1 s1 => ⟨_, rfl, iteF ?_⟩⟩⟩
    have S1 := s0.trans s1
    have hx1 : H1 x = some (.ins C dx []) := s1 _ _ hx
    clear s1 hx s0
    refine or_enum (fun Q h => ⟨_, rfl, h⟩) (hl.mono S1) fun J Gd hG wk => ?_
    refine for_it wk (fun i σ G => Same H1 G ∧ ∃ p q, σ = [some (.ref x), some (.int (h : Int)), some (.ref l), p, q, none, none, none, none]) ⟨Same.refl _, _, _, rfl⟩ (fun i σ G _ z => hG G z.1) ?_ ?_
    · rintro i v σ G G' hi ⟨s, p, q, rfl⟩ ⟨t, a, b, rfl, nt, rfl, e1, hb⟩
      cases e1
      obtain ⟨sp, hsp, hst⟩ := hs.get hb
      have s2 : Same H1 (upd G t (.tup [V.int (i : Nat), b])) := s.trans (Same.of_upd nt)
      refine ⟨t, _, rfl, SqT.of upd_same, rfl, _, _, rfl, _, _, rfl, rfl, ?_⟩
      exact ⟨_, rfl, _, rfl, b, h, sp, rfl, hst.mono (S1.trans s2), fine_get hall hsp, _, rfl, iteF ⟨s2, _, _, rfl⟩⟩
    · rintro σ G ⟨s, p, q, rfl⟩
      have S2 := S1.trans s
      have hx2 := s _ _ hx1
      dsimp only
      refine set_then (te := tTuns K) (i := 5) ?_
      refine tuns_run (st := st) (xs := xs) rfl (hl.mono S2) (hs.mono S2) (by omega) fun D0 vs H2 s3 hD0 hW => ?_
      have lw : vs.length ≤ 1000 := by
        have e1 := hW.len
        have e2 := M.tuns_len st
        omega
      refine set_then (i := 6) ?_
      refine add_of (i := 1) (maxD_of (tl := tFlds K "depth") ?_)
      refine flds_run (f := "depth") (g := fun w => ((w.depth : Nat) : Int)) T T.nD (fun H wy a => depth_fld H wy a) rfl hD0 (hW.mono s3) lw fun D1 H3 s4 hD1 => ?_
      refine maxID_at (M.deep_max _) (SqL.of hD1) ⟨_, _, rfl, rfl, ?_⟩
      rw [← M.deepest_eq]
      refine ⟨_, rfl, _, _, rfl, rfl, _, rfl, ?_⟩
      rw [decide_eq_false (by omega)]
      refine iteF ?_
      unfold tNext
      dsimp only
      have s5 := s3.trans s4
      refine set_then (i := 7) (len_add (l := l) (xs := xs) (tl := tFlds K "size") rfl (hl.mono (S2.trans s5)) ?_)
      refine flds_run (f := "size") (g := fun w => ((w.size : Nat) : Int)) T T.nZ (fun H wy a => size_fld H wy a) rfl (s4 _ _ hD0) (hW.mono s5) lw fun D2 H4 s6 hD2 => ?_
      refine ⟨D2, _, rfl, SqL.of hD2, _, _, rfl, rfl, ?_⟩
      rw [M.sum_cast, ← M.inner_eq]
      refine ⟨_, rfl, _, _, rfl, rfl, _, rfl, ?_⟩
      rw [decide_eq_false (by omega)]
      refine iteF ?_
      dsimp only
      have S4 : Same H0 H4 := S2.trans (s5.trans s6)
      have hx4 : H4 x = some (.ins C dx []) := s6 _ _ (s5 _ _ hx2)
      refine ⟨_, rfl, _, rfl, x, C, dx, [], rfl, hx4, T.cl, T.nH, by decide, ?_⟩
      have S5 : Same H0 (upd H4 x (.ins C dx (putF "head" (.int (h : Int)) []))) := add_upd hx0 S4
      have e1 : (1 : Int) + ((M.Step.deepest st : Nat) : Int) = ((1 + M.Step.deepest st : Nat) : Int) := by omega
      have e2 : ((xs.length : Nat) : Int) + ((M.Step.inner st : Nat) : Int) = ((st.length + M.Step.inner st : Nat) : Int) := by omega
      have fin : ∀ (t : Addr) (G2 : Hp), Same (upd H4 x (.ins C dx (putF "head" (.int (h : Int)) []))) G2 → G2 t = some (.tup xs) → tSeq (sFld K (tVar 0) (tC (.ref t)) "steps") (tSeq (sFld K (tVar 0) (tVar 6) "depth") (sFld K (tVar 0) (tVar 7) "size")) { nx := fun _ H' => Q V.non H', rt := Q } [some (.ref x), some (.int (h : Int)), some (.ref l), p, q, some (.ref D0), some (.int (1 + ((M.Step.deepest st : Nat) : Int))), some (.int ((xs.length : Int) + ((M.Step.inner st : Nat) : Int))), none] G2 := fun t G2 sG ht => by
        have hx5 : G2 x = some (.ins C dx (putF "head" (.int (h : Int)) [])) := sG _ _ upd_same
        have tx : t ≠ x := fun z => by
          rw [z, hx5] at ht
          cases ht
        have S6 := S5.trans sG
        rw [e1, e2]
        refine ⟨_, rfl, x, C, dx, _, rfl, hx5, T.cl, T.nS, len_put (by decide), ?_⟩
        refine ⟨_, rfl, _, rfl, x, C, dx, _, rfl, upd_same, T.cl, T.nD, len_put (len_put (by decide)), ?_⟩
        refine ⟨_, rfl, _, rfl, x, C, dx, _, rfl, upd_same, T.cl, T.nZ, len_put (len_put (len_put (by decide))), ?_⟩
        have S7 := add_upd (o := .ins C dx (flds (h : Int) t ((1 + M.Step.deepest st : Nat) : Int) ((st.length + M.Step.inner st : Nat) : Int))) hx0 (add_upd (o := .ins C dx (putF "depth" (.int ((1 + M.Step.deepest st : Nat) : Int)) (putF "steps" (.ref t) (putF "head" (.int (h : Int)) [])))) hx0 (add_upd (o := .ins C dx (putF "steps" (.ref t) (putF "head" (.int (h : Int)) []))) hx0 S6))
        refine k _ S7 ?_
        unfold WayAt
        exact ⟨dx, t, xs, upd_same, by rw [upd_ne tx, upd_ne tx, upd_ne tx]; exact ht, hs.mono S7⟩
      rcases hl.mono S5 with e | e
      · exact ⟨_, rfl, l, xs, rfl, .inl ⟨SqL.of e, fun t nt => fin t _ (Same.of_upd nt) upd_same⟩⟩
      · exact ⟨_, rfl, l, xs, rfl, .inr ⟨SqT.of e, fin l _ (Same.refl _) e⟩⟩
end
end WP

end
section
set_option autoImplicit false
set_option Elab.async false
set_option linter.all false
set_option maxRecDepth 100000
set_option maxHeartbeats 4000000
/-! ## len, +, in, [] and != by a class's own methods -/
namespace WO
open PySem PySem.Spec PyProof.Rows L2
section
variable {X : Cx} {CX : CXT} {n : Nat} {f C : Addr} {fd : FuncData} {ps : List Str} {sp : Sp} {E : XK}
/-- an own method, run somewhere below the running body -/
theorem run_own {A : Around} {pins : List (Addr × Obj)} {s : Shared} {σ : L2.St} {H : Hp} {xs : List V} {us : List Value} {Z : VK} {G : Value → Shared → Prop} (F : FnOk X.prog X.w X.K X.mg X.base CX n f fd ps sp) (sb : Sub X n A) (hb : Binds X.K fd ps []) (hx : Passes CX X E)
    (I : Inv X pins σ H s) (r : Vals xs us) (hsp : sp xs H Z E) (k : ∀ z u H1 s1, Inv X pins σ H1 s1 → RelV z u → Z z H1 → G u s1) : wpAny (model X.prog X.w) A (call (.ref f) us) G X.xe s := by
  have hl := F.len _ _ _ _ hsp
  have lu : us.length = ps.length := by rw [← r.length]; exact hl
  have env : Env0 X.prog X.w X.K X.mg X.base A X.stack s H := by
    have e := I.env0
    exact ⟨by rw [sb.fr]; exact e.frames, e.mod, e.bs, e.bsz, e.funs, e.frf, e.hok, e.bare⟩
  refine wpAny_call (codeAny_mono (F.run A X.stack s H ⟨us, []⟩ us xs _ E sb.room env (by simpa using hb s us I.kIn (by simpa using lu)) r hsp) fun res s1 hq => ?_)
  match res, hq with
  | .error e, hq => exact hx pins σ H s e s1 I hq
  | .ok (.ret u), hq =>
    obtain ⟨z, H1, I1, rz, q⟩ := I.after hq
    exact k z u H1 s1 I1 rz q
  | .ok .next, hq => exact hq.elim
  | .ok .brk, hq => exact hq.elim
  | .ok .cont, hq => exact hq.elim
/-- an instance of the class at C -/
def InsC (C : Addr) (H : Hp) (a : Addr) : Prop := ∃ dx fs, H a = some (.ins C dx fs)
structure Own (K : PySem.W.Frag) (C f : Addr) (m : Str) : Prop where
  at' : PySem.W.findIn K (.ref C) m = some (some (.ref f))
  fn : PySem.W.isFn K (.ref f) = true
def rLenO (C : Addr) (sp : Sp) (E : XK) : List V → Hp → VK → Prop := fun xs H Q => ∃ a, xs = [.ref a] ∧ InsC C H a ∧ sp [.ref a] H (fun v H1 => ∃ k : Nat, v = .int k ∧ k < 1000000 ∧ Q (.int k) H1) E
theorem call_lenO (F : FnOk X.prog X.w X.K X.mg X.base CX n f fd ps sp) (hr : Room (n + 1) X.A) (O : Own X.K C f "__len__") (hb : Binds X.K fd ps []) (hx : Passes CX X E) : CallR X (.builtin "len") (rLenO C sp E) := by
  intro pins s σ H xs us Q I r h
  obtain ⟨a, rfl, ⟨dx, fs, ha⟩, hsp⟩ := h
  cases r with
  | cons ra rr =>
    cases rr
    cases ra
    obtain ⟨_, J, _⟩ := ins_get I.hok ha
    obtain ⟨od, J, _⟩ := J.look
    obtain ⟨m, hF⟩ := I.fr
    refine PySem.W.len_K hF I.ok.mod.kin J O.at' O.fn (run_own F (A := X.A.in1) (xs := [.ref a]) ⟨hr.in1, rfl⟩ hb hx I (.cons rfl .nil) hsp fun z u H1 s1 I1 rz q => ?_)
    obtain ⟨k, rfl, hk, q⟩ := q
    obtain ⟨t, rfl⟩ := rz
    exact ⟨⟨by omega, by omega⟩, .int k, H1, I1.tok _, ⟨_, rfl⟩, q⟩
def rAddO (C : Addr) (sp : Sp) (E : XK) : R2 := fun x y H Q => ∃ a b, x = .ref a ∧ y = .ref b ∧ InsC C H a ∧ InsC C H b ∧ sp [.ref a, .ref b] H (fun v H1 => ∃ c, v = .ref c ∧ Q (.ref c) H1) E
theorem op_addO (F : FnOk X.prog X.w X.K X.mg X.base CX n f fd ps sp) (hr : Room n X.A) (O : Own X.K C f "__add__") (hc : PySem.W.selfFirst X.K C = true) (hb : Binds X.K fd ps []) (hx : Passes CX X E) : OpR X (binaryOp .Add) (rAddO C sp E) := by
  intro pins s σ H x y v u Q I rx ry h
  obtain ⟨a, b, rfl, rfl, ⟨dx, fs, ha⟩, ⟨dy, gs, hb'⟩, hsp⟩ := h
  cases rx
  cases ry
  obtain ⟨_, J, _⟩ := ins_get I.hok ha
  obtain ⟨_, J', _⟩ := ins_get I.hok hb'
  obtain ⟨od, J, _⟩ := J.look
  obtain ⟨od', J', _⟩ := J'.look
  obtain ⟨m, hF⟩ := I.fr
  refine PySem.W.binop_K (op := .Add) hF I.ok.mod.kin J J'.type hc O.at' O.fn (run_own F (A := X.A) (xs := [.ref a, .ref b]) ⟨hr, rfl⟩ hb hx I (.cons rfl (.cons rfl .nil)) hsp fun z u H1 s1 I1 rz q => ?_)
  obtain ⟨c, rfl, q⟩ := q
  cases rz
  exact ⟨.ref c, H1, I1, rfl, q⟩
def rInO (C : Addr) (sp : Sp) (E : XK) : R2 := fun x y H Q => ∃ a, y = .ref a ∧ InsC C H a ∧ sp [.ref a, x] H (fun v H1 => ∃ b, v = .bl b ∧ Q (.bl b) H1) E
def rNotInO (C : Addr) (sp : Sp) (E : XK) : R2 := fun x y H Q => ∃ a, y = .ref a ∧ InsC C H a ∧ sp [.ref a, x] H (fun v H1 => ∃ b, v = .bl b ∧ Q (.bl (!b)) H1) E
theorem op_inO (F : FnOk X.prog X.w X.K X.mg X.base CX n f fd ps sp) (hr : Room n X.A) (O : Own X.K C f "__contains__") (hb : Binds X.K fd ps []) (hx : Passes CX X E) : OpR X (compareOp .In) (rInO C sp E) := by
  intro pins s σ H x y v u Q I rx ry h
  obtain ⟨a, rfl, ⟨dx, fs, ha⟩, hsp⟩ := h
  cases ry
  obtain ⟨_, J, _⟩ := ins_get I.hok ha
  obtain ⟨od, J, _⟩ := J.look
  obtain ⟨m, hF⟩ := I.fr
  refine PySem.W.in_K hF I.ok.mod.kin J O.at' O.fn (run_own F (A := X.A) (xs := [.ref a, x]) ⟨hr, rfl⟩ hb hx I (.cons rfl (.cons rx .nil)) hsp fun z u H1 s1 I1 rz q => ?_)
  obtain ⟨b, rfl, q⟩ := q
  cases rz
  exact wpAny_truthy_bool ⟨.bl b, H1, I1, rfl, q⟩
theorem op_notInO (F : FnOk X.prog X.w X.K X.mg X.base CX n f fd ps sp) (hr : Room n X.A) (O : Own X.K C f "__contains__") (hb : Binds X.K fd ps []) (hx : Passes CX X E) : OpR X (compareOp .NotIn) (rNotInO C sp E) := by
  intro pins s σ H x y v u Q I rx ry h
  obtain ⟨a, rfl, ⟨dx, fs, ha⟩, hsp⟩ := h
  cases ry
  obtain ⟨_, J, _⟩ := ins_get I.hok ha
  obtain ⟨od, J, _⟩ := J.look
  obtain ⟨m, hF⟩ := I.fr
  refine PySem.W.notIn_K hF I.ok.mod.kin J O.at' O.fn (run_own F (A := X.A) (xs := [.ref a, x]) ⟨hr, rfl⟩ hb hx I (.cons rfl (.cons rx .nil)) hsp fun z u H1 s1 I1 rz q => ?_)
  obtain ⟨b, rfl, q⟩ := q
  cases rz
  exact wpAny_truthy_bool ⟨.bl (!b), H1, I1, rfl, q⟩
/-- o[e] by the own __getitem__ -/
def rIxO (C : Addr) (sp : Sp) (E : XK) : R2 := fun x y H Q => ∃ a, x = .ref a ∧ InsC C H a ∧ sp [.ref a, y] H Q E
theorem pe_ixO {a b : Expr} {ta tb : TE} {pos : Pos} (F : FnOk X.prog X.w X.K X.mg X.base CX n f fd ps sp) (hr : Room (n + 1) X.A) (O : Own X.K C f "__getitem__") (hf : PySem.W.fnIn X.K f = true) (hb : Binds X.K fd ps []) (hx : Passes CX X E) (ha : PE X a ta) (hi : PE X b tb)
    (hs : ∀ v i, subscripted b true v i = runValue (.builtin "lifetime.subscript" ⟨[v, i], []⟩)) : PE X (.Subscript a b pos) (tOp (rIxO C sp E) ta tb) := by
  refine ⟨fun pins s σ H Q I h => ?_⟩
  refine Subscript_ (binT ha hi I h fun v u s2 x y H2 I2 rx ry q => ?_)
  obtain ⟨p, rfl, ⟨dx, fs, hp⟩, hsp⟩ := q
  cases rx
  obtain ⟨_, J, _⟩ := ins_get I2.hok hp
  obtain ⟨od, J, _⟩ := J.look
  obtain ⟨m, hF⟩ := I2.fr
  exact PySem.W.sub_K hF I2.ok.mod.kin J O.at' hf O.fn (run_own F (A := X.A.in1) (xs := [.ref p, y]) ⟨hr.in1, rfl⟩ hb hx I2 (.cons rfl (.cons ry .nil)) hsp fun z u H1 s1 I1 rz q => ⟨z, H1, I1, rz, q⟩) (hs _ _)
/-- == by the own __eq__, either answer -/
def rEqO (C : Addr) (sp : Sp) (E : XK) : R2 := fun x y H Q => ∃ a b, x = .ref a ∧ y = .ref b ∧ InsC C H a ∧ InsC C H b ∧ sp [.ref a, .ref b] H (fun v H1 => ∃ c, v = .bl c ∧ Q (.bl c) H1) E
theorem op_eqO (F : FnOk X.prog X.w X.K X.mg X.base CX n f fd ps sp) (hr : Room n X.A) (O : Own X.K C f "__eq__") (hb : Binds X.K fd ps []) (hx : Passes CX X E) : OpR X (compareOp .Eq) (rEqO C sp E) := by
  intro pins s σ H x y v u Q I rx ry h
  obtain ⟨a, b, rfl, rfl, ⟨dx, fs, ha⟩, ⟨dy, gs, hb'⟩, hsp⟩ := h
  cases rx
  cases ry
  obtain ⟨_, J, _⟩ := ins_get I.hok ha
  obtain ⟨_, J', _⟩ := ins_get I.hok hb'
  obtain ⟨od, J, _⟩ := J.look
  obtain ⟨od', J', _⟩ := J'.look
  obtain ⟨m, hF⟩ := I.fr
  show wpAny (model X.prog X.w) X.A (richCompare .Eq (.ref a) (.ref b)) (EP X pins σ Q) X.xe s
  refine PySem.W.cmp_K (op := .Eq) (tb := .ref C) hr.units0 hF I.ok.mod.kin J J'.type (by simp [PySem.W.notFirst]) O.at' O.fn (run_own F (A := X.A) (xs := [.ref a, .ref b]) ⟨hr, rfl⟩ hb hx I (.cons rfl (.cons rfl .nil)) hsp fun z u H1 s1 I1 rz q => ?_)
  obtain ⟨c, rfl, q⟩ := q
  cases rz
  exact ⟨.bl c, H1, I1, rfl, q⟩
end
end WO

end
section
set_option autoImplicit false
set_option Elab.async false
set_option linter.all false
set_option maxRecDepth 100000
set_option maxHeartbeats 4000000
/-! ## set(a list of hin), and sorted of it -/
namespace WS
open PySem PySem.Spec PyProof.Rows L2
abbrev empt (Wd : World) : Obj := { cls := .type "set", dict := none, data := .set #[] 0 (.fresh 0 0 (!Wd.params.followText "set-order")) }
abbrev walker (ls : Addr) : Obj := { cls := .type "list_iterator", data := .fields #[.ref ls, .int 0 0] }
section
variable {Pg : Program} {Wd : World} {Ar : Around} {Ex : Value → Shared → Prop} {sh : Shared}
/-- what is left of a new set, filled -/
def Filled (Wd : World) (sh : Shared) (zs : List Int) (s2 : Shared) : Prop := ∃ hp tk c, s2 = { sh with heap := hp, toks := tk } ∧ SetR Wd hp sh.heap.objs.size (fun j => decide (j ∈ zs)) c ∧ c ≤ zs.length ∧ ∀ b o, sh.heap.get? b = some o → hp.get? b = some o
set_option maxHeartbeats 3200000 in
/-- __init__ of the new set at the end of the heap -/
theorem init_list {ls : Addr} {arr : Array Value} {zs : List Int} (ok : Ar.handled = none) (at0 : sh.heap.IsList ls arr) (hin : IntsAre arr.toList zs) (few : zs.length + 1 < scanBound) (tS : Shared.TypeIs { sh with heap := sh.heap.push (empt Wd) } (.ref sh.heap.objs.size) "set") :
    codeAny (model Pg Wd) Ar (.call (.builtin "set.__init__") ⟨[.ref sh.heap.objs.size, .ref ls], []⟩) (wants (fun r s2 => r = .none ∧ Filled Wd sh zs s2) Ex) { sh with heap := sh.heap.push (empt Wd) } := by
  have size_eq : arr.size = zs.length := by
    have q := IntsAre.length hin
    rwa [Array.length_toList] at q
  refine codeAny_call_builtin (R := wants _ Ex) F.called_set.init.plain F.entry_set_init (check_set_init_1 tS ?_)
  obtain ⟨⟨oc, od, oda, osl⟩, gl, cl, nl, dl⟩ := at0
  simp only at cl dl
  subst cl; subst dl
  have gl2 : (sh.heap.push (empt Wd)).get? ls = some { cls := .type "list", dict := od, data := .seq arr nl, slots := osl } := Heap.get?_push_of_some _ gl
  have k1 := F.sub_list_set
  have k2 := F.sub_list_frozenset
  have k3 : (Value.type "list" == Value.type "dict") = false := by decide
  have il : (sh.heap.push (empt Wd)).IsList ls arr := ⟨_, gl2, rfl, nl, rfl⟩
  unfold Builtin.«set.__init__» noKeywords Builtin.Frozenset.updateFrom
  generalize eI : pyIter = IT
  wp_walk
  subst eI
  refine wpAny_pyIter_list il ?_
  refine wpAny_bind (wpAny_runValue ?_)
  have low : ls < sh.heap.objs.size := Heap.lt_size gl
  have sz : (sh.heap.push (empt Wd)).objs.size = sh.heap.objs.size + 1 := Heap.size_push ..
  have ne1 : ls ≠ (sh.heap.push (empt Wd)).objs.size := by rw [sz]; exact Nat.ne_of_lt (Nat.lt_succ_of_lt low)
  have ne2 : sh.heap.objs.size ∉ [(sh.heap.push (empt Wd)).objs.size, ls] := by
    rw [sz]
    intro z
    rcases List.mem_cons.mp z with e | e
    · exact absurd e (Nat.ne_of_lt (Nat.lt_succ_self _))
    · exact absurd (List.mem_singleton.mp e) (Nat.ne_of_gt low)
  have item : ∀ (i : Nat) (v : Value), arr[i]? = some v → ∃ k t, zs[i]? = some k ∧ v = .int k t := by
    intro i v hv
    have hi : i < zs.length := by rw [← size_eq]; exact (Array.getElem?_eq_some_iff.mp hv).1
    obtain ⟨t, e⟩ := PyProof.Rows.IntsAre.int_at hin i v (by rw [Array.getElem?_toList]; exact hv)
    refine ⟨zs[i], t, List.getElem?_eq_getElem hi, ?_⟩
    rw [e, List.getD_eq_getElem?_getD, List.getElem?_eq_getElem hi] <;> rfl
  refine set_update_ints ((Walks.list (by simp [ok]) _ ls ne1 arr).toS) sh.heap.objs.size ne2 zs size_eq few item (arr.size - 0) 0 _ (by omega) (Nat.zero_le _) ⟨⟨_, Heap.get?_push_size _ rfl, rfl, rfl⟩, (il.push _)⟩ ?first0 ?rest0
  case first0 =>
    have g : ((sh.heap.push (empt Wd)).push (walker ls)).get? sh.heap.objs.size = some (empt Wd) := Heap.get?_push_of_some _ (Heap.get?_push_size _ rfl)
    exact ⟨0, Nat.le_refl 0, setR_new_at g⟩
  case rest0 =>
    rintro ⟨hp, g2, d2, tk, os2⟩ c mv hc R
    have eg : g2 = sh.gens := mv.gens
    have ed : d2 = sh.drawn := mv.drawn
    have eo : os2 = sh.os := mv.os
    subst eg; subst ed; subst eo
    show wpAny _ _ _ _ _ _
    refine wpAny_pure ?_
    show wpAny _ _ (ret Value.none) _ _ _
    rw [size_eq] at hc
    refine wpAny_pure ⟨rfl, hp, tk, c, rfl, R, hc, fun b o e => ?_⟩
    have lb : b < sh.heap.objs.size := Heap.lt_size e
    refine mv.heap b o ?_ (Heap.get?_push_of_some _ (Heap.get?_push_of_some _ e))
    rw [sz]
    intro z
    rcases List.mem_cons.mp z with e | e
    · exact absurd e (Nat.ne_of_lt lb)
    · exact absurd (List.mem_singleton.mp e) (Nat.ne_of_lt (Nat.lt_succ_of_lt lb))
set_option maxHeartbeats 3200000 in
theorem set_of_list {ls : Addr} {arr : Array Value} (zs : List Int) {Qv : Value → Shared → Prop} (ok : Ar.handled = none) (at0 : sh.heap.IsList ls arr) (hin : IntsAre arr.toList zs) (few : zs.length + 1 < scanBound)
    (k : ∀ s2, Filled Wd sh zs s2 → Qv (.ref sh.heap.objs.size) s2) : wpAny (model Pg Wd) Ar (call (.type "set") [.ref ls]) Qv Ex sh := by
  obtain ⟨c0, tl0, mro0⟩ := F.called_set.mro
  have f1 := F.called_set.made
  have f2 := F.called_set.sub
  refine wpAny_call (codeAny_of_tree ?_)
  show wpAny _ _ (callAny (.type "set") _) _ _ _
  refine wpAny_pure ⟨Code.quiet_builtin _ (by decide +kernel), codeAny_builtin F.entry_type_call ?_⟩
  rw [Around.under_plain (weight_type_call_type "set" [.ref ls] []) rfl]
  have f3 := F.called_set.notType
  have f4 := F.called_set.canCreate
  have f5 := F.typeCall_set_1 (.ref ls)
  repeat (any_goals (first | assumption | wp_step))
  refine codeAny_mono (code_set_led1 (.ref ls) (E := Ex) (Q₁ := fun ob s1 => ob = .ref sh.heap.objs.size ∧ s1 = { sh with heap := sh.heap.push (empt Wd) }) ⟨rfl, rfl⟩) fun r s1 hr => ?_
  match r, hr with
  | .error e, hr => exact hr
  | .ok .next, hr => exact hr.elim
  | .ok .brk, hr => exact hr.elim
  | .ok .cont, hr => exact hr.elim
  | .ok (.ret ob), hr =>
    obtain ⟨rfl, rfl⟩ := hr
    have tS : Shared.TypeIs { sh with heap := sh.heap.push (empt Wd) } (.ref sh.heap.objs.size) "set" := ⟨_, Heap.get?_push_size _ rfl, rfl⟩
    have f6 := F.called_set.init.lookup
    have f7 := F.called_set.init.bind (.ref sh.heap.objs.size)
    repeat (any_goals (first | assumption | wp_step))
    refine codeAny_mono (init_list (zs := zs) (Ex := Ex) (by simp [ok]) at0 hin few tS) fun r2 s2 hr2 => ?_
    match r2, hr2 with
    | .error e, hr2 => exact hr2
    | .ok .next, hr2 => exact hr2.elim
    | .ok .brk, hr2 => exact hr2.elim
    | .ok .cont, hr2 => exact hr2.elim
    | .ok (.ret v), hr2 =>
      obtain ⟨rfl, hF⟩ := hr2
      obtain ⟨hp, tk, c, rfl, R, hc, hk⟩ := hF
      repeat (any_goals (first | assumption | wp_step))
      exact k _ ⟨hp, tk, c, rfl, R, hc, hk⟩
end
section
variable {X : Cx}
def rSetL (K : PySem.W.Frag) (Wd : World) : List V → Hp → VK → Prop := fun xs H Q => ∃ (l : Addr) (zs : List Int), xs = [.ref l] ∧ SqL K H l (zs.map V.int) ∧ zs.length ≤ 4000 ∧ ∀ (p : Addr) (c : Nat), H p = none → c ≤ zs.length → Q (.ref p) (upd H p (SetO Wd p (fun j => decide (j ∈ zs)) c))
theorem cr_setL (hc : X.calm = true) : CallR X (.type "set") (rSetL X.K X.w) := by
  intro pins s σ H xs us Q I r h
  obtain ⟨l, zs, rfl, hL, few, q⟩ := h
  rw [Vals.ref1 r]
  obtain ⟨its, rv, pl, _⟩ := I.list hL
  refine set_of_list zs (I.ok.hd hc) pl.isList (by simpa using ints_of_vals rv) (by unfold scanBound; omega) fun s2 hF => ?_
  obtain ⟨hp, tk, c, rfl, R, hc2, hk⟩ := hF
  exact ⟨.ref _, upd H s.heap.objs.size (SetO X.w s.heap.objs.size (fun j => decide (j ∈ zs)) c), I.laid (t' := tk) hk (Nat.le_refl _) (setO_new R), rfl, q _ c (I.hok.fresh (Nat.le_refl _)) hc2⟩
end
end WS

end
section
set_option autoImplicit false
set_option Elab.async false
set_option linter.all false
set_option maxRecDepth 100000
set_option maxHeartbeats 4000000
/-! ## pieces for any law -/
namespace Y
open PySem L2 G
theorem of_upd {H : Hp} {p : Addr} {o : HO} (h : H p = none) : Same H (upd H p o) := fun a u e => by
  rw [upd_ne (ne_of_none e h)]
  exact e
theorem add_upd {H G : Hp} {D : Addr} {o : HO} (nD : H D = none) (s : Same H G) : Same H (upd G D o) := fun b u e => by
  rw [upd_ne (ne_of_none e nD)]
  exact s _ _ e
/-- a def of the text that is called by its name, and keeps a promise -/
structure Df (P : Program) (w : World) (K : PySem.W.Frag) (mg : Str → Option Value) (base : Heap) (k : Nat) (x : Str) (ps : List Str) (sp : Sp) : Prop where
  ex : ∃ (f : Addr) (fd : FuncData), FnOk P w K mg base CX0 k f fd ps sp ∧ mg x = some (.ref f) ∧ PySem.W.keepIn K (.ref f) = true ∧ Binds K fd ps []
structure Fd (K : PySem.W.Frag) (mg : Str → Option Value) (x : Str) (st : Stmt) (ps : List Str) : Prop where
  ex : ∃ (f : Addr) (fd : FuncData), Fun K x x st f fd ∧ mg x = some (.ref f) ∧ PySem.W.keepIn K (.ref f) = true ∧ Binds K fd ps []
theorem Fd.df {P : Program} {w : World} {K : PySem.W.Frag} {mg : Str → Option Value} {base : Heap} {x : Str} {st : Stmt} {ps : List Str} {k : Nat} {sp : Sp} (h : Fd K mg x st ps) (ok : ∀ f fd, Fun K x x st f fd → FnOk P w K mg base CX0 k f fd ps sp) : Df P w K mg base k x ps sp := by
  obtain ⟨f, fd, h1, h2, h3, h4⟩ := h.ex
  exact ⟨f, fd, ok f fd h1, h2, h3, h4⟩
theorem set_then {te : TE} {i : Nat} {t2 : TS} {D : Ends} {σ : L2.St} {H : Hp} (h : te σ H fun v H1 => t2 D (σ.set i (some v)) H1) : tSeq (tAsg te (gName i)) t2 D σ H := h
theorem len_put {f : Str} {v : V} {fs : List (Str × V)} {n : Nat} (h : fs.length < n) : (putF f v fs).length < n + 1 := Nat.lt_of_le_of_lt (length_putF f v fs) (Nat.succ_lt_succ h)
theorem take_snoc {α : Type} {l : List α} {i : Nat} {x : α} (h : l[i]? = some x) : l.take (i + 1) = l.take i ++ [x] := by
  rw [List.take_succ, h]
  rfl
theorem drop_at {α : Type} {l : List α} {i : Nat} {x : α} (h : l[i]? = some x) : l.drop i = x :: l.drop (i + 1) := by
  obtain ⟨hi, ex⟩ := List.getElem?_eq_some_iff.mp h
  rw [← ex, ← List.drop_eq_getElem_cons hi]
section
variable {X : Cx} {tg it : Expr}
theorem pi_or {w1 w2 : TI} (h1 : PI X tg it w1) (h2 : PI X tg it w2) : PI X tg it (fun σ H R => w1 σ H R ∨ w2 σ H R) := ⟨fun pins s σ H R I h => h.elim (h1.run pins s σ H R I) (h2.run pins s σ H R I)⟩
def tDead : TS := fun _ _ _ => False
theorem ps_dead {b : List Stmt} : PSs X b tDead := ⟨fun _ _ _ _ _ _ h => h.elim⟩
end
def SAt (H : Hp) (l : Addr) (xs : List V) : Prop := H l = some (.lst xs) ∨ H l = some (.tup xs)
theorem SAt.mono {H H' : Hp} {l : Addr} {xs : List V} (s : Same H H') (h : SAt H l xs) : SAt H' l xs := h.elim (fun e => .inl (s _ _ e)) fun e => .inr (s _ _ e)
section
variable {K : PySem.W.Frag} {H : Hp} {σ : L2.St} {l : Addr} {xs : List V}
theorem or_seq {te : TE} {R : It → Hp → Prop} (ht : ∀ Q : VK, Q (.ref l) H → te σ H Q) (hl : SAt H l xs) (k : ∀ (J : It) (Gd : Hp → Prop), (∀ H', Same H H' → Gd H') → Walk J xs.length Gd (YAt xs) → R J H) : iList K te σ H R ∨ iTup K te σ H R :=
  hl.elim (fun e => .inl (ht _ ⟨l, rfl, ⟨xs, SqL.of e⟩, k _ _ (fun H' s => SqL.of (s _ _ e)) walk_list⟩)) fun e => .inr (ht _ ⟨l, rfl, ⟨xs, SqT.of e⟩, k _ _ (fun H' s => SqT.of (s _ _ e)) walk_tup⟩)
end
theorem at0 {y0 : V} {ys : List V} : atI (y0 :: ys) (0 : Int) = some y0 := by exact atI_nat (xs := y0 :: ys) (j := 0) rfl
def ni (l : List Nat) : List V := (l.map fun n => ((n : Nat) : Int)).map V.int
theorem ni_len (l : List Nat) : (ni l).length = l.length := by
  unfold ni
  rw [List.length_map, List.length_map]
theorem ni_get {l : List Nat} {i : Nat} {x : V} (h : (ni l)[i]? = some x) : ∃ b, l[i]? = some b ∧ x = .int ((b : Nat) : Int) := by
  unfold ni at h
  rw [List.getElem?_map, List.getElem?_map] at h
  cases e : l[i]? with
  | none => rw [e] at h; cases h
  | some b =>
    rw [e] at h
    cases h
    exact ⟨b, rfl, rfl⟩
theorem ni_at {l : List Nat} {i b : Nat} (h : l[i]? = some b) : (ni l)[i]? = some (.int ((b : Nat) : Int)) := by
  unfold ni
  rw [List.getElem?_map, List.getElem?_map, h]
  rfl
theorem ni_app (l m : List Nat) : ni (l ++ m) = ni l ++ ni m := by
  unfold ni
  rw [List.map_append, List.map_append]
theorem ni_drop (l : List Nat) (i : Nat) : (ni l).drop i = ni (l.drop i) := by
  unfold ni
  rw [← List.map_drop, ← List.map_drop]
theorem ni_take (l : List Nat) (i : Nat) : (ni l).take i = ni (l.take i) := by
  unfold ni
  rw [← List.map_take, ← List.map_take]
theorem line2 : 2 ≤ sizeLine ∧ 3 ≤ sizeLine ∧ 1 ≤ sizeLine ∧ 0 ≤ sizeLine := by decide
/-- xs[k:] -/
theorem cut_from (xs : List V) (k : Nat) : cutV xs (some (k : Int)) none = xs.drop k := by
  unfold cutV
  rw [HT.sIx_none, HT.sIx_nat]
  by_cases h : k ≤ xs.length
  · rw [Nat.min_eq_left h]
    exact List.take_of_length_le (by rw [List.length_drop]; omega)
  · rw [Nat.min_eq_right (by omega), List.drop_of_length_le (by omega), List.drop_of_length_le (by omega), List.take_nil]
theorem six_pos {n k : Nat} (h : 0 < k) (hn : 0 < n) (d : Nat) : HT.sIx n d (some (k : Int)) ≠ 0 := by
  rw [HT.sIx_nat]
  omega
structure Bn (mg : Str → Option Value) : Prop where
  isi : mg "isinstance" = none
  bool : mg "bool" = none
  int : mg "int" = none
  tuple : mg "tuple" = none
  list : mg "list" = none
  len : mg "len" = none
  range : mg "range" = none
  zip : mg "zip" = none
  min : mg "min" = none
  max : mg "max" = none
  sorted : mg "sorted" = none
  set : mg "set" = none
  enum : mg "enumerate" = none
end Y

end
section
set_option autoImplicit false
set_option Elab.async false
set_option linter.all false
set_option maxRecDepth 100000
set_option maxHeartbeats 4000000
/-! ## pieces of the gates' texts that the texts of ways want, too -/
namespace M
def Step.dep : Step → Nat
  | .tunnel w _ _ => w.depth
  | .road _ _ _ => 0
  | .join _ => 0
theorem deep_cons : ∀ (s : Step) (r : List Step), Step.deepest (s :: r) = max (Step.dep s) (Step.deepest r)
  | .tunnel w a b, r => by
    conv => lhs; unfold Step.deepest
    rfl
  | .road a b c, r => by
    conv => lhs; unfold Step.deepest
    exact (Nat.zero_max _).symm
  | .join a, r => by
    conv => lhs; unfold Step.deepest
    exact (Nat.zero_max _).symm
theorem dep_le : ∀ {s : List Step} {i : Nat} {x : Step}, s[i]? = some x → Step.dep x ≤ Step.deepest s
  | [], i, x, h => by cases h
  | y :: r, 0, x, h => by
    have e : y = x := Option.some.inj h
    rw [deep_cons, e]
    omega
  | y :: r, i + 1, x, h => by
    have := dep_le (s := r) (i := i) (x := x) h
    rw [deep_cons]
    omega
theorem depth_pos (wy : Way) : 1 ≤ wy.depth := by
  obtain ⟨h, s⟩ := wy
  unfold Way.depth
  omega
end M
namespace WP
open PySem L2 G
variable {C : Addr}
theorem head_fld {H : Hp} {wy : M.Way} {a : Addr} (h : WayAt C H wy a) : ∃ dx fs, H a = some (.ins C dx fs) ∧ fs.lookup ("head" : Str) = some (.int ((wy.head : Nat) : Int)) := by
  obtain ⟨wh, ws⟩ := wy
  unfold WayAt at h
  obtain ⟨dx, t, xs, h1, _, _⟩ := h
  exact ⟨dx, _, h1, flds_head _ _ _ _⟩
theorem steps_fld {H : Hp} {wy : M.Way} {a : Addr} (h : WayAt C H wy a) : ∃ dx fs t xs, H a = some (.ins C dx fs) ∧ fs.lookup ("steps" : Str) = some (.ref t) ∧ H t = some (.tup xs) ∧ StepsAt C H wy.steps xs := by
  obtain ⟨wh, ws⟩ := wy
  unfold WayAt at h
  obtain ⟨dx, t, xs, h1, h2, h3⟩ := h
  exact ⟨dx, _, t, xs, h1, flds_steps _ _ _ _, h2, h3⟩
end WP
namespace CP
open PySem L2 G Y
/-- all but lists stays -/
def KeepT (H H' : Hp) : Prop := ∀ a o, (∀ xs, o ≠ .lst xs) → H a = some o → H' a = some o
theorem put_keepT {G : Hp} {l : Addr} {xs : List V} {o : HO} (h : G l = some (.lst xs)) : KeepT G (upd G l o) := fun a o n e => by
  rw [upd_ne (fun z => by
    rw [z, h] at e
    cases e
    exact n _ rfl)]
  exact e
theorem same_keepT {H H' : Hp} (s : Same H H') : KeepT H H' := fun a o _ e => s a o e
theorem if_then {c : TT} {t1 t2 t3 : TS} {D : Ends} {σ : L2.St} {H : Hp} (Z : L2.St → Hp → Prop) (k : ∀ σ' H', Z σ' H' → t3 D σ' H') (h : (∀ σ' H', Z σ' H' → t3 D σ' H') → tIfS c t1 t2 { D with nx := fun σ' H' => t3 D σ' H' } σ H) : tSeq (tIfS c t1 t2) t3 D σ H := h k
theorem set_k {te : TE} {i : Nat} {t2 : TS} {D : Ends} {σ : L2.St} {H : Hp} (Z : V → Hp → Prop) (k : ∀ v H', Z v H' → t2 D (σ.set i (some v)) H') (h : (∀ v H', Z v H' → t2 D (σ.set i (some v)) H') → te σ H fun v H1 => t2 D (σ.set i (some v)) H1) : tSeq (tAsg te (gName i)) t2 D σ H := h k
theorem iteP {p : Prop} [Decidable p] {A B : Prop} (h : p) (a : A) : if decide p = true then A else B := by
  rw [decide_eq_true h]
  exact a
theorem iteN {p : Prop} [Decidable p] {A B : Prop} (h : ¬ p) (b : B) : if decide p = true then A else B := by
  rw [decide_eq_false h]
  exact b
theorem iteNT {x y : V} {A B : Prop} (h : ¬ x = y) (a : A) : if (!decide (x = y)) = true then A else B := by
  rw [decide_eq_false h]
  exact a
theorem fine_all {wy : M.Way} (h : wy.fine) : M.Step.fineAll wy.head wy.steps ∧ wy.steps.length ≤ 12 ∧ wy.size ≤ 40 := by
  obtain ⟨wh, s⟩ := wy
  unfold M.Way.fine at h
  refine ⟨h.2.2.1, h.2.1.2, ?_⟩
  unfold M.Way.size
  exact h.2.2.2.2
theorem fine_dep {wy : M.Way} (h : wy.fine) : wy.depth ≤ 3 := by
  obtain ⟨wh, s⟩ := wy
  unfold M.Way.fine at h
  unfold M.Way.depth
  exact h.2.2.2.1
end CP

end
section
set_option autoImplicit false
set_option Elab.async false
set_option linter.all false
set_option maxRecDepth 100000
set_option maxHeartbeats 4000000
/-! ## a tuple, the other way round -/
namespace QR
open PySem PySem.Spec PyProof.Rows L2
section
variable {prog : Program} {w : World} {A : Around} {E : Value → Shared → Prop} {s : Shared}
theorem applied_back {sl : Addr} {vs : Value} {n : Nat} {Q : Int × Int × Nat → Shared → Prop} (hs : s.heap.IsSliceOf sl .none .none vs) (ps : IsPart vs (some (-1)))
    (h : Q ((n : Int) - 1, -1, n) s) : wpAny (model prog w) A (Builtin.Slice.sliceApplied (.ref sl) (pure (n : Int))) Q E s := by
  obtain ⟨os, hos, hcs, hds⟩ := id hs
  unfold Builtin.Slice.sliceApplied Builtin.Slice.sliceFields
  refine wpAny_bind (wpAny_bind (wpAny_field hos hds (x := .none) rfl (wpAny_bind (wpAny_field hos hds (x := .none) rfl (wpAny_bind (wpAny_field hos hds (x := vs) rfl (wpAny_pure ?_)))))))
  refine wpAny_bind (HT.slicePart_ ps ?_)
  show wpAny _ _ (if ((-1 : Int) == 0) = true then _ else _) _ _ s
  rw [if_neg (by decide)]
  refine wpAny_bind (HT.slicePart_ .none (wpAny_bind (HT.slicePart_ .none (wpAny_bind (wpAny_pure ?_)))))
  have e1 : Builtin.Slice.sliceAdjust none none (-1) (n : Int) = ((n : Int) - 1, -1) := by
    unfold Builtin.Slice.sliceAdjust
    simp
  have e2 : Builtin.Slice.slicePlaces ((n : Int) - 1) (-1) (-1) = n := by
    unfold Builtin.Slice.slicePlaces
    simp
    omega
  show wpAny _ _ (match Builtin.Slice.sliceAdjust none none (-1) (n : Int) with | (lo, hi) => pure (lo, (-1 : Int), Builtin.Slice.slicePlaces lo hi (-1))) _ _ s
  rw [e1]
  show wpAny _ _ (pure ((n : Int) - 1, (-1 : Int), Builtin.Slice.slicePlaces ((n : Int) - 1) (-1) (-1))) _ _ s
  rw [e2]
  exact wpAny_pure h
theorem fm_congr {f g : Nat → Option Value} : ∀ {l : List Nat}, (∀ m ∈ l, f m = g m) → l.filterMap f = l.filterMap g
  | [], _ => rfl
  | x :: l, h => by
    have e := fm_congr (f := f) (g := g) (l := l) fun m hm => h m (List.mem_cons_of_mem _ hm)
    rw [List.filterMap_cons, List.filterMap_cons, h x List.mem_cons_self, e]
theorem pick_back (xs : Array Value) : ((List.range xs.size).filterMap fun (m : Nat) => xs[(((xs.size : Int) - 1) + (m : Int) * (-1)).toNat]?).toArray = xs.toList.reverse.toArray := by
  have e : (List.range xs.size).filterMap (fun (m : Nat) => xs[(((xs.size : Int) - 1) + (m : Int) * (-1)).toNat]?) = ((List.range xs.size).map fun k => xs.size - 1 - k).filterMap (xs[·]?) := by
    rw [List.filterMap_map]
    refine fm_congr fun m hm => ?_
    have := List.mem_range.mp hm
    show xs[_]? = xs[xs.size - 1 - m]?
    rw [show (((xs.size : Int) - 1) + (m : Int) * (-1)).toNat = xs.size - 1 - m by omega]
  rw [e, PySem.W.krv_range, List.filterMap_reverse, PySem.W.krv_all]
theorem get_back {t sl : Addr} {items : Array Value} {vs : Value} {Q : Value → Shared → Prop} (ht : IsTup s.heap t items) (hs : s.heap.IsSliceOf sl .none .none vs) (ps : IsPart vs (some (-1)))
    (h : Q (.ref s.heap.objs.size) { s with heap := s.heap.push { cls := .type "tuple", data := .seq items.toList.reverse.toArray } }) (hsz : items.size ≤ sizeLine) : wpAny (model prog w) A (getItem (.ref t) (.ref sl)) Q E s := by
  have fits : sizeOk (.seq items.toList.reverse.toArray) := by
    show items.toList.reverse.toArray.size ≤ sizeLine
    simpa using hsz
  obtain ⟨os, hos, hcs, hds⟩ := id hs
  have hT : s.TypeIs (.ref sl) "slice" := ⟨os, hos, hcs⟩
  unfold getItem
  try with_reducible refine wpAny_holding ?_
  first | refine wpAny_bind (wpAny_pure ?_) | skip
  refine wpAny_bind (wpAny_sequenceKey ht.typeIs (by decide) (wpAny_bind (wpAny_callSpecial?_slot (name := Str.ofString "__getitem__") ht.typeIs PyProof.Rows.slot_tuple_getitem
    (wpAny_call_entry PyProof.Rows.slot_tuple_getitem ht.typeIs PyProof.Rows.entry_tuple_getitem ?_ (PyProof.Rows.args_tuple_getitem _ _)))))
  show wpAny _ _ (Builtin.Tuple.tupleItemsOf (.ref t) >>= _) _ _ s
  refine wpAny_bind (tupleItemsOf_ ht (wpAny_bind (wpAny_typeOf hT ?_)))
  rw [if_pos (by decide)]
  refine wpAny_bind (applied_back hs ps ?_)
  have no : ¬ ((((items.size : Int) - 1) == 0 && (-1 : Int) == 1 && items.size == items.size) = true) := by simp
  show wpAny _ _ (if ((((items.size : Int) - 1) == 0 && (-1 : Int) == 1 && items.size == items.size) = true) then _ else _) _ _ s
  rw [if_neg no, pick_back]
  first
    | exact wpAny_bind (m := Builtin.Tuple.tupleExact _) (wpAny_newObj_type (wpAny_pure ⟨_, rfl, wpAny_pure h⟩) fits)
    | exact wpAny_bind (wpAny_bind (m := Builtin.Tuple.tupleExact _) (wpAny_newObj_type (wpAny_pure ⟨_, rfl, wpAny_pure h⟩) fits))
end
section
variable {X : Cx}
/-- t[::-1] of a tuple -/
def tRevT (K : PySem.W.Frag) (te : TE) : TE := fun σ H Q => te σ H fun x H1 => ∃ a xs, x = .ref a ∧ SqT K H1 a xs ∧ ∀ p, H1 p = none → Q (.ref p) (upd H1 p (.tup xs.reverse))
theorem pe_revT {e : Expr} {te : TE} {k : Nat} {p1 p2 p3 pos : Pos} (he : PE X e te) : PE X (.Subscript e (.Slice none none (some (.UnaryOp .USub (.Constant (.int 1) k p1) p2)) p3) pos) (tRevT X.K te) := by
  refine ⟨fun pins s σ H Q I h => Subscript_ (thn (he.run pins s σ H _ I h) fun v s1 ⟨x, H1, I1, r1, q1⟩ => ?_)⟩
  obtain ⟨a, xs, ex, hx, q⟩ := q1
  subst ex
  cases r1
  have st : PO X (some (.UnaryOp .USub (.Constant (.int 1) k p1) p2)) (tPart (tUn (rU fun i => .int (-i)) (tC (.int 1)))) := po_some (pe_un un_neg pe_int)
  refine wpAny_Slice (thn (po_none.run pins s1 σ H1 (fun o H2 => o = none ∧ H2 = H1) I1 ⟨rfl, rfl⟩) fun vl s2 hl => ?_)
  obtain ⟨l, H2, I2, pl, el, e2⟩ := hl
  subst el e2
  refine thn (po_none.run pins s2 σ H2 (fun o H3 => o = none ∧ H3 = H2) I2 ⟨rfl, rfl⟩) fun vu s3 hu => ?_
  obtain ⟨u, H3, I3, pu, eu, e3⟩ := hu
  subst eu e3
  refine thn (st.run pins s3 σ H3 (fun o H4 => o = some (-1) ∧ H4 = H3) I3 ⟨1, rfl, -1, rfl, rfl, rfl⟩) fun vs s4 hs4 => ?_
  obtain ⟨o, H4, I4, ps, eo, e4⟩ := hs4
  subst eo e4
  cases pl
  cases pu
  have I5 : Inv X pins σ H4 { s4 with heap := s4.heap.push { cls := .type "slice", data := .fields #[.none, .none, vs] } } := I4.kept (t' := s4.toks) fun b ob q => Heap.get?_push_of_some _ q
  obtain ⟨its, r, ht, hz⟩ := I5.tuple hx
  have hlen := r.length
  show wpAny (model X.prog X.w) X.A (subscriptTail e (.Slice none none (some (.UnaryOp .USub (.Constant (.int 1) k p1) p2)) p3) (.ref a) (.ref s4.heap.objs.size)) (EP X pins σ Q) X.xe { s4 with heap := s4.heap.push { cls := .type "slice", data := .fields #[.none, .none, vs] } }
  refine tail_any (ops := [.ref a, .ref s4.heap.objs.size]) ht.typeIs PyProof.Rows.slot_tuple_getitem.lookup ?_ (by with_unfolding_all rfl)
  refine get_back ht (Heap.IsSliceOf.new _ .none .none vs) ps ?_ (by rw [List.size_toArray]; omega)
  refine ⟨.ref _, _, I5.laid (t' := s4.toks) (o := .tup xs.reverse) (fun b ob q => Heap.get?_push_of_some _ q) (Nat.le_refl _) ?_, rfl, q _ (I5.hok.fresh (Nat.le_refl _))⟩
  exact ⟨by rw [List.length_reverse]; exact hz, _, r.reverse, IsTup.new _ _⟩
end
end QR

end
section
set_option Elab.async false
set_option linter.all false
set_option maxRecDepth 100000
set_option maxHeartbeats 4000000
/-! ## where the law draws from -/
namespace S
open PySem L2
def top (i : Nat) : Stmt := PySem.Challenge.pw_roadsizes_k80_texts_of_ways.main.body.getD i (.Pass ⟨0, 0, 0, 0⟩)
abbrev sSource : Stmt := top 42
abbrev sDraw : Stmt := top 43
abbrev sPick : Stmt := top 44
/-- the built-ins that these defs call -/
structure Bi (mg : Str → Option Value) : Prop where
  int : mg "int" = none
  len : mg "len" = none
/-- a source: two numbers that are not negative, the second one small -/
def Two (r m : Int) : List V := [.int r, .int m]
structure Fine (r m : Int) : Prop where
  r0 : 0 ≤ r
  m0 : 0 ≤ m
  m1 : m < 2147483648
def At (H : Hp) (p : Addr) : Prop := ∃ r m, H p = some (.lst (Two r m)) ∧ Fine r m
theorem bits_lt (x : Int) : x.natAbs < 2 ^ (Builtin.Int.intBits x) := by
  unfold Builtin.Int.intBits
  split
  · rename_i h
    have e : x = 0 := by simpa using h
    subst e
    decide
  · exact Nat.lt_log2_self
theorem bits_le {x : Int} {n : Nat} (h : x.natAbs < 2 ^ n) : Builtin.Int.intBits x ≤ n := by
  unfold Builtin.Int.intBits
  split
  · exact Nat.zero_le _
  · rename_i q
    have ne : x.natAbs ≠ 0 := fun e => q (by simp [Int.natAbs_eq_zero.mp e])
    exact (Nat.log2_lt ne).mpr h
theorem cube_ok {m z : Int} (h0 : 0 ≤ m) (h1 : m < 2147483648) (hz : Builtin.Int.intBits z ≤ 1048576) : (Builtin.Int.intBits (m * 40127 + z) : Int) * 3 ≤ 2 ^ 27 := by
  have b1 := bits_lt z
  have b2 : z.natAbs < 2 ^ 1048576 := Nat.lt_of_lt_of_le b1 (Nat.pow_le_pow_right (by decide) hz)
  have b3 : (m * 40127 + z).natAbs < 2 ^ 1048577 := by
    have e : (2 : Nat) ^ 1048577 = 2 ^ 1048576 * 2 := Nat.pow_succ ..
    have e2 : (2 : Nat) ^ 100 ≤ 2 ^ 1048576 := Nat.pow_le_pow_right (by decide) (by decide)
    have e3 : (2 : Nat) ^ 100 = 1267650600228229401496703205376 := by decide
    generalize (2 : Nat) ^ 1048576 = t at *
    rw [e]
    omega
  have b4 := bits_le b3
  have e27 : (2 : Int) ^ 27 = 134217728 := by decide
  rw [e27]
  omega
/-! ### promises -/
def spSource (K : PySem.W.Frag) : Sp := fun vs H Q _ => ∃ (a : Addr) (ns : List Int) (i : Nat), vs = [.ref a, .int i] ∧ i ≤ 1000 ∧ SqL K H a (ns.map V.int) ∧ ns.length ≤ 63 ∧ (∀ z ∈ ns, Builtin.Int.intBits z ≤ 1048576) ∧
  ∀ p r m, H p = none → Fine r m → Q (.ref p) (upd H p (.lst (Two r m)))
def spDraw : Sp := fun vs H Q _ => ∃ (p : Addr) (r m span : Int), vs = [.ref p, .int span] ∧ H p = some (.lst (Two r m)) ∧ Fine r m ∧ 1 ≤ span ∧ span.natAbs.log2 < 9000 ∧
  ∀ k r' m', Fine r' m' → 0 ≤ k → k < span → Q (.int k) (upd H p (.lst (Two r' m')))
def spPick (K : PySem.W.Frag) : Sp := fun vs H Q _ => ∃ (p l : Addr) (r m : Int) (xs : List V), vs = [.ref p, .ref l] ∧ H p = some (.lst (Two r m)) ∧ Fine r m ∧ l ≠ p ∧ SqL K H l xs ∧ 1 ≤ xs.length ∧ xs.length ≤ 1000 ∧
  ∀ (j : Nat) (x : V) (r' m' : Int), Fine r' m' → xs[j]? = some x → Q x (upd H p (.lst (Two r' m')))
section
variable {P : Program} {w : World} {K : PySem.W.Frag} {mg : Str → Option Value} {base : Heap}
theorem sc1 : FnScope ["script", "start", "seed", "cell", "digits"] ["script", "start"] (defScope sSource) := ⟨rfl, rfl, rfl, by decide +kernel, rfl, by decide +kernel, by decide +kernel⟩
theorem ints_at {ns : List Int} {i : Nat} {x : V} (h : (ns.map V.int)[i]? = some x) : ∃ z, x = .int z ∧ z ∈ ns ∧ ns[i]? = some z := by
  rw [List.getElem?_map] at h
  cases e : ns[i]? with
  | none => rw [e] at h; cases h
  | some z => rw [e] at h; exact ⟨z, (Option.some.inj h).symm, List.mem_of_getElem? e, rfl⟩
theorem ok_source {f : Addr} {fd : FuncData} (F : Fun K "_law_stream" "_law_stream" sSource f fd) (B : Bi mg) : FnOk P w K mg base CX0 1 f fd ["script", "start"] (spSource K) := by
  refine F.ok sc1 (fun vs H Q E h => ?_) (fun cdv A outer s H vs Q E hr h => ?_)
  · obtain ⟨a, ns, i, rfl, _⟩ := h
    rfl
  · obtain ⟨a, ns, st, rfl, hst, hS, hl, hb, k⟩ := h
    refine ⟨_, pss_cons (ps_set (i := 2) sc1.nd rfl (Or.inl rfl) (pe_op op_add pe_int (pv 1)))
      (pss_cons (ps_for PassesOwn.never rfl (pi_list (pv 0)) (pg_name (i := 3) sc1.nd rfl (Or.inl rfl))
        (pss_one (ps_set (i := 2) sc1.nd rfl (Or.inl rfl) (pe_op op_add (pe_op op_mod
          (pe_op G.op_powN (pe_callTy call_int1 (by rfl) B.int (by decide +kernel) (pa_cons (pe_op op_add (pe_op op_mul (pv 2) pe_int) (pv 3)) pa_nil)) pe_int) pe_int) pe_int))))
      (pss_cons (ps_set (i := 4) sc1.nd rfl (Or.inl rfl) pe_int)
      (pss_cons (ps_if (PW.pt (pw_and (pt_cmpR op_lt (pv 1) (pe_callB call_len_seq (by rfl) B.len PySem.boot_len (pa_cons (pv 0) pa_nil)) (nomark _))
          (pw_and1 (pt_cmpR op_ge (pe_ix ix_list (pv 0) (pv 1) (fun _ _ => rfl)) (pe_op op_pow pe_int pe_int) (nomark _)))))
        (pss_one (ps_set (i := 4) sc1.nd rfl (Or.inl rfl) (pe_op op_sub (pe_ix ix_list (pv 0) (pv 1) (fun _ _ => rfl)) (pe_op op_pow pe_int pe_int)))) pss_nil)
      (pss_one (ps_ret (pe_lst (pa_cons (pv 4) (pa_cons (pv 2) pa_nil)))))))), ?_⟩
    -- mixed = 97 + start
    refine ⟨_, rfl, _, _, rfl, rfl, ?_⟩
    -- for cell in script
    refine ⟨_, rfl, a, rfl, ⟨_, hS⟩, for_list (K := K) (a := a) (xs := ns.map V.int) (fun i σ H2 => ∃ (m : Int) (c : Option V), σ = [some (.ref a), some (.int st), some (.int m), c, none] ∧ H2 = H ∧ (0 ≤ m ∧ m < 2147483648))
      ⟨_, none, rfl, rfl, by omega, by omega⟩ (fun i σ H2 _ ⟨_, _, _, e, _⟩ => by rw [e]; exact hS) ?_ ?_⟩
    · rintro i y σ H2 hi ⟨m, c, rfl, rfl, h0, h1⟩
      obtain ⟨z, rfl, hz, _⟩ := ints_at hi
      refine ⟨_, rfl, _, _, rfl, rfl, .inl ⟨by omega, by omega⟩, _, rfl, _, _, rfl, rfl, .inl ⟨_, rfl, _, _, rfl, rfl, ⟨by decide, cube_ok h0 h1 (hb z hz)⟩, _, _, rfl, rfl, (by show (0 : Int) < 2147483629; decide), _, _, rfl, rfl, ?_⟩⟩
      refine ⟨_, _, rfl, rfl, ?_⟩
      have e1 := Int.emod_nonneg ((m * 40127 + z) ^ (3 : Int).toNat) (b := 2147483629) (by decide)
      have e2 := Int.emod_lt_of_pos ((m * 40127 + z) ^ (3 : Int).toNat) (b := 2147483629) (by decide)
      exact ⟨Int.add_nonneg e1 (by decide), Int.lt_of_lt_of_le (Int.add_lt_add_right e2 1) (by decide)⟩
    · rintro σ H2 ⟨m, c, rfl, rfl, h0, h1⟩
      -- rest = 0; if start < len(script) and script[start] >= 10 ** 18
      refine ⟨_, rfl, _, rfl, a, _, rfl, .inl hS, _, _, rfl, rfl, _, rfl, ?_⟩
      have fin : ∀ r : Int, 0 ≤ r → tRet (tLst (tCons (tVar 4) (tCons (tVar 2) tNil))) { nx := fun _ H' => Q .non H', rt := Q } [some (.ref a), some (.int st), some (.int m), c, some (.int r)] H2 := fun r hr =>
        ⟨_, rfl, _, rfl, (by show 2 ≤ sizeLine; decide), fun p hp => k p r m hp ⟨hr, h0, h1⟩⟩
      by_cases hlt : st < ns.length
      · have e : decide ((st : Int) < ((ns.map V.int).length : Int)) = true := by
          rw [List.length_map]
          exact decide_eq_true (by omega)
        rw [e]
        refine iteT ?_
        have hit : (ns.map V.int)[st]? = some (V.int ns[st]) := by rw [List.getElem?_map, List.getElem?_eq_getElem hlt]; rfl
        refine ⟨_, rfl, _, rfl, a, _, _, _, rfl, rfl, hS, atI_nat hit, _, _, rfl, rfl, ⟨by decide, by decide, by decide⟩, _, _, rfl, rfl, _, rfl, ?_⟩
        refine ite2 (fun hge => ?_) (fun _ => fin 0 (by decide))
        refine ⟨_, rfl, _, rfl, a, _, _, _, rfl, rfl, hS, atI_nat hit, _, _, rfl, rfl, ⟨by decide, by decide, by decide⟩, _, _, rfl, rfl, ?_⟩
        exact fin _ (Int.sub_nonneg_of_le (of_decide_eq_true hge))
      · have e : decide ((st : Int) < ((ns.map V.int).length : Int)) = false := by
          rw [List.length_map]
          exact decide_eq_false (by omega)
        rw [e]
        exact iteF (iteF (fin 0 (by decide)))
theorem fits {a : Int} {n : Nat} (h : 0 ≤ a) (h1 : a < 2 ^ n) : a.natAbs < 2 ^ n := by
  have e : ((2 : Int) ^ n) = ((2 ^ n : Nat) : Int) := by rw [Int.natCast_pow]; rfl
  rw [e] at h1
  omega
theorem sc2 : FnScope ["stream", "size", "found"] ["stream", "size"] (defScope sDraw) := ⟨rfl, rfl, rfl, by decide +kernel, rfl, by decide +kernel, by decide +kernel⟩
theorem ok_draw {f : Addr} {fd : FuncData} (F : Fun K "_law_draw" "_law_draw" sDraw f fd) (B : Bi mg) : FnOk P w K mg base CX0 1 f fd ["stream", "size"] spDraw := by
  refine F.ok sc2 (fun vs H Q E h => ?_) (fun cdv A outer s H vs Q E hr h => ?_)
  · obtain ⟨p, r, m, span, rfl, _⟩ := h
    rfl
  · obtain ⟨p, r, m, span, rfl, hp, ⟨r0, m0, m1⟩, s1, s2, k⟩ := h
    refine ⟨_, pss_cons (ps_if (pt_cmpR op_ge (pe_ix ix_list (pv 0) pe_int (fun _ _ => rfl)) (pv 1) (nomark _))
        (pss_cons (ps_set (i := 2) sc2.nd rfl (Or.inl rfl) (pe_op op_mod (pe_callTy call_int1 (by rfl) B.int (by decide +kernel) (pa_cons (pe_ix ix_list (pv 0) pe_int (fun _ _ => rfl)) pa_nil)) (pv 1)))
        (pss_cons (ps_asg (pe_op op_fdivW (pe_ix ix_list (pv 0) pe_int (fun _ _ => rfl)) (pv 1)) (pg_sub (pv 0) pe_int set_list))
        (pss_one (ps_ret (pv 2))))) pss_nil)
      (pss_cons (ps_asg (pe_op op_mod (pe_callTy call_int1 (by rfl) B.int (by decide +kernel) (pa_cons (pe_op op_add (pe_op op_mul (pe_ix ix_list (pv 0) pe_int (fun _ _ => rfl)) pe_int) pe_int) pa_nil)) pe_int) (pg_sub (pv 0) pe_int set_list))
      (pss_one (ps_ret (pe_op op_mod (pe_op op_fdiv (pe_op op_mod (pe_op op_pow (pe_op op_mod (pe_op op_pow (pe_callTy call_int1 (by rfl) B.int (by decide +kernel) (pa_cons (pe_ix ix_list (pv 0) pe_int (fun _ _ => rfl)) pa_nil)) pe_int) pe_int) pe_int) pe_int) pe_int) (pv 1))))), ?_⟩
    have g0 : atI (Two r m) 0 = some (.int r) := rfl
    refine ⟨_, rfl, p, _, _, _, rfl, rfl, SqL.of hp, g0, _, rfl, _, _, rfl, rfl, _, rfl, ?_⟩
    refine ite2 (fun hge => ?_) (fun hlt => ?_)
    · have hge' : span ≤ r := of_decide_eq_true hge
      have q0 : 0 ≤ r / span := Int.ediv_nonneg r0 (by omega)
      refine ⟨_, rfl, p, _, _, _, rfl, rfl, SqL.of hp, g0, .inl ⟨_, rfl, _, rfl, _, _, rfl, rfl, (by show 0 < span; omega), ?_⟩⟩
      refine ⟨_, rfl, p, _, _, _, rfl, rfl, SqL.of hp, g0, _, rfl, _, _, rfl, rfl, ⟨(by omega), s2⟩, ?_⟩
      refine ⟨_, rfl, p, _, _, _, rfl, rfl, hp, rfl, ?_⟩
      exact ⟨_, rfl, k (r % span) (r / span) m ⟨q0, m0, m1⟩ (Int.emod_nonneg _ (by omega)) (Int.emod_lt_of_pos _ (by omega))⟩
    · have g1 : atI (Two r m) 1 = some (.int m) := rfl
      have e1 := Int.emod_nonneg (m * 48271 + 12345) (b := 2147483647) (by decide)
      have e2 := Int.emod_lt_of_pos (m * 48271 + 12345) (b := 2147483647) (by decide)
      refine ⟨_, rfl, p, _, _, _, rfl, rfl, SqL.of hp, g1, _, _, rfl, rfl, .inl ⟨by omega, by omega⟩, _, _, rfl, rfl, .inl ⟨_, rfl, _, _, rfl, rfl, (by show (0 : Int) < 2147483647; decide), ?_⟩⟩
      refine ⟨_, rfl, p, _, _, _, rfl, rfl, hp, rfl, ?_⟩
      have hp2 : (upd H p (.lst (Two r ((m * 48271 + 12345) % 2147483647)))) p = some (.lst (Two r ((m * 48271 + 12345) % 2147483647))) := upd_same
      have g2 : atI (Two r ((m * 48271 + 12345) % 2147483647)) 1 = some (.int ((m * 48271 + 12345) % 2147483647)) := rfl
      have f1 := Int.emod_nonneg (((m * 48271 + 12345) % 2147483647) ^ (3 : Int).toNat) (b := 2147483629) (by decide)
      have f2 := Int.emod_lt_of_pos (((m * 48271 + 12345) % 2147483647) ^ (3 : Int).toNat) (b := 2147483629) (by decide)
      refine ⟨_, rfl, p, _, _, _, rfl, rfl, SqL.of hp2, g2, .inl ⟨_, rfl, _, _, rfl, rfl, ⟨by decide, by decide, by omega⟩, _, _, rfl, rfl, (by show (0 : Int) < 2147483629; decide), ?_⟩⟩
      generalize (((m * 48271 + 12345) % 2147483647) ^ (3 : Int).toNat) % 2147483629 = u at f1 f2 ⊢
      refine ⟨_, _, rfl, rfl, ⟨by decide, by decide, by omega⟩, _, _, rfl, rfl, (by show (0 : Int) < 1000000007; decide), _, _, rfl, rfl, ⟨by decide, by decide⟩, _, rfl, _, _, rfl, rfl, (by show 0 < span; omega), ?_⟩
      exact k _ r _ ⟨r0, e1, by omega⟩ (Int.emod_nonneg _ (by omega)) (Int.emod_lt_of_pos _ (by omega))
end
end S

end
section
set_option autoImplicit false
set_option Elab.async false
set_option linter.all false
set_option maxRecDepth 100000
set_option maxHeartbeats 4000000
/-! ## repr of small values; _law_same, _law_choose -/
namespace QR
open PySem PySem.Spec PyProof.Rows L2 G
theorem shown_fits20 {d : PyData} (h : d.leavesShort 20 = true) (hb : d.bulk ≤ 100000) : d.shown.length ≤ sizeLine := by
  have a := PyData.shown_le_bulk 20 (by decide) d h
  have b : (20 + 2) * d.bulk + 20 ≤ 3000000 := by omega
  exact Nat.le_trans (Nat.le_trans a b) (by decide)
inductive Sh (K : PySem.W.Frag) (H : Hp) : V → Str → Prop
  | non : Sh K H .non "None"
  | bl (b : Bool) : Sh K H (.bl b) (if b then "True" else "False")
  | int (i : Int) : i.natAbs.log2 < 1920 → Sh K H (.int i) (toString i)
  | ref {a : Addr} {d : PyData} : Dr K H true (.ref a) d → d.showable = true → d.depth ≤ 20 → d.leavesShort 20 = true → d.bulk ≤ 100000 → Sh K H (.ref a) d.shown
def rReprS (K : PySem.W.Frag) : List V → Hp → VK → Prop := fun xs H Q => ∃ x t, xs = [x] ∧ Sh K H x t ∧ Q (.str t) H
section
variable {X : Cx}
theorem call_reprS (hg : X.A.guards = some []) (hu : X.A.units + 64 < cLine) : CallR X (.builtin "repr") (rReprS X.K) := by
  intro pins s σ H xs us Q I r h
  obtain ⟨x, t, rfl, hs, q⟩ := h
  cases hs with
  | non => exact call_reprF pins s σ H _ us Q I r (.inl ⟨rfl, q⟩)
  | bl b => exact call_reprF pins s σ H _ us Q I r (.inr (.inl ⟨b, rfl, q⟩))
  | int i hi => exact call_reprF pins s σ H _ us Q I r (.inr (.inr ⟨i, rfl, hi, q⟩))
  | @ref a d hd h1 h2 h3 h4 =>
    cases r with
    | cons rx rr =>
      cases rr
      cases rx
      obtain ⟨as, hr, _⟩ := Dr.reads I d _ _ hd rfl
      refine repr_of_reads' hr h1 (fun z => ?_) hg (by omega) (fun _ _ e => e) (fun h' u tk k => ⟨.str d.shown, H, I.kept (t' := tk) k, ⟨u, rfl⟩, q⟩) (shown_fits20 h3 h4)
      rw [Dr.noDict d _ hd] at z
      cases z
theorem ix_or {r1 r2 : R2} (h1 : IxR X r1) (h2 : IxR X r2) : IxR X (fun x y H Q => r1 x y H Q ∨ r2 x y H Q) := fun value slice pins s σ H x y v u Q I rx ry h hs => h.elim (fun h => h1 value slice pins s σ H x y v u Q I rx ry h hs) fun h => h2 value slice pins s σ H x y v u Q I rx ry h hs
end
end QR
namespace S
open PySem L2 QR
abbrev sSame : Stmt := top 45
section
variable {P : Program} {w : World} {K : PySem.W.Frag} {mg : Str → Option Value} {base : Heap}
def spSame (K : PySem.W.Frag) : Sp := fun vs H Q _ => ∃ (x y : V) (t : Str), vs = [x, y] ∧ Sh K H x t ∧ Sh K H y t ∧ Q (.bl true) H
theorem scSm : FnScope ["one", "two"] ["one", "two"] (defScope sSame) := ⟨rfl, rfl, rfl, by decide +kernel, rfl, by decide +kernel, by decide +kernel⟩
theorem ok_same {f : Addr} {fd : FuncData} (F : Fun K "_law_same" "_law_same" sSame f fd) (hrep : mg "repr" = none) : G.Ok P w K mg base CX0 1 f fd ["one", "two"] (spSame K) := by
  refine G.mk F scSm (fun vs H Q E h => ?_) (fun cdv A outer s H vs Q E hg hr h => ?_)
  · obtain ⟨x, y, t, rfl, _⟩ := h
    rfl
  · obtain ⟨x, y, t, rfl, h1, h2, k⟩ := h
    refine ⟨_, pss_one (ps_ret (pe_cmpR op_eq (pe_callB (call_reprS hg hr.units) (by rfl) hrep (by decide +kernel) (pa_cons (pv 0) pa_nil)) (pe_callB (call_reprS hg hr.units) (by rfl) hrep (by decide +kernel) (pa_cons (pv 1) pa_nil)) (nomark _))), ?_⟩
    refine ⟨_, rfl, x, t, rfl, h1, _, rfl, y, t, rfl, h2, rfl, ?_⟩
    rw [decide_eq_true rfl]
    exact k
/-- a pick from a list or a tuple -/
def spChoose (K : PySem.W.Frag) : Sp := fun vs H Q _ => ∃ (p l : Addr) (r m : Int) (xs : List V), vs = [.ref p, .ref l] ∧ H p = some (.lst (Two r m)) ∧ Fine r m ∧ l ≠ p ∧ (SqL K H l xs ∨ SqT K H l xs) ∧ 1 ≤ xs.length ∧ xs.length ≤ 1000 ∧
  ∀ (j : Nat) (x : V) (r' m' : Int), Fine r' m' → xs[j]? = some x → Q x (upd H p (.lst (Two r' m')))
theorem scCh : FnScope ["stream", "items"] ["stream", "items"] (defScope sPick) := ⟨rfl, rfl, rfl, by decide +kernel, rfl, by decide +kernel, by decide +kernel⟩
theorem keepL {H : Hp} {p l : Addr} {o : HO} {xs : List V} (hne : l ≠ p) (h : SqL K H l xs) : SqL K (upd H p o) l xs := by
  rcases h with (h | ⟨o, h⟩) | h
  · exact .inl (.inl (by rw [upd_ne hne]; exact h))
  · exact .inl (.inr ⟨o, by rw [upd_ne hne]; exact h⟩)
  · exact .inr h
theorem keepS {H : Hp} {p l : Addr} {o : HO} {xs : List V} (hne : l ≠ p) (h : SqT K H l xs) : SqT K (upd H p o) l xs := by
  rcases h with (h | ⟨o, h⟩) | h
  · exact .inl (.inl (by rw [upd_ne hne]; exact h))
  · exact .inl (.inr ⟨o, by rw [upd_ne hne]; exact h⟩)
  · exact .inr h
theorem ok_choose {f : Addr} {fd : FuncData} (F : Fun K "_law_choose" "_law_choose" sPick f fd) (hlen : mg "len" = none) (DR : Y.Df P w K mg base 1 "_law_draw" ["stream", "size"] spDraw) : FnOk P w K mg base CX0 2 f fd ["stream", "items"] (spChoose K) := by
  obtain ⟨fD, fdD, GD, gD, kD, bD⟩ := DR.ex
  refine F.ok scCh (fun vs H Q E h => ?_) (fun cdv A outer s H vs Q E hr h => ?_)
  · obtain ⟨p, l, r, m, xs, rfl, _⟩ := h
    rfl
  · obtain ⟨p, l, r, m, xs, rfl, hp, hf, hne, hL, l1, l2, k⟩ := h
    refine ⟨_, pss_one (ps_ret (pe_ix (ix_or ix_list ix_tup) (pv 1) (pe_call GD hr rfl gD kD bD .nil pass0 (pa_cons (pv 0) (pa_cons (pe_callB call_len_seq (by rfl) hlen PySem.boot_len (pa_cons (pv 1) pa_nil)) pa_nil))) (fun _ _ => rfl))), ?_⟩
    refine ⟨_, rfl, _, rfl, _, rfl, l, xs, rfl, hL, p, r, m, _, rfl, hp, hf, by omega, ?_, fun j r' m' hf' h0 h1 => ?_⟩
    · exact PySem.Flt.log2_lt_of (k := 9000) (by decide) (Nat.lt_of_lt_of_le (by omega : _ < 1001) (Nat.le_trans (by decide : 1001 ≤ 2 ^ 10) (Nat.pow_le_pow_right (by decide) (by decide))))
    · obtain ⟨n, rfl⟩ := Int.eq_ofNat_of_zero_le h0
      have hn : n < xs.length := by omega
      have hit : xs[n]? = some xs[n] := List.getElem?_eq_getElem hn
      rcases hL with hL | hL
      · exact .inl ⟨l, xs, _, xs[n], rfl, rfl, keepL hne hL, atI_nat hit, k n _ r' m' hf' hit⟩
      · exact .inr ⟨l, xs, _, xs[n], rfl, rfl, keepS hne hL, atI_nat hit, k n _ r' m' hf' hit⟩
end
end S

end
section
set_option autoImplicit false
set_option Elab.async false
set_option linter.all false
set_option maxRecDepth 100000
set_option maxHeartbeats 4000000
/-! ## draws: what they leave -/
namespace Y
open PySem L2 G
/-- all but the source at p stays -/
def Bt (p : Addr) (H H' : Hp) : Prop := (∀ a o, a ≠ p → H a = some o → H' a = some o) ∧ S.At H' p
theorem Bt.trans {p : Addr} {H H1 H2 : Hp} (a : Bt p H H1) (b : Bt p H1 H2) : Bt p H H2 := ⟨fun x o n e => b.1 x o n (a.1 x o n e), b.2⟩
theorem Bt.same {p : Addr} {H H' : Hp} (s : Same H H') (h : S.At H p) : Bt p H H' := by
  obtain ⟨r, m, e, f⟩ := h
  exact ⟨fun a o _ e2 => s _ _ e2, r, m, s _ _ e, f⟩
theorem Bt.put {p : Addr} {H : Hp} {r m : Int} (f : S.Fine r m) : Bt p H (upd H p (.lst (S.Two r m))) := ⟨fun a o n e => by rw [upd_ne n]; exact e, r, m, upd_same, f⟩
theorem Bt.new {p u : Addr} {H : Hp} (o : HO) (h : S.At H p) (hu : H u = none) : Bt p H (upd H u o) := Bt.same (of_upd hu) h
theorem at_ne {H : Hp} {p L : Addr} (h : S.At H p) (hL : H L = none) : L ≠ p := fun e => by
  obtain ⟨r, m, e2, _⟩ := h
  rw [e, e2] at hL
  cases hL
theorem bt_lst {p L : Addr} {H H' : Hp} {o : HO} (b : Bt p H H') (ne : L ≠ p) (h : H L = some o) : H' L = some o := b.1 L _ ne h
theorem sameAt {p : Addr} {H H' : Hp} (s : Same H H') (h : S.At H p) : S.At H' p := by
  obtain ⟨r, m, e, f⟩ := h
  exact ⟨r, m, s _ _ e, f⟩
theorem sameBt {p : Addr} {H G G' : Hp} (s : Same H G) (n : H p = none) (b : Bt p G G') : Same H G' := fun a o e => b.1 a o (fun z => by rw [z, n] at e; cases e) (s a o e)
theorem draw_at {H : Hp} {Q : VK} {E : XK} {p : Addr} {n : Int} (h : S.At H p) (n1 : 1 ≤ n) (n2 : n.natAbs.log2 < 9000) (k : ∀ j H', 0 ≤ j → j < n → Bt p H H' → Q (.int j) H') : S.spDraw [.ref p, .int n] H Q E := by
  obtain ⟨r, m, hp, hf⟩ := h
  exact ⟨p, r, m, n, rfl, hp, hf, n1, n2, fun j r1 m1 f1 j0 j1 => k j _ j0 j1 (Bt.put f1)⟩
/-- a draw as it stands in an expression: below a written number, or below what a name holds -/
theorem draw_vv {σ : L2.St} {H : Hp} {Q : VK} {E : XK} {p : Addr} {i : Nat} {n : Int} (hσ : σ[i]? = some (some (.ref p))) (h : S.At H p) (n1 : 1 ≤ n) (n2 : n.natAbs.log2 < 9000) (k : ∀ j H', 0 ≤ j → j < n → Bt p H H' → Q (.int j) H') : tCall S.spDraw [] E (tCons (tVar i) (tCons (tC (.int n)) tNil)) σ H Q := ⟨_, hσ, draw_at (E := E) h n1 n2 k⟩
theorem draw_var {σ : L2.St} {H : Hp} {Q : VK} {E : XK} {p : Addr} {i j : Nat} {n : Int} (hσ : σ[i]? = some (some (.ref p))) (hj : σ[j]? = some (some (.int n))) (h : S.At H p) (n1 : 1 ≤ n) (n2 : n.natAbs.log2 < 9000) (k : ∀ j H', 0 ≤ j → j < n → Bt p H H' → Q (.int j) H') : tCall S.spDraw [] E (tCons (tVar i) (tCons (tVar j) tNil)) σ H Q := ⟨_, hσ, _, hj, draw_at (E := E) h n1 n2 k⟩
theorem draw_of {σ : L2.St} {H : Hp} {Q : VK} {p : Addr} {E : XK} {i : Nat} {c n : Int} (hσ : σ[i]? = some (some (.ref p))) (h : S.At H p) (n1 : 1 ≤ n) (n2 : n.natAbs.log2 < 9000) (k : ∀ j H', 0 ≤ j → j < n → Bt p H H' → Q (.int (c + j)) H') :
    tOp (rI0 fun i j => .int (i + j)) (tC (.int c)) (tCall S.spDraw [] E (tCons (tVar i) (tCons (tC (.int n)) tNil))) σ H Q := by
  obtain ⟨r, m, hp, hf⟩ := h
  exact ⟨_, hσ, p, r, m, n, rfl, hp, hf, n1, n2, fun j r1 m1 f1 j0 j1 => ⟨_, _, rfl, rfl, k j _ j0 j1 (Bt.put f1)⟩⟩
theorem draw_w {σ : L2.St} {H : Hp} {Q : VK} {E : XK} {p : Addr} {i j : Nat} {c n : Int} (hσ : σ[i]? = some (some (.ref p))) (hj : σ[j]? = some (some (.int n))) (h : S.At H p) (n1 : 1 ≤ n) (n2 : n.natAbs.log2 < 9000) (k : ∀ x H', 0 ≤ x → x < n → Bt p H H' → Q (.int (c + x)) H') :
    tOp (rI0 fun i j => .int (i + j)) (tC (.int c)) (tCall S.spDraw [] E (tCons (tVar i) (tCons (tVar j) tNil))) σ H Q := by
  obtain ⟨r, m, hp, hf⟩ := h
  exact ⟨_, hσ, _, hj, p, r, m, n, rfl, hp, hf, n1, n2, fun x r1 m1 f1 j0 j1 => ⟨_, _, rfl, rfl, k x _ j0 j1 (Bt.put f1)⟩⟩
/-- a pick from a list just made -/
theorem pick_at {K : PySem.W.Frag} {H : Hp} {Q : VK} {p l : Addr} {E : XK} {xs : List V} (h : S.At H p) (hl : H l = none) (h1 : 1 ≤ xs.length) (h2 : xs.length ≤ 1000) (k : ∀ x H', x ∈ xs → Bt p H H' → Q x H') : S.spPick K [.ref p, .ref l] (upd H l (.lst xs)) Q E := by
  obtain ⟨r, m, hp, hf⟩ := h
  have lp : l ≠ p := fun z => by
    rw [z, hp] at hl
    cases hl
  exact ⟨p, l, r, m, xs, rfl, by rw [upd_ne lp.symm]; exact hp, hf, lp, SqL.of upd_same, h1, h2, fun j x r2 m2 f2 hx => k x _ (List.mem_of_getElem? hx) ((Bt.same (of_upd hl) ⟨r, m, hp, hf⟩).trans (Bt.put f2))⟩
theorem pick_of {K : PySem.W.Frag} {σ : L2.St} {H : Hp} {Q : VK} {p : Addr} {E : XK} {i : Nat} {xs : List V} {ta : TA} (hσ : σ[i]? = some (some (.ref p))) (h : S.At H p) (h1 : 1 ≤ xs.length) (h2 : xs.length ≤ 1000) (ha : ∀ Q2 : List V → Hp → Prop, Q2 xs H → ta σ H Q2) (k : ∀ x H', x ∈ xs → Bt p H H' → Q x H') :
    tCall (S.spPick K) [] E (tCons (tVar i) (tCons (tLst ta) tNil)) σ H Q := ⟨_, hσ, ha _ ⟨Nat.le_trans h2 (by decide), fun l hl => pick_at (E := E) h hl h1 h2 k⟩⟩
end Y

end
section
set_option autoImplicit false
set_option Elab.async false
set_option linter.all false
set_option maxRecDepth 100000
set_option maxHeartbeats 4000000
/-! ## plans of ways, as the law draws them; their ways -/
namespace M
def isz : Step → Nat
  | .tunnel w _ _ => w.size
  | .road _ _ _ => 0
  | .join _ => 0
theorem inner_cons : ∀ (s : Step) (r : List Step), Step.inner (s :: r) = isz s + Step.inner r
  | .tunnel w a b, r => by
    conv => lhs; unfold Step.inner
    rfl
  | .road a b c, r => by
    conv => lhs; unfold Step.inner
    exact (Nat.zero_add _).symm
  | .join a, r => by
    conv => lhs; unfold Step.inner
    exact (Nat.zero_add _).symm
/-- how great inner ways of steps are, and ways, by the depth that is drawn -/
def bs : Nat → Nat
  | 0 => 0
  | 1 => 2
  | _ + 2 => 9
def zs : Nat → Nat
  | 0 => 2
  | 1 => 9
  | _ + 2 => 40
def SmStep (d h : Nat) (y : Step) : Prop := Step.fine h y ∧ Step.dep y ≤ d ∧ isz y ≤ bs d
structure Sm (d : Nat) (w : Way) : Prop where
  fine : w.fine
  dp : w.depth ≤ d + 1
  sz : w.size ≤ zs d
  ln : w.steps.length ≤ d + 2
theorem sm_all {d h : Nat} : ∀ {s : List Step}, (∀ y ∈ s, SmStep d h y) → Step.fineAll h s ∧ Step.deepest s ≤ d ∧ Step.inner s ≤ s.length * bs d
  | [], _ => ⟨by unfold Step.fineAll; trivial, by unfold Step.deepest; omega, by unfold Step.inner; omega⟩
  | y :: r, q => by
    obtain ⟨a, b, c⟩ := q y List.mem_cons_self
    obtain ⟨e, f, g⟩ := sm_all (s := r) fun z hz => q z (List.mem_cons_of_mem _ hz)
    refine ⟨by unfold Step.fineAll; exact ⟨a, e⟩, by rw [deep_cons]; omega, ?_⟩
    rw [inner_cons, List.length_cons, Nat.add_mul]
    omega
theorem sm_way {d h : Nat} {s : List Step} (hd : d ≤ 2) (h1 : 1 ≤ h) (h2 : h ≤ 40) (l1 : 1 ≤ s.length) (l2 : s.length ≤ d + 2) (q : ∀ y ∈ s, SmStep d h y) : Sm d (.mk h s) := by
  obtain ⟨a, b, c⟩ := sm_all q
  have c2 : s.length + Step.inner s ≤ zs d := by
    match d, hd, l2, c with
    | 0, _, l2, c =>
      have c : Step.inner s ≤ s.length * 0 := c
      show s.length + Step.inner s ≤ 2
      omega
    | 1, _, l2, c =>
      have c : Step.inner s ≤ s.length * 2 := c
      show s.length + Step.inner s ≤ 9
      omega
    | 2, _, l2, c =>
      have c : Step.inner s ≤ s.length * 9 := c
      show s.length + Step.inner s ≤ 40
      omega
  have c3 : zs d ≤ 40 := by
    match d with
    | 0 => decide
    | 1 => decide
    | _ + 2 => exact Nat.le_refl 40
  refine ⟨?_, by unfold Way.depth; omega, by unfold Way.size; exact c2, l2⟩
  unfold Way.fine
  exact ⟨by omega, by omega, a, by omega, by omega⟩
theorem zs_bs {d : Nat} (h : d ≠ 0) (hd : d ≤ 2) : zs (d - 1) ≤ bs d := by
  match d, hd with
  | 0, _ => exact absurd rfl h
  | 1, _ => decide
  | 2, _ => decide
end M
namespace CP
open PySem L2 G Y
abbrev sLPlan : Stmt := S.top 46
abbrev sLMost : Stmt := S.top 47
abbrev sLStep : Stmt := S.top 48
abbrev sLWay : Stmt := S.top 49
theorem choose_at {K : PySem.W.Frag} {H : Hp} {Q : VK} {p l : Addr} {E : XK} {xs : List V} (h : S.At H p) (ne : l ≠ p) (hl : SqL K H l xs ∨ SqT K H l xs) (h1 : 1 ≤ xs.length) (h2 : xs.length ≤ 1000) (k : ∀ x H', x ∈ xs → Bt p H H' → Q x H') : S.spChoose K [.ref p, .ref l] H Q E := by
  obtain ⟨r, m, hp, hf⟩ := h
  exact ⟨p, l, r, m, xs, rfl, hp, hf, ne, hl, h1, h2, fun j x r2 m2 f2 hx => k x _ (List.mem_of_getElem? hx) (Bt.put f2)⟩
theorem choose_new {K : PySem.W.Frag} {H : Hp} {Q : VK} {p l : Addr} {E : XK} {xs : List V} (h : S.At H p) (hl : H l = none) (h1 : 1 ≤ xs.length) (h2 : xs.length ≤ 1000) (k : ∀ x H', x ∈ xs → Bt p H H' → Q x H') : S.spChoose K [.ref p, .ref l] (upd H l (.lst xs)) Q E :=
  choose_at (sameAt (of_upd hl) h) (at_ne h hl) (.inl (SqL.of upd_same)) h1 h2 fun x H' hx b => k x H' hx ((Bt.same (of_upd hl) h).trans b)
theorem choose_of {K : PySem.W.Frag} {σ : L2.St} {H : Hp} {Q : VK} {p : Addr} {E : XK} {i : Nat} {xs : List V} {ta : TA} (hσ : σ[i]? = some (some (.ref p))) (h : S.At H p) (h1 : 1 ≤ xs.length) (h2 : xs.length ≤ 1000) (ha : ∀ Q2 : List V → Hp → Prop, Q2 xs H → ta σ H Q2) (k : ∀ x H', x ∈ xs → Bt p H H' → Q x H') :
    tCall (S.spChoose K) [] E (tCons (tVar i) (tCons (tLst ta) tNil)) σ H Q := ⟨_, hσ, ha _ ⟨Nat.le_trans h2 (by decide), fun l hl => choose_new (E := E) h hl h1 h2 k⟩⟩
theorem draw_te {σ : L2.St} {H : Hp} {Q : VK} {E : XK} {p : Addr} {i : Nat} {n : Int} {te : TE} (hσ : σ[i]? = some (some (.ref p))) (ht : ∀ Q2 : VK, Q2 (.int n) H → te σ H Q2) (h : S.At H p) (n1 : 1 ≤ n) (n2 : n.natAbs.log2 < 9000) (k : ∀ j H', 0 ≤ j → j < n → Bt p H H' → Q (.int j) H') : tCall S.spDraw [] E (tCons (tVar i) (tCons te tNil)) σ H Q := ⟨_, hσ, ht _ (draw_at (E := E) h n1 n2 k)⟩
theorem bt_keepT {p : Addr} {H H' : Hp} (b : Bt p H H') (h : S.At H p) : KeepT H H' := fun a o n e => b.1 a o (fun z => by
  obtain ⟨r, m, e2, _⟩ := h
  rw [z, e2] at e
  cases e
  exact n _ rfl) e
theorem KeepT.trans {H H1 H2 : Hp} (a : KeepT H H1) (b : KeepT H1 H2) : KeepT H H2 := fun x o n e => b x o n (a x o n e)
theorem KeepT.tup {H H' : Hp} {t : Addr} {xs : List V} (k : KeepT H H') (h : H t = some (.tup xs)) : H' t = some (.tup xs) := k _ _ (fun _ z => by cases z) h
mutual
/-- a plan of a way: a head, a tuple of its steps; ways in tunnels are plans, too -/
def PlanAt (H : Hp) : M.Way → V → Prop
  | .mk h s, v => ∃ t L xs, v = .ref t ∧ H t = some (.tup [.int (h : Int), .ref L]) ∧ H L = some (.tup xs) ∧ PlAll H s xs
def PlAll (H : Hp) : List M.Step → List V → Prop
  | [], xs => xs = []
  | s :: r, xs => ∃ x ys, xs = x :: ys ∧ PlStep H s x ∧ PlAll H r ys
def PlStep (H : Hp) : M.Step → V → Prop
  | .road size ts lw, x => ∃ t, x = .ref t ∧ H t = some (.tup [.str "road", .int (size : Int), .str (WP.sdS ts), .str (WP.lwS lw)])
  | .join most, x => ∃ t, x = .ref t ∧ H t = some (.tup [.str "join", .int (most : Int)])
  | .tunnel w most tw, x => ∃ t v, x = .ref t ∧ H t = some (.tup [.str "tunnel", v, .int (most : Int), .str (WP.twS tw)]) ∧ PlanAt H w v
end
mutual
theorem PlanAt.keep {H H' : Hp} (s : KeepT H H') : ∀ {w : M.Way} {v : V}, PlanAt H w v → PlanAt H' w v
  | .mk h st, v, x => by
    unfold PlanAt at x ⊢
    obtain ⟨t, L, xs, e, h1, h2, h3⟩ := x
    exact ⟨t, L, xs, e, s.tup h1, s.tup h2, PlAll.keep s h3⟩
theorem PlAll.keep {H H' : Hp} (s : KeepT H H') : ∀ {st : List M.Step} {xs : List V}, PlAll H st xs → PlAll H' st xs
  | [], xs, x => by
    unfold PlAll at x ⊢
    exact x
  | y :: r, xs, x => by
    unfold PlAll at x ⊢
    obtain ⟨u, ys, e, h1, h2⟩ := x
    exact ⟨u, ys, e, PlStep.keep s h1, PlAll.keep s h2⟩
theorem PlStep.keep {H H' : Hp} (s : KeepT H H') : ∀ {st : M.Step} {x : V}, PlStep H st x → PlStep H' st x
  | .road size ts lw, v, x => by
    unfold PlStep at x ⊢
    obtain ⟨t, e, h⟩ := x
    exact ⟨t, e, s.tup h⟩
  | .join most, v, x => by
    unfold PlStep at x ⊢
    obtain ⟨t, e, h⟩ := x
    exact ⟨t, e, s.tup h⟩
  | .tunnel w most tw, v, x => by
    unfold PlStep at x ⊢
    obtain ⟨t, u, e, h, h2⟩ := x
    exact ⟨t, u, e, s.tup h, PlanAt.keep s h2⟩
end
theorem PlAll.snoc {H : Hp} : ∀ {s : List M.Step} {xs : List V} {y : M.Step} {x : V}, PlAll H s xs → PlStep H y x → PlAll H (s ++ [y]) (xs ++ [x])
  | [], xs, y, x, h, h2 => by
    unfold PlAll at h
    subst h
    show PlAll H [y] [x]
    unfold PlAll
    exact ⟨x, [], rfl, h2, by unfold PlAll; rfl⟩
  | z :: s, xs, y, x, h, h2 => by
    unfold PlAll at h
    obtain ⟨u, ys, rfl, h3, h4⟩ := h
    show PlAll H (z :: (s ++ [y])) (u :: (ys ++ [x]))
    unfold PlAll
    exact ⟨u, ys ++ [x], rfl, h3, PlAll.snoc h4 h2⟩
theorem PlAll.len {H : Hp} : ∀ {s : List M.Step} {xs : List V}, PlAll H s xs → xs.length = s.length
  | [], xs, h => by
    unfold PlAll at h
    rw [h]
    rfl
  | z :: s, xs, h => by
    unfold PlAll at h
    obtain ⟨u, ys, rfl, _, h4⟩ := h
    rw [List.length_cons, List.length_cons, PlAll.len h4]
theorem PlAll.get {H : Hp} : ∀ {s : List M.Step} {xs : List V} {i : Nat} {x : V}, PlAll H s xs → xs[i]? = some x → ∃ y, s[i]? = some y ∧ PlStep H y x
  | [], xs, i, x, h, e => by
    unfold PlAll at h
    subst h
    cases e
  | z :: s, xs, i, x, h, e => by
    unfold PlAll at h
    obtain ⟨u, ys, rfl, h3, h4⟩ := h
    cases i with
    | zero =>
      cases e
      exact ⟨z, rfl, h3⟩
    | succ i => exact PlAll.get (i := i) h4 e
theorem sd_of {x : V} (h : x ∈ [V.str "tell", V.str "tell", V.str "drop"]) : ∃ ts, x = .str (WP.sdS ts) := by
  rcases List.mem_cons.mp h with e | h
  · exact ⟨true, e⟩
  rcases List.mem_cons.mp h with e | h
  · exact ⟨true, e⟩
  · have e : x = V.str "drop" := by simpa using h
    exact ⟨false, e⟩
theorem lw_of {x : V} (h : x ∈ [V.str "cut", V.str "cut", V.str "cut", V.str "tell", V.str "drop"]) : ∃ lw, x = .str (WP.lwS lw) := by
  rcases List.mem_cons.mp h with e | h
  · exact ⟨.cut, e⟩
  rcases List.mem_cons.mp h with e | h
  · exact ⟨.cut, e⟩
  rcases List.mem_cons.mp h with e | h
  · exact ⟨.cut, e⟩
  rcases List.mem_cons.mp h with e | h
  · exact ⟨.tell, e⟩
  · have e : x = V.str "drop" := by simpa using h
    exact ⟨.drop, e⟩
theorem tw_of {x : V} (h : x ∈ [V.str "turn", V.str "turn", V.str "keep", V.str "lose"]) : ∃ tw, x = .str (WP.twS tw) := by
  rcases List.mem_cons.mp h with e | h
  · exact ⟨.turn, e⟩
  rcases List.mem_cons.mp h with e | h
  · exact ⟨.turn, e⟩
  rcases List.mem_cons.mp h with e | h
  · exact ⟨.keep, e⟩
  · have e : x = V.str "lose" := by simpa using h
    exact ⟨.lose, e⟩
section
variable {P : Program} {w : World} {K : PySem.W.Frag} {mg : Str → Option Value} {base : Heap} {C CW : Addr}
def spLMost : Sp := fun vs H Q _ => ∃ p, vs = [.ref p] ∧ S.At H p ∧ ∀ (m : Nat) H', 1 ≤ m → m ≤ 1000000000000 → Bt p H H' → Q (.int (m : Int)) H'
theorem scLm : FnScope ["stream"] ["stream"] (defScope sLMost) := ⟨rfl, rfl, rfl, by decide +kernel, rfl, by decide +kernel, by decide +kernel⟩
theorem ok_lmost {f : Addr} {fd : FuncData} (F : Fun K "_law_most" "_law_most" sLMost f fd) (DD : Df P w K mg base 1 "_law_draw" ["stream", "size"] S.spDraw) (DP : Df P w K mg base 2 "_law_choose" ["stream", "items"] (S.spChoose K)) : FnOk P w K mg base CX0 3 f fd ["stream"] spLMost := by
  obtain ⟨fD, fdD, GD, gD, kD, bD⟩ := DD.ex
  obtain ⟨fP, fdP, GP, gP, kP, bP⟩ := DP.ex
  refine F.ok scLm (fun vs H Q E h => ?_) (fun cdv A outer s H vs Q E hr h => ?_)
  · obtain ⟨p, rfl, _⟩ := h
    rfl
  · obtain ⟨p, rfl, hp, kk⟩ := h
    refine ⟨_, pss_one (ps_ret (pe_call GP (hr.mono (by omega)) rfl gP kP bP .nil pass0 (pa_cons (pv 0) (pa_cons (pe_lst (pa_cons (pe_int) (pa_cons (pe_int) (pa_cons (pe_int) (pa_cons (pe_int) (pa_cons (pe_op op_add (pe_int) (pe_call GD (hr.mono (by omega)) rfl gD kD bD .nil pass0 (pa_cons (pv 0) (pa_cons (pe_int) pa_nil)))) (pa_cons (pe_op op_powN pe_int pe_int) (pa_cons (pe_op op_sub (pe_op op_powN pe_int pe_int) (pe_int)) pa_nil)))))))) pa_nil)))), ?_⟩
    refine ⟨_, rfl, draw_of rfl hp (by decide) (by decide +kernel) fun j H1 j0 j1 b1 => ⟨10, 12, rfl, rfl, ⟨by decide, by decide +kernel⟩, 10, 12, rfl, rfl, ⟨by decide, by decide +kernel⟩, _, _, rfl, rfl, (by show 7 ≤ sizeLine; decide), fun l hl => ?_⟩⟩
    refine choose_new (E := E0) b1.2 hl (by show 1 ≤ 7; decide) (by show 7 ≤ 1000; decide) fun x H2 hx b2 => ?_
    have bt := b1.trans b2
    have fin : ∀ n : Nat, x = .int (n : Int) → 1 ≤ n → n ≤ 1000000000000 → Q x H2 := fun n e a b => by
      subst e
      exact kk n _ a b bt
    simp only [List.append_nil, List.cons_append, List.nil_append, List.mem_cons, List.mem_nil_iff, or_false] at hx
    rcases hx with e | e | e | e | e | e | e
    · exact fin 1 e (by decide) (by decide)
    · exact fin 2 e (by decide) (by decide)
    · exact fin 3 e (by decide) (by decide)
    · exact fin 4 e (by decide) (by decide)
    · exact fin (1 + j).toNat (e.trans (congrArg V.int (by omega))) (by omega) (by omega)
    · exact fin 1000000000000 (e.trans (congrArg V.int (by decide +kernel))) (by decide) (by decide)
    · exact fin 999999999999 (e.trans (congrArg V.int (by decide +kernel))) (by decide) (by decide)
def spLPlan (n : Nat) : Sp := fun vs H Q _ => ∃ (p : Addr) (d b : Nat), vs = [.ref p, .int (d : Int), .int (b : Int)] ∧ S.At H p ∧ d < n ∧ d ≤ 2 ∧ b ≤ 40 ∧ ∀ wy v H', Bt p H H' → PlanAt H' wy v → M.Sm d wy → Q v H'
def spLStep (n : Nat) : Sp := fun vs H Q _ => ∃ (p : Addr) (d b h : Nat), vs = [.ref p, .int (d : Int), .int (b : Int), .int (h : Int)] ∧ S.At H p ∧ d ≤ n ∧ d ≤ 2 ∧ b ≤ 40 ∧ 1 ≤ h ∧ h ≤ 40 ∧ ∀ st v H', Bt p H H' → PlStep H' st v → M.SmStep d h st → Q v H'
abbrev NPs : List Str := ["stream", "depth", "base", "head", "sort", "cut", "word", "inner", "tells"]
theorem scPs : FnScope NPs ["stream", "depth", "base", "head"] (defScope sLStep) := ⟨rfl, rfl, rfl, by decide +kernel, rfl, by decide +kernel, by decide +kernel⟩
theorem ok_lstep {k n : Nat} {f : Addr} {fd : FuncData} (F : Fun K "_law_plan_step" "_law_plan_step" sLStep f fd) (hk : 3 ≤ k) (B : Bn mg) (DD : Df P w K mg base 1 "_law_draw" ["stream", "size"] S.spDraw) (DP : Df P w K mg base 2 "_law_choose" ["stream", "items"] (S.spChoose K)) (DM : Df P w K mg base 3 "_law_most" ["stream"] spLMost)
    (DL : Df P w K mg base k "_law_plan" ["stream", "depth", "base"] (spLPlan n)) : FnOk P w K mg base CX0 (k + 1) f fd ["stream", "depth", "base", "head"] (spLStep n) := by
  obtain ⟨fD, fdD, GD, gD, kD, bD⟩ := DD.ex
  obtain ⟨fP, fdP, GP, gP, kP, bP⟩ := DP.ex
  obtain ⟨fM, fdM, GM, gM, kM, bM⟩ := DM.ex
  obtain ⟨fL, fdL, GL, gL, kL, bL⟩ := DL.ex
  refine F.ok scPs (fun vs H Q E h => ?_) (fun cdv A outer s H vs Q E hr h => ?_)
  · obtain ⟨p, d, b, h, rfl, _⟩ := h
    rfl
  · obtain ⟨p, d, b, h, rfl, hp, hdn, hd, hb, h1, h2, kk⟩ := h
    refine ⟨_, pss_cons (ps_set (i := 4) scPs.nd rfl (Or.inl rfl) (pe_call GD (hr.mono (by omega)) rfl gD kD bD .nil pass0 (pa_cons (pv 0) (pa_cons (pe_int) pa_nil))))
      (pss_cons (ps_if (pt_cmpR (op_lt) (pv 4) (pe_int) (nomark _)) (pss_cons (ps_set (i := 5) scPs.nd rfl (Or.inl rfl) (pe_callB (call_max2 rfl) (by rfl) B.max (by decide +kernel) (pa_cons (pe_int) (pa_cons (pe_op op_sub (pe_op op_add (pv 2) (pe_call GD (hr.mono (by omega)) rfl gD kD bD .nil pass0 (pa_cons (pv 0) (pa_cons (pe_int) pa_nil)))) (pe_op op_mul (pe_int) (pe_callTy call_int1 (by rfl) B.int (by decide +kernel) (pa_cons (pe_cmpR (op_gt) (pv 2) (pe_int) (nomark _)) pa_nil)))) pa_nil))))
      (pss_cons (ps_if (pt_cmpR (op_eq) (pe_call GD (hr.mono (by omega)) rfl gD kD bD .nil pass0 (pa_cons (pv 0) (pa_cons (pe_int) pa_nil))) (pe_int) (nomark _)) (pss_one (ps_set (i := 5) scPs.nd rfl (Or.inl rfl) (pe_op op_sub (pe_op op_sub (pe_int) (pv 3)) (pe_call GD (hr.mono (by omega)) rfl gD kD bD .nil pass0 (pa_cons (pv 0) (pa_cons (pe_int) pa_nil)))))) (pss_nil))
      (pss_cons (ps_set (i := 6) scPs.nd rfl (Or.inl rfl) (pe_call GP (hr.mono (by omega)) rfl gP kP bP .nil pass0 (pa_cons (pv 0) (pa_cons (pe_lst (pa_cons (pe_str) (pa_cons (pe_str) (pa_cons (pe_str) pa_nil)))) pa_nil))))
      (pss_one (ps_ret (pe_tup (pa_cons (pe_str) (pa_cons (pe_op op_add (pv 3) (pv 5)) (pa_cons (pv 6) (pa_cons (pe_call GP (hr.mono (by omega)) rfl gP kP bP .nil pass0 (pa_cons (pv 0) (pa_cons (pe_lst (pa_cons (pe_str) (pa_cons (pe_str) (pa_cons (pe_str) (pa_cons (pe_str) (pa_cons (pe_str) pa_nil)))))) pa_nil))) pa_nil)))))))))) (pss_nil))
      (pss_cons (ps_if (PW.pt (pw_or (pt_cmpR (op_lt) (pv 4) (pe_int) (nomark _)) (pw_or1 (pt_cmpR (op_eq) (pv 1) (pe_int) (nomark _))))) (pss_one (ps_ret (pe_tup (pa_cons (pe_str) (pa_cons (pe_call GM (hr.mono (by omega)) rfl gM kM bM .nil pass0 (pa_cons (pv 0) pa_nil)) pa_nil))))) (pss_nil))
      (pss_cons (ps_par (i := 7) (j := 8) (by rfl) scPs.nd rfl rfl (by decide) rfl rfl (pa_cons (pe_call GL (hr.mono (by omega)) rfl gL kL bL .nil pass0 (pa_cons (pv 0) (pa_cons (pe_op op_sub (pv 1) (pe_int)) (pa_cons (pv 3) pa_nil)))) (pa_cons (pe_call GP (hr.mono (by omega)) rfl gP kP bP .nil pass0 (pa_cons (pv 0) (pa_cons (pe_lst (pa_cons (pe_str) (pa_cons (pe_str) (pa_cons (pe_str) (pa_cons (pe_str) pa_nil))))) pa_nil))) pa_nil)) (by rfl))
      (pss_one (ps_ret (pe_tup (pa_cons (pe_str) (pa_cons (pv 7) (pa_cons (pe_call GM (hr.mono (by omega)) rfl gM kM bM .nil pass0 (pa_cons (pv 0) pa_nil)) (pa_cons (pv 8) pa_nil)))))))))), ?_⟩
    refine set_then (i := 4) (draw_vv rfl hp (by decide) (by decide +kernel) fun j H1 a0 a1 b1 => ?_)
    refine ⟨_, rfl, _, _, rfl, rfl, _, rfl, ite2 (fun c => ?_) (fun c => ?_)⟩
    · refine set_then (i := 5) ⟨_, rfl, draw_vv rfl b1.2 (by decide) (by decide +kernel) fun j2 H2 c0 c1 b2 => ?_⟩
      refine ⟨_, _, rfl, rfl, _, rfl, _, _, rfl, rfl, .inr ⟨_, rfl, _, _, rfl, rfl, .inl ⟨?_, ?_⟩, _, _, rfl, rfl, _, _, rfl, ?_⟩⟩
      · decide
      · decide
      have mz : ∀ (t : Int), (t = 0 ∨ t = 1) → (b = 0 → t = 0) → ∃ c5 : Nat, V.int (if (b : Int) + j2 - 2 * t > 1 then (b : Int) + j2 - 2 * t else 1) = V.int (c5 : Int) ∧ 1 ≤ c5 ∧ c5 ≤ 60 := fun t ht hb0 => by
        split
        · exact ⟨((b : Int) + j2 - 2 * t).toNat, congrArg V.int (by omega), by omega, by omega⟩
        · exact ⟨1, rfl, by decide, by decide⟩
      obtain ⟨c5, e5, c6, c7⟩ := mz (if decide ((b : Int) > 0) = true then 1 else 0) (by split <;> simp) (fun e => by subst e; rfl)
      rw [e5]
      have b12 := b1.trans b2
      refine if_then (fun σ' G => Bt p H G ∧ ∃ (c8 : Nat) (q6 q7 q8 : Option V), 1 ≤ c8 ∧ h + c8 ≤ 1000 ∧ σ' = [some (.ref p), some (.int (d : Int)), some (.int (b : Int)), some (.int (h : Int)), some (.int j), some (.int (c8 : Int)), q6, q7, q8]) ?r1 (fun k1 => ?_)
      case r1 =>
        rintro σ' G ⟨bG, c8, q6, q7, q8, l1, l2, rfl⟩
        refine set_then (i := 6) (choose_of rfl bG.2 (by decide) (by decide) (fun Q2 q => q) fun x H3 hx b3 => ?_)
        obtain ⟨ts, rfl⟩ := sd_of hx
        refine ⟨_, rfl, _, rfl, _, _, rfl, rfl, _, rfl, ?_⟩
        refine choose_of rfl b3.2 (by decide) (by decide) (fun Q2 q => q) fun y H4 hy b4 => ⟨(by show 4 ≤ sizeLine; decide), fun t ht => ?_⟩
        obtain ⟨lw, rfl⟩ := lw_of hy
        refine kk (.road (h + c8) ts lw) _ _ ((bG.trans (b3.trans b4)).trans (Bt.new _ b4.2 ht)) ?_ ⟨by unfold M.Step.fine; omega, Nat.zero_le _, Nat.zero_le _⟩
        unfold PlStep
        refine ⟨t, rfl, ?_⟩
        rw [Int.natCast_add]
        exact upd_same
      refine draw_vv rfl b2.2 (by decide) (by decide +kernel) fun j3 H3 d0 d1 b3 => ⟨rfl, _, rfl, ite2 (fun c2 => ?_) (fun c2 => ?_)⟩
      · refine ⟨_, rfl, _, _, rfl, rfl, draw_vv rfl b3.2 (by decide) (by decide +kernel) fun j4 H4 f0 f1 b4 => ⟨_, _, rfl, rfl, ?_⟩⟩
        obtain ⟨c9, e9⟩ : ∃ c9 : Nat, 1000 - (h : Int) - j4 = (c9 : Int) := ⟨(1000 - (h : Int) - j4).toNat, by omega⟩
        refine k1 _ _ ⟨b12.trans (b3.trans b4), c9, none, none, none, by omega, by omega, ?_⟩
        show [some (V.ref p), some (V.int (d : Int)), some (V.int (b : Int)), some (V.int (h : Int)), some (V.int j), some (V.int (1000 - (h : Int) - j4)), none, none, none] = _
        rw [e9]
      · exact k1 _ _ ⟨b12.trans b3, c5, none, none, none, by omega, by omega, rfl⟩
    · have fj : ∀ (m : Nat) (H2 : Hp), 1 ≤ m → m ≤ 1000000000000 → Bt p H1 H2 → ∀ t, H2 t = none → Q (.ref t) (upd H2 t (.tup [.str "join", .int (m : Int)])) := fun m H2 m1 m2 b2 t ht => by
        refine kk (.join m) _ _ ((b1.trans b2).trans (Bt.new _ b2.2 ht)) ?_ ⟨by unfold M.Step.fine; exact ⟨m1, m2⟩, Nat.zero_le _, Nat.zero_le _⟩
        unfold PlStep
        exact ⟨t, rfl, upd_same⟩
      refine ⟨_, rfl, _, _, rfl, rfl, _, rfl, ite2 (fun c2 => ?_) (fun c2 => ?_)⟩
      · exact iteT ⟨_, rfl, p, rfl, b1.2, fun m H2 m1 m2 b2 => ⟨line2.1, fun t ht => fj m H2 m1 m2 b2 t ht⟩⟩
      · refine ⟨_, rfl, rfl, _, rfl, ite2 (fun c3 => ?_) (fun c3 => ?_)⟩
        · exact ⟨_, rfl, p, rfl, b1.2, fun m H2 m1 m2 b2 => ⟨line2.1, fun t ht => fj m H2 m1 m2 b2 t ht⟩⟩
        · have c4 : d ≠ 0 := fun e => c3 (by rw [e]; rfl)
          refine ⟨_, rfl, _, rfl, _, _, rfl, rfl, _, rfl, p, d - 1, h, ?_, b1.2, by omega, by omega, h2, fun wy v H2 b2 pl sm => ?_⟩
          · show [V.ref p, V.int ((d : Int) - 1), V.int (h : Int)] = _
            rw [show (d : Int) - 1 = ((d - 1 : Nat) : Int) by omega]
          refine choose_of rfl b2.2 (by decide) (by decide) (fun Q2 q => q) fun x H3 hx b3 => ⟨_, _, rfl, ?_⟩
          obtain ⟨tw, rfl⟩ := tw_of hx
          refine ⟨_, rfl, _, rfl, p, rfl, b3.2, fun m H4 m1 m2 b4 => ⟨_, rfl, (by show 4 ≤ sizeLine; decide), fun t ht => ?_⟩⟩
          have b5 := b4.trans (Bt.new (.tup [.str "tunnel", v, .int (m : Int), .str (WP.twS tw)]) b4.2 ht)
          refine kk (.tunnel wy m tw) _ _ (b1.trans (b2.trans (b3.trans b5))) ?_ ⟨by unfold M.Step.fine; exact ⟨sm.fine, m1, m2⟩, ?_, ?_⟩
          · unfold PlStep
            exact ⟨t, v, rfl, upd_same, (pl.keep (bt_keepT b3 b2.2)).keep (bt_keepT b5 b3.2)⟩
          · have := sm.dp
            show wy.depth ≤ d
            omega
          · have := sm.sz
            show wy.size ≤ M.bs d
            exact Nat.le_trans this (M.zs_bs c4 hd)
abbrev NPn : List Str := ["stream", "depth", "base", "head", "steps", "turn"]
theorem scPn : FnScope NPn ["stream", "depth", "base"] (defScope sLPlan) := ⟨rfl, rfl, rfl, by decide +kernel, rfl, by decide +kernel, by decide +kernel⟩
theorem ok_lplan {k n : Nat} {f : Addr} {fd : FuncData} (F : Fun K "_law_plan" "_law_plan" sLPlan f fd) (hk : 2 ≤ k) (B : Bn mg) (DD : Df P w K mg base 1 "_law_draw" ["stream", "size"] S.spDraw) (DP : Df P w K mg base 2 "_law_choose" ["stream", "items"] (S.spChoose K))
    (DS : Df P w K mg base k "_law_plan_step" ["stream", "depth", "base", "head"] (spLStep n)) : FnOk P w K mg base CX0 (k + 1) f fd ["stream", "depth", "base"] (spLPlan (n + 1)) := by
  obtain ⟨fD, fdD, GD, gD, kD, bD⟩ := DD.ex
  obtain ⟨fP, fdP, GP, gP, kP, bP⟩ := DP.ex
  obtain ⟨fS, fdS, GS, gS, kS, bS⟩ := DS.ex
  refine F.ok scPn (fun vs H Q E h => ?_) (fun cdv A outer s H vs Q E hr h => ?_)
  · obtain ⟨p, d, b, rfl, _⟩ := h
    rfl
  · obtain ⟨p, d, b, rfl, hp, hdn, hd, hb, kk⟩ := h
    refine ⟨_, pss_cons (ps_set (i := 3) scPn.nd rfl (Or.inr rfl) (pe_call GP (hr.mono (by omega)) rfl gP kP bP .nil pass0 (pa_cons (pv 0) (pa_cons (pe_lst (pa_cons (pe_int) (pa_cons (pe_int) (pa_cons (pe_int) (pa_cons (pe_int) (pa_cons (pe_int) (pa_cons (pe_op op_add (pe_int) (pe_call GD (hr.mono (by omega)) rfl gD kD bD .nil pass0 (pa_cons (pv 0) (pa_cons (pe_int) pa_nil)))) pa_nil))))))) pa_nil))))
      (pss_cons (ps_setLc (i := 4) (own := [("turn", 5)]) (g := gName 5) (tt := tYes) (te := tCall (spLStep n) [] E0 (tCons (tVar 0) (tCons (tVar 1) (tCons (tVar 2) (tCons (tVar 3) tNil))))) rfl scPn.nd rfl rfl (sw_true rfl rfl rfl (by decide +kernel)) (pi_range1 (by rfl) B.range (pa_cons (pe_op op_add (pe_int) (pe_call GD (hr.mono (by omega)) rfl gD kD bD .nil pass0 (pa_cons (pv 0) (pa_cons (pe_op op_add (pv 1) (pe_int)) pa_nil)))) pa_nil)) (blkOk_by (N := NPn) (sc := defScope sLPlan) (by decide +kernel))
          (fun _ _ _ _ _ => pg_name (i := 5) scPn.nd rfl (Or.inl rfl)) (fun _ _ _ _ _ => pts_nil) (fun _ _ _ _ _ => by exact pe_call GS (hr.mono (by omega)) rfl gS kS bS .nil pass0 (pa_cons (pv 0) (pa_cons (pv 1) (pa_cons (pv 2) (pa_cons (pv 3) pa_nil))))))
      (pss_one (ps_ret (pe_tup (pa_cons (pv 3) (pa_cons (pe_callTy call_tuple_of (by rfl) B.tuple (by decide +kernel) (pa_cons (pv 4) pa_nil)) pa_nil)))))), ?_⟩
    refine set_then (i := 3) ⟨_, rfl, draw_of rfl hp (by decide) (by decide +kernel) fun j H1 a0 a1 b1 => ⟨(by show 6 ≤ sizeLine; decide), fun l hl => ?_⟩⟩
    refine choose_new (E := E0) b1.2 hl (by show 1 ≤ 6; decide) (by show 6 ≤ 1000; decide) fun x H2 hx b2 => ?_
    obtain ⟨h, rfl, h1, h2⟩ : ∃ h : Nat, x = .int (h : Int) ∧ 1 ≤ h ∧ h ≤ 40 := by
      simp only [List.append_nil, List.cons_append, List.nil_append, List.mem_cons, List.mem_nil_iff, or_false] at hx
      rcases hx with e | e | e | e | e | e
      · exact ⟨1, e, by decide, by decide⟩
      · exact ⟨2, e, by decide, by decide⟩
      · exact ⟨5, e, by decide, by decide⟩
      · exact ⟨10, e, by decide, by decide⟩
      · exact ⟨3, e, by decide, by decide⟩
      · exact ⟨(1 + j).toNat, e.trans (congrArg V.int (by omega)), by omega, by omega⟩
    replace b2 := b1.trans b2
    have lg : ∀ z : Int, 1 ≤ z → z ≤ 3000 → z.natAbs.log2 < 9000 := fun z h1 h2 => PySem.Flt.log2_lt_of (k := 9000) (by decide) (Nat.lt_of_lt_of_le (by omega : _ < 2 ^ 60) (Nat.pow_le_pow_right (by decide) (by decide)))
    refine set_then (i := 4) (draw_te (n := (d : Int) + 2) rfl (fun Q2 q => ⟨_, rfl, _, _, rfl, rfl, q⟩) b2.2 (by omega) (lg _ (by omega) (by omega)) fun j3 H3 j0 j1 b3 => ⟨_, _, rfl, rfl, _, rfl, by omega, by omega, fun D0 nD => ?_⟩)
    replace b3 := b2.trans b3
    have ne := at_ne b3.2 nD
    refine lc_range (lo := 0) (n := (1 + j3).toNat) (fun i G => Bt p H3 G ∧ ∃ (xs : List V) (sts : List M.Step), G D0 = some (.lst xs) ∧ PlAll G sts xs ∧ sts.length = i ∧ ∀ y ∈ sts, M.SmStep d h y) ⟨Bt.new (.lst []) b3.2 nD, [], [], upd_same, by unfold PlAll; rfl, rfl, fun y hy => by cases hy⟩ ?_ ?_
    · rintro i G hi ⟨bG, xs, sts, hD, hP, hn, hS⟩
      have lx := hP.len
      refine ⟨rfl, _, rfl, _, rfl, _, rfl, _, rfl, p, d, b, h, rfl, bG.2, by omega, hd, hb, h1, h2, fun st v G1 b4 pl sm => ⟨xs, bt_lst b4 ne hD, small1000 (by omega), ?_, _, sts ++ [st], upd_same, ?_, by simp; exact hn, ?_⟩⟩
      · have b5 := bG.trans b4
        refine ⟨fun a o n e => ?_, ?_⟩
        · rw [upd_ne (fun z => by rw [z, nD] at e; cases e)]
          exact b5.1 a o n e
        · obtain ⟨r, m, e, f⟩ := b5.2
          exact ⟨r, m, by rw [upd_ne ne.symm]; exact e, f⟩
      · have kp := put_keepT (o := .lst (xs ++ [v])) (bt_lst b4 ne hD)
        exact ((hP.keep (bt_keepT b4 bG.2)).keep kp).snoc (pl.keep kp)
      · intro z hz
        rcases List.mem_append.mp hz with q | q
        · exact hS z q
        · rw [List.mem_singleton.mp q]
          exact sm
    · rintro G ⟨bG, xs, sts, hD, hP, hn, hS⟩
      refine ⟨_, rfl, _, rfl, D0, xs, rfl, .inl ⟨SqL.of hD, fun T hT => ⟨line2.1, fun t ht => ?_⟩⟩⟩
      have c1 := Bt.new (.tup xs) bG.2 hT
      have c2 := Bt.new (.tup [.int (h : Int), .ref T]) c1.2 ht
      refine kk (.mk h sts) _ _ ((b3.trans bG).trans (c1.trans c2)) ?_ (M.sm_way hd h1 h2 (by omega) (by omega) hS)
      unfold PlanAt
      exact ⟨t, T, xs, rfl, upd_same, of_upd ht _ _ upd_same, hP.keep (bt_keepT (c1.trans c2) bG.2)⟩
end
end CP

end
section
set_option autoImplicit false
set_option Elab.async false
set_option linter.all false
set_option maxRecDepth 100000
set_option maxHeartbeats 4000000
/-! ## texts of ways: their lines, and how they are read -/
namespace TX
open PySem hiding Step
open TL M
def S (l : List Nat) : Str := ⟨l.toArray⟩
theorem tl_S (l : List Nat) : tl (S l) = l := by simp [tl, S]
theorem S_tl (x : Str) : S (tl x) = x := ext_tl (tl_S _)
theorem S_app (a b : List Nat) : S a ++ S b = S (a ++ b) := ext_tl (by rw [tl_append, tl_S, tl_S, tl_S])
theorem S_len (l : List Nat) : (S l).length = l.length := by rw [len_tl, tl_S]
theorem S_of {x : Str} {l : List Nat} (h : tl x = l) : x = S l := by rw [← h, S_tl]
theorem S_inj {a b : List Nat} (h : S a = S b) : a = b := by rw [← tl_S a, h, tl_S]
def cHead : List Nat := [104, 101, 97, 100]
def cRoad : List Nat := [114, 111, 97, 100]
def cJoin : List Nat := [106, 111, 105, 110]
def cTun : List Nat := [116, 117, 110, 110, 101, 108]
def sd (b : Bool) : List Nat := tl (WP.sdS b)
def lw (l : LW) : List Nat := tl (WP.lwS l)
def tw (t : TW) : List Nat := tl (WP.twS t)
/-- the words of a line without an inner way -/
def plainW : Step → List (List Nat)
  | .road size ts l => [cRoad, numL size, sd ts, lw l]
  | .join most => [cJoin, numL most]
  | .tunnel _ most t => [cTun, numL most, tw t]
def headW (h : Nat) : List (List Nat) := [cHead, numL h]
/-- words put together by blanks -/
def wd (ws : List (List Nat)) : List Nat := joinL [32] ws
mutual
/-- the lines of a way, not indented -/
def Way.lines : Way → List (List Nat)
  | .mk h s => wd (headW h) :: Step.linesAll s
def Step.linesAll : List Step → List (List Nat)
  | [] => []
  | s :: r => Step.lines s ++ Step.linesAll r
def Step.lines : Step → List (List Nat)
  | .road size ts l => [wd (plainW (.road size ts l))]
  | .join most => [wd (plainW (.join most))]
  | .tunnel w most t => wd (plainW (.tunnel w most t)) :: (Way.lines w).map ([32, 32] ++ ·)
end
def text (w : Way) : List Nat := joinL [10] (Way.lines w)
theorem sd_cs (b : Bool) : sd b = [116, 101, 108, 108] ∨ sd b = [100, 114, 111, 112] := by cases b <;> decide +kernel
theorem lw_cs (l : LW) : lw l = [99, 117, 116] ∨ lw l = [116, 101, 108, 108] ∨ lw l = [100, 114, 111, 112] := by cases l <;> decide +kernel
theorem tw_cs (t : TW) : tw t = [116, 117, 114, 110] ∨ tw t = [107, 101, 101, 112] ∨ tw t = [108, 111, 115, 101] := by cases t <;> decide +kernel
/-- a word: not empty, short, of signs that are neither a blank nor a line's end -/
structure Wd (l : List Nat) : Prop where
  ne : l ≠ []
  len : l.length ≤ 13
  sp : ∀ c ∈ l, c ≠ 32 ∧ c ≠ 10
theorem wd_of {l : List Nat} (h : (!l.isEmpty && decide (l.length ≤ 13) && l.all fun c => decide (c ≠ 32 ∧ c ≠ 10)) = true) : Wd l := by
  rw [Bool.and_eq_true, Bool.and_eq_true] at h
  obtain ⟨⟨h1, h2⟩, h3⟩ := h
  refine ⟨fun e => ?_, of_decide_eq_true h2, fun c hc => of_decide_eq_true (List.all_eq_true.mp h3 c hc)⟩
  rw [e] at h1
  cases h1
theorem wd_head : Wd cHead := wd_of (by decide +kernel)
theorem wd_road : Wd cRoad := wd_of (by decide +kernel)
theorem wd_join : Wd cJoin := wd_of (by decide +kernel)
theorem wd_tun : Wd cTun := wd_of (by decide +kernel)
theorem wd_sd (b : Bool) : Wd (sd b) := by rcases sd_cs b with e | e <;> rw [e] <;> exact wd_of (by decide +kernel)
theorem wd_lw (b : LW) : Wd (lw b) := by rcases lw_cs b with e | e | e <;> rw [e] <;> exact wd_of (by decide +kernel)
theorem wd_tw (b : TW) : Wd (tw b) := by rcases tw_cs b with e | e | e <;> rw [e] <;> exact wd_of (by decide +kernel)
theorem wd_num {n : Nat} (h : n ≤ 1000000000000) : Wd (numL n) := by
  refine ⟨numL_ne n, numL_len (k := 13) (by decide) (Nat.lt_of_le_of_lt h (by decide)), fun c hc => ?_⟩
  have := numL_digits n c hc
  omega
theorem headW_wd {h : Nat} (hh : h ≤ 40) : ∀ w ∈ headW h, Wd w := fun w hw => by
  unfold headW at hw
  simp only [List.mem_cons, List.mem_nil_iff, or_false] at hw
  rcases hw with rfl | rfl
  · exact wd_head
  · exact wd_num (by omega)
theorem plainW_wd {h : Nat} {s : Step} (hf : s.fine h) : ∀ w ∈ plainW s, Wd w := fun w hw => by
  cases s with
  | road size ts l =>
    unfold Step.fine at hf
    simp only [plainW, List.mem_cons, List.mem_nil_iff, or_false] at hw
    rcases hw with rfl | rfl | rfl | rfl
    · exact wd_road
    · exact wd_num (by omega)
    · exact wd_sd _
    · exact wd_lw _
  | join most =>
    unfold Step.fine at hf
    simp only [plainW, List.mem_cons, List.mem_nil_iff, or_false] at hw
    rcases hw with rfl | rfl
    · exact wd_join
    · exact wd_num (by omega)
  | tunnel w most t =>
    unfold Step.fine at hf
    simp only [plainW, List.mem_cons, List.mem_nil_iff, or_false] at hw
    rcases hw with rfl | rfl | rfl
    · exact wd_tun
    · exact wd_num (by omega)
    · exact wd_tw _
theorem join_len {S : List Nat} (k m : Nat) (hS : S.length ≤ m) : ∀ {ps : List (List Nat)}, (∀ p ∈ ps, p.length ≤ k) → (joinL S ps).length ≤ ps.length * (k + m)
  | [], _ => Nat.zero_le _
  | [p], h => by
    have := h p List.mem_cons_self
    show p.length ≤ 1 * (k + m)
    omega
  | p :: q :: r, h => by
    have a := h p List.mem_cons_self
    have b := join_len k m hS (ps := q :: r) fun x hx => h x (List.mem_cons_of_mem _ hx)
    show (p ++ (S ++ joinL S (q :: r))).length ≤ _
    rw [List.length_append, List.length_append, List.length_cons (a := p), Nat.add_mul]
    omega
theorem join_mem {S : List Nat} {c : Nat} : ∀ {ps : List (List Nat)}, c ∈ joinL S ps → c ∈ S ∨ ∃ p ∈ ps, c ∈ p
  | [], h => by cases h
  | [p], h => .inr ⟨p, List.mem_cons_self, h⟩
  | p :: q :: r, h => by
    rcases List.mem_append.mp h with h | h
    · exact .inr ⟨p, List.mem_cons_self, h⟩
    · rcases List.mem_append.mp h with h | h
      · exact .inl h
      · rcases join_mem h with h | ⟨x, hx, hc⟩
        · exact .inl h
        · exact .inr ⟨x, List.mem_cons_of_mem _ hx, hc⟩
/-- a line: of words -/
structure Ln (l : List Nat) : Prop where
  len : l.length ≤ 60
  nl : (10 : Nat) ∉ l
theorem ln_wd {ws : List (List Nat)} (h : ∀ w ∈ ws, Wd w) (hl : ws.length ≤ 4) : (wd ws).length ≤ 56 ∧ (10 : Nat) ∉ wd ws := by
  refine ⟨?_, fun z => ?_⟩
  · have := join_len (S := [32]) 13 1 (by decide) (ps := ws) fun p hp => (h p hp).len
    unfold wd
    omega
  · rcases join_mem z with z | ⟨p, hp, hc⟩
    · exact absurd z (by decide)
    · exact ((h p hp).sp 10 hc).2 rfl
/-- words come back -/
theorem split_wd {ws : List (List Nat)} (h : ∀ w ∈ ws, Wd w) (hn : ws ≠ []) : Txt.split (S (wd ws)) (S [32]) = ws.map S := by
  have e : S (wd ws) = Txt.join (S [32]) (ws.map S) := by
    rw [join_eq]
    refine ext_tl ?_
    rw [tl_join, tl_S, tl_S, List.map_map]
    have : tl ∘ S = id := funext tl_S
    rw [this, List.map_id]
    rfl
  rw [e]
  refine split_join (s := 32) (S := []) (tl_S _) (by decide +kernel) (fun z => hn (List.map_eq_nil_iff.mp z)) fun p hp => ?_
  obtain ⟨w, hw, rfl⟩ := List.mem_map.mp hp
  rw [tl_S]
  exact fun z => ((h w hw).sp 32 z).1 rfl
theorem join_lines (ls : List (List Nat)) : Txt.join (S [10]) (ls.map S) = S (joinL [10] ls) := by
  rw [join_eq]
  refine ext_tl ?_
  rw [tl_join, tl_S, tl_S, List.map_map]
  have : tl ∘ S = id := funext tl_S
  rw [this, List.map_id]
theorem split_lines {ls : List (List Nat)} (h : ∀ l ∈ ls, (10 : Nat) ∉ l) (hn : ls ≠ []) : Txt.split (S (joinL [10] ls)) (S [10]) = ls.map S := by
  rw [← join_lines]
  refine split_join (s := 10) (S := []) (tl_S _) (by decide +kernel) (fun z => hn (List.map_eq_nil_iff.mp z)) fun p hp => ?_
  obtain ⟨w, hw, rfl⟩ := List.mem_map.mp hp
  rw [tl_S]
  exact h w hw
mutual
/-- lines are short, and so many -/
theorem way_lines : ∀ (w : Way) (d : Nat), w.fine → w.depth ≤ d → (∀ l ∈ Way.lines w, l.length ≤ 54 + 2 * d ∧ (10 : Nat) ∉ l) ∧ (Way.lines w).length ≤ 2 * w.size + 1
  | .mk h s, d, hf, hd => by
    unfold Way.fine at hf
    unfold Way.depth at hd
    unfold Way.lines Way.size
    obtain ⟨d, rfl⟩ : ∃ k, d = k + 1 := ⟨d - 1, by omega⟩
    obtain ⟨a, b⟩ := all_lines s h d hf.2.2.1 (by omega)
    refine ⟨fun l hl => ?_, by rw [List.length_cons]; omega⟩
    rcases List.mem_cons.mp hl with e | e
    · rw [e]
      have := ln_wd (headW_wd hf.1.2) (by show 2 ≤ 4; decide)
      exact ⟨by omega, this.2⟩
    · have := a l e
      exact ⟨by omega, this.2⟩
theorem all_lines : ∀ (s : List Step) (h d : Nat), Step.fineAll h s → Step.deepest s ≤ d → (∀ l ∈ Step.linesAll s, l.length ≤ 56 + 2 * d ∧ (10 : Nat) ∉ l) ∧ (Step.linesAll s).length ≤ 2 * (s.length + Step.inner s)
  | [], h, d, _, _ => by
    unfold Step.linesAll
    exact ⟨(fun l hl => by cases hl), Nat.zero_le _⟩
  | x :: r, h, d, hf, hd => by
    unfold Step.fineAll at hf
    rw [deep_cons] at hd
    obtain ⟨a, b⟩ := step_lines x h d hf.1 (by omega)
    obtain ⟨a2, b2⟩ := all_lines r h d hf.2 (by omega)
    unfold Step.linesAll
    refine ⟨fun l hl => ?_, ?_⟩
    · rcases List.mem_append.mp hl with e | e
      · exact a l e
      · exact a2 l e
    · rw [List.length_append, inner_cons, List.length_cons]
      omega
theorem step_lines : ∀ (x : Step) (h d : Nat), x.fine h → x.dep ≤ d → (∀ l ∈ Step.lines x, l.length ≤ 56 + 2 * d ∧ (10 : Nat) ∉ l) ∧ (Step.lines x).length ≤ 2 * (1 + isz x)
  | .road size ts l, h, d, hf, hd => by
    unfold Step.lines
    refine ⟨fun l hl => ?_, by rw [List.length_singleton]; omega⟩
    rw [List.mem_singleton.mp hl]
    have := ln_wd (plainW_wd hf) (by show 4 ≤ 4; decide)
    exact ⟨by omega, this.2⟩
  | .join most, h, d, hf, hd => by
    unfold Step.lines
    refine ⟨fun l hl => ?_, by rw [List.length_singleton]; omega⟩
    rw [List.mem_singleton.mp hl]
    have := ln_wd (plainW_wd hf) (by show 2 ≤ 4; decide)
    exact ⟨by omega, this.2⟩
  | .tunnel w most t, h, d, hf, hd => by
    have hf0 := hf
    unfold Step.fine at hf
    obtain ⟨a, b⟩ := way_lines w d hf.1 hd
    unfold Step.lines
    refine ⟨fun l hl => ?_, ?_⟩
    · rcases List.mem_cons.mp hl with e | e
      · rw [e]
        have := ln_wd (plainW_wd hf0) (by show 3 ≤ 4; decide)
        exact ⟨by omega, this.2⟩
      · obtain ⟨k, hk, rfl⟩ := List.mem_map.mp e
        have := a k hk
        rw [List.length_append]
        refine ⟨by show 2 + k.length ≤ _; omega, fun z => ?_⟩
        rcases List.mem_append.mp z with z | z
        · exact absurd z (by decide)
        · exact this.2 z
    · rw [List.length_cons, List.length_map]
      show _ ≤ 2 * (1 + w.size)
      omega
end
end TX

end
section
set_option autoImplicit false
set_option Elab.async false
set_option linter.all false
set_option maxRecDepth 100000
set_option maxHeartbeats 4000000
/-! ## how lines are read: a stack of ways that are begun -/
namespace TX
open PySem hiding Step
open TL M
/-- a way that is begun -/
structure Fr where
  out : Option (Nat × TW)
  head : Option Nat
  steps : List Step
inductive Li where
  | head (h : Nat)
  | plain (s : Step)
  | tun (most : Nat) (t : TW)
def liW : Li → List (List Nat)
  | .head h => headW h
  | .plain s => plainW s
  | .tun m t => [cTun, numL m, tw t]
def isTun : Step → Prop
  | .tunnel _ _ _ => True
  | .road _ _ _ => False
  | .join _ => False
mutual
/-- the lines with their levels -/
def wl : Nat → Way → List (Nat × Li)
  | lv, .mk h s => (lv, .head h) :: sls lv s
def sls : Nat → List Step → List (Nat × Li)
  | _, [] => []
  | lv, s :: r => sl lv s ++ sls lv r
def sl : Nat → Step → List (Nat × Li)
  | lv, .road a b c => [(lv, .plain (.road a b c))]
  | lv, .join a => [(lv, .plain (.join a))]
  | lv, .tunnel w m t => (lv, .tun m t) :: wl (lv + 1) w
end
def indL (lv : Nat) : List Nat := List.replicate (2 * lv) 32
def lineOf (x : Nat × Li) : List Nat := indL x.1 ++ wd (liW x.2)
theorem ind_succ (lv : Nat) : indL (lv + 1) = indL lv ++ [32, 32] := by
  unfold indL
  rw [show 2 * (lv + 1) = 2 * lv + 2 by omega]
  exact List.replicate_append_replicate.symm
mutual
theorem wl_lines : ∀ (w : Way) (lv : Nat), (wl lv w).map lineOf = (Way.lines w).map (indL lv ++ ·)
  | .mk h s, lv => by
    unfold wl Way.lines
    rw [List.map_cons, List.map_cons, sls_lines s lv]
    rfl
theorem sls_lines : ∀ (s : List Step) (lv : Nat), (sls lv s).map lineOf = (Step.linesAll s).map (indL lv ++ ·)
  | [], lv => by
    unfold sls Step.linesAll
    rfl
  | x :: r, lv => by
    unfold sls Step.linesAll
    rw [List.map_append, List.map_append, sl_lines x lv, sls_lines r lv]
theorem sl_lines : ∀ (s : Step) (lv : Nat), (sl lv s).map lineOf = (Step.lines s).map (indL lv ++ ·)
  | .road a b c, lv => by
    unfold sl Step.lines
    rfl
  | .join a, lv => by
    unfold sl Step.lines
    rfl
  | .tunnel w m t, lv => by
    unfold sl Step.lines
    rw [List.map_cons, List.map_cons, wl_lines w (lv + 1), List.map_map]
    show lineOf (lv, .tun m t) :: _ = _
    refine List.cons_eq_cons.mpr ⟨rfl, List.map_congr_left fun l _ => ?_⟩
    show indL (lv + 1) ++ l = indL lv ++ ([32, 32] ++ l)
    rw [ind_succ, List.append_assoc]
end
theorem text_lines (w : Way) : (Way.lines w) = (wl 0 w).map lineOf := by
  rw [wl_lines]
  show _ = (Way.lines w).map fun l => [] ++ l
  simp
/-- inner ways ended, down to a level; the stack's top stands first -/
inductive Closes (lv : Nat) : List Fr → List Fr → Prop
  | done {st : List Fr} : st.length = lv + 1 → Closes lv st st
  | close {b a : Fr} {r st : List Fr} {h m : Nat} {t : TW} : lv + 1 < (b :: a :: r).length → b.out = some (m, t) → b.head = some h → Way.fine (.mk h b.steps) → Closes lv ({ a with steps := a.steps ++ [.tunnel (.mk h b.steps) m t] } :: r) st → Closes lv (b :: a :: r) st
theorem Closes.len {lv : Nat} {st st' : List Fr} (c : Closes lv st st') : st'.length = lv + 1 := by
  induction c with
  | done h => exact h
  | close _ _ _ _ _ ih => exact ih
theorem Closes.trans {lv lu : Nat} {st s1 s2 : List Fr} (c : Closes lv st s1) (hl : lu ≤ lv) (d : Closes lu s1 s2) : Closes lu st s2 := by
  induction c with
  | done h => exact d
  | close hl2 h1 h2 h3 _ ih => exact .close (by omega) h1 h2 h3 (ih d)
/-- a stack that goes on at a level -/
structure Rdy (lv : Nat) (st st' : List Fr) : Prop where
  cl : Closes lv st st'
  top : ∃ b r, st = b :: r ∧ (∃ h, b.head = some h) ∧ (b.steps ≠ [] ∨ st.length = lv + 1)
/-- a line is taken -/
inductive Feed : List Fr × Nat → Nat × Li → List Fr × Nat → Prop
  | head {f : Fr} {r : List Fr} {n h : Nat} : f.head = none → 1 ≤ h → h ≤ 40 → Feed (f :: r, n) (r.length, .head h) ({ f with head := some h } :: r, n)
  | plain {st : List Fr} {f : Fr} {r : List Fr} {n h lv : Nat} {s : Step} : Rdy lv st (f :: r) → f.head = some h → ¬ isTun s → s.fine h → h ≤ 40 → f.steps.length < 12 → n < 40 → Feed (st, n) (lv, .plain s) ({ f with steps := f.steps ++ [s] } :: r, n + 1)
  | tun {st : List Fr} {f : Fr} {r : List Fr} {n lv m : Nat} {t : TW} : Rdy lv st (f :: r) → 1 ≤ m → m ≤ 1000000000000 → f.steps.length < 12 → n + 1 < 40 → r.length + 2 ≤ 3 → Feed (st, n) (lv, .tun m t) (⟨some (m, t), none, []⟩ :: f :: r, n + 1)
inductive Runs : List Fr × Nat → List (Nat × Li) → List Fr × Nat → Prop
  | nil {x : List Fr × Nat} : Runs x [] x
  | cons {x y z : List Fr × Nat} {l : Nat × Li} {ls : List (Nat × Li)} : Feed x l y → Runs y ls z → Runs x (l :: ls) z
theorem Runs.app {x y z : List Fr × Nat} {ls ms : List (Nat × Li)} (a : Runs x ls y) (b : Runs y ms z) : Runs x (ls ++ ms) z := by
  induction a with
  | nil => exact b
  | cons f _ ih => exact .cons f (ih b)
mutual
theorem runs_way : ∀ (w : Way) (f : Fr) (r : List Fr) (n : Nat), w.fine → f.head = none → f.steps = [] → r.length + w.depth ≤ 3 → n + w.size ≤ 40 →
    ∃ st, Runs (f :: r, n) (wl r.length w) (st, n + w.size) ∧ Rdy r.length st ({ f with head := some w.head, steps := w.steps } :: r) ∧ (∃ b q, st = b :: q ∧ b.steps ≠ [])
  | .mk h s, f, r, n, hf, h1, h2, hd, hn => by
    unfold Way.fine at hf
    unfold Way.depth at hd
    unfold Way.size at hn ⊢
    unfold wl
    have e : f.steps ++ s = s := by rw [h2]; rfl
    obtain ⟨st, a, b, c⟩ := runs_all s { f with head := some h } r ({ f with head := some h } :: r) n h (lv := r.length) ⟨.done (by rw [List.length_cons]), _, _, rfl, ⟨h, rfl⟩, .inr (by rw [List.length_cons])⟩ rfl hf.2.2.1 hf.1.2 (by show f.steps.length + s.length ≤ 12; rw [h2]; simp; omega) rfl (by omega) hn
    refine ⟨st, .cons (.head h1 hf.1.1 hf.1.2) a, ?_, ?_⟩
    · have := b
      dsimp only at this
      rw [e] at this
      exact this
    · exact c (fun z => by rw [z] at hf; simp at hf)
theorem runs_all : ∀ (s : List Step) (f : Fr) (r st : List Fr) (n h : Nat) {lv : Nat}, Rdy lv st (f :: r) → f.head = some h → Step.fineAll h s → h ≤ 40 → f.steps.length + s.length ≤ 12 → r.length = lv → lv + 1 + Step.deepest s ≤ 3 → n + (s.length + Step.inner s) ≤ 40 →
    ∃ st', Runs (st, n) (sls lv s) (st', n + (s.length + Step.inner s)) ∧ Rdy lv st' ({ f with steps := f.steps ++ s } :: r) ∧ (s ≠ [] → ∃ b q, st' = b :: q ∧ b.steps ≠ [])
  | [], f, r, st, n, h, lv, hr, hh, _, _, _, hl, _, _ => by
    unfold sls
    refine ⟨st, ?_, ?_, fun z => absurd rfl z⟩
    · show Runs (st, n) [] (st, n + (0 + Step.inner []))
      unfold Step.inner
      exact .nil
    · rw [List.append_nil]
      exact hr
  | x :: s, f, r, st, n, h, lv, hr, hh, hf, h40, hl, hl2, hd, hn => by
    unfold Step.fineAll at hf
    rw [deep_cons] at hd
    rw [inner_cons, List.length_cons] at hn ⊢
    rw [List.length_cons] at hl
    obtain ⟨s1, a1, b1, c1⟩ := runs_step x f r st n h hr hh hf.1 h40 (by omega) hl2 (by omega) (by omega)
    obtain ⟨b0, q0, e0, n0⟩ := c1
    obtain ⟨s2, a2, b2, c2⟩ := runs_all s { f with steps := f.steps ++ [x] } r s1 (n + (1 + isz x)) h b1 hh hf.2 h40 (by show (f.steps ++ [x]).length + s.length ≤ 12; rw [List.length_append, List.length_singleton]; omega) hl2 (by omega) (by omega)
    refine ⟨s2, ?_, ?_, fun _ => ?_⟩
    · unfold sls
      have := a1.app a2
      rw [show n + (s.length + 1 + (isz x + Step.inner s)) = n + (1 + isz x) + (s.length + Step.inner s) by omega]
      exact this
    · have e : (f.steps ++ [x]) ++ s = f.steps ++ x :: s := by rw [List.append_assoc]; rfl
      have := b2
      dsimp only at this
      rw [e] at this
      exact this
    · by_cases z : s = []
      · subst z
        unfold sls at a2
        cases a2
        exact ⟨b0, q0, e0, n0⟩
      · exact c2 z
theorem runs_step : ∀ (x : Step) (f : Fr) (r st : List Fr) (n h : Nat) {lv : Nat}, Rdy lv st (f :: r) → f.head = some h → x.fine h → h ≤ 40 → f.steps.length < 12 → r.length = lv → lv + 1 + x.dep ≤ 3 → n + (1 + isz x) ≤ 40 →
    ∃ st', Runs (st, n) (sl lv x) (st', n + (1 + isz x)) ∧ Rdy lv st' ({ f with steps := f.steps ++ [x] } :: r) ∧ ∃ b q, st' = b :: q ∧ b.steps ≠ []
  | .road a b c, f, r, st, n, h, lv, hr, hh, hf, h40, hl, hl2, hd, hn => by
    unfold sl
    refine ⟨_, .cons (.plain hr hh (fun z => z) hf h40 hl (by omega)) .nil, ⟨.done (by rw [List.length_cons, hl2]), _, _, rfl, ⟨h, hh⟩, .inl (by simp)⟩, _, _, rfl, by simp⟩
  | .join a, f, r, st, n, h, lv, hr, hh, hf, h40, hl, hl2, hd, hn => by
    unfold sl
    refine ⟨_, .cons (.plain hr hh (fun z => z) hf h40 hl (by omega)) .nil, ⟨.done (by rw [List.length_cons, hl2]), _, _, rfl, ⟨h, hh⟩, .inl (by simp)⟩, _, _, rfl, by simp⟩
  | .tunnel w m t, f, r, st, n, h, lv, hr, hh, hf, h40, hl, hl2, hd, hn => by
    unfold Step.fine at hf
    have hd2 : lv + 1 + w.depth ≤ 3 := hd
    have hn2 : n + (1 + w.size) ≤ 40 := hn
    have dp : 1 ≤ w.depth := by
      obtain ⟨wh, ws⟩ := w
      unfold Way.depth
      omega
    have sp : 1 ≤ w.size := by
      obtain ⟨wh, ws⟩ := w
      have := hf.1
      unfold Way.fine at this
      unfold Way.size
      omega
    obtain ⟨st', a1, b1, b0, q0, e0, n0⟩ := runs_way w ⟨some (m, t), none, []⟩ (f :: r) (n + 1) hf.1 rfl rfl (by rw [List.length_cons, hl2]; omega) (by omega)
    rw [List.length_cons, hl2] at a1 b1
    unfold sl
    refine ⟨st', ?_, ⟨?_, b0, q0, e0, ?_, .inl n0⟩, b0, q0, e0, n0⟩
    · rw [show n + (1 + isz (.tunnel w m t)) = n + 1 + w.size by show n + (1 + w.size) = _; omega]
      exact .cons (.tun hr hf.2.1 hf.2.2 hl (by omega) (by omega)) a1
    · obtain ⟨wh, ws⟩ := w
      refine b1.cl.trans (Nat.le_succ lv) (.close (h := wh) (m := m) (t := t) ?_ rfl rfl hf.1 (.done ?_))
      · rw [List.length_cons, List.length_cons, hl2]
        omega
      · rw [List.length_cons, hl2]
    · obtain ⟨b2, q2, e2, h2, _⟩ := b1.top
      rw [e0] at e2
      cases e2
      exact h2
end
theorem runs_text {w : Way} (h : w.fine) : ∃ st, Runs ([⟨none, none, []⟩], 0) (wl 0 w) (st, w.size) ∧ Closes 0 st [⟨none, some w.head, w.steps⟩] ∧ ∃ b q, st = b :: q ∧ b.steps ≠ [] := by
  have f := h
  obtain ⟨wh, ws⟩ := w
  unfold Way.fine at f
  obtain ⟨st, a, b, c⟩ := runs_way (.mk wh ws) ⟨none, none, []⟩ [] 0 h rfl rfl (by unfold Way.depth; simp; omega) (by unfold Way.size; omega)
  rw [Nat.zero_add] at a
  exact ⟨st, a, b.cl, c⟩
end TX

end
section
set_option autoImplicit false
set_option Elab.async false
set_option linter.all false
set_option maxRecDepth 100000
set_option maxHeartbeats 4000000
/-! ## ways of plans -/
namespace WP
open PySem L2 G
variable {C : Addr}
open CP (KeepT)
mutual
theorem WayAt.keep {C : Addr} {H H' : Hp} (s : CP.KeepT H H') : ∀ {w : M.Way} {a : Addr}, WayAt C H w a → WayAt C H' w a
  | .mk h st, a, x => by
    unfold WayAt at x ⊢
    obtain ⟨dx, t, xs, h1, h2, h3⟩ := x
    exact ⟨dx, t, xs, s _ _ (fun _ z => by cases z) h1, CP.KeepT.tup s h2, StepsAt.keep s h3⟩
theorem StepsAt.keep {C : Addr} {H H' : Hp} (s : CP.KeepT H H') : ∀ {st : List M.Step} {xs : List V}, StepsAt C H st xs → StepsAt C H' st xs
  | [], xs, x => by
    unfold StepsAt at x ⊢
    exact x
  | y :: r, xs, x => by
    unfold StepsAt at x ⊢
    obtain ⟨u, ys, e, h1, h2⟩ := x
    exact ⟨u, ys, e, StepAt.keep s h1, StepsAt.keep s h2⟩
theorem StepAt.keep {C : Addr} {H H' : Hp} (s : CP.KeepT H H') : ∀ {st : M.Step} {x : V}, StepAt C H st x → StepAt C H' st x
  | .road size ts lw, v, x => by
    unfold StepAt at x ⊢
    obtain ⟨t, e, h⟩ := x
    exact ⟨t, e, CP.KeepT.tup s h⟩
  | .join most, v, x => by
    unfold StepAt at x ⊢
    obtain ⟨t, e, h⟩ := x
    exact ⟨t, e, CP.KeepT.tup s h⟩
  | .tunnel w most tw, v, x => by
    unfold StepAt at x ⊢
    obtain ⟨t, a, e, h, h2⟩ := x
    exact ⟨t, a, e, CP.KeepT.tup s h, WayAt.keep s h2⟩
end
theorem StepsAt.snoc {C : Addr} {H : Hp} : ∀ {s : List M.Step} {xs : List V} {y : M.Step} {x : V}, StepsAt C H s xs → StepAt C H y x → StepsAt C H (s ++ [y]) (xs ++ [x])
  | [], xs, y, x, h, h2 => by
    unfold StepsAt at h
    subst h
    show StepsAt C H [y] [x]
    unfold StepsAt
    exact ⟨x, [], rfl, h2, by unfold StepsAt; rfl⟩
  | z :: s, xs, y, x, h, h2 => by
    unfold StepsAt at h
    obtain ⟨u, ys, rfl, h3, h4⟩ := h
    show StepsAt C H (z :: (s ++ [y])) (u :: (ys ++ [x]))
    unfold StepsAt
    exact ⟨u, ys ++ [x], rfl, h3, StepsAt.snoc h4 h2⟩
structure Mw (P : Program) (w : World) (K : PySem.W.Frag) (mg : Str → Option Value) (base : Heap) (C : Addr) : Prop where
  ex : ∃ (f : Addr) (fd : FuncData), FnOk P w K mg base CX0 6 f fd ["self", "head", "steps"] (spInit C) ∧ Mk K C f ∧ Binds K fd ["self", "head", "steps"] []
theorem made_way {H : Hp} {Q : VK} {E : XK} {l : Addr} {h : Nat} {xs : List V} {st : List M.Step} (hl : SAt H l xs) (hs : StepsAt C H st xs) (hf : M.Way.fine (.mk h st)) (k : ∀ x H', Same H H' → WayAt C H' (.mk h st) x → Q (.ref x) H') :
    ∀ x dx, H x = none → H dx = none → dx ≠ x → spInit C (.ref x :: ([.int (h : Int), .ref l] ++ [])) (upd (upd H dx (.own x)) x (.ins C dx [])) (fun v H2 => v = .non ∧ Q (.ref x) H2) E := fun x dx hx hdx ne =>
  ⟨x, l, dx, h, xs, st, H, rfl, upd_same, hx, (Same.of_upd hdx).trans (Same.of_upd (by rw [upd_ne ne.symm]; exact hx)), hl, hs, hf, fun H' s wa => ⟨rfl, k x H' s wa⟩⟩
end WP
namespace CP
open PySem L2 G Y
theorem PlStep.kind {H : Hp} : ∀ {s : M.Step} {x : V}, PlStep H s x → ∃ t, x = .ref t
  | .road _ _ _, x, h => by unfold PlStep at h; obtain ⟨t, e, h⟩ := h; exact ⟨t, e⟩
  | .join _, x, h => by unfold PlStep at h; obtain ⟨t, e, h⟩ := h; exact ⟨t, e⟩
  | .tunnel _ _ _, x, h => by unfold PlStep at h; obtain ⟨t, v, e, h, _⟩ := h; exact ⟨t, e⟩
section
variable {P : Program} {w : World} {K : PySem.W.Frag} {mg : Str → Option Value} {base : Heap} {C CW : Addr}
def spLWay (C : Addr) (n : Nat) : Sp := fun vs H Q _ => ∃ v wy, vs = [v] ∧ PlanAt H wy v ∧ M.Way.fine wy ∧ wy.depth ≤ n ∧ ∀ a H', Same H H' → WP.WayAt C H' wy a → Q (.ref a) H'
theorem scLw : FnScope ["plan", "head", "steps", "found", "step"] ["plan"] (defScope sLWay) := ⟨rfl, rfl, rfl, by decide +kernel, rfl, by decide +kernel, by decide +kernel⟩
theorem ok_lway {k n : Nat} {f : Addr} {fd : FuncData} (F : Fun K "_law_way" "_law_way" sLWay f fd) (T : WP.Wt K mg CW) (MW : WP.Mw P w K mg base CW) (hk : 7 ≤ k) (DW : Df P w K mg base k "_law_way" ["plan"] (spLWay CW n)) : FnOk P w K mg base CX0 (k + 1) f fd ["plan"] (spLWay CW (n + 1)) := by
  obtain ⟨fI, fdI, GI, MK, bI⟩ := MW.ex
  obtain ⟨fW, fdW, GW, gW, kW, bW⟩ := DW.ex
  refine F.ok scLw (fun vs H Q E h => ?_) (fun cdv A outer s H vs Q E hr h => ?_)
  · obtain ⟨v, wy, rfl, _⟩ := h
    rfl
  · obtain ⟨v, wy, rfl, hR, hf, hd, kk⟩ := h
    refine ⟨_, pss_cons (ps_asg (pv 0) (pg_tup (by rfl) (pgs_cons (pg_name (i := 1) scLw.nd rfl (Or.inl rfl)) (pgs_cons (pg_name (i := 2) scLw.nd rfl (Or.inl rfl)) pgs_nil))))
      (pss_cons (ps_set (i := 3) scLw.nd rfl (Or.inl rfl) (pe_lst pa_nil))
      (pss_cons (ps_for PassesOwn.never rfl (pi_tup (pv 2)) (pg_name (i := 4) scLw.nd rfl (Or.inl rfl)) (pss_one (ps_expr (pe_bm PySem.F.plainAttrs_list PySem.F.slot_list_append PySem.F.type_list_append mt_append (pv 3) (pa_cons (pe_ifExp (pt_cmpR (op_eq) (pe_ix ix_tup (pv 4) (pe_int) (fun _ _ => rfl)) (pe_str) (nomark _)) (pe_tup (pa_cons (pe_str) (pa_cons (pe_call GW (hr.mono (by omega)) rfl gW kW bW .nil pass0 (pa_cons (pe_ix ix_tup (pv 4) (pe_int) (fun _ _ => rfl)) pa_nil)) (pa_cons (pe_ix ix_tup (pv 4) (pe_int) (fun _ _ => rfl)) (pa_cons (pe_ix ix_tup (pv 4) (pe_int) (fun _ _ => rfl)) pa_nil))))) (pv 4)) pa_nil)))))
      (pss_one (ps_ret (pe_make MK GI (hr.mono (by omega)) rfl T.g bI .nil pass0 (pa_cons (pv 1) (pa_cons (pv 3) pa_nil))))))), ?_⟩
    obtain ⟨h, st⟩ := wy
    unfold PlanAt at hR
    obtain ⟨t, L, xs, rfl, ht, hL, hA⟩ := hR
    have hf0 := hf
    unfold M.Way.fine at hf
    obtain ⟨hh, hl, hall, hdd, hzz⟩ := hf
    unfold M.Way.depth at hd
    have lx := hA.len
    have z0 : ∀ {y0 : V} {ys : List V}, atI (y0 :: ys) (0 : Int) = some y0 := fun {y0 ys} => by exact atI_nat (xs := y0 :: ys) (j := 0) rfl
    refine ⟨_, rfl, t, _, rfl, SqT.of ht, rfl, _, _, rfl, _, _, rfl, rfl, ?_⟩
    dsimp only
    refine set_then (i := 3) ⟨line2.2.2.2, fun D hD => ?_⟩
    have s0 : Same H (upd H D (.lst [])) := of_upd hD
    refine ⟨_, rfl, L, rfl, ⟨_, SqT.of (s0 _ _ hL)⟩, ?_⟩
    refine for_it walk_tup (fun i σ G => Same H G ∧ ∃ acc q, σ = [some (.ref t), some (.int (h : Int)), some (.ref L), some (.ref D), q] ∧ G D = some (.lst acc) ∧ WP.StepsAt CW G (st.take i) acc)
      ⟨s0, [], _, rfl, upd_same, by unfold WP.StepsAt; rfl⟩ (fun i σ G _ z => SqT.of (z.1 _ _ hL)) ?_ ?_
    · rintro i x σ G G' hi ⟨s1, acc, q, rfl, hAc, hSt⟩ ⟨rfl, hx⟩
      obtain ⟨y, hy, hat⟩ := hA.get hx
      have la := hSt.len
      have et := take_snoc hy
      have lt : acc.length < sizeLine := small1000 (by rw [la, List.length_take]; omega)
      have fin : ∀ (G2 : Hp) (u : V), Same G' G2 → WP.StepAt CW G2 y u → Same H (upd G2 D (.lst (acc ++ [u]))) ∧ ∃ acc2 q, [some (V.ref t), some (.int (h : Int)), some (.ref L), some (.ref D), some x] = [some (.ref t), some (.int (h : Int)), some (.ref L), some (.ref D), q] ∧ (upd G2 D (.lst (acc ++ [u]))) D = some (.lst acc2) ∧ WP.StepsAt CW (upd G2 D (.lst (acc ++ [u]))) (st.take (i + 1)) acc2 := fun G2 u s2 hu => by
        refine ⟨add_upd hD (s1.trans s2), _, _, rfl, upd_same, ?_⟩
        rw [et]
        have kp : KeepT G2 (upd G2 D (.lst (acc ++ [u]))) := put_keepT (s2 _ _ hAc)
        exact ((hSt.mono s2).keep kp).snoc (hu.keep kp)
      dsimp only
      refine ⟨_, rfl, .inl ⟨rfl, _, SqL.of hAc⟩, ?_⟩
      cases y with
      | road size ts lw =>
        unfold PlStep at hat
        obtain ⟨t2, rfl, h2⟩ := hat
        refine ⟨_, rfl, t2, _, _, _, rfl, rfl, SqT.of (s1 _ _ h2), z0, rfl, _, rfl, ?_⟩
        refine iteN (fun z => absurd (V.str.inj z) (by decide +kernel)) ⟨_, rfl, D, acc, _, rfl, rfl, hAc, lt, fin G' _ (Same.refl _) ?_⟩
        unfold WP.StepAt
        exact ⟨t2, rfl, s1 _ _ h2⟩
      | join most =>
        unfold PlStep at hat
        obtain ⟨t2, rfl, h2⟩ := hat
        refine ⟨_, rfl, t2, _, _, _, rfl, rfl, SqT.of (s1 _ _ h2), z0, rfl, _, rfl, ?_⟩
        refine iteN (fun z => absurd (V.str.inj z) (by decide +kernel)) ⟨_, rfl, D, acc, _, rfl, rfl, hAc, lt, fin G' _ (Same.refl _) ?_⟩
        unfold WP.StepAt
        exact ⟨t2, rfl, s1 _ _ h2⟩
      | tunnel wi most tw =>
        unfold PlStep at hat
        obtain ⟨tx, v2, rfl, h2, hin⟩ := hat
        have fi := WP.fine_get hall hy
        unfold M.Step.fine at fi
        have di := M.dep_le hy
        have h3 := SqT.of (K := K) (s1 _ _ h2)
        have z1 : atI [V.str "tunnel", v2, .int (most : Int), .str (WP.twS tw)] (1 : Int) = some v2 := by exact atI_nat (j := 1) rfl
        have z2 : atI [V.str "tunnel", v2, .int (most : Int), .str (WP.twS tw)] (2 : Int) = some (.int (most : Int)) := by exact atI_nat (j := 2) rfl
        have z3 : atI [V.str "tunnel", v2, .int (most : Int), .str (WP.twS tw)] (3 : Int) = some (.str (WP.twS tw)) := by exact atI_nat (j := 3) rfl
        refine ⟨_, rfl, tx, _, _, _, rfl, rfl, h3, z0, rfl, _, rfl, ?_⟩
        refine iteP rfl ⟨_, rfl, tx, _, _, _, rfl, rfl, h3, z1, v2, wi, rfl, hin.keep (same_keepT s1), fi.1, ?_, fun a G2 s2 hwa => ?_⟩
        · have e : M.Step.dep (.tunnel wi most tw) = wi.depth := rfl
          omega
        have h4 := SqT.of (K := K) (s2 _ _ (s1 _ _ h2))
        refine ⟨_, rfl, tx, _, _, _, rfl, rfl, h4, z2, _, rfl, tx, _, _, _, rfl, rfl, h4, z3, (by show 4 ≤ sizeLine; decide), fun u hu => ?_⟩
        have s3 : Same G2 (upd G2 u (.tup [.str "tunnel", .ref a, .int (most : Int), .str (WP.twS tw)])) := of_upd hu
        refine ⟨D, acc, _, rfl, rfl, s3 _ _ (s2 _ _ hAc), lt, fin _ _ (s2.trans s3) ?_⟩
        unfold WP.StepAt
        exact ⟨u, a, rfl, upd_same, hwa.mono s3⟩
    · rintro σ G ⟨s1, acc, q, rfl, hAc, hSt⟩
      have e : st.take xs.length = st := by rw [lx]; exact List.take_length
      rw [e] at hSt
      refine ⟨_, rfl, _, rfl, ?_⟩
      exact WP.made_way (.inl hAc) hSt hf0 fun x H' s2 wa => kk x H' (s1.trans s2) wa
end
end CP

end
section
set_option autoImplicit false
set_option Elab.async false
set_option linter.all false
set_option maxRecDepth 100000
set_option maxHeartbeats 4000000
/-! ## the lines of a way: the program's and the law's -/
namespace CP
open PySem L2 G Y
open TL TX
abbrev sTLines : Stmt := S.top 37
abbrev sWText : Stmt := S.top 35
abbrev sLLines : Stmt := S.top 51
/-- texts as values -/
def sv (ls : List (List Nat)) : List V := ls.map fun l => V.str (TX.S l)
theorem sv_app (a b : List (List Nat)) : sv (a ++ b) = sv a ++ sv b := List.map_append
theorem sv_len (a : List (List Nat)) : (sv a).length = a.length := List.length_map ..
theorem sv_strs (a : List (List Nat)) : sv a = (a.map TX.S).map V.str := by
  unfold sv
  rw [List.map_map]
  rfl
theorem sv_get {a : List (List Nat)} {i : Nat} {x : V} (h : (sv a)[i]? = some x) : ∃ l, a[i]? = some l ∧ x = .str (TX.S l) := by
  unfold sv at h
  rw [List.getElem?_map] at h
  cases e : a[i]? with
  | none => rw [e] at h; cases h
  | some l => rw [e] at h; cases h; exact ⟨l, rfl, rfl⟩
def rStr : List V → Hp → VK → Prop := fun xs H Q => (∃ a, xs = [.str a] ∧ Q (.str a) H) ∨ ∃ i : Int, xs = [.int i] ∧ i.natAbs.log2 < 1920 ∧ Q (.str (toString i)) H
theorem cr_str {X : Cx} : CallR X (.type "str") rStr := fun pins s σ H xs us Q I r h => h.elim (SkE.call_str_str pins s σ H xs us Q I r) (call_str_int pins s σ H xs us Q I r)
def rAdS : R2 := fun x y H Q => ∃ i j, x = .str i ∧ y = .str j ∧ i.length + j.length ≤ sizeLine ∧ Q (.str (i ++ j)) H
theorem op_adS {X : Cx} : OpR X (binaryOp .Add) rAdS := op_add_str
theorem lg_nat {n : Nat} (h : n ≤ 1000000000000) : ((n : Nat) : Int).natAbs.log2 < 1920 := PySem.Flt.log2_lt_of (k := 1920) (by decide) (Nat.lt_of_lt_of_le (by omega : _ < 2 ^ 60) (Nat.pow_le_pow_right (by decide) (by decide)))
theorem num_S (n : Nat) : Str.ofString (toString ((n : Nat) : Int)) = TX.S (numL n) := S_of (tl_num n)
/-- a value and its word -/
inductive Wv : V → List Nat → Prop
  | s {x : Str} {l : List Nat} : x = TX.S l → Wv (.str x) l
  | n {n : Nat} : n ≤ 1000000000000 → Wv (.int (n : Int)) (numL n)
inductive WvA : List V → List (List Nat) → Prop
  | nil : WvA [] []
  | cons {x : V} {l : List Nat} {xs : List V} {ls : List (List Nat)} : Wv x l → WvA xs ls → WvA (x :: xs) (l :: ls)
theorem WvA.get {xs : List V} {ls : List (List Nat)} (h : WvA xs ls) : ∀ {i : Nat} {x : V}, xs[i]? = some x → ∃ l, ls[i]? = some l ∧ Wv x l := by
  induction h with
  | nil => intro i x e; cases e
  | cons a _ ih =>
    intro i x e
    cases i with
    | zero => cases e; exact ⟨_, rfl, a⟩
    | succ i => exact ih (i := i) e
theorem WvA.len {xs : List V} {ls : List (List Nat)} (h : WvA xs ls) : xs.length = ls.length := by
  induction h with
  | nil => rfl
  | cons a _ ih => rw [List.length_cons, List.length_cons, ih]
theorem k_road : ("road" : Str) = TX.S cRoad := S_of (by decide +kernel)
theorem k_join : ("join" : Str) = TX.S cJoin := S_of (by decide +kernel)
theorem k_tun : ("tunnel" : Str) = TX.S cTun := S_of (by decide +kernel)
theorem k_head : ("head" : Str) = TX.S cHead := S_of (by decide +kernel)
theorem k_sd (b : Bool) : WP.sdS b = TX.S (sd b) := S_of rfl
theorem k_lw (b : M.LW) : WP.lwS b = TX.S (lw b) := S_of rfl
theorem k_tw (b : M.TW) : WP.twS b = TX.S (tw b) := S_of rfl
theorem k_sp : (" " : Str) = TX.S [32] := S_of (by decide +kernel)
theorem k_nl : ("\n" : Str) = TX.S [10] := S_of (by decide +kernel)
theorem k_ind : ("  " : Str) = TX.S [32, 32] := S_of (by decide +kernel)
theorem t_sp : tl (" " : Str) = [32] := by rw [k_sp, tl_S]
theorem t_head : tl ("head " : Str) = cHead ++ [32] := by decide +kernel
theorem t_road : tl ("road " : Str) = cRoad ++ [32] := by decide +kernel
theorem t_join : tl ("join " : Str) = cJoin ++ [32] := by decide +kernel
theorem t_tun : tl ("tunnel " : Str) = cTun ++ [32] := by decide +kernel
theorem t_emp : tl Str.empty = [] := rfl
theorem t_num (n : Nat) : tl (Str.ofString (toString ((n : Nat) : Int))) = numL n := tl_num n
theorem sum_len {k : Nat} : ∀ {ws : List (List Nat)}, (∀ w ∈ ws, w.length ≤ k) → ((ws.map TX.S).map (·.length)).sum ≤ ws.length * k
  | [], _ => Nat.zero_le _
  | w :: r, h => by
    have a := h w List.mem_cons_self
    have b := sum_len (ws := r) fun x hx => h x (List.mem_cons_of_mem _ hx)
    rw [List.map_cons, List.map_cons, List.sum_cons, List.length_cons, Nat.add_mul, S_len]
    omega
theorem join_wd (ws : List (List Nat)) : Txt.join (" " : Str) (ws.map TX.S) = TX.S (wd ws) := by
  rw [k_sp, join_eq]
  refine ext_tl ?_
  rw [tl_join, tl_S, tl_S, List.map_map]
  have : tl ∘ TX.S = id := funext tl_S
  rw [this, List.map_id]
  rfl
theorem join_nl (ls : List (List Nat)) : Txt.join ("\n" : Str) (ls.map TX.S) = TX.S (joinL [10] ls) := by
  rw [k_nl]
  exact join_lines ls
theorem lines_len {w : M.Way} (h : w.fine) : (∀ l ∈ Way.lines w, l.length ≤ 60) ∧ (Way.lines w).length ≤ 81 := by
  obtain ⟨a, b⟩ := way_lines w 3 h (fine_dep h)
  have := (fine_all h).2.2
  exact ⟨fun l hl => (a l hl).1, by omega⟩
theorem plain_vals {C : Addr} {H : Hp} {s : M.Step} {v : V} {h : Nat} (hs : WP.StepAt C H s v) (hf : s.fine h) (hn : ¬ isTun s) : ∃ t xs, v = .ref t ∧ H t = some (.tup xs) ∧ WvA xs (plainW s) ∧ (∃ k r, xs = .str k :: r ∧ k ≠ "tunnel") ∧ xs.length ≤ 4 := by
  cases s with
  | road size ts l =>
    unfold WP.StepAt at hs
    unfold M.Step.fine at hf
    obtain ⟨t, e, ht⟩ := hs
    exact ⟨t, _, e, ht, .cons (.s k_road) (.cons (.n (by omega)) (.cons (.s (k_sd _)) (.cons (.s (k_lw _)) .nil))), ⟨_, _, rfl, by decide +kernel⟩, by show 4 ≤ 4; decide⟩
  | join most =>
    unfold WP.StepAt at hs
    unfold M.Step.fine at hf
    obtain ⟨t, e, ht⟩ := hs
    exact ⟨t, _, e, ht, .cons (.s k_join) (.cons (.n (by omega)) .nil), ⟨_, _, rfl, by decide +kernel⟩, by show 2 ≤ 4; decide⟩
  | tunnel w m t => exact absurd trivial hn
theorem la_nil : Step.linesAll [] = [] := by unfold Step.linesAll; rfl
theorem la_cons (x : M.Step) (r : List M.Step) : Step.linesAll (x :: r) = Step.lines x ++ Step.linesAll r := by
  conv => lhs; unfold Step.linesAll
theorem la_app : ∀ (a b : List M.Step), Step.linesAll (a ++ b) = Step.linesAll a ++ Step.linesAll b
  | [], b => by rw [la_nil]; rfl
  | x :: r, b => by
    show Step.linesAll (x :: (r ++ b)) = _
    rw [la_cons, la_cons, la_app r b, List.append_assoc]
theorem lines_app (s : List M.Step) (x : M.Step) : Step.linesAll (s ++ [x]) = Step.linesAll s ++ Step.lines x := by
  rw [la_app, la_cons, la_nil, List.append_nil]
theorem take_lines {s : List M.Step} (i : Nat) : ∃ r, Step.linesAll s = Step.linesAll (s.take i) ++ r := ⟨Step.linesAll (s.drop i), by rw [← la_app, List.take_append_drop]⟩
/-- lines that a list holds, while it is filled -/
theorem few_lines {h : Nat} {s : List M.Step} (hf : M.Way.fine (.mk h s)) (i : Nat) : (wd (headW h) :: Step.linesAll (s.take i)).length ≤ 81 := by
  have := (lines_len hf).2
  unfold Way.lines at this
  obtain ⟨r, e⟩ := take_lines (s := s) i
  rw [e] at this
  rw [List.length_cons] at this ⊢
  rw [List.length_append] at this
  omega
section
variable {P : Program} {w : World} {K : PySem.W.Frag} {mg : Str → Option Value} {base : Heap} {C CW : Addr}
def spTLines (CW : Addr) (n : Nat) : Sp := fun vs H Q _ => ∃ (a : Addr) (wy : M.Way), vs = [.ref a] ∧ WP.WayAt CW H wy a ∧ M.Way.fine wy ∧ wy.depth ≤ n ∧ ∀ D H', Same H H' → H D = none → H' D = some (.lst (sv (Way.lines wy))) → Q (.ref D) H'
abbrev NTl : List Str := ["way", "lines", "step", "_", "inner", "most", "tells", "line", "word"]
theorem scTl : FnScope NTl ["way"] (defScope sTLines) := ⟨rfl, rfl, rfl, by decide +kernel, rfl, by decide +kernel, by decide +kernel⟩
theorem ok_tlines {k n : Nat} {f : Addr} {fd : FuncData} (F : Fun K "_lines" "_lines" sTLines f fd) (B : Bn mg) (hstr : mg "str" = none) (gI : ∃ t, mg "INDENTATION" = some (.str "  " t)) (T : WP.Wt K mg CW) (hk : 1 ≤ k) (DL : Df P w K mg base k "_lines" ["way"] (spTLines CW n)) : FnOk P w K mg base CX0 (k + 1) f fd ["way"] (spTLines CW (n + 1)) := by
  obtain ⟨fL, fdL, GL, gL, kL, bL⟩ := DL.ex
  obtain ⟨tI, gI⟩ := gI
  refine F.ok scTl (fun vs H Q E h => ?_) (fun cdv A outer s H vs Q E hr h => ?_)
  · obtain ⟨a, wy, rfl, _⟩ := h
    rfl
  · obtain ⟨a, wy, rfl, hw, hf, hd, kk⟩ := h
    refine ⟨_, pss_cons (ps_set (i := 1) scTl.nd rfl (Or.inl rfl) (pe_lst (pa_cons (pe_joined (.cons (pe_str) (.cons (pe_fmt (pe_fld (pv 0) rfl)) .nil))) pa_nil)))
      (pss_cons (ps_for PassesOwn.never rfl (pi_tup (pe_fld (pv 0) rfl)) (pg_name (i := 2) scTl.nd rfl (Or.inl rfl)) (pss_one (ps_if (pt_cmpR (op_eq) (pe_ix ix_tup (pv 2) (pe_int) (fun _ _ => rfl)) (pe_str) (nomark _)) (pss_cons (ps_asg (pv 2) (pg_tup (by rfl) (pgs_cons (pg_name (i := 3) scTl.nd rfl (Or.inl rfl)) (pgs_cons (pg_name (i := 4) scTl.nd rfl (Or.inl rfl)) (pgs_cons (pg_name (i := 5) scTl.nd rfl (Or.inl rfl)) (pgs_cons (pg_name (i := 6) scTl.nd rfl (Or.inl rfl)) pgs_nil))))))
      (pss_cons (ps_expr (pe_bm PySem.F.plainAttrs_list PySem.F.slot_list_append PySem.F.type_list_append mt_append (pv 1) (pa_cons (pe_joined (.cons (pe_str) (.cons (pe_fmt (pv 5)) (.cons (pe_str) (.cons (pe_fmt (pv 6)) .nil))))) pa_nil)))
      (pss_one (ps_expr (pe_bm PySem.F.plainAttrs_list PySem.F.slot_list_extend PySem.F.type_list_extend mt_extend (pv 1) (pa_cons (pe_lc (own := [("line", 7)]) (g := gName 7) (tt := tYes) (te := tOp rAdS (tC (.str "  ")) (tVar 7)) rfl scTl.nd (pi_list (pe_call GL (hr.mono (by omega)) rfl gL kL bL .nil pass0 (pa_cons (pv 4) pa_nil))) (blkOk_by (N := NTl) (sc := defScope sTLines) (by decide +kernel))
          (fun _ _ _ _ _ => by exact pg_name (i := 7) scTl.nd rfl (Or.inl rfl)) (fun _ _ _ _ _ => pts_nil) (fun _ _ _ _ _ => by exact pe_op (op_adS) (pe_glob (v := .str "  ") rfl gI ⟨_, rfl⟩) (pv 7))) pa_nil)))))) (pss_one (ps_expr (pe_bm PySem.F.plainAttrs_list PySem.F.slot_list_append PySem.F.type_list_append mt_append (pv 1) (pa_cons (pe_join (pe_str) (pe_lc (own := [("word", 8)]) (g := gName 8) (tt := tYes) (te := tCB rStr (tCons (tVar 8) tNil)) rfl scTl.nd (pi_tup (pv 2)) (blkOk_by (N := NTl) (sc := defScope sTLines) (by decide +kernel))
          (fun _ _ _ _ _ => by exact pg_name (i := 8) scTl.nd rfl (Or.inl rfl)) (fun _ _ _ _ _ => pts_nil) (fun _ _ _ _ _ => by exact pe_callTy cr_str (by rfl) hstr (by decide +kernel) (pa_cons (pv 8) pa_nil)))) pa_nil)))))))
      (pss_one (ps_ret (pv 1)))), ?_⟩
    obtain ⟨h, st⟩ := wy
    have hf0 := hf
    unfold M.Way.fine at hf
    unfold M.Way.depth at hd
    obtain ⟨dxh, fh, a1, a2⟩ := WP.head_fld hw
    obtain ⟨dxs, fs, t, xs, b1, b2, b3, b4⟩ := WP.steps_fld hw
    have hst : WP.StepsAt CW H st xs := b4
    have a2 : fh.lookup ("head" : Str) = some (.int (h : Int)) := a2
    have z0 : ∀ {y0 : V} {ys : List V}, atI (y0 :: ys) (0 : Int) = some y0 := fun {y0 ys} => by exact atI_nat (xs := y0 :: ys) (j := 0) rfl
    refine set_then (i := 1) ⟨_, rfl, by decide +kernel, ?_⟩
    refine ⟨_, rfl, a, CW, dxh, fh, _, rfl, a1, T.cl, T.nH, a2, .inr ⟨_, rfl, lg_nat (show h ≤ 1000000000000 by omega), _, rfl, ?_, ?_⟩⟩
    · rw [len_tl, tl_append, tl_append, t_head, t_emp]
      show _ ≤ sizeLine
      have e5 : (TX.cHead ++ [32] : List Nat).length = 5 := rfl
      rw [t_num, List.length_append, List.nil_append, e5]
      have := (wd_num (show h ≤ 1000000000000 by omega)).len
      exact Nat.le_trans (show _ ≤ 18 by omega) (by decide)
    have e0 : ((Str.empty ++ ("head " : Str)) ++ Str.ofString (toString ((h : Nat) : Int))) = TX.S (wd (headW h)) := S_of (by
      rw [tl_append, tl_append, t_head, t_emp, t_num]
      unfold wd headW joinL joinL
      simp)
    refine ⟨line2.2.2.1, fun D hD => ?_⟩
    have s0 := of_upd (o := .lst [V.str ((Str.empty ++ ("head " : Str)) ++ Str.ofString (toString ((h : Nat) : Int)))]) hD
    have eD : upd H D (.lst [V.str ((Str.empty ++ ("head " : Str)) ++ Str.ofString (toString ((h : Nat) : Int)))]) D = some (.lst (sv [wd (headW h)])) := by
      rw [upd_same, e0]
      rfl
    generalize upd H D (.lst [V.str ((Str.empty ++ ("head " : Str)) ++ Str.ofString (toString ((h : Nat) : Int)))]) = G0 at s0 eD ⊢
    refine ⟨_, rfl, a, CW, dxs, fs, _, rfl, s0 _ _ b1, T.cl, T.nS, b2, t, rfl, ⟨_, SqT.of (s0 _ _ b3)⟩, ?_⟩
    have hst0 := hst.mono s0
    have b30 := s0 _ _ b3
    have lx : xs.length = st.length := hst.len
    refine for_it walk_tup (fun i σ G => Same G0 G ∨ True → Same H G ∧ G D = some (.lst (sv (wd (headW h) :: Step.linesAll (st.take i)))) ∧ G t = some (.tup xs) ∧ ∃ q2 q3 q4 q5 q6, σ = [some (.ref a), some (.ref D), q2, q3, q4, q5, q6, none, none])
      (fun _ => ⟨s0, by rw [List.take_zero]; unfold Step.linesAll; exact eD, b30, _, _, _, _, _, rfl⟩) (fun i σ G _ z => SqT.of (z (.inr trivial)).2.2.1) ?_ ?_
    · rintro i x σ G G' hi z ⟨rfl, hx⟩
      obtain ⟨s1, hA, hT, q2, q3, q4, q5, q6, rfl⟩ := z (.inr trivial)
      obtain ⟨y, hy, hat⟩ := hst.get hx
      have hat := hat.mono s1
      have fy := WP.fine_get hf.2.2.1 hy
      have et := take_snoc hy
      have fin : ∀ (G2 : Hp) (l : List V) (q2 q3 q4 q5 q6 : Option V), Same H G2 → G2 t = some (.tup xs) → G2 D = some (.lst (sv (wd (headW h) :: Step.linesAll (st.take i)) ++ l)) → l = sv (Step.lines y) →
          (Same G0 G2 ∨ True → Same H G2 ∧ G2 D = some (.lst (sv (wd (headW h) :: Step.linesAll (st.take (i + 1))))) ∧ G2 t = some (.tup xs) ∧ ∃ r2 r3 r4 r5 r6, [some (V.ref a), some (.ref D), q2, q3, q4, q5, q6, none, none] = [some (.ref a), some (.ref D), r2, r3, r4, r5, r6, none, none]) := fun G2 l q2 q3 q4 q5 q6 s2 h2 h3 el _ => by
        refine ⟨s2, ?_, h2, _, _, _, _, _, rfl⟩
        rw [h3, et, lines_app, el, ← sv_app]
        rfl
      have lA := few_lines hf0 i
      dsimp only
      by_cases ht : isTun y
      · cases y with
        | road _ _ _ => exact ht.elim
        | join _ => exact ht.elim
        | tunnel wi most tw =>
          unfold WP.StepAt at hat
          obtain ⟨t2, ai, rfl, h2, hwi⟩ := hat
          have fi := fy
          unfold M.Step.fine at fi
          have di := M.dep_le hy
          have di2 : wi.depth ≤ n := by
            have e : M.Step.dep (.tunnel wi most tw) = wi.depth := rfl
            omega
          refine ⟨_, rfl, t2, _, _, _, rfl, rfl, SqT.of h2, z0, rfl, _, rfl, ?_⟩
          refine iteP rfl ?_
          refine ⟨_, rfl, t2, _, rfl, SqT.of h2, rfl, _, _, rfl, _, _, rfl, _, _, rfl, _, _, rfl, rfl, ?_⟩
          dsimp only
          have lm := (wd_num (show most ≤ 1000000000000 by omega)).len
          have lt2 := (wd_tw tw).len
          have t1 : tl (("tunnel " : Str)) = cTun ++ [32] := t_tun
          have t2e : tl ((Str.empty ++ ("tunnel " : Str)) ++ Str.ofString (toString ((most : Nat) : Int))) = cTun ++ [32] ++ numL most := by rw [tl_append, tl_append, t_tun, t_emp, t_num]; rfl
          have t3e : tl (((Str.empty ++ ("tunnel " : Str)) ++ Str.ofString (toString ((most : Nat) : Int))) ++ (" " : Str)) = cTun ++ [32] ++ numL most ++ [32] := by rw [tl_append, t2e, t_sp]
          have t4e : tl ((((Str.empty ++ ("tunnel " : Str)) ++ Str.ofString (toString ((most : Nat) : Int))) ++ (" " : Str)) ++ WP.twS tw) = cTun ++ [32] ++ numL most ++ [32] ++ TX.tw tw := by rw [tl_append, t3e]; rfl
          have lc : (cTun ++ [32]).length = 7 := rfl
          refine ⟨_, rfl, .inl ⟨rfl, _, SqL.of hA⟩, ?_⟩
          refine ⟨_, rfl, by decide +kernel, _, rfl, .inr ⟨_, rfl, lg_nat (show most ≤ 1000000000000 by omega), _, rfl, ?_, _, rfl, ?_, _, rfl, .inl ⟨_, rfl, ?_, _, rfl, ?_, ?_⟩⟩⟩
          · rw [len_tl, t2e, List.length_append, lc]
            exact Nat.le_trans (show _ ≤ 20 by omega) (by decide)
          · rw [len_tl, t3e, List.length_append, List.length_append, lc]
            exact Nat.le_trans (show _ ≤ 21 by show 7 + _ + 1 ≤ 21; omega) (by decide)
          · rw [len_tl]
            exact Nat.le_trans lt2 (by decide)
          · rw [len_tl, t4e, List.length_append, List.length_append, List.length_append, lc]
            exact Nat.le_trans (show _ ≤ 34 by show 7 + _ + 1 + _ ≤ 34; omega) (by decide)
          have e4 : ((((Str.empty ++ ("tunnel " : Str)) ++ Str.ofString (toString ((most : Nat) : Int))) ++ (" " : Str)) ++ WP.twS tw) = TX.S (wd (plainW (.tunnel wi most tw))) := S_of (by
            rw [t4e]
            unfold wd plainW joinL joinL joinL
            simp)
          rw [e4]
          refine ⟨D, _, _, rfl, rfl, hA, small1000 (by rw [sv_len]; omega), ?_⟩
          have nD2 : ∀ o, H D = some o → False := fun o z => by rw [hD] at z; cases z
          have s2 := add_upd (o := .lst (sv (wd (headW h) :: Step.linesAll (st.take i)) ++ [V.str (TX.S (wd (plainW (.tunnel wi most tw))))])) hD s1
          have kp := put_keepT (o := .lst (sv (wd (headW h) :: Step.linesAll (st.take i)) ++ [V.str (TX.S (wd (plainW (.tunnel wi most tw))))])) hA
          have hT2 := kp.tup hT
          have hwi2 := hwi.keep kp
          have hA2 : upd G' D (.lst (sv (wd (headW h) :: Step.linesAll (st.take i)) ++ [V.str (TX.S (wd (plainW (.tunnel wi most tw))))])) D = some (.lst (sv (wd (headW h) :: Step.linesAll (st.take i)) ++ [V.str (TX.S (wd (plainW (.tunnel wi most tw))))])) := upd_same
          generalize upd G' D (.lst (sv (wd (headW h) :: Step.linesAll (st.take i)) ++ [V.str (TX.S (wd (plainW (.tunnel wi most tw))))])) = G2 at s2 hT2 hwi2 hA2 ⊢
          refine ⟨_, rfl, .inl ⟨rfl, _, SqL.of hA2⟩, ?_⟩
          refine ⟨_, rfl, ai, wi, rfl, hwi2, fi.1, di2, fun D2 G3 s3 n2 e2 => ?_⟩
          refine ⟨D2, rfl, ⟨_, SqL.of e2⟩, fun D3 n3 => ?_⟩
          obtain ⟨len1, len2⟩ := lines_len fi.1
          refine lc_list (K := K) (a := D2) (xs := sv (Way.lines wi)) (fun i G => Same G3 G ∧ G D3 = some (.lst (sv (((Way.lines wi).take i).map ([32, 32] ++ ·))))) ⟨of_upd n3, by rw [upd_same, List.take_zero]; rfl⟩ (fun i G _ z => SqL.of (z.1 _ _ e2)) ?_ ?_
          · rintro i2 x2 G4 hx2 ⟨s4, e5⟩
            obtain ⟨l, hl, rfl⟩ := sv_get hx2
            have ll := len1 l (List.mem_of_getElem? hl)
            refine ⟨rfl, _, rfl, _, _, rfl, rfl, ?_, _, e5, small1000 (by rw [sv_len, List.length_map, List.length_take]; omega), add_upd n3 s4, ?_⟩
            · rw [S_len, len_tl, k_ind, tl_S]
              exact Nat.le_trans (show _ ≤ 62 by show 2 + _ ≤ 62; omega) (by decide)
            · rw [upd_same, take_snoc hl, List.map_append, sv_app, k_ind, S_app]
              rfl
          · rintro G4 ⟨s4, e5⟩
            rw [sv_len, List.take_length] at e5
            refine ⟨D, D3, _, _, rfl, rfl, s4 _ _ (s3 _ _ hA2), e5, ?_, ?_⟩
            · have l5 := (way_lines (.mk h st) 3 hf0 (fine_dep hf0)).2
              refine Nat.le_trans (show _ ≤ 1000 from ?_) (by decide)
              rw [List.length_append, sv_len, sv_len, List.length_map, List.length_singleton]
              omega
            · exact fin _ _ _ _ _ _ _ (add_upd hD ((s2.trans s3).trans s4)) ((put_keepT (s4 _ _ (s3 _ _ hA2))).tup (s4 _ _ (s3 _ _ hT2))) (by rw [upd_same, List.append_assoc]) (by
                unfold Step.lines
                rfl)
      · obtain ⟨t2, ys, rfl, h2, hW, ⟨k0, r0, rfl, nk⟩, l4⟩ := plain_vals hat fy ht
        refine ⟨_, rfl, t2, _, _, _, rfl, rfl, SqT.of h2, z0, rfl, _, rfl, ?_⟩
        refine iteN (fun z => nk (V.str.inj z)) ?_
        have ww := plainW_wd fy
        have lw := hW.len
        refine ⟨_, rfl, .inl ⟨rfl, _, SqL.of hA⟩, ⟨_, rfl⟩, _, rfl, t2, rfl, ⟨_, SqT.of h2⟩, fun D3 n3 => ?_⟩
        refine lc_tup (K := K) (a := t2) (xs := .str k0 :: r0) (fun i G => Same G' G ∧ G D3 = some (.lst (sv ((plainW y).take i)))) ⟨of_upd n3, by rw [upd_same, List.take_zero]; rfl⟩ (fun i G _ z => SqT.of (z.1 _ _ h2)) ?_ ?_
        · rintro i2 x2 G4 hx2 ⟨s4, e5⟩
          obtain ⟨l, hl, hv⟩ := hW.get hx2
          have la : (sv ((plainW y).take i2)).length < sizeLine := small1000 (by rw [sv_len, List.length_take, ← lw]; omega)
          have nx : ∀ u, u = TX.S l → Same G' (upd G4 D3 (.lst (sv ((plainW y).take i2) ++ [V.str u]))) ∧ upd G4 D3 (.lst (sv ((plainW y).take i2) ++ [V.str u])) D3 = some (.lst (sv ((plainW y).take (i2 + 1)))) := fun u e => by
            refine ⟨add_upd n3 s4, ?_⟩
            rw [upd_same, take_snoc hl, sv_app, e]
            rfl
          cases hv with
          | s e => exact ⟨rfl, _, rfl, .inl ⟨_, rfl, _, e5, la, nx _ e⟩⟩
          | n hn => exact ⟨rfl, _, rfl, .inr ⟨_, rfl, lg_nat hn, _, e5, la, nx _ (num_S _)⟩⟩
        · rintro G4 ⟨s4, e5⟩
          rw [lw, List.take_length] at e5
          refine ⟨_, D3, (plainW y).map TX.S, rfl, rfl, .inl (SqL.of (by rw [e5, sv_strs])), ?_, D, _, _, rfl, rfl, s4 _ _ hA, small1000 (by rw [sv_len]; omega), ?_⟩
          · have := sum_len (k := 13) (fun w hw => (ww w hw).len)
            rw [List.length_map, show (" " : Str).length = 1 from by rw [len_tl, t_sp]; rfl]
            have l5 : (plainW y).length ≤ 4 := by rw [← lw]; exact l4
            omega
          · refine fin _ _ _ _ _ _ _ (add_upd hD (s1.trans s4)) ((put_keepT (s4 _ _ hA)).tup (s4 _ _ hT)) upd_same ?_
            rw [join_wd]
            cases y with
            | road _ _ _ => unfold Step.lines; rfl
            | join _ => unfold Step.lines; rfl
            | tunnel _ _ _ => exact absurd trivial ht
    · rintro σ G z
      obtain ⟨s1, hA, hT, q2, q3, q4, q5, q6, rfl⟩ := z (.inr trivial)
      rw [lx, List.take_length] at hA
      refine ⟨_, rfl, kk D G s1 hD ?_⟩
      unfold Way.lines
      exact hA
end
end CP

end
section
set_option autoImplicit false
set_option Elab.async false
set_option linter.all false
set_option maxRecDepth 100000
set_option maxHeartbeats 4000000
/-! ## way_text; the law's lines -/
namespace CP
open PySem L2 G Y
open TL TX
section
variable {P : Program} {w : World} {K : PySem.W.Frag} {mg : Str → Option Value} {base : Heap} {C CW : Addr}
def spWText (CW : Addr) : Sp := fun vs H Q _ => ∃ (a : Addr) (wy : M.Way), vs = [.ref a] ∧ WP.WayAt CW H wy a ∧ M.Way.fine wy ∧ ∀ H', Same H H' → Q (.str (TX.S (text wy))) H'
theorem scWt : FnScope ["way"] ["way"] (defScope sWText) := ⟨rfl, rfl, rfl, by decide +kernel, rfl, by decide +kernel, by decide +kernel⟩
theorem ok_wtext {k : Nat} {f : Addr} {fd : FuncData} (F : Fun K "way_text" "way_text" sWText f fd) (DL : Df P w K mg base k "_lines" ["way"] (spTLines CW 3)) : FnOk P w K mg base CX0 (k + 1) f fd ["way"] (spWText CW) := by
  obtain ⟨fL, fdL, GL, gL, kL, bL⟩ := DL.ex
  refine F.ok scWt (fun vs H Q E h => ?_) (fun cdv A outer s H vs Q E hr h => ?_)
  · obtain ⟨a, wy, rfl, _⟩ := h
    rfl
  · obtain ⟨a, wy, rfl, hw, hf, kk⟩ := h
    refine ⟨_, pss_one (ps_ret (pe_join (pe_str) (pe_call GL (hr.mono (by omega)) rfl gL kL bL .nil pass0 (pa_cons (pv 0) pa_nil)))), ?_⟩
    obtain ⟨l1, l2⟩ := lines_len hf
    refine ⟨⟨_, rfl⟩, _, rfl, a, wy, rfl, hw, hf, fine_dep hf, fun D G s1 n1 e1 => ?_⟩
    refine ⟨_, D, (Way.lines wy).map TX.S, rfl, rfl, .inl (SqL.of (by rw [e1, sv_strs])), ?_, ?_⟩
    · have := sum_len (k := 60) l1
      rw [List.length_map, show ("\n" : Str).length = 1 from by rw [len_tl, k_nl, tl_S]; rfl]
      omega
    · rw [join_nl]
      exact kk G s1
def spLLines (n : Nat) : Sp := fun vs H Q _ => ∃ (v : V) (wy : M.Way) (ld : Str), vs = [v, .str ld] ∧ PlanAt H wy v ∧ M.Way.fine wy ∧ wy.depth ≤ n ∧ ld.length + 2 * n ≤ 100 ∧ ∀ D H', Same H H' → H D = none → H' D = some (.lst (sv ((Way.lines wy).map (tl ld ++ ·)))) → Q (.ref D) H'
abbrev NLl : List Str := ["plan", "lead", "found", "step"]
theorem scLl : FnScope NLl ["plan", "lead"] (defScope sLLines) := ⟨rfl, rfl, rfl, by decide +kernel, rfl, by decide +kernel, by decide +kernel⟩
theorem catl {l : Str} {x : Str} {a b : List Nat} (h : tl l = a) (hx : tl x = b) : tl (l ++ x) = a ++ b := by rw [tl_append, h, hx]
theorem len_of {x : Str} {a : List Nat} {n : Nat} (h : tl x = a) (hl : a.length ≤ n) (hn : n ≤ 1000) : x.length ≤ 1000 := by
  rw [len_tl, h]
  omega
theorem ok_llines {k n : Nat} {f : Addr} {fd : FuncData} (F : Fun K "_law_lines" "_law_lines" sLLines f fd) (B : Bn mg) (hstr : mg "str" = none) (hk : 1 ≤ k) (DL : Df P w K mg base k "_law_lines" ["plan", "lead"] (spLLines n)) : FnOk P w K mg base CX0 (k + 1) f fd ["plan", "lead"] (spLLines (n + 1)) := by
  obtain ⟨fL, fdL, GL, gL, kL, bL⟩ := DL.ex
  refine F.ok scLl (fun vs H Q E h => ?_) (fun cdv A outer s H vs Q E hr h => ?_)
  · obtain ⟨v, wy, ld, rfl, _⟩ := h
    rfl
  · obtain ⟨v, wy, ld, rfl, hp, hf, hd, hld, kk⟩ := h
    refine ⟨_, pss_cons (ps_set (i := 2) scLl.nd rfl (Or.inl rfl) (pe_lst (pa_cons (pe_op (op_adS) (pe_op (op_adS) (pv 1) (pe_str)) (pe_callTy cr_str (by rfl) hstr (by decide +kernel) (pa_cons (pe_ix ix_tup (pv 0) (pe_int) (fun _ _ => rfl)) pa_nil))) pa_nil)))
      (pss_cons (ps_for PassesOwn.never rfl (pi_tup (pe_ix ix_tup (pv 0) (pe_int) (fun _ _ => rfl))) (pg_name (i := 3) scLl.nd rfl (Or.inl rfl)) (pss_one (ps_if (pt_cmpR (op_eq) (pe_ix ix_tup (pv 3) (pe_int) (fun _ _ => rfl)) (pe_str) (nomark _)) (pss_cons (ps_expr (pe_bm PySem.F.plainAttrs_list PySem.F.slot_list_append PySem.F.type_list_append mt_append (pv 2) (pa_cons (pe_op (op_adS) (pe_op (op_adS) (pe_op (op_adS) (pe_op (op_adS) (pv 1) (pe_str)) (pe_callTy cr_str (by rfl) hstr (by decide +kernel) (pa_cons (pe_ix ix_tup (pv 3) (pe_int) (fun _ _ => rfl)) pa_nil))) (pe_str)) (pe_ix ix_tup (pv 3) (pe_int) (fun _ _ => rfl))) pa_nil)))
      (pss_one (ps_set (i := 2) scLl.nd rfl (Or.inl rfl) (pe_op (op_cat) (pv 2) (pe_call GL (hr.mono (by omega)) rfl gL kL bL .nil pass0 (pa_cons (pe_ix ix_tup (pv 3) (pe_int) (fun _ _ => rfl)) (pa_cons (pe_op (op_adS) (pv 1) (pe_str)) pa_nil))))))) (pss_one (ps_if (pt_cmpR (op_eq) (pe_ix ix_tup (pv 3) (pe_int) (fun _ _ => rfl)) (pe_str) (nomark _)) (pss_one (ps_expr (pe_bm PySem.F.plainAttrs_list PySem.F.slot_list_append PySem.F.type_list_append mt_append (pv 2) (pa_cons (pe_op (op_adS) (pe_op (op_adS) (pv 1) (pe_str)) (pe_callTy cr_str (by rfl) hstr (by decide +kernel) (pa_cons (pe_ix ix_tup (pv 3) (pe_int) (fun _ _ => rfl)) pa_nil))) pa_nil)))) (pss_one (ps_expr (pe_bm PySem.F.plainAttrs_list PySem.F.slot_list_append PySem.F.type_list_append mt_append (pv 2) (pa_cons (pe_op (op_adS) (pe_op (op_adS) (pe_op (op_adS) (pe_op (op_adS) (pe_op (op_adS) (pe_op (op_adS) (pv 1) (pe_str)) (pe_callTy cr_str (by rfl) hstr (by decide +kernel) (pa_cons (pe_ix ix_tup (pv 3) (pe_int) (fun _ _ => rfl)) pa_nil))) (pe_str)) (pe_ix ix_tup (pv 3) (pe_int) (fun _ _ => rfl))) (pe_str)) (pe_ix ix_tup (pv 3) (pe_int) (fun _ _ => rfl))) pa_nil)))))))))
      (pss_one (ps_ret (pv 2)))), ?_⟩
    obtain ⟨h, st⟩ := wy
    have hf0 := hf
    unfold M.Way.fine at hf
    unfold M.Way.depth at hd
    unfold PlanAt at hp
    obtain ⟨t, L, xs, rfl, ht, hL, hA⟩ := hp
    have big : ∀ {n : Nat}, n ≤ 1000 → n ≤ sizeLine := fun h => Nat.le_of_lt (small1000 h)
    have z0 : ∀ {y0 : V} {ys : List V}, atI (y0 :: ys) (0 : Int) = some y0 := fun {y0 ys} => by exact atI_nat (xs := y0 :: ys) (j := 0) rfl
    have z1 : ∀ {y0 y1 : V} {ys : List V}, atI (y0 :: y1 :: ys) (1 : Int) = some y1 := fun {y0 y1 ys} => by exact atI_nat (xs := y0 :: y1 :: ys) (j := 1) rfl
    have z2 : ∀ {y0 y1 y2 : V} {ys : List V}, atI (y0 :: y1 :: y2 :: ys) (2 : Int) = some y2 := fun {y0 y1 y2 ys} => by exact atI_nat (xs := y0 :: y1 :: y2 :: ys) (j := 2) rfl
    have z3 : ∀ {y0 y1 y2 y3 : V} {ys : List V}, atI (y0 :: y1 :: y2 :: y3 :: ys) (3 : Int) = some y3 := fun {y0 y1 y2 y3 ys} => by exact atI_nat (xs := y0 :: y1 :: y2 :: y3 :: ys) (j := 3) rfl
    have hl0 : (tl ld).length ≤ 100 := by rw [← len_tl]; omega
    have nh := (wd_num (show h ≤ 1000000000000 by omega)).len
    have p1 : tl (ld ++ ("head " : Str)) = tl ld ++ (TX.cHead ++ [32]) := catl rfl t_head
    have p2 : tl ((ld ++ ("head " : Str)) ++ Str.ofString (toString ((h : Nat) : Int))) = tl ld ++ (TX.cHead ++ [32]) ++ numL h := catl p1 (t_num h)
    have e5 : (TX.cHead ++ [32] : List Nat).length = 5 := rfl
    have q1 : (ld ++ ("head " : Str)).length = (tl ld).length + 5 := by rw [len_tl, p1, List.length_append, e5]
    refine set_then (i := 2) ⟨_, rfl, _, _, rfl, rfl, big (by rw [len_tl, show (("head " : Str)).length = 5 from by rw [len_tl, t_head]; rfl]; omega), ?_⟩
    refine ⟨_, rfl, t, _, _, _, rfl, rfl, SqT.of ht, z0, .inr ⟨_, rfl, lg_nat (show h ≤ 1000000000000 by omega), _, _, rfl, rfl, big (by rw [q1, len_tl (Str.ofString _), t_num]; omega), ?_⟩⟩
    rw [show ((ld ++ ("head " : Str)) ++ Str.ofString (toString ((h : Nat) : Int))) = TX.S (tl ld ++ wd (headW h)) from S_of (by
      rw [p2]
      unfold wd headW joinL joinL
      simp)]
    refine ⟨line2.2.2.1, fun D hD => ?_⟩
    have s0 := of_upd (o := .lst [V.str (TX.S (tl ld ++ wd (headW h)))]) hD
    have eD : upd H D (.lst [V.str (TX.S (tl ld ++ wd (headW h)))]) D = some (.lst (sv [tl ld ++ wd (headW h)])) := upd_same
    generalize upd H D (.lst [V.str (TX.S (tl ld ++ wd (headW h)))]) = G0 at s0 eD ⊢
    refine ⟨_, rfl, t, _, _, _, rfl, rfl, SqT.of (s0 _ _ ht), z1, L, rfl, ⟨_, SqT.of (s0 _ _ hL)⟩, ?_⟩
    have lx := hA.len
    refine for_it walk_tup (fun i σ G => Same H G ∧ ∃ (D : Addr) (q3 : Option V), H D = none ∧ G D = some (.lst (sv ((wd (headW h) :: Step.linesAll (st.take i)).map (tl ld ++ ·)))) ∧ σ = [some (.ref t), some (.str ld), some (.ref D), q3])
      ⟨s0, D, _, hD, by rw [List.take_zero, la_nil]; exact eD, rfl⟩ (fun i σ G _ z => SqT.of (z.1 _ _ hL)) ?_ ?_
    · rintro i x σ G G' hi ⟨s1, D, q3, hD, hA2, rfl⟩ ⟨rfl, hx⟩
      obtain ⟨y, hy, hat⟩ := hA.get hx
      have hat := hat.keep (same_keepT s1)
      have fy := WP.fine_get hf.2.2.1 hy
      have et := take_snoc hy
      have lA := few_lines hf0 i
      have la : (sv ((wd (headW h) :: Step.linesAll (st.take i)).map (tl ld ++ ·))).length ≤ 81 := by rw [sv_len, List.length_map]; exact lA
      have fin : ∀ (u : Str) (ws : List Nat), tl u = tl ld ++ ws → Step.lines y = [ws] → Same H (upd G' D (.lst (sv ((wd (headW h) :: Step.linesAll (st.take i)).map (tl ld ++ ·)) ++ [V.str u]))) ∧ ∃ (D2 : Addr) (q3 : Option V), H D2 = none ∧ (upd G' D (.lst (sv ((wd (headW h) :: Step.linesAll (st.take i)).map (tl ld ++ ·)) ++ [V.str u]))) D2 = some (.lst (sv ((wd (headW h) :: Step.linesAll (st.take (i + 1))).map (tl ld ++ ·)))) ∧ [some (V.ref t), some (V.str ld), some (V.ref D), some x] = [some (.ref t), some (.str ld), some (.ref D2), q3] := fun u ws e1 e2 => by
        refine ⟨add_upd hD s1, D, _, hD, ?_, rfl⟩
        rw [upd_same, et, lines_app, e2, S_of e1, ← List.cons_append, List.map_append, sv_app]
        rfl
      dsimp only
      cases y with
      | road size ts lw =>
        unfold PlStep at hat
        unfold M.Step.fine at fy
        obtain ⟨t2, rfl, h2⟩ := hat
        have h2 := SqT.of (K := K) h2
        have nm := (wd_num (show size ≤ 1000000000000 by omega)).len
        have ns := (wd_sd ts).len
        have nl := (wd_lw lw).len
        have a1 : tl (ld ++ ("road " : Str)) = tl ld ++ (TX.cRoad ++ [32]) := catl rfl t_road
        have a2 : tl ((ld ++ ("road " : Str)) ++ Str.ofString (toString ((size : Nat) : Int))) = tl ld ++ (TX.cRoad ++ [32]) ++ numL size := catl a1 (t_num _)
        have a3 := catl a2 t_sp
        have a4 : tl ((((ld ++ ("road " : Str)) ++ Str.ofString (toString ((size : Nat) : Int))) ++ (" " : Str)) ++ WP.sdS ts) = tl ld ++ (TX.cRoad ++ [32]) ++ numL size ++ [32] ++ TX.sd ts := catl a3 rfl
        have a5 := catl a4 t_sp
        have a6 : tl ((((((ld ++ ("road " : Str)) ++ Str.ofString (toString ((size : Nat) : Int))) ++ (" " : Str)) ++ WP.sdS ts) ++ (" " : Str)) ++ WP.lwS lw) = tl ld ++ (TX.cRoad ++ [32]) ++ numL size ++ [32] ++ TX.sd ts ++ [32] ++ TX.lw lw := catl a5 rfl
        have ls : ("road " : Str).length = 5 := by rw [len_tl, t_road]; rfl
        have l1 : (" " : Str).length = 1 := by rw [len_tl, t_sp]; rfl
        have lq : (TX.cRoad ++ [32] : List Nat).length = 5 := rfl
        have lo : ([32] : List Nat).length = 1 := rfl
        have ln := len_tl (Str.ofString (toString ((size : Nat) : Int)))
        rw [t_num] at ln
        have lsd : (WP.sdS ts).length = (TX.sd ts).length := len_tl _
        have llw : (WP.lwS lw).length = (TX.lw lw).length := len_tl _
        have b1 := len_tl (ld ++ ("road " : Str))
        rw [a1, List.length_append, lq] at b1
        have b2 := len_tl ((ld ++ ("road " : Str)) ++ Str.ofString (toString ((size : Nat) : Int)))
        rw [a2, List.length_append, List.length_append, lq] at b2
        have b3 := len_tl (((ld ++ ("road " : Str)) ++ Str.ofString (toString ((size : Nat) : Int))) ++ (" " : Str))
        rw [a3, List.length_append, List.length_append, List.length_append, lq, lo] at b3
        have b4 := len_tl ((((ld ++ ("road " : Str)) ++ Str.ofString (toString ((size : Nat) : Int))) ++ (" " : Str)) ++ WP.sdS ts)
        rw [a4, List.length_append, List.length_append, List.length_append, List.length_append, lq, lo] at b4
        have b5 := len_tl (((((ld ++ ("road " : Str)) ++ Str.ofString (toString ((size : Nat) : Int))) ++ (" " : Str)) ++ WP.sdS ts) ++ (" " : Str))
        rw [a5, List.length_append, List.length_append, List.length_append, List.length_append, List.length_append, lq, lo] at b5
        have ll := len_tl ld
        refine ⟨_, rfl, t2, _, _, _, rfl, rfl, h2, z0, rfl, _, rfl, iteN (fun z => absurd (V.str.inj z) (by decide +kernel)) ?_⟩
        refine ⟨_, rfl, t2, _, _, _, rfl, rfl, h2, z0, rfl, _, rfl, iteN (fun z => absurd (V.str.inj z) (by decide +kernel)) ?_⟩
        refine ⟨_, rfl, .inl ⟨rfl, _, SqL.of hA2⟩, ?_⟩
        refine ⟨_, rfl, _, _, rfl, rfl, big (by rw [ls]; omega), _, rfl, t2, _, _, _, rfl, rfl, h2, z1, .inr ⟨_, rfl, lg_nat (show size ≤ 1000000000000 by omega), _, _, rfl, rfl, big (by rw [b1, ln]; omega), _, _, rfl, rfl, big (by rw [b2, l1]; omega), _, rfl, t2, _, _, _, rfl, rfl, h2, z2, _, _, rfl, rfl, big (by rw [b3, lsd]; omega), _, _, rfl, rfl, big (by rw [b4, l1]; omega), _, rfl, t2, _, _, _, rfl, rfl, h2, z3, _, _, rfl, rfl, big (by rw [b5, llw]; omega), D, _, _, rfl, rfl, hA2, small1000 (by omega), ?_⟩⟩
        refine fin _ (wd (plainW (.road size ts lw))) ?_ (by unfold Step.lines; rfl)
        rw [a6]
        unfold wd plainW joinL joinL joinL joinL
        simp
      | join most =>
        unfold PlStep at hat
        unfold M.Step.fine at fy
        obtain ⟨t2, rfl, h2⟩ := hat
        have h2 := SqT.of (K := K) h2
        have nm := (wd_num (show most ≤ 1000000000000 by omega)).len
        have a1 : tl (ld ++ ("join " : Str)) = tl ld ++ (TX.cJoin ++ [32]) := catl rfl t_join
        have a2 : tl ((ld ++ ("join " : Str)) ++ Str.ofString (toString ((most : Nat) : Int))) = tl ld ++ (TX.cJoin ++ [32]) ++ numL most := catl a1 (t_num _)
        have ls : ("join " : Str).length = 5 := by rw [len_tl, t_join]; rfl
        have lq : (TX.cJoin ++ [32] : List Nat).length = 5 := rfl
        have ln := len_tl (Str.ofString (toString ((most : Nat) : Int)))
        rw [t_num] at ln
        have b1 := len_tl (ld ++ ("join " : Str))
        rw [a1, List.length_append, lq] at b1
        have ll := len_tl ld
        refine ⟨_, rfl, t2, _, _, _, rfl, rfl, h2, z0, rfl, _, rfl, iteN (fun z => absurd (V.str.inj z) (by decide +kernel)) ?_⟩
        refine ⟨_, rfl, t2, _, _, _, rfl, rfl, h2, z0, rfl, _, rfl, iteP rfl ?_⟩
        refine ⟨_, rfl, .inl ⟨rfl, _, SqL.of hA2⟩, ?_⟩
        refine ⟨_, rfl, _, _, rfl, rfl, big (by rw [ls]; omega), _, rfl, t2, _, _, _, rfl, rfl, h2, z1, .inr ⟨_, rfl, lg_nat (show most ≤ 1000000000000 by omega), _, _, rfl, rfl, big (by rw [b1, ln]; omega), D, _, _, rfl, rfl, hA2, small1000 (by omega), ?_⟩⟩
        refine fin _ (wd (plainW (.join most))) ?_ (by unfold Step.lines; rfl)
        rw [a2]
        unfold wd plainW joinL joinL
        simp
      | tunnel wi most tw =>
        unfold PlStep at hat
        have fi := fy
        unfold M.Step.fine at fi
        have di := M.dep_le hy
        have di2 : wi.depth ≤ n := by
          have e : M.Step.dep (.tunnel wi most tw) = wi.depth := rfl
          omega
        obtain ⟨t2, v2, rfl, h2, hwi⟩ := hat
        have h2' := h2
        have h2 := SqT.of (K := K) h2
        have nm := (wd_num (show most ≤ 1000000000000 by omega)).len
        have ns := (wd_tw tw).len
        have a1 : tl (ld ++ ("tunnel " : Str)) = tl ld ++ (TX.cTun ++ [32]) := catl rfl t_tun
        have a2 : tl ((ld ++ ("tunnel " : Str)) ++ Str.ofString (toString ((most : Nat) : Int))) = tl ld ++ (TX.cTun ++ [32]) ++ numL most := catl a1 (t_num _)
        have a3 := catl a2 t_sp
        have a4 : tl ((((ld ++ ("tunnel " : Str)) ++ Str.ofString (toString ((most : Nat) : Int))) ++ (" " : Str)) ++ WP.twS tw) = tl ld ++ (TX.cTun ++ [32]) ++ numL most ++ [32] ++ TX.tw tw := catl a3 rfl
        have ls : ("tunnel " : Str).length = 7 := by rw [len_tl, t_tun]; rfl
        have l1 : (" " : Str).length = 1 := by rw [len_tl, t_sp]; rfl
        have lq : (TX.cTun ++ [32] : List Nat).length = 7 := rfl
        have lo : ([32] : List Nat).length = 1 := rfl
        have ln := len_tl (Str.ofString (toString ((most : Nat) : Int)))
        rw [t_num] at ln
        have lsd : (WP.twS tw).length = (TX.tw tw).length := len_tl _
        have b1 := len_tl (ld ++ ("tunnel " : Str))
        rw [a1, List.length_append, lq] at b1
        have b2 := len_tl ((ld ++ ("tunnel " : Str)) ++ Str.ofString (toString ((most : Nat) : Int)))
        rw [a2, List.length_append, List.length_append, lq] at b2
        have b3 := len_tl (((ld ++ ("tunnel " : Str)) ++ Str.ofString (toString ((most : Nat) : Int))) ++ (" " : Str))
        rw [a3, List.length_append, List.length_append, List.length_append, lq, lo] at b3
        have ll := len_tl ld
        refine ⟨_, rfl, t2, _, _, _, rfl, rfl, h2, z0, rfl, _, rfl, iteP rfl ?_⟩
        refine ⟨_, rfl, .inl ⟨rfl, _, SqL.of hA2⟩, ?_⟩
        refine ⟨_, rfl, _, _, rfl, rfl, big (by rw [ls]; omega), _, rfl, t2, _, _, _, rfl, rfl, h2, z2, .inr ⟨_, rfl, lg_nat (show most ≤ 1000000000000 by omega), _, _, rfl, rfl, big (by rw [b1, ln]; omega), _, _, rfl, rfl, big (by rw [b2, l1]; omega), _, rfl, t2, _, _, _, rfl, rfl, h2, z3, _, _, rfl, rfl, big (by rw [b3, lsd]; omega), D, _, _, rfl, rfl, hA2, small1000 (by omega), ?_⟩⟩
        have s2 := add_upd (o := .lst (sv ((wd (headW h) :: Step.linesAll (st.take i)).map (tl ld ++ ·)) ++ [V.str ((((ld ++ ("tunnel " : Str)) ++ Str.ofString (toString ((most : Nat) : Int))) ++ (" " : Str)) ++ WP.twS tw)])) hD s1
        have kp := put_keepT (o := .lst (sv ((wd (headW h) :: Step.linesAll (st.take i)).map (tl ld ++ ·)) ++ [V.str ((((ld ++ ("tunnel " : Str)) ++ Str.ofString (toString ((most : Nat) : Int))) ++ (" " : Str)) ++ WP.twS tw)])) hA2
        have hwi2 := hwi.keep kp
        have h22 := kp.tup h2'
        have hA3 : upd G' D (.lst (sv ((wd (headW h) :: Step.linesAll (st.take i)).map (tl ld ++ ·)) ++ [V.str ((((ld ++ ("tunnel " : Str)) ++ Str.ofString (toString ((most : Nat) : Int))) ++ (" " : Str)) ++ WP.twS tw)])) D = some (.lst (sv (((wd (headW h) :: Step.linesAll (st.take i)) ++ [wd (plainW (.tunnel wi most tw))]).map (tl ld ++ ·)))) := by
          rw [upd_same, List.map_append, sv_app, S_of a4]
          show some (HO.lst (_ ++ [_])) = some (HO.lst (_ ++ [V.str (TX.S (tl ld ++ wd (plainW (.tunnel wi most tw))))]))
          unfold wd plainW joinL joinL joinL
          simp
        generalize upd G' D (.lst (sv ((wd (headW h) :: Step.linesAll (st.take i)).map (tl ld ++ ·)) ++ [V.str ((((ld ++ ("tunnel " : Str)) ++ Str.ofString (toString ((most : Nat) : Int))) ++ (" " : Str)) ++ WP.twS tw)])) = G2 at s2 hwi2 h22 hA3 ⊢
        have la3 : (wd (headW h) :: Step.linesAll (st.take i) ++ [wd (plainW (.tunnel wi most tw))]).length ≤ 82 := by
          rw [List.length_append, List.length_singleton]
          omega
        refine ⟨_, rfl, _, rfl, t2, _, _, _, rfl, rfl, SqT.of h22, z1, _, rfl, _, _, rfl, rfl, ?_, ?_⟩
        · exact big (by rw [show ("  " : Str).length = 2 from by rw [len_tl, k_ind, tl_S]; rfl]; omega)
        have lo2 : ("  " : Str).length = 2 := by rw [len_tl, k_ind, tl_S]; rfl
        have ldl : (ld ++ ("  " : Str)).length = ld.length + 2 := by
          rw [len_tl, tl_append, List.length_append, ← len_tl, ← len_tl, lo2]
        refine ⟨v2, wi, ld ++ ("  " : Str), rfl, hwi2, fi.1, di2, by rw [ldl]; omega, fun D2 G3 s3 n2 e2 => ?_⟩
        refine ⟨D, D2, _, _, rfl, rfl, s3 _ _ hA3, e2, ?_, fun D3 n3 => ?_⟩
        · have := (lines_len fi.1).2
          refine big ?_
          rw [sv_len, sv_len, List.length_map, List.length_map]
          omega
        · refine ⟨(s2.trans s3).trans (of_upd n3), D3, _, (s2.trans s3).free n3, ?_, rfl⟩
          have e : (wd (headW h) :: Step.linesAll (st.take (i + 1))).map (tl ld ++ ·) = ((wd (headW h) :: Step.linesAll (st.take i)) ++ [wd (plainW (.tunnel wi most tw))]).map (tl ld ++ ·) ++ (Way.lines wi).map (tl (ld ++ ("  " : Str)) ++ ·) := by
            rw [et, lines_app]
            unfold Step.lines
            rw [show wd (headW h) :: (Step.linesAll (st.take i) ++ wd (plainW (.tunnel wi most tw)) :: (Way.lines wi).map ([32, 32] ++ ·)) = (wd (headW h) :: Step.linesAll (st.take i) ++ [wd (plainW (.tunnel wi most tw))]) ++ (Way.lines wi).map ([32, 32] ++ ·) by simp, List.map_append, List.map_map]
            refine congrArg _ (List.map_congr_left fun l _ => ?_)
            show tl ld ++ ([32, 32] ++ l) = tl (ld ++ ("  " : Str)) ++ l
            rw [tl_append, k_ind, tl_S, List.append_assoc]
          rw [upd_same, e, sv_app]
    · rintro σ G ⟨s1, D, q3, hD, hA2, rfl⟩
      rw [lx, List.take_length] at hA2
      refine ⟨_, rfl, kk D G s1 hD ?_⟩
      unfold Way.lines
      exact hA2
end
end CP

end
section
set_option autoImplicit false
set_option Elab.async false
set_option linter.all false
set_option maxRecDepth 100000
set_option maxHeartbeats 4000000
/-! ## a reader on the heap -/
namespace CP
open PySem L2 G Y
open TL TX
def outM : Option (Nat × M.TW) → V
  | none => .non
  | some (m, _) => .int (m : Int)
def outT : Option (Nat × M.TW) → V
  | none => .non
  | some (_, t) => .str (WP.twS t)
def hdV : Option Nat → V
  | none => .non
  | some h => .int (h : Int)
theorem nkb : ¬ (("most" : Str) = "tells") ∧ ¬ (("most" : Str) = "head") ∧ ¬ (("most" : Str) = "steps") ∧ ¬ (("tells" : Str) = "head") ∧ ¬ (("tells" : Str) = "steps") ∧ ¬ (("head" : Str) = "steps") ∧ ¬ (("_begun" : Str) = "_size") := by decide +kernel
def bf (o : Option (Nat × M.TW)) (h : V) (s : Addr) : List (Str × V) := putF "steps" (.ref s) (putF "head" h (putF "tells" (outT o) (putF "most" (outM o) [])))
def rf (b : Addr) (n : Int) : List (Str × V) := putF "_size" (.int n) (putF "_begun" (.ref b) [])
theorem bf_eq (o : Option (Nat × M.TW)) (h : V) (s : Addr) : bf o h s = ([(("most" : Str), outM o), (("tells" : Str), outT o), (("head" : Str), h), (("steps" : Str), V.ref s)] : List (Str × V)) := by
  unfold bf
  simp [putF, nkb.1, nkb.2.1, nkb.2.2.1, nkb.2.2.2.1, nkb.2.2.2.2.1, nkb.2.2.2.2.2.1]
theorem rf_eq (b : Addr) (n : Int) : rf b n = ([(("_begun" : Str), V.ref b), (("_size" : Str), V.int n)] : List (Str × V)) := by
  unfold rf
  simp [putF, nkb.2.2.2.2.2.2]
theorem bf_head (o : Option (Nat × M.TW)) (h g : V) (s : Addr) : putF "head" g (bf o h s) = bf o g s := by
  rw [bf_eq, bf_eq]
  simp [putF, nkb.2.1, nkb.2.2.2.1]
theorem rf_size (b : Addr) (n m : Int) : putF "_size" (.int m) (rf b n) = rf b m := by
  rw [rf_eq, rf_eq]
  simp [putF, nkb.2.2.2.2.2.2]
theorem bf_look {o : Option (Nat × M.TW)} {h : V} {s : Addr} : (bf o h s).lookup ("most" : Str) = some (outM o) ∧ (bf o h s).lookup ("tells" : Str) = some (outT o) ∧ (bf o h s).lookup ("head" : Str) = some h ∧ (bf o h s).lookup ("steps" : Str) = some (.ref s) := by
  unfold bf
  refine ⟨?_, ?_, ?_, ?_⟩
  · rw [lookup_putF, if_neg nkb.2.2.1, lookup_putF, if_neg nkb.2.1, lookup_putF, if_neg nkb.1, lookup_putF, if_pos rfl]
  · rw [lookup_putF, if_neg nkb.2.2.2.2.1, lookup_putF, if_neg nkb.2.2.2.1, lookup_putF, if_pos rfl]
  · rw [lookup_putF, if_neg nkb.2.2.2.2.2.1, lookup_putF, if_pos rfl]
  · rw [lookup_putF, if_pos rfl]
theorem rf_look {b : Addr} {n : Int} : (rf b n).lookup ("_begun" : Str) = some (.ref b) ∧ (rf b n).lookup ("_size" : Str) = some (.int n) := by
  unfold rf
  refine ⟨?_, ?_⟩
  · rw [lookup_putF, if_neg nkb.2.2.2.2.2.2, lookup_putF, if_pos rfl]
  · rw [lookup_putF, if_pos rfl]
theorem rf_no {b : Addr} {n : Int} {m : Str} (h1 : ¬ m = "_begun") (h2 : ¬ m = "_size") : (rf b n).lookup m = none := by
  unfold rf
  rw [lookup_putF, if_neg h2, lookup_putF, if_neg h1]
  rfl
theorem bf_len (o : Option (Nat × M.TW)) (h : V) (s : Addr) : (bf o h s).length < 1000 := by
  rw [bf_eq]
  show 4 < 1000
  decide
theorem rf_len (b : Addr) (n : Int) : (rf b n).length < 1000 := by
  rw [rf_eq]
  show 2 < 1000
  decide
/-- all but lists and readers' objects stays -/
def KeepW (CB CR : Addr) (H H' : Hp) : Prop := ∀ a o, (∀ xs, o ≠ .lst xs) → (∀ dx fs, o ≠ .ins CB dx fs) → (∀ dx fs, o ≠ .ins CR dx fs) → H a = some o → H' a = some o
section
variable {CW CB CR : Addr}
theorem KeepW.tup {H H' : Hp} {t : Addr} {xs : List V} (k : KeepW CB CR H H') (h : H t = some (.tup xs)) : H' t = some (.tup xs) := k _ _ (fun _ z => by cases z) (fun _ _ z => by cases z) (fun _ _ z => by cases z) h
theorem KeepW.trans {H H1 H2 : Hp} (a : KeepW CB CR H H1) (b : KeepW CB CR H1 H2) : KeepW CB CR H H2 := fun x o n1 n2 n3 e => b x o n1 n2 n3 (a x o n1 n2 n3 e)
theorem keepW_same {H H' : Hp} (s : Same H H') : KeepW CB CR H H' := fun a o _ _ _ e => s a o e
theorem keepW_lst {H : Hp} {l : Addr} {xs : List V} {o : HO} (h : H l = some (.lst xs)) : KeepW CB CR H (upd H l o) := fun a u n _ _ e => by
  rw [upd_ne]
  · exact e
  · intro z
    rw [z, h] at e
    cases e
    exact n _ rfl
theorem keepW_b {H : Hp} {a dx : Addr} {fs : List (Str × V)} {o : HO} (h : H a = some (.ins CB dx fs)) : KeepW CB CR H (upd H a o) := fun b u _ n _ e => by
  rw [upd_ne]
  · exact e
  · intro z
    rw [z, h] at e
    cases e
    exact n _ _ rfl
theorem keepW_r {H : Hp} {a dx : Addr} {fs : List (Str × V)} {o : HO} (h : H a = some (.ins CR dx fs)) : KeepW CB CR H (upd H a o) := fun b u _ _ n e => by
  rw [upd_ne]
  · exact e
  · intro z
    rw [z, h] at e
    cases e
    exact n _ _ rfl
mutual
theorem way_keepW (n1 : CW ≠ CB) (n2 : CW ≠ CR) {H H' : Hp} (s : KeepW CB CR H H') : ∀ {w : M.Way} {a : Addr}, WP.WayAt CW H w a → WP.WayAt CW H' w a
  | .mk h st, a, x => by
    unfold WP.WayAt at x ⊢
    obtain ⟨dx, t, xs, h1, h2, h3⟩ := x
    exact ⟨dx, t, xs, s _ _ (fun _ z => by cases z) (fun _ _ z => by cases z; exact n1 rfl) (fun _ _ z => by cases z; exact n2 rfl) h1, s.tup h2, steps_keepW n1 n2 s h3⟩
theorem steps_keepW (n1 : CW ≠ CB) (n2 : CW ≠ CR) {H H' : Hp} (s : KeepW CB CR H H') : ∀ {st : List M.Step} {xs : List V}, WP.StepsAt CW H st xs → WP.StepsAt CW H' st xs
  | [], xs, x => by
    unfold WP.StepsAt at x ⊢
    exact x
  | y :: r, xs, x => by
    unfold WP.StepsAt at x ⊢
    obtain ⟨u, ys, e, h1, h2⟩ := x
    exact ⟨u, ys, e, step_keepW n1 n2 s h1, steps_keepW n1 n2 s h2⟩
theorem step_keepW (n1 : CW ≠ CB) (n2 : CW ≠ CR) {H H' : Hp} (s : KeepW CB CR H H') : ∀ {st : M.Step} {x : V}, WP.StepAt CW H st x → WP.StepAt CW H' st x
  | .road size ts lw, v, x => by
    unfold WP.StepAt at x ⊢
    obtain ⟨t, e, h⟩ := x
    exact ⟨t, e, s.tup h⟩
  | .join most, v, x => by
    unfold WP.StepAt at x ⊢
    obtain ⟨t, e, h⟩ := x
    exact ⟨t, e, s.tup h⟩
  | .tunnel w most tw, v, x => by
    unfold WP.StepAt at x ⊢
    obtain ⟨t, a, e, h, h2⟩ := x
    exact ⟨t, a, e, s.tup h, way_keepW n1 n2 s h2⟩
end
/-- a way that is begun, at a; its steps' list at s -/
structure FrAt (CB CW : Addr) (H : Hp) (f : Fr) (a s : Addr) : Prop where
  ex : ∃ dx xs, H a = some (.ins CB dx (bf f.out (hdV f.head) s)) ∧ H s = some (.lst xs) ∧ WP.StepsAt CW H f.steps xs
/-- the stack, its top first -/
def StkAt (CB CW : Addr) (H : Hp) : List Fr → List (Addr × Addr) → Prop
  | [], ps => ps = []
  | f :: r, ps => ∃ p qs, ps = p :: qs ∧ FrAt CB CW H f p.1 p.2 ∧ StkAt CB CW H r qs
theorem FrAt.move (n1 : CW ≠ CB) (n2 : CW ≠ CR) {H H' : Hp} {f : Fr} {a s : Addr} (k : KeepW CB CR H H') (e1 : H' a = H a) (e2 : H' s = H s) (h : FrAt CB CW H f a s) : FrAt CB CW H' f a s := by
  obtain ⟨dx, xs, h1, h2, h3⟩ := h.ex
  exact ⟨dx, xs, e1.trans h1, e2.trans h2, steps_keepW n1 n2 k h3⟩
theorem StkAt.move (n1 : CW ≠ CB) (n2 : CW ≠ CR) {H H' : Hp} (k : KeepW CB CR H H') : ∀ {st : List Fr} {ps : List (Addr × Addr)}, (∀ p ∈ ps, H' p.1 = H p.1 ∧ H' p.2 = H p.2) → StkAt CB CW H st ps → StkAt CB CW H' st ps
  | [], ps, _, h => h
  | f :: r, ps, e, h => by
    obtain ⟨p, qs, rfl, h1, h2⟩ := h
    have a := e p List.mem_cons_self
    exact ⟨p, qs, rfl, h1.move n1 n2 k a.1 a.2, StkAt.move n1 n2 k (fun q hq => e q (List.mem_cons_of_mem _ hq)) h2⟩
theorem FrAt.same {H H' : Hp} {f : Fr} {a s : Addr} (k : Same H H') (h : FrAt CB CW H f a s) : FrAt CB CW H' f a s := by
  obtain ⟨dx, xs, h1, h2, h3⟩ := h.ex
  exact ⟨dx, xs, k _ _ h1, k _ _ h2, h3.mono k⟩
theorem StkAt.same {H H' : Hp} (k : Same H H') : ∀ {st : List Fr} {ps : List (Addr × Addr)}, StkAt CB CW H st ps → StkAt CB CW H' st ps
  | [], ps, h => h
  | f :: r, ps, h => by
    obtain ⟨p, qs, rfl, h1, h2⟩ := h
    exact ⟨p, qs, rfl, h1.same k, h2.same k⟩
theorem StkAt.len {H : Hp} : ∀ {st : List Fr} {ps : List (Addr × Addr)}, StkAt CB CW H st ps → ps.length = st.length
  | [], ps, h => by
    have e : ps = [] := h
    rw [e]
    rfl
  | f :: r, ps, h => by
    obtain ⟨p, qs, rfl, h1, h2⟩ := h
    rw [List.length_cons, List.length_cons, h2.len]
/-- what the reader's list holds: the stack from the bottom -/
def bgV (ps : List (Addr × Addr)) : List V := (ps.map fun p => V.ref p.1).reverse
/-- a reader at x with its parts -/
structure RdP (CR CB CW : Addr) (H0 H : Hp) (st : List Fr) (n : Nat) (x dx b : Addr) (ps : List (Addr × Addr)) : Prop where
  hx : H x = some (.ins CR dx (rf b (n : Int)))
  hb : H b = some (.lst (bgV ps))
  stk : StkAt CB CW H st ps
  nd : (b :: ps.map Prod.snd).Nodup
  nf : (x :: ps.map Prod.fst).Nodup
  fx : H0 x = none
  fb : H0 b = none
  fp : ∀ p ∈ ps, H0 p.1 = none ∧ H0 p.2 = none
  sm : Same H0 H
def RdAt (CR CB CW : Addr) (H0 H : Hp) (st : List Fr) (n : Nat) (x : Addr) : Prop := ∃ dx b ps, RdP CR CB CW H0 H st n x dx b ps
theorem RdP.same {H0 H H' : Hp} {st : List Fr} {n : Nat} {x dx b : Addr} {ps : List (Addr × Addr)} (k : Same H H') (h : RdP CR CB CW H0 H st n x dx b ps) : RdP CR CB CW H0 H' st n x dx b ps :=
  ⟨k _ _ h.hx, k _ _ h.hb, h.stk.same k, h.nd, h.nf, h.fx, h.fb, h.fp, h.sm.trans k⟩
theorem RdAt.same {H0 H H' : Hp} {st : List Fr} {n : Nat} {x : Addr} (k : Same H H') (h : RdAt CR CB CW H0 H st n x) : RdAt CR CB CW H0 H' st n x := by
  obtain ⟨dx, b, ps, h⟩ := h
  exact ⟨dx, b, ps, h.same k⟩
theorem bg_len (ps : List (Addr × Addr)) : (bgV ps).length = ps.length := by
  unfold bgV
  rw [List.length_reverse, List.length_map]
theorem bg_cons (p : Addr × Addr) (ps : List (Addr × Addr)) : bgV (p :: ps) = bgV ps ++ [.ref p.1] := by
  unfold bgV
  rw [List.map_cons, List.reverse_cons]
/-- the stack's top, read at [-1] -/
theorem bg_top (p : Addr × Addr) (ps : List (Addr × Addr)) : atI (bgV (p :: ps)) (-1) = some (.ref p.1) := by
  rw [bg_cons]
  exact atI_last _ _
/-- the addresses of a reader's parts are told apart by their kinds -/
theorem RdP.apart {H0 H : Hp} {st : List Fr} {n : Nat} {x dx b : Addr} {ps : List (Addr × Addr)} (h : RdP CR CB CW H0 H st n x dx b ps) : b ≠ x ∧ ∀ p ∈ ps, p.1 ≠ b ∧ p.2 ≠ x ∧ p.2 ≠ b ∧ p.1 ≠ x ∧ ∀ q ∈ ps, p.1 ≠ q.2 := by
  have kd : ∀ {st : List Fr} {ps : List (Addr × Addr)}, StkAt CB CW H st ps → ∀ p ∈ ps, (∃ dx fs, H p.1 = some (.ins CB dx fs)) ∧ ∃ xs, H p.2 = some (.lst xs) := fun {st} => by
    induction st with
    | nil =>
      intro ps h p hp
      have e : ps = [] := h
      rw [e] at hp
      cases hp
    | cons f r ih =>
      intro ps h p hp
      obtain ⟨q, qs, rfl, h1, h2⟩ := h
      rcases List.mem_cons.mp hp with e | e
      · rw [e]
        obtain ⟨dx, xs, a1, a2, _⟩ := h1.ex
        exact ⟨⟨_, _, a1⟩, _, a2⟩
      · exact ih h2 p e
  refine ⟨fun z => ?_, fun p hp => ?_⟩
  · have := h.hb
    rw [z, h.hx] at this
    cases this
  · obtain ⟨⟨d1, f1, e1⟩, xs, e2⟩ := kd h.stk p hp
    refine ⟨fun z => ?_, fun z => ?_, fun z => ?_, fun z => ?_, fun q hq z => ?_⟩
    · rw [z, h.hb] at e1
      cases e1
    · rw [z, h.hx] at e2
      cases e2
    · exact (List.nodup_cons.mp h.nd).1 (z ▸ List.mem_map.mpr ⟨p, hp, rfl⟩)
    · exact (List.nodup_cons.mp h.nf).1 (z ▸ List.mem_map.mpr ⟨p, hp, rfl⟩)
    · obtain ⟨_, ys, e3⟩ := kd h.stk q hq
      rw [z, e3] at e1
      cases e1
end
end CP

end
section
set_option autoImplicit false
set_option Elab.async false
set_option linter.all false
set_option maxRecDepth 100000
set_option maxHeartbeats 4000000
/-! ## written_integer, _step; a reader's parts -/
namespace TX
open PySem hiding Step
open TL M
theorem num_first (n : Nat) : 1 ≤ n → ∃ c r, numL n = c :: r ∧ c ≠ 48 := by
  induction n using Nat.strongRecOn with
  | _ n ih =>
    intro h
    by_cases h2 : n < 10
    · rw [numL_lt h2]
      exact ⟨_, _, rfl, by omega⟩
    · obtain ⟨c, r, e, nc⟩ := ih (n / 10) (by omega) (by omega)
      rw [numL_step (by omega), e]
      exact ⟨c, _, rfl, nc⟩
theorem drop_rep : ∀ (k : Nat) (c : List Nat), (List.replicate k 32 ++ c).drop k = c
  | 0, c => rfl
  | k + 1, c => drop_rep k c
theorem strip_ind {x : Str} {k : Nat} {c : List Nat} (h : tl x = List.replicate k 32 ++ c) (hc : ∀ d r, c = d :: r → d ≠ 32) : Txt.lstripChars x (" " : Str) = S c := by
  refine S_of ?_
  unfold Txt.lstripChars
  rw [PyProof.Rows.stripBy_eq]
  have e1 : stripLo (" " : Str).cps.contains true x = k := by
    show (if true then (x.cps.toList.takeWhile _).length else 0) = k
    rw [if_pos rfl, show x.cps.toList = List.replicate k 32 ++ c from h]
    have g32 : (" " : Str).cps.contains 32 = true := by decide +kernel
    have gn : ∀ d : Nat, d ≠ 32 → (" " : Str).cps.contains d = false := fun d hd => by
      rw [show (" " : Str).cps = #[32] by decide +kernel]
      simp [hd]
    generalize (" " : Str).cps.contains = g at g32 gn
    have key : ∀ k : Nat, ((List.replicate k 32 ++ c).takeWhile g).length = k := fun k => by
      induction k with
      | zero =>
        cases c with
        | nil => rfl
        | cons d r =>
          show ((d :: r).takeWhile g).length = 0
          rw [List.takeWhile_cons, gn d (hc d r rfl)]
          rfl
      | succ k ih =>
        show ((32 :: (List.replicate k 32 ++ c)).takeWhile g).length = k + 1
        rw [List.takeWhile_cons, g32]
        show ((List.replicate k 32 ++ c).takeWhile g).length + 1 = k + 1
        rw [ih]
    exact key k
  rw [e1]
  show tl (Builtin.Str.strSub x k (stripHi _ false x k)) = c
  have e2 : ∀ g, stripHi g false x k = x.length := fun g => rfl
  rw [e2, tl_strSub_end, h]
  exact drop_rep k c
/-- what is left behind an indentation -/
theorem cut_ind {x : Str} {k : Nat} {c : List Nat} (h : tl x = List.replicate k 32 ++ c) : L2.cutS x (some (k : Int)) none = S c := by
  refine S_of ?_
  have hl : x.length = k + c.length := by rw [len_tl, h]; simp
  show ((tl x).drop (HT.sIx x.length 0 (some (k : Int)))).take (HT.sIx x.length x.length none - HT.sIx x.length 0 (some (k : Int))) = c
  rw [HT.sIx_nat, HT.sIx_none, h, Nat.min_eq_left (by omega), drop_rep]
  exact List.take_of_length_le (by omega)
end TX
namespace CP
open PySem L2 G Y
open TL TX
abbrev sWritten : Stmt := S.top 5
def rSg : R2 := fun x y H Q => ∃ (c : Nat) (z : Str), x = .str ⟨#[c]⟩ ∧ y = .str z ∧ Q (.bl (decide (c ∈ z.cps.toList))) H
theorem op_sg {X : Cx} : OpR X (compareOp .In) rSg := op_in_sign
theorem dig_in {c : Nat} (h : 48 ≤ c ∧ c ≤ 57) : decide (c ∈ ("0123456789" : Str).cps.toList) = true := by
  rw [show ("0123456789" : Str).cps.toList = [48, 49, 50, 51, 52, 53, 54, 55, 56, 57] by decide +kernel]
  simp only [List.mem_cons, List.mem_nil_iff, or_false]
  exact decide_eq_true (by omega)
section
variable {P : Program} {w : World} {K : PySem.W.Frag} {mg : Str → Option Value} {base : Heap} {C CW : Addr}
def spWritten : Sp := fun vs H Q _ => ∃ (x : Str) (n : Nat), vs = [.str x] ∧ tl x = numL n ∧ 1 ≤ n ∧ n ≤ 1000000000000 ∧ ∀ H', Same H H' → Q (.int (n : Int)) H'
abbrev NWr : List Str := ["word", "digit"]
theorem scWr : FnScope NWr ["word"] (defScope sWritten) := ⟨rfl, rfl, rfl, by decide +kernel, rfl, by decide +kernel, by decide +kernel⟩
theorem ok_written {f : Addr} {fd : FuncData} (F : Fun K "written_integer" "written_integer" sWritten f fd) (B : Bn mg) (hall : mg "all" = none) (gD : ∃ t, mg "DIGITS" = some (.str "0123456789" t)) (gM : ∃ t, mg "MOST_DIGITS" = some (.int 60 t)) : FnOk P w K mg base CX0 1 f fd ["word"] spWritten := by
  obtain ⟨tD, gD⟩ := gD
  obtain ⟨tM, gM⟩ := gM
  refine F.ok scWr (fun vs H Q E h => ?_) (fun cdv A outer s H vs Q E hr h => ?_)
  · obtain ⟨x, n, rfl, _⟩ := h
    rfl
  · obtain ⟨x, n, rfl, hx, h1, h2, kk⟩ := h
    refine ⟨_, pss_cons (ps_if (PW.pt (pw_or (pt_not (pt_chain op_le op_le (pe_int) (pe_callB call_len_str (by rfl) B.len PySem.boot_len (pa_cons (pv 0) pa_nil)) (pe_glob (v := .int 60) rfl gM ⟨_, rfl⟩))) (pw_or1 (pt_not (pt_val (pe_callB (cr_all rfl) (by rfl) hall (by decide +kernel) (pa_cons (pe_lc (own := [("digit", 1)]) (g := gName 1) (tt := tYes) (te := tOp rSg (tVar 1) (tC (.str "0123456789"))) rfl scWr.nd (pi_str (pv 0)) (blkOk_by (N := NWr) (sc := defScope sWritten) (by decide +kernel))
          (fun _ _ _ _ _ => by exact pg_name (i := 1) scWr.nd rfl (Or.inl rfl)) (fun _ _ _ _ _ => pts_nil) (fun _ _ _ _ _ => by exact pe_cmpR (op_sg) (pv 1) (pe_glob (v := .str "0123456789") rfl gD ⟨_, rfl⟩) (by rfl))) pa_nil))))))) (pss_one (ps_ret (pe_non))) (pss_nil))
      (pss_cons (ps_if (PW.pt (pw_and (pt_cmpR (op_eq) (pe_ix ix_str (pv 0) (pe_int) (fun _ _ => rfl)) (pe_str) (nomark _)) (pw_and1 (pt_cmpR (op_gt) (pe_callB call_len_str (by rfl) B.len PySem.boot_len (pa_cons (pv 0) pa_nil)) (pe_int) (nomark _))))) (pss_one (ps_ret (pe_non))) (pss_nil))
      (pss_one (ps_ret (pe_callTy call_int_str (by rfl) B.int (by decide +kernel) (pa_cons (pv 0) pa_nil))))), ?_⟩
    have wn := wd_num h2
    have lx : x.length = (numL n).length := by rw [len_tl, hx]
    have l13 := wn.len
    have l1 : 1 ≤ (numL n).length := List.length_pos_iff.mpr wn.ne
    have big : x.length ≤ sizeLine := Nat.le_of_lt (small1000 (by omega))
    refine ⟨_, rfl, x, rfl, big, _, _, rfl, rfl, _, rfl, ?_⟩
    rw [decide_eq_true (show (1 : Int) ≤ ((x.length : Nat) : Int) by omega)]
    refine iteT ⟨_, _, rfl, rfl, _, rfl, ?_⟩
    rw [decide_eq_true (show ((x.length : Nat) : Int) ≤ 60 by omega)]
    refine iteF ?_
    refine ⟨_, rfl, x, rfl, fun D hD => ?_⟩
    have cx : x.cps.size = (numL n).length := lx
    have gt : ∀ {i c : Nat}, x.cps[i]? = some c → c ∈ numL n := fun {i c} e => by
      rw [← hx]
      exact List.mem_of_getElem? (i := i) (by rw [Array.getElem?_toList]; exact e)
    refine lc_it walk_str (fun i G => Same H G ∧ G D = some (.lst ((List.replicate i true).map V.bl))) ⟨of_upd hD, upd_same⟩ (fun i G _ z => trivial) ?_ ?_
    · rintro i v G G' hi ⟨s1, e1⟩ ⟨rfl, c, hc, rfl⟩
      have dg := numL_digits n c (gt hc)
      refine ⟨rfl, _, rfl, c, _, rfl, rfl, ?_⟩
      rw [dig_in dg]
      refine ⟨_, e1, small1000 (by rw [List.length_map, List.length_replicate]; omega), add_upd hD s1, ?_⟩
      rw [upd_same, ← List.replicate_append_replicate (n := i) (m := 1), List.map_append]
      rfl
    · rintro G ⟨s1, e1⟩
      refine ⟨D, _, rfl, SqL.of e1, ?_⟩
      rw [show (List.replicate x.cps.size true).all id = true by simp]
      refine ⟨_, rfl, iteF ?_⟩
      obtain ⟨c0, r0, e0, n0⟩ := num_first n h1
      have t0 : x.cps.toList = c0 :: r0 := hx.trans e0
      refine ⟨_, rfl, x, _, c0, rfl, rfl, big, by rw [t0]; exact atI_nat (xs := c0 :: r0) (j := 0) rfl, rfl, _, rfl, ?_⟩
      refine iteN (fun z => n0 ?_) ?_
      · have z := V.str.inj z
        have e : tl (⟨#[c0]⟩ : Str) = tl ("0" : Str) := congrArg tl z
        rw [show tl ("0" : Str) = [48] by decide +kernel] at e
        exact (List.cons.inj e).1
      · refine iteF ?_
        refine ⟨_, rfl, x, (n : Int), rfl, ?_, by omega, kk G s1⟩
        rw [show x = Str.ofString (toString ((n : Nat) : Int)) from ext_tl (by rw [hx, t_num])]
        exact int_num (by omega)
end
end CP

end
section
set_option autoImplicit false
set_option Elab.async false
set_option linter.all false
set_option maxRecDepth 100000
set_option maxHeartbeats 4000000
/-! ## _step; BegunWay, Reader: made; a reader's methods -/
namespace CP
open PySem L2 G Y
open TL TX
abbrev sTStep : Stmt := S.top 40
abbrev sBInit : Stmt := inClass (S.top 38) 0
abbrev sRInit : Stmt := inClass (S.top 39) 0
abbrev sRWhole : Stmt := inClass (S.top 39) 2
abbrev sRLevel : Stmt := inClass (S.top 39) 4
/-- the class BegunWay -/
structure Bt (K : PySem.W.Frag) (mg : Str → Option Value) (C : Addr) : Prop where
  g : mg "BegunWay" = some (.ref C)
  cl : Cls K C
  nM : NoAttr K C "most"
  nT : NoAttr K C "tells"
  nH : NoAttr K C "head"
  nS : NoAttr K C "steps"
/-- the class Reader -/
structure Rt (K : PySem.W.Frag) (mg : Str → Option Value) (C : Addr) : Prop where
  g : mg "Reader" = some (.ref C)
  cl : Cls K C
  nB : NoAttr K C "_begun"
  nS : NoAttr K C "_size"
structure Mr (P : Program) (w : World) (K : PySem.W.Frag) (mg : Str → Option Value) (base : Heap) (C : Addr) (k : Nat) (m : Str) (ps : List Str) (sp : Sp) : Prop where
  ex : ∃ (f : Addr) (fd : FuncData), FnOk P w K mg base CX0 k f fd ps sp ∧ Meth K C m f ∧ Binds K fd ps []
structure Mn (P : Program) (w : World) (K : PySem.W.Frag) (mg : Str → Option Value) (base : Heap) (C : Addr) (k : Nat) (ps : List Str) (sp : Sp) : Prop where
  ex : ∃ (f : Addr) (fd : FuncData), FnOk P w K mg base CX0 k f fd ps sp ∧ L2.Mk K C f ∧ Binds K fd ps []
theorem at_k0 {y0 : V} {ys : List V} : atI (y0 :: ys) (0 : Int) = some y0 := by exact atI_nat (xs := y0 :: ys) (j := 0) rfl
theorem at_k1 {y0 y1 : V} {ys : List V} : atI (y0 :: y1 :: ys) (1 : Int) = some y1 := by exact atI_nat (xs := y0 :: y1 :: ys) (j := 1) rfl
theorem at_k2 {y0 y1 y2 : V} {ys : List V} : atI (y0 :: y1 :: y2 :: ys) (2 : Int) = some y2 := by exact atI_nat (xs := y0 :: y1 :: y2 :: ys) (j := 2) rfl
theorem at_k3 {y0 y1 y2 y3 : V} {ys : List V} : atI (y0 :: y1 :: y2 :: y3 :: ys) (3 : Int) = some y3 := by exact atI_nat (xs := y0 :: y1 :: y2 :: y3 :: ys) (j := 3) rfl
theorem S_ne {a b : List Nat} (h : a ≠ b) : ¬ V.str (TX.S a) = V.str (TX.S b) := fun z => h (S_inj (V.str.inj z))
section
variable {P : Program} {w : World} {K : PySem.W.Frag} {mg : Str → Option Value} {base : Heap} {CR CB CW : Addr}
def spTStep (CW : Addr) : Sp := fun vs H Q _ => ∃ (l : Addr) (h : Nat) (s : M.Step), vs = [.ref l, .int (h : Int)] ∧ H l = some (.lst (sv (plainW s))) ∧ ¬ isTun s ∧ s.fine h ∧ ∀ t H', Same H H' → WP.StepAt CW H' s (.ref t) → Q (.ref t) H'
theorem scTs : FnScope ["words", "head", "most", "size"] ["words", "head"] (defScope sTStep) := ⟨rfl, rfl, rfl, by decide +kernel, rfl, by decide +kernel, by decide +kernel⟩
theorem ok_tstep {f : Addr} {fd : FuncData} (F : Fun K "_step" "_step" sTStep f fd) (B : Bn mg) (DW : Df P w K mg base 1 "written_integer" ["word"] spWritten) (DM : Df P w K mg base 3 "is_most" ["value"] (WP.spIn1 1 1000000000000)) (DR : Df P w K mg base 3 "is_road" ["size", "sealed", "loose", "least"] WP.spRoad) : FnOk P w K mg base CX0 4 f fd ["words", "head"] (spTStep CW) := by
  obtain ⟨fW, fdW, GW, gW, kW, bW⟩ := DW.ex
  obtain ⟨fM, fdM, GM, gM, kM, bM⟩ := DM.ex
  obtain ⟨fR, fdR, GR, gR, kR, bR⟩ := DR.ex
  refine F.ok scTs (fun vs H Q E h => ?_) (fun cdv A outer s H vs Q E hr h => ?_)
  · obtain ⟨l, h, s, rfl, _⟩ := h
    rfl
  · obtain ⟨l, h, st, rfl, hl, hn, hf, kk⟩ := h
    refine ⟨_, pss_cons (ps_if (PW.pt (pw_and (pt_cmpR (op_eq) (pe_ix ix_list (pv 0) (pe_int) (fun _ _ => rfl)) (pe_str) (nomark _)) (pw_and1 (pt_cmpR (op_eq) (pe_callB call_len_seq (by rfl) B.len PySem.boot_len (pa_cons (pv 0) pa_nil)) (pe_int) (nomark _))))) (pss_cons (ps_set (i := 2) scTs.nd rfl (Or.inl rfl) (pe_call GW (hr.mono (by omega)) rfl gW kW bW .nil pass0 (pa_cons (pe_ix ix_list (pv 0) (pe_int) (fun _ _ => rfl)) pa_nil)))
      (pss_one (ps_ret (pe_ifExp (pt_val (pe_call GM (hr.mono (by omega)) rfl gM kM bM .nil pass0 (pa_cons (pv 2) pa_nil))) (pe_tup (pa_cons (pe_str) (pa_cons (pv 2) pa_nil))) (pe_non))))) (pss_nil))
      (pss_cons (ps_if (PW.pt (pw_and (pt_cmpR (op_eq) (pe_ix ix_list (pv 0) (pe_int) (fun _ _ => rfl)) (pe_str) (nomark _)) (pw_and1 (pt_cmpR (op_eq) (pe_callB call_len_seq (by rfl) B.len PySem.boot_len (pa_cons (pv 0) pa_nil)) (pe_int) (nomark _))))) (pss_cons (ps_set (i := 3) scTs.nd rfl (Or.inl rfl) (pe_call GW (hr.mono (by omega)) rfl gW kW bW .nil pass0 (pa_cons (pe_ix ix_list (pv 0) (pe_int) (fun _ _ => rfl)) pa_nil)))
      (pss_one (ps_ret (pe_ifExp (pt_val (pe_call GR (hr.mono (by omega)) rfl gR kR bR .nil pass0 (pa_cons (pv 3) (pa_cons (pe_ix ix_list (pv 0) (pe_int) (fun _ _ => rfl)) (pa_cons (pe_ix ix_list (pv 0) (pe_int) (fun _ _ => rfl)) (pa_cons (pe_op (op_add) (pv 1) (pe_int)) pa_nil)))))) (pe_tup (pa_cons (pe_str) (pa_cons (pv 3) (pa_cons (pe_ix ix_list (pv 0) (pe_int) (fun _ _ => rfl)) (pa_cons (pe_ix ix_list (pv 0) (pe_int) (fun _ _ => rfl)) pa_nil))))) (pe_non))))) (pss_nil))
      (pss_one (ps_ret (pe_non)))), ?_⟩
    have hq := SqL.of (K := K) hl
    cases st with
    | road size ts lw =>
      unfold M.Step.fine at hf
      refine ⟨_, rfl, l, _, _, _, rfl, rfl, hq, at_k0, rfl, _, rfl, ?_⟩
      rw [k_join]
      refine iteN (S_ne (by decide)) (iteF ?_)
      refine ⟨_, rfl, l, _, _, _, rfl, rfl, hq, at_k0, rfl, _, rfl, ?_⟩
      rw [k_road]
      refine iteP rfl ⟨_, rfl, l, _, rfl, .inl hq, rfl, _, rfl, iteP rfl ?_⟩
      refine set_then (i := 3) ⟨_, rfl, l, _, _, _, rfl, rfl, hq, at_k1, TX.S (numL size), size, rfl, tl_S _, by omega, by omega, fun H1 s1 => ?_⟩
      have hq1 := SqL.of (K := K) (s1 _ _ hl)
      refine ⟨_, rfl, _, rfl, l, _, _, _, rfl, rfl, hq1, at_k2, _, rfl, l, _, _, _, rfl, rfl, hq1, at_k3, _, rfl, _, _, rfl, rfl, size, (h : Int) + 1, ts, lw, ?_, by omega, by omega, _, rfl, ?_⟩
      · rw [k_sd, k_lw]
        rfl
      refine iteT ⟨_, rfl, _, rfl, l, _, _, _, rfl, rfl, hq1, at_k2, _, rfl, l, _, _, _, rfl, rfl, hq1, at_k3, (by show 4 ≤ sizeLine; decide), fun t ht => ?_⟩
      refine kk t _ (s1.trans (of_upd ht)) ?_
      unfold WP.StepAt
      refine ⟨t, rfl, ?_⟩
      rw [k_sd, k_lw]
      exact upd_same
    | join most =>
      unfold M.Step.fine at hf
      refine ⟨_, rfl, l, _, _, _, rfl, rfl, hq, at_k0, rfl, _, rfl, ?_⟩
      rw [k_join]
      refine iteP rfl ⟨_, rfl, l, _, rfl, .inl hq, rfl, _, rfl, iteP rfl ?_⟩
      refine set_then (i := 2) ⟨_, rfl, l, _, _, _, rfl, rfl, hq, at_k1, TX.S (numL most), most, rfl, tl_S _, by omega, by omega, fun H1 s1 => ?_⟩
      refine ⟨_, rfl, (most : Int), rfl, _, rfl, ?_⟩
      rw [decide_eq_true (by omega)]
      refine iteT ⟨_, rfl, line2.1, fun t ht => ?_⟩
      refine kk t _ (s1.trans (of_upd ht)) ?_
      unfold WP.StepAt
      exact ⟨t, rfl, upd_same⟩
    | tunnel w m t => exact absurd trivial hn
/-- BegunWay.__init__ at a new instance -/
def spBInit (CB CW : Addr) : Sp := fun vs H Q _ => ∃ (x dx : Addr) (o : Option (Nat × M.TW)) (H0 : Hp), vs = [.ref x, outM o, outT o] ∧ H x = some (.ins CB dx []) ∧ H0 x = none ∧ Same H0 H ∧
  ∀ s H', Same H0 H' → H0 s = none → FrAt CB CW H' ⟨o, none, []⟩ x s → Q .non H'
theorem scBi : FnScope ["self", "most", "tells"] ["self", "most", "tells"] (defScope sBInit) := ⟨rfl, rfl, rfl, by decide +kernel, rfl, by decide +kernel, by decide +kernel⟩
theorem ok_binit {f : Addr} {fd : FuncData} (F : Fun K "__init__" "BegunWay.__init__" sBInit f fd) (T : Bt K mg CB) : FnOk P w K mg base CX0 1 f fd ["self", "most", "tells"] (spBInit CB CW) := by
  refine F.ok scBi (fun vs H Q E h => ?_) (fun cdv A outer s H vs Q E hr h => ?_)
  · obtain ⟨x, dx, o, H0, rfl, _⟩ := h
    rfl
  · obtain ⟨x, dx, o, H0, rfl, hx, hx0, s0, kk⟩ := h
    refine ⟨_, pss_cons (ps_fld (pv 0) (pv 1) rfl)
      (pss_cons (ps_fld (pv 0) (pv 2) rfl)
      (pss_cons (ps_fld (pv 0) (pe_non) rfl)
      (pss_one (ps_fld (pv 0) (pe_lst pa_nil) rfl)))), ?_⟩
    have g0 : ([] : List (Str × V)).length < 996 := by decide
    refine ⟨_, rfl, _, rfl, x, CB, dx, _, rfl, hx, T.cl, T.nM, by decide, ?_⟩
    refine ⟨_, rfl, _, rfl, x, CB, dx, _, rfl, upd_same, T.cl, T.nT, Nat.lt_of_lt_of_le (len_put g0) (by decide), ?_⟩
    refine ⟨_, rfl, x, CB, dx, _, rfl, upd_same, T.cl, T.nH, Nat.lt_of_lt_of_le (len_put (len_put g0)) (by decide), ?_⟩
    refine ⟨line2.2.2.2, fun s hs => ?_⟩
    have hxs : x ≠ s := fun z => by
      rw [← z, upd_same] at hs
      cases hs
    refine ⟨_, rfl, x, CB, dx, _, rfl, by rw [upd_ne hxs]; exact upd_same, T.cl, T.nS, Nat.lt_of_lt_of_le (len_put (len_put (len_put g0))) (by decide), ?_⟩
    have q1 := add_upd (o := .ins CB dx (putF "most" (outM o) [])) hx0 s0
    have q2 := add_upd (o := .ins CB dx (putF "tells" (outT o) (putF "most" (outM o) []))) hx0 q1
    have q3 := add_upd (o := .ins CB dx (putF "head" .non (putF "tells" (outT o) (putF "most" (outM o) [])))) hx0 q2
    have hs0 : H0 s = none := q3.free hs
    have q4 := q3.trans (of_upd (o := .lst []) hs)
    refine kk s _ (add_upd hx0 q4) hs0 ⟨dx, [], upd_same, ?_, ?_⟩
    · rw [upd_ne hxs.symm]
      exact upd_same
    · unfold WP.StepsAt
      rfl
/-- Reader.__init__ at a new instance -/
def spRInit (CR CB CW : Addr) : Sp := fun vs H Q _ => ∃ (x dx : Addr) (H0 : Hp), vs = [.ref x] ∧ H x = some (.ins CR dx []) ∧ H0 x = none ∧ Same H0 H ∧
  ∀ H', RdAt CR CB CW H0 H' [⟨none, none, []⟩] 0 x → Q .non H'
theorem scRi : FnScope ["self"] ["self"] (defScope sRInit) := ⟨rfl, rfl, rfl, by decide +kernel, rfl, by decide +kernel, by decide +kernel⟩
theorem ok_rinit {f : Addr} {fd : FuncData} (F : Fun K "__init__" "Reader.__init__" sRInit f fd) (T : Rt K mg CR) (TB : Bt K mg CB) (MB : Mn P w K mg base CB 1 ["self", "most", "tells"] (spBInit CB CW)) : FnOk P w K mg base CX0 3 f fd ["self"] (spRInit CR CB CW) := by
  obtain ⟨fB, fdB, GB, MB, bB⟩ := MB.ex
  have gB := TB.g
  refine F.ok scRi (fun vs H Q E h => ?_) (fun cdv A outer s H vs Q E hr h => ?_)
  · obtain ⟨x, dx, H0, rfl, _⟩ := h
    rfl
  · obtain ⟨x, dx, H0, rfl, hx, hx0, s0, kk⟩ := h
    refine ⟨_, pss_cons (ps_fld (pv 0) (pe_lst (pa_cons (pe_make MB GB (hr.mono (by omega)) rfl gB bB .nil pass0 (pa_cons (pe_non) (pa_cons (pe_non) pa_nil))) pa_nil)) rfl)
      (pss_one (ps_fld (pv 0) (pe_int) rfl)), ?_⟩
    intro a dxa ha hdxa nea
    refine ⟨a, dxa, none, H, rfl, upd_same, ha, (of_upd hdxa).trans (of_upd (by rw [upd_ne nea.symm]; exact ha)), fun s1 H1 g1 hs wa => ⟨rfl, ?_⟩⟩
    refine ⟨line2.2.2.1, fun b hb => ?_⟩
    have hx1 := g1 _ _ hx
    have hxb : x ≠ b := fun z => by
      rw [z, hb] at hx1
      cases hx1
    refine ⟨_, rfl, x, CR, dx, _, rfl, by rw [upd_ne hxb]; exact hx1, T.cl, T.nB, by decide, ?_⟩
    refine ⟨_, rfl, x, CR, dx, _, rfl, upd_same, T.cl, T.nS, Nat.lt_of_lt_of_le (len_put (show ([] : List (Str × V)).length < 998 by decide)) (by decide), ?_⟩
    have xa : x ≠ a := fun z => by
      rw [z, ha] at hx
      cases hx
    obtain ⟨dxa, xs, w1, w2, w3⟩ := wa.ex
    have xs1 : x ≠ s1 := fun z => by
      rw [z, hs] at hx
      cases hx
    have ab : a ≠ b := fun z => by
      rw [z, hb] at w1
      cases w1
    have sb : s1 ≠ b := fun z => by
      rw [z, hb] at w2
      cases w2
    have e0 : xs = [] := by
      unfold WP.StepsAt at w3
      exact w3
    subst e0
    have sm := add_upd (o := .ins CR dx (rf b 0)) hx0 (add_upd (o := .ins CR dx (putF "_begun" (.ref b) [])) hx0 ((s0.trans g1).trans (of_upd (o := .lst [V.ref a]) hb)))
    refine kk _ ⟨dx, b, [(a, s1)], upd_same, ?_, ⟨(a, s1), [], rfl, ⟨dxa, [], ?_, ?_, by unfold WP.StepsAt; rfl⟩, rfl⟩, ?_, ?_, hx0, (s0.trans g1).free hb, ?_, sm⟩
    · rw [upd_ne hxb.symm, upd_ne hxb.symm]
      exact upd_same
    · rw [upd_ne xa.symm, upd_ne xa.symm, upd_ne ab]
      exact w1
    · rw [upd_ne xs1.symm, upd_ne xs1.symm, upd_ne sb]
      exact w2
    · exact List.nodup_cons.mpr ⟨fun z => sb (List.mem_singleton.mp z).symm, List.nodup_cons.mpr ⟨List.not_mem_nil, List.nodup_nil⟩⟩
    · exact List.nodup_cons.mpr ⟨fun z => xa (List.mem_singleton.mp z), List.nodup_cons.mpr ⟨List.not_mem_nil, List.nodup_nil⟩⟩
    · intro p hp
      rw [List.mem_singleton.mp hp]
      exact ⟨s0.free ha, s0.free hs⟩
/-! ### what is read of a reader -/
theorem rd_begun (T : Rt K mg CR) {σ : L2.St} {H0 H : Hp} {Q : VK} {st : List Fr} {n : Nat} {x dx b : Addr} {ps : List (Addr × Addr)} (h0 : σ[0]? = some (some (.ref x))) (h : RdP CR CB CW H0 H st n x dx b ps) (q : Q (.ref b) H) : tFld K (tVar 0) "_begun" σ H Q :=
  ⟨_, h0, x, CR, dx, _, _, rfl, h.hx, T.cl, T.nB, rf_look.1, q⟩
theorem rd_top (T : Rt K mg CR) {σ : L2.St} {H0 H : Hp} {Q : VK} {f : Fr} {r : List Fr} {n : Nat} {x dx b : Addr} {p : Addr × Addr} {ps : List (Addr × Addr)} (h0 : σ[0]? = some (some (.ref x))) (h : RdP CR CB CW H0 H (f :: r) n x dx b (p :: ps)) (q : Q (.ref p.1) H) :
    tOp (rIxL K) (tFld K (tVar 0) "_begun") (tUn (rU fun i => .int (-i)) (tC (.int 1))) σ H Q :=
  rd_begun T h0 h ⟨_, rfl, b, _, _, _, rfl, rfl, SqL.of h.hb, bg_top p ps, q⟩
theorem rd_len (T : Rt K mg CR) {σ : L2.St} {H0 H : Hp} {Q : VK} {st : List Fr} {n : Nat} {x dx b : Addr} {ps : List (Addr × Addr)} (h0 : σ[0]? = some (some (.ref x))) (h : RdP CR CB CW H0 H st n x dx b ps) (q : Q (.int ((st.length : Nat) : Int)) H) :
    tCB (fun zs H Q => ∃ p ys, zs = [.ref p] ∧ (SqL K H p ys ∨ SqT K H p ys) ∧ Q (.int ys.length) H) (tCons (tFld K (tVar 0) "_begun") tNil) σ H Q :=
  rd_begun T h0 h ⟨b, _, rfl, .inl (SqL.of h.hb), by rw [bg_len, h.stk.len]; exact q⟩
theorem stk_cons {H : Hp} {f : Fr} {r : List Fr} {ps : List (Addr × Addr)} (h : StkAt CB CW H (f :: r) ps) : ∃ p qs, ps = p :: qs ∧ FrAt CB CW H f p.1 p.2 ∧ StkAt CB CW H r qs := h
/-- Reader.is_whole -/
def spWhole (CR CB CW : Addr) : Sp := fun vs H Q _ => ∃ (x : Addr) (f : Fr) (r : List Fr) (n : Nat) (H0 : Hp), vs = [.ref x] ∧ RdAt CR CB CW H0 H (f :: r) n x ∧ Q (.bl (decide (0 < f.steps.length))) H
theorem scRw : FnScope ["self"] ["self"] (defScope sRWhole) := ⟨rfl, rfl, rfl, by decide +kernel, rfl, by decide +kernel, by decide +kernel⟩
theorem ok_whole {f : Addr} {fd : FuncData} (F : Fun K "is_whole" "Reader.is_whole" sRWhole f fd) (B : Bn mg) (T : Rt K mg CR) (TB : Bt K mg CB) : FnOk P w K mg base CX0 1 f fd ["self"] (spWhole CR CB CW) := by
  refine F.ok scRw (fun vs H Q E h => ?_) (fun cdv A outer s H vs Q E hr h => ?_)
  · obtain ⟨x, f, r, n, H0, rfl, _⟩ := h
    rfl
  · obtain ⟨x, f, r, n, H0, rfl, ⟨dx, b, ps, h⟩, k⟩ := h
    refine ⟨_, pss_one (ps_ret (pe_cmpR (op_gt) (pe_callB call_len_seq (by rfl) B.len PySem.boot_len (pa_cons (pe_fld (pe_ix ix_list (pe_fld (pv 0) rfl) (pe_un un_neg (pe_int)) (fun _ _ => rfl)) rfl) pa_nil)) (pe_int) (nomark _))), ?_⟩
    obtain ⟨p, qs, rfl, h1, h2⟩ := stk_cons h.stk
    obtain ⟨dxf, xs, w1, w2, w3⟩ := h1.ex
    refine rd_top T rfl h ⟨p.1, CB, dxf, _, _, rfl, w1, TB.cl, TB.nS, bf_look.2.2.2, p.2, xs, rfl, .inl (SqL.of w2), _, _, rfl, rfl, ?_⟩
    rw [w3.len]
    have e : decide ((0 : Int) < ((f.steps.length : Nat) : Int)) = decide (0 < f.steps.length) := decide_eq_decide.mpr (by omega)
    show Q (.bl (decide ((0 : Int) < ((f.steps.length : Nat) : Int)))) H
    rw [e]
    exact k
/-- Reader._level -/
def spLevel (CR CB CW : Addr) : Sp := fun vs H Q _ => ∃ (x : Addr) (l : Str) (f : Fr) (r : List Fr) (n lv : Nat) (c : List Nat) (H0 : Hp), vs = [.ref x, .str l] ∧ RdAt CR CB CW H0 H (f :: r) n x ∧ tl l = indL lv ++ c ∧ (∀ d q, c = d :: q → d ≠ 32) ∧ l.length ≤ 1000 ∧
  lv ≤ r.length ∧ (lv = r.length ∨ f.steps ≠ []) ∧ Q (.int (lv : Int)) H
theorem scRl : FnScope ["self", "line", "spaces", "level", "inmost"] ["self", "line"] (defScope sRLevel) := ⟨rfl, rfl, rfl, by decide +kernel, rfl, by decide +kernel, by decide +kernel⟩
theorem ok_level {f : Addr} {fd : FuncData} (F : Fun K "_level" "Reader._level" sRLevel f fd) (B : Bn mg) (T : Rt K mg CR) (gI : ∃ t, mg "INDENTATION" = some (.str "  " t)) (MW : Mr P w K mg base CR 1 "is_whole" ["self"] (spWhole CR CB CW)) : FnOk P w K mg base CX0 2 f fd ["self", "line"] (spLevel CR CB CW) := by
  obtain ⟨fW, fdW, GW, mW, bW⟩ := MW.ex
  obtain ⟨tI, gI⟩ := gI
  refine F.ok scRl (fun vs H Q E h => ?_) (fun cdv A outer s H vs Q E hr h => ?_)
  · obtain ⟨x, l, f, r, n, lv, c, H0, rfl, _⟩ := h
    rfl
  · obtain ⟨x, l, f, r, n, lv, c, H0, rfl, ⟨dx, b, ps, h⟩, hl, hc, l1, v1, v2, k⟩ := h
    refine ⟨_, pss_cons (ps_set (i := 2) scRl.nd rfl (Or.inl rfl) (pe_op (op_sub) (pe_callB call_len_str (by rfl) B.len PySem.boot_len (pa_cons (pv 1) pa_nil)) (pe_callB call_len_str (by rfl) B.len PySem.boot_len (pa_cons (pe_bm PySem.F.plainAttrs_str PySem.F.slot_str_lstrip PySem.F.type_str_lstrip mt_lstripChars (pv 1) (pa_cons (pe_str) pa_nil)) pa_nil))))
      (pss_cons (ps_set (i := 3) scRl.nd rfl (Or.inl rfl) (pe_op (op_fdiv) (pv 2) (pe_callB call_len_str (by rfl) B.len PySem.boot_len (pa_cons (pe_glob (v := .str "  ") rfl gI ⟨_, rfl⟩) pa_nil))))
      (pss_cons (ps_set (i := 4) scRl.nd rfl (Or.inl rfl) (pe_op (op_sub) (pe_callB call_len_seq (by rfl) B.len PySem.boot_len (pa_cons (pe_fld (pv 0) rfl) pa_nil)) (pe_int)))
      (pss_cons (ps_if (PW.pt (pw_or (pt_cmpR (op_ne) (pv 2) (pe_op (op_mul) (pv 3) (pe_callB call_len_str (by rfl) B.len PySem.boot_len (pa_cons (pe_glob (v := .str "  ") rfl gI ⟨_, rfl⟩) pa_nil))) (nomark _)) (pw_or1 (pt_cmpR (op_gt) (pv 3) (pv 4) (nomark _))))) (pss_one (ps_ret (pe_non))) (pss_nil))
      (pss_one (ps_ret (pe_ifExp (PW.pt (pw_or (pt_cmpR (op_eq) (pv 3) (pv 4) (nomark _)) (pw_or1 (pt_val (pe_meth0 (pv 0) T.cl mW GW (hr.mono (by omega)) bW .nil pass0))))) (pv 3) (pe_non))))))), ?_⟩
    have big : ∀ {n : Nat}, n ≤ 1000 → n ≤ sizeLine := fun h => Nat.le_of_lt (small1000 h)
    have ll : l.length = 2 * lv + c.length := by rw [len_tl, hl]; unfold indL; simp
    have lc : (TX.S c).length = c.length := S_len c
    have l2 : ("  " : Str).length = 2 := by rw [len_tl, k_ind, tl_S]; rfl
    refine set_then (i := 2) ⟨_, rfl, l, rfl, big l1, _, rfl, rfl, l, _, rfl, rfl, big l1, ?_⟩
    rw [strip_ind hl hc]
    refine ⟨_, rfl, by rw [lc]; exact big (by omega), _, _, rfl, rfl, ?_⟩
    dsimp only
    rw [lc, show ((l.length : Nat) : Int) - ((c.length : Nat) : Int) = ((2 * lv : Nat) : Int) by omega]
    refine set_then (i := 3) ⟨_, rfl, _, rfl, by decide +kernel, _, _, rfl, rfl, ?_, ?_⟩
    · rw [l2]
      exact ⟨by decide, by decide⟩
    dsimp only
    rw [l2, show ((2 * lv : Nat) : Int) / ((2 : Nat) : Int) = (lv : Int) by omega]
    have hst := h.stk
    obtain ⟨p, qs, rfl, g1, g2⟩ := stk_cons hst
    refine set_then (i := 4) (rd_len T rfl h ⟨_, _, rfl, rfl, ?_⟩)
    dsimp only
    rw [show (((f :: r).length : Nat) : Int) - 1 = ((r.length : Nat) : Int) by rw [List.length_cons]; omega]
    refine ⟨_, rfl, _, rfl, _, rfl, by decide +kernel, _, _, rfl, rfl, ?_, rfl, _, rfl, ?_⟩
    · exact .inl ⟨by omega, by omega⟩
    rw [l2]
    refine iteNS (congrArg V.int (show ((2 * lv : Nat) : Int) = (lv : Int) * ((2 : Nat) : Int) by omega)) ?_
    refine ⟨_, rfl, _, rfl, _, _, rfl, rfl, _, rfl, ?_⟩
    rw [decide_eq_false (show ¬ (lv : Int) > ((r.length : Nat) : Int) by omega)]
    refine iteF ⟨_, rfl, _, rfl, rfl, _, rfl, ite2 (fun c2 => ⟨_, rfl, k⟩) fun c2 => ?_⟩
    have ne : lv ≠ r.length := fun z => c2 (decide_eq_true (by rw [z]))
    rcases v2 with e | e
    · exact absurd e ne
    refine ⟨_, rfl, x, dx, _, rfl, h.hx, rf_no (by decide +kernel) (by decide +kernel), x, f, r, n, H0, rfl, ⟨dx, b, p :: qs, h⟩, _, rfl, ?_⟩
    rw [decide_eq_true (List.length_pos_iff.mpr e)]
    exact iteT ⟨_, rfl, k⟩
end
end CP

end
section
set_option autoImplicit false
set_option Elab.async false
set_option linter.all false
set_option maxRecDepth 100000
set_option maxHeartbeats 4000000
/-! ## a reader's methods that change it -/
namespace CP
open PySem L2 G Y
open TL TX
abbrev sRHead : Stmt := inClass (S.top 39) 5
abbrev sRTun : Stmt := inClass (S.top 39) 7
abbrev sREnd : Stmt := inClass (S.top 39) 8
section
variable {CR CB CW : Addr}
theorem frs_ne {H0 H : Hp} {st : List Fr} {n : Nat} {x dx b : Addr} {p : Addr × Addr} {ps : List (Addr × Addr)} (h : RdP CR CB CW H0 H st n x dx b (p :: ps)) : ∀ q ∈ ps, q.1 ≠ p.1 ∧ q.2 ≠ p.2 := fun q hq => by
  have a := List.nodup_cons.mp (List.nodup_cons.mp h.nf).2
  have c := List.nodup_cons.mp (List.nodup_cons.mp h.nd).2
  exact ⟨fun z => a.1 (z ▸ List.mem_map.mpr ⟨q, hq, rfl⟩), fun z => c.1 (z ▸ List.mem_map.mpr ⟨q, hq, rfl⟩)⟩
/-- the top's object is written -/
theorem rd_obj (n1 : CW ≠ CB) (n2 : CW ≠ CR) {H0 H : Hp} {f g : Fr} {r : List Fr} {n : Nat} {x dx b dxf : Addr} {p : Addr × Addr} {ps : List (Addr × Addr)} (h : RdP CR CB CW H0 H (f :: r) n x dx b (p :: ps)) (e : g.out = f.out) (e2 : g.steps = f.steps)
    (hp : ∃ fs, H p.1 = some (.ins CB dxf fs)) : RdP CR CB CW H0 (upd H p.1 (.ins CB dxf (bf g.out (hdV g.head) p.2))) (g :: r) n x dx b (p :: ps) := by
  obtain ⟨fs, hp⟩ := hp
  obtain ⟨a1, a2⟩ := h.apart
  obtain ⟨c1, c2, c3, c4, c5⟩ := a2 p List.mem_cons_self
  obtain ⟨p', qs, e0, g1, g2⟩ := stk_cons h.stk
  cases e0
  obtain ⟨dxg, xs, w1, w2, w3⟩ := g1.ex
  have kp : KeepW CB CR H (upd H p.1 (.ins CB dxf (bf g.out (hdV g.head) p.2))) := keepW_b hp
  refine ⟨by rw [upd_ne c4.symm]; exact h.hx, by rw [upd_ne c1.symm]; exact h.hb, ⟨p, ps, rfl, ⟨dxf, xs, upd_same, ?_, ?_⟩, g2.move n1 n2 kp fun q hq => ⟨upd_ne (frs_ne h q hq).1, upd_ne (c5 q (List.mem_cons_of_mem _ hq)).symm⟩⟩, h.nd, h.nf, h.fx, h.fb, h.fp, add_upd (h.fp p List.mem_cons_self).1 h.sm⟩
  · rw [upd_ne (c5 p List.mem_cons_self).symm]
    exact w2
  · rw [e2]
    exact steps_keepW n1 n2 kp w3
/-- a step behind the top's steps -/
theorem rd_put (n1 : CW ≠ CB) (n2 : CW ≠ CR) {H0 H : Hp} {f : Fr} {r : List Fr} {n : Nat} {x dx b : Addr} {p : Addr × Addr} {ps : List (Addr × Addr)} {xs : List V} {s : M.Step} {v : V} (h : RdP CR CB CW H0 H (f :: r) n x dx b (p :: ps)) (hl : H p.2 = some (.lst xs)) (hs : WP.StepAt CW H s v) :
    RdP CR CB CW H0 (upd H p.2 (.lst (xs ++ [v]))) ({ f with steps := f.steps ++ [s] } :: r) n x dx b (p :: ps) := by
  obtain ⟨a1, a2⟩ := h.apart
  obtain ⟨c1, c2, c3, c4, c5⟩ := a2 p List.mem_cons_self
  obtain ⟨p', qs, e0, g1, g2⟩ := stk_cons h.stk
  cases e0
  obtain ⟨dxg, ys, w1, w2, w3⟩ := g1.ex
  rw [hl] at w2
  cases w2
  have kp : KeepW CB CR H (upd H p.2 (.lst (xs ++ [v]))) := keepW_lst hl
  refine ⟨by rw [upd_ne c2.symm]; exact h.hx, by rw [upd_ne c3.symm]; exact h.hb, ⟨p, ps, rfl, ⟨dxg, xs ++ [v], ?_, upd_same, (steps_keepW n1 n2 kp w3).snoc (step_keepW n1 n2 kp hs)⟩, g2.move n1 n2 kp fun q hq => ⟨upd_ne ?_, upd_ne (frs_ne h q hq).2⟩⟩, h.nd, h.nf, h.fx, h.fb, h.fp, add_upd (h.fp p List.mem_cons_self).2 h.sm⟩
  · rw [upd_ne (c5 p List.mem_cons_self)]
    exact w1
  · exact (a2 q (List.mem_cons_of_mem _ hq)).2.2.2.2 p List.mem_cons_self
theorem rd_size (n1 : CW ≠ CB) (n2 : CW ≠ CR) {H0 H : Hp} {st : List Fr} {n m : Nat} {x dx b : Addr} {ps : List (Addr × Addr)} (h : RdP CR CB CW H0 H st n x dx b ps) : RdP CR CB CW H0 (upd H x (.ins CR dx (rf b (m : Int)))) st m x dx b ps := by
  obtain ⟨a1, a2⟩ := h.apart
  refine ⟨upd_same, by rw [upd_ne a1]; exact h.hb, h.stk.move n1 n2 (keepW_r h.hx) fun q hq => ⟨upd_ne (a2 q hq).2.2.2.1, upd_ne (a2 q hq).2.1⟩, h.nd, h.nf, h.fx, h.fb, h.fp, add_upd h.fx h.sm⟩
/-- a new way on the stack -/
theorem rd_push (n1 : CW ≠ CB) (n2 : CW ≠ CR) {H0 H : Hp} {st : List Fr} {g : Fr} {n : Nat} {x dx b a s : Addr} {ps : List (Addr × Addr)} (h : RdP CR CB CW H0 H st n x dx b ps) (hg : FrAt CB CW H g a s) (na : H0 a = none) (ns : H0 s = none)
    (fa : a ∉ ps.map Prod.fst) (fs : s ∉ ps.map Prod.snd) (hsb : s ≠ b) (hax : a ≠ x) : RdP CR CB CW H0 (upd H b (.lst (bgV ps ++ [.ref a]))) (g :: st) n x dx b ((a, s) :: ps) := by
  obtain ⟨a1, a2⟩ := h.apart
  obtain ⟨dxg, xs, w1, w2, w3⟩ := hg.ex
  have kp : KeepW CB CR H (upd H b (.lst (bgV ps ++ [.ref a]))) := keepW_lst h.hb
  have ab : a ≠ b := fun z => by rw [z, h.hb] at w1; cases w1
  have sx : s ≠ x := fun z => by rw [z, h.hx] at w2; cases w2
  have sb : s ≠ b := fun z => hsb z
  have ax : a ≠ x := fun z => hax z
  refine ⟨by rw [upd_ne a1.symm]; exact h.hx, by rw [upd_same, bg_cons], ⟨(a, s), ps, rfl, ⟨dxg, xs, by rw [upd_ne ab]; exact w1, by rw [upd_ne sb]; exact w2, steps_keepW n1 n2 kp w3⟩, h.stk.move n1 n2 kp fun q hq => ⟨upd_ne (a2 q hq).1, upd_ne (a2 q hq).2.2.1⟩⟩, ?_, ?_, h.fx, h.fb, fun q hq => ?_, add_upd h.fb h.sm⟩
  · have d := List.nodup_cons.mp h.nd
    refine List.nodup_cons.mpr ⟨fun z => ?_, List.nodup_cons.mpr ⟨fs, d.2⟩⟩
    rcases List.mem_cons.mp z with e | e
    · exact sb e.symm
    · exact d.1 e
  · have d := List.nodup_cons.mp h.nf
    refine List.nodup_cons.mpr ⟨fun z => ?_, List.nodup_cons.mpr ⟨fa, d.2⟩⟩
    rcases List.mem_cons.mp z with e | e
    · exact ax e.symm
    · exact d.1 e
  · rcases List.mem_cons.mp hq with e | e
    · rw [e]
      exact ⟨na, ns⟩
    · exact h.fp q e
theorem bg_last (p : Addr × Addr) (ps : List (Addr × Addr)) : (bgV (p :: ps))[(bgV (p :: ps)).length - 1]? = some (.ref p.1) ∧ (bgV (p :: ps)).dropLast = bgV ps := by
  rw [bg_cons]
  refine ⟨by simp, by simp⟩
theorem rd_pop (n1 : CW ≠ CB) (n2 : CW ≠ CR) {H0 H : Hp} {f : Fr} {r : List Fr} {n : Nat} {x dx b : Addr} {p : Addr × Addr} {ps : List (Addr × Addr)} (h : RdP CR CB CW H0 H (f :: r) n x dx b (p :: ps)) : RdP CR CB CW H0 (upd H b (.lst (bgV ps))) r n x dx b ps := by
  obtain ⟨a1, a2⟩ := h.apart
  obtain ⟨p', qs, e0, g1, g2⟩ := stk_cons h.stk
  cases e0
  have c := List.nodup_cons.mp h.nf
  have d := List.nodup_cons.mp h.nd
  refine ⟨by rw [upd_ne a1.symm]; exact h.hx, upd_same, g2.move n1 n2 (keepW_lst h.hb) fun q hq => ⟨upd_ne (a2 q (List.mem_cons_of_mem _ hq)).1, upd_ne (a2 q (List.mem_cons_of_mem _ hq)).2.2.1⟩, ?_, ?_, h.fx, h.fb, fun q hq => h.fp q (List.mem_cons_of_mem _ hq), add_upd h.fb h.sm⟩
  · exact List.nodup_cons.mpr ⟨fun z => d.1 (List.mem_cons_of_mem _ z), (List.nodup_cons.mp d.2).2⟩
  · exact List.nodup_cons.mpr ⟨fun z => c.1 (List.mem_cons_of_mem _ z), (List.nodup_cons.mp c.2).2⟩
end
section
variable {P : Program} {w : World} {K : PySem.W.Frag} {mg : Str → Option Value} {base : Heap} {CR CB CW : Addr}
def spTHead (CR CB CW : Addr) : Sp := fun vs H Q _ => ∃ (x l : Addr) (f : Fr) (r : List Fr) (n h : Nat) (H0 : Hp), vs = [.ref x, .ref l] ∧ RdAt CR CB CW H0 H (f :: r) n x ∧ H l = some (.lst (sv (headW h))) ∧ 1 ≤ h ∧ h ≤ 40 ∧ ∀ H', RdAt CR CB CW H0 H' ({ f with head := some h } :: r) n x → Q (.bl true) H'
theorem scRh : FnScope ["self", "words", "begun"] ["self", "words"] (defScope sRHead) := ⟨rfl, rfl, rfl, by decide +kernel, rfl, by decide +kernel, by decide +kernel⟩
theorem ok_thead (n1 : CW ≠ CB) (n2 : CW ≠ CR) {f : Addr} {fd : FuncData} (F : Fun K "_takes_head" "Reader._takes_head" sRHead f fd) (B : Bn mg) (T : Rt K mg CR) (TB : Bt K mg CB) (DW : Df P w K mg base 1 "written_integer" ["word"] spWritten) (DH : Df P w K mg base 3 "is_head" ["value"] (WP.spIn1 1 40)) : FnOk P w K mg base CX0 4 f fd ["self", "words"] (spTHead CR CB CW) := by
  obtain ⟨fW, fdW, GW, gW, kW, bW⟩ := DW.ex
  obtain ⟨fH, fdH, GH, gH, kH, bH⟩ := DH.ex
  refine F.ok scRh (fun vs H Q E h => ?_) (fun cdv A outer s H vs Q E hr h => ?_)
  · obtain ⟨x, l, f, r, n, h, H0, rfl, _⟩ := h
    rfl
  · obtain ⟨x, l, f, r, n, h, H0, rfl, ⟨dx, b, ps, hR⟩, hl, h1, h2, k⟩ := h
    refine ⟨_, pss_cons (ps_if (PW.pt (pw_or (pt_cmpR (op_ne) (pe_callB call_len_seq (by rfl) B.len PySem.boot_len (pa_cons (pv 1) pa_nil)) (pe_int) (nomark _)) (pw_or (pt_cmpR (op_ne) (pe_ix ix_list (pv 1) (pe_int) (fun _ _ => rfl)) (pe_str) (nomark _)) (pw_or1 (pt_not (pt_val (pe_call GH (hr.mono (by omega)) rfl gH kH bH .nil pass0 (pa_cons (pe_call GW (hr.mono (by omega)) rfl gW kW bW .nil pass0 (pa_cons (pe_ix ix_list (pv 1) (pe_int) (fun _ _ => rfl)) pa_nil)) pa_nil)))))))) (pss_one (ps_ret (pe_bl))) (pss_nil))
      (pss_cons (ps_set (i := 2) scRh.nd rfl (Or.inl rfl) (pe_ix ix_list (pe_fld (pv 0) rfl) (pe_un un_neg (pe_int)) (fun _ _ => rfl)))
      (pss_cons (ps_fld (pv 2) (pe_call GW (hr.mono (by omega)) rfl gW kW bW .nil pass0 (pa_cons (pe_ix ix_list (pv 1) (pe_int) (fun _ _ => rfl)) pa_nil)) rfl)
      (pss_one (ps_ret (pe_bl))))), ?_⟩
    have hq := SqL.of (K := K) hl
    refine ⟨_, rfl, l, _, rfl, .inl hq, rfl, _, rfl, iteNS rfl ?_⟩
    refine ⟨_, rfl, l, _, _, _, rfl, rfl, hq, at_k0, rfl, _, rfl, ?_⟩
    refine iteNS (congrArg V.str k_head.symm) ⟨_, rfl, l, _, _, _, rfl, rfl, hq, at_k1, TX.S (numL h), h, rfl, tl_S _, h1, by omega, fun H1 s1 => ?_⟩
    refine ⟨(h : Int), rfl, _, rfl, ?_⟩
    rw [decide_eq_true (by omega)]
    refine iteF ?_
    have hR1 := hR.same s1
    obtain ⟨p, qs, rfl, g1, g2⟩ := stk_cons hR1.stk
    refine set_then (i := 2) (rd_top T rfl hR1 ?_)
    refine ⟨_, rfl, l, _, _, _, rfl, rfl, SqL.of (K := K) (s1 _ _ hl), at_k1, TX.S (numL h), h, rfl, tl_S _, h1, by omega, fun H2 s2 => ?_⟩
    have hR2 := hR1.same s2
    obtain ⟨p', qs', e0, g1', g2'⟩ := stk_cons hR2.stk
    cases e0
    obtain ⟨dxf, xs, w1, w2, w3⟩ := g1'.ex
    refine ⟨_, rfl, p.1, CB, dxf, _, rfl, w1, TB.cl, TB.nH, bf_len _ _ _, ?_⟩
    rw [bf_head]
    exact k _ ⟨dx, b, p :: qs, rd_obj n1 n2 (g := { f with head := some h }) hR2 rfl rfl ⟨_, w1⟩⟩
/-- Reader._end_inner -/
def spREnd (CR CB CW : Addr) : Sp := fun vs H Q _ => ∃ (x : Addr) (c a : Fr) (r : List Fr) (n h m : Nat) (t : M.TW) (H0 : Hp), vs = [.ref x] ∧ RdAt CR CB CW H0 H (c :: a :: r) n x ∧ c.out = some (m, t) ∧ c.head = some h ∧ M.Way.fine (.mk h c.steps) ∧ a.steps.length ≤ 100 ∧
  ∀ H', RdAt CR CB CW H0 H' ({ a with steps := a.steps ++ [.tunnel (.mk h c.steps) m t] } :: r) n x → Q .non H'
theorem scRe : FnScope ["self", "inner", "around"] ["self"] (defScope sREnd) := ⟨rfl, rfl, rfl, by decide +kernel, rfl, by decide +kernel, by decide +kernel⟩
theorem ok_rend (n1 : CW ≠ CB) (n2 : CW ≠ CR) {f : Addr} {fd : FuncData} (F : Fun K "_end_inner" "Reader._end_inner" sREnd f fd) (T : Rt K mg CR) (TB : Bt K mg CB) (TW : WP.Wt K mg CW) (MW : WP.Mw P w K mg base CW) : FnOk P w K mg base CX0 8 f fd ["self"] (spREnd CR CB CW) := by
  obtain ⟨fI, fdI, GI, MI, bI⟩ := MW.ex
  have gI := TW.g
  refine F.ok scRe (fun vs H Q E h => ?_) (fun cdv A outer s H vs Q E hr h => ?_)
  · obtain ⟨x, c, a, r, n, h, m, t, H0, rfl, _⟩ := h
    rfl
  · obtain ⟨x, c, a, r, n, h, m, t, H0, rfl, ⟨dx, b, ps, hR⟩, e1, e2, hf, la, k⟩ := h
    refine ⟨_, pss_cons (ps_set (i := 1) scRe.nd rfl (Or.inl rfl) (pe_bm0 PySem.F.plainAttrs_list PySem.F.slot_list_pop PySem.F.type_list_pop mt_pop (pe_fld (pv 0) rfl)))
      (pss_cons (ps_set (i := 2) scRe.nd rfl (Or.inl rfl) (pe_ix ix_list (pe_fld (pv 0) rfl) (pe_un un_neg (pe_int)) (fun _ _ => rfl)))
      (pss_one (ps_expr (pe_bm PySem.F.plainAttrs_list PySem.F.slot_list_append PySem.F.type_list_append mt_append (pe_fld (pv 2) rfl) (pa_cons (pe_tup (pa_cons (pe_str) (pa_cons (pe_make MI GI (hr.mono (by omega)) rfl gI bI .nil pass0 (pa_cons (pe_fld (pv 1) rfl) (pa_cons (pe_fld (pv 1) rfl) pa_nil))) (pa_cons (pe_fld (pv 1) rfl) (pa_cons (pe_fld (pv 1) rfl) pa_nil))))) pa_nil))))), ?_⟩
    obtain ⟨p, qs, rfl, g1, g2⟩ := stk_cons hR.stk
    obtain ⟨p2, qs2, rfl, g3, g4⟩ := stk_cons g2
    obtain ⟨dxf, xs, w1, w2, w3⟩ := g1.ex
    obtain ⟨a1, a2⟩ := hR.apart
    obtain ⟨c1, c2, c3, c4, c5⟩ := a2 p List.mem_cons_self
    refine set_then (i := 1) (rd_begun T rfl hR ⟨.inl ⟨rfl, _, SqL.of hR.hb⟩, b, _, .ref p.1, rfl, rfl, hR.hb, (bg_last p _).1, ?_⟩)
    rw [(bg_last p _).2]
    have kp : KeepW CB CR H (upd H b (.lst (bgV (p2 :: qs2)))) := keepW_lst hR.hb
    have hP := rd_pop n1 n2 hR
    have v1 : upd H b (.lst (bgV (p2 :: qs2))) p.1 = some (.ins CB dxf (bf c.out (hdV c.head) p.2)) := by rw [upd_ne c1]; exact w1
    have v2 : upd H b (.lst (bgV (p2 :: qs2))) p.2 = some (.lst xs) := by rw [upd_ne c3]; exact w2
    have v3 := steps_keepW n1 n2 kp w3
    generalize upd H b (.lst (bgV (p2 :: qs2))) = H1 at hP v1 v2 v3 ⊢
    refine set_then (i := 2) (rd_top T rfl hP ?_)
    obtain ⟨p3, qs3, e3, g5, g6⟩ := stk_cons hP.stk
    cases e3
    obtain ⟨dx2, ys, u1, u2, u3⟩ := g5.ex
    rw [e1, e2] at v1
    refine ⟨_, rfl, p2.1, CB, dx2, _, _, rfl, u1, TB.cl, TB.nS, bf_look.2.2.2, .inl ⟨rfl, _, SqL.of u2⟩, ?_⟩
    refine ⟨_, rfl, p.1, CB, dxf, _, _, rfl, v1, TB.cl, TB.nH, bf_look.2.2.1, _, rfl, p.1, CB, dxf, _, _, rfl, v1, TB.cl, TB.nS, bf_look.2.2.2, ?_⟩
    intro y dy hy hdy ne
    refine ⟨y, p.2, dy, h, xs, c.steps, H1, rfl, upd_same, hy, (of_upd hdy).trans (of_upd (by rw [upd_ne ne.symm]; exact hy)), .inl v2, v3, hf, fun H2 s2 wa => ⟨rfl, ?_⟩⟩
    have v1' := s2 _ _ v1
    refine ⟨_, rfl, p.1, CB, dxf, _, _, rfl, v1', TB.cl, TB.nM, bf_look.1, _, rfl, p.1, CB, dxf, _, _, rfl, v1', TB.cl, TB.nT, bf_look.2.1, (by show 4 ≤ sizeLine; decide), fun u hu => ?_⟩
    have s3 := s2.trans (of_upd (o := .tup [.str "tunnel", .ref y, .int (m : Int), .str (WP.twS t)]) hu)
    have hS : WP.StepAt CW (upd H2 u (.tup [.str "tunnel", .ref y, .int (m : Int), .str (WP.twS t)])) (.tunnel (.mk h c.steps) m t) (.ref u) := by
      unfold WP.StepAt
      exact ⟨u, y, rfl, upd_same, wa.mono (of_upd hu)⟩
    refine ⟨p2.2, ys, _, rfl, rfl, s3 _ _ u2, small1000 (by rw [u3.len]; omega), ?_⟩
    exact k _ ⟨dx, b, p2 :: qs2, rd_put n1 n2 (hP.same s3) (s3 _ _ u2) hS⟩
/-- Reader._takes_tunnel -/
def spRTun (CR CB CW : Addr) : Sp := fun vs H Q _ => ∃ (x l : Addr) (st : List Fr) (n m : Nat) (t : M.TW) (H0 : Hp), vs = [.ref x, .ref l] ∧ RdAt CR CB CW H0 H st n x ∧ H l = some (.lst (sv [cTun, numL m, TX.tw t])) ∧ 1 ≤ m ∧ m ≤ 1000000000000 ∧ st.length ≤ 2 ∧ n < 40 ∧
  ∀ H', RdAt CR CB CW H0 H' (⟨some (m, t), none, []⟩ :: st) n x → Q (.bl true) H'
theorem scRu : FnScope ["self", "words"] ["self", "words"] (defScope sRTun) := ⟨rfl, rfl, rfl, by decide +kernel, rfl, by decide +kernel, by decide +kernel⟩
theorem ok_rtun (n1 : CW ≠ CB) (n2 : CW ≠ CR) {f : Addr} {fd : FuncData} (F : Fun K "_takes_tunnel" "Reader._takes_tunnel" sRTun f fd) (B : Bn mg) (T : Rt K mg CR) (TB : Bt K mg CB) (TW : WP.Wt K mg CW) (DW : Df P w K mg base 1 "written_integer" ["word"] spWritten) (DM : Df P w K mg base 3 "is_most" ["value"] (WP.spIn1 1 1000000000000)) (DT : Df P w K mg base 1 "is_tells" ["value"] WP.spTells) (MB : Mn P w K mg base CB 1 ["self", "most", "tells"] (spBInit CB CW)) : FnOk P w K mg base CX0 4 f fd ["self", "words"] (spRTun CR CB CW) := by
  obtain ⟨fW, fdW, GW, gW, kW, bW⟩ := DW.ex
  obtain ⟨fM, fdM, GM, gM, kM, bM⟩ := DM.ex
  obtain ⟨fT, fdT, GT, gT, kT, bT⟩ := DT.ex
  obtain ⟨fB, fdB, GB, MB, bB⟩ := MB.ex
  have gB := TB.g
  obtain ⟨t1, q1⟩ := TW.gDepth
  obtain ⟨t2, q2⟩ := TW.gSize
  refine F.ok scRu (fun vs H Q E h => ?_) (fun cdv A outer s H vs Q E hr h => ?_)
  · obtain ⟨x, l, st, n, m, t, H0, rfl, _⟩ := h
    rfl
  · obtain ⟨x, l, st, n, m, t, H0, rfl, ⟨dx, b, ps, hR⟩, hl, h1, h2, hd, hn, k⟩ := h
    refine ⟨_, pss_cons (ps_if (PW.pt (pw_or (pt_cmpR (op_ne) (pe_callB call_len_seq (by rfl) B.len PySem.boot_len (pa_cons (pv 1) pa_nil)) (pe_int) (nomark _)) (pw_or (pt_not (pt_val (pe_call GM (hr.mono (by omega)) rfl gM kM bM .nil pass0 (pa_cons (pe_call GW (hr.mono (by omega)) rfl gW kW bW .nil pass0 (pa_cons (pe_ix ix_list (pv 1) (pe_int) (fun _ _ => rfl)) pa_nil)) pa_nil)))) (pw_or1 (pt_not (pt_val (pe_call GT (hr.mono (by omega)) rfl gT kT bT .nil pass0 (pa_cons (pe_ix ix_list (pv 1) (pe_int) (fun _ _ => rfl)) pa_nil)))))))) (pss_one (ps_ret (pe_bl))) (pss_nil))
      (pss_cons (ps_expr (pe_bm PySem.F.plainAttrs_list PySem.F.slot_list_append PySem.F.type_list_append mt_append (pe_fld (pv 0) rfl) (pa_cons (pe_make MB GB (hr.mono (by omega)) rfl gB bB .nil pass0 (pa_cons (pe_call GW (hr.mono (by omega)) rfl gW kW bW .nil pass0 (pa_cons (pe_ix ix_list (pv 1) (pe_int) (fun _ _ => rfl)) pa_nil)) (pa_cons (pe_ix ix_list (pv 1) (pe_int) (fun _ _ => rfl)) pa_nil))) pa_nil)))
      (pss_one (ps_ret (pe_and (pe_cmpR (op_le) (pe_callB call_len_seq (by rfl) B.len PySem.boot_len (pa_cons (pe_fld (pv 0) rfl) pa_nil)) (pe_glob (v := .int 3) rfl q1 ⟨_, rfl⟩) (nomark _)) (pe_one (pe_cmpR (op_lt) (pe_fld (pv 0) rfl) (pe_glob (v := .int 40) rfl q2 ⟨_, rfl⟩) (nomark _))))))), ?_⟩
    have hq := SqL.of (K := K) hl
    refine ⟨_, rfl, l, _, rfl, .inl hq, rfl, _, rfl, iteNS rfl ?_⟩
    refine ⟨_, rfl, l, _, _, _, rfl, rfl, hq, at_k1, TX.S (numL m), m, rfl, tl_S _, h1, by omega, fun H1 s1 => ?_⟩
    refine ⟨(m : Int), rfl, _, rfl, ?_⟩
    rw [decide_eq_true (by omega)]
    refine iteF ?_
    refine ⟨_, rfl, l, _, _, _, rfl, rfl, SqL.of (s1 _ _ hl), at_k2, t, ?_, _, rfl, iteF ?_⟩
    · rw [k_tw]
      rfl
    have hR1 := hR.same s1
    refine ⟨_, rfl, x, CR, dx, _, _, rfl, hR1.hx, T.cl, T.nB, rf_look.1, .inl ⟨rfl, _, SqL.of hR1.hb⟩, ?_⟩
    refine ⟨_, rfl, l, _, _, _, rfl, rfl, SqL.of (s1 _ _ hl), at_k1, TX.S (numL m), m, rfl, tl_S _, h1, by omega, fun H2 s2 => ?_⟩
    have s12 := s1.trans s2
    refine ⟨_, rfl, l, _, _, _, rfl, rfl, SqL.of (s12 _ _ hl), at_k2, ?_⟩
    intro a dxa ha hdxa nea
    refine ⟨a, dxa, some (m, t), H2, ?_, upd_same, ha, (of_upd hdxa).trans (of_upd (by rw [upd_ne nea.symm]; exact ha)), fun s1' H3 g1 hs wa => ⟨rfl, ?_⟩⟩
    · show _ = [V.ref a, .int (m : Int), .str (WP.twS t)]
      rw [k_tw]
      rfl
    have hR2 := hR.same s12
    have hR3 := hR2.same g1
    have nin : ∀ {y : Addr}, H2 y = none → ∀ p ∈ ps, p.1 ≠ y ∧ p.2 ≠ y := fun {y} hy p hp => by
      have kd : ∀ {st : List Fr} {ps : List (Addr × Addr)}, StkAt CB CW H2 st ps → ∀ p ∈ ps, p.1 ≠ y ∧ p.2 ≠ y := fun {st} => by
        induction st with
        | nil =>
          intro ps h p hp
          have e : ps = [] := h
          rw [e] at hp
          cases hp
        | cons f r ih =>
          intro ps h p hp
          obtain ⟨q, qs, rfl, h1, h2⟩ := h
          rcases List.mem_cons.mp hp with e | e
          · rw [e]
            obtain ⟨dx, xs, a1, a2, _⟩ := h1.ex
            exact ⟨(fun z => by rw [z, hy] at a1; cases a1), (fun z => by rw [z, hy] at a2; cases a2)⟩
          · exact ih h2 p e
      exact kd hR2.stk p hp
    have ll := hR3.stk.len
    refine ⟨b, _, _, rfl, rfl, hR3.hb, small1000 (by rw [bg_len]; omega), ?_⟩
    have hR4 := rd_push n1 n2 hR3 wa (hR2.sm.free ha) (hR2.sm.free hs) (fun z => by
      obtain ⟨p, hp, e⟩ := List.mem_map.mp z
      exact (nin ha p hp).1 e) (fun z => by
      obtain ⟨p, hp, e⟩ := List.mem_map.mp z
      exact (nin hs p hp).2 e) (fun z => by
      have := hR2.hb
      rw [← z, hs] at this
      cases this) (fun z => by
      have := hR2.hx
      rw [← z, ha] at this
      cases this)
    generalize upd H3 b (.lst (bgV ps ++ [V.ref a])) = H4 at hR4 ⊢
    refine ⟨_, rfl, x, CR, dx, _, _, rfl, hR4.hx, T.cl, T.nB, rf_look.1, b, _, rfl, .inl (SqL.of hR4.hb), _, _, rfl, rfl, _, rfl, ?_⟩
    rw [decide_eq_true (show (((bgV ((a, s1') :: ps)).length : Nat) : Int) ≤ 3 by rw [bg_len, List.length_cons]; omega)]
    refine iteT ⟨_, rfl, x, CR, dx, _, _, rfl, hR4.hx, T.cl, T.nS, rf_look.2, _, _, rfl, rfl, ?_⟩
    show Q (.bl (decide ((n : Int) < 40))) H4
    rw [decide_eq_true (by omega)]
    exact k H4 ⟨dx, b, _, hR4⟩
end
end CP

end
section
set_option autoImplicit false
set_option Elab.async false
set_option linter.all false
set_option maxRecDepth 100000
set_option maxHeartbeats 4000000
/-! ## a line is taken; the way that was read -/
namespace TX
theorem Closes.le {lv : Nat} {st st' : List Fr} (c : Closes lv st st') : lv + 1 ≤ st.length := by
  induction c with
  | done h => omega
  | close h _ _ _ _ ih =>
    rw [List.length_cons, List.length_cons] at h ⊢
    omega
theorem Closes.few {lv : Nat} {g f : Fr} {r r2 : List Fr} (c : Closes lv (g :: r) (f :: r2)) (h : f.steps.length ≤ 12) : g.steps.length ≤ 12 := by
  cases c with
  | done _ => omega
  | close _ _ _ hf _ =>
    unfold M.Way.fine at hf
    exact hf.2.1.2
end TX
namespace CP
open PySem L2 G Y
open TL TX
abbrev sRStep : Stmt := inClass (S.top 39) 6
abbrev sRTakes : Stmt := inClass (S.top 39) 1
abbrev sRWay : Stmt := inClass (S.top 39) 3
section
variable {CR CB CW : Addr}
/-- something more that stays -/
theorem RdAt.more {H0 H : Hp} {st : List Fr} {n : Nat} {x l : Addr} {o : HO} (h : RdAt CR CB CW H0 H st n x) (hl : H l = none) : RdAt CR CB CW (upd H0 l o) (upd H l o) st n x := by
  obtain ⟨dx, b, ps, h⟩ := h
  have kd : ∀ {st : List Fr} {ps : List (Addr × Addr)}, StkAt CB CW H st ps → ∀ p ∈ ps, p.1 ≠ l ∧ p.2 ≠ l := fun {st} => by
    induction st with
    | nil =>
      intro ps h p hp
      have e : ps = [] := h
      rw [e] at hp
      cases hp
    | cons f r ih =>
      intro ps h p hp
      obtain ⟨q, qs, rfl, h1, h2⟩ := h
      rcases List.mem_cons.mp hp with e | e
      · rw [e]
        obtain ⟨dx, xs, a1, a2, _⟩ := h1.ex
        exact ⟨(fun z => by rw [z, hl] at a1; cases a1), (fun z => by rw [z, hl] at a2; cases a2)⟩
      · exact ih h2 p e
  have k := kd h.stk
  have xl : x ≠ l := fun z => by
    have := h.hx
    rw [z, hl] at this
    cases this
  have bl : b ≠ l := fun z => by
    have := h.hb
    rw [z, hl] at this
    cases this
  have s := of_upd (o := o) hl
  refine ⟨dx, b, ps, s _ _ h.hx, s _ _ h.hb, h.stk.same s, h.nd, h.nf, by rw [upd_ne xl]; exact h.fx, by rw [upd_ne bl]; exact h.fb, fun p hp => ⟨by rw [upd_ne (k p hp).1]; exact (h.fp p hp).1, by rw [upd_ne (k p hp).2]; exact (h.fp p hp).2⟩, fun a u e => ?_⟩
  by_cases z : a = l
  · subst z
    rw [upd_same] at e ⊢
    exact e
  · rw [upd_ne z] at e ⊢
    exact h.sm a u e
theorem RdAt.less {H0 H1 H : Hp} {st : List Fr} {n : Nat} {x : Addr} (s : Same H0 H1) (h : RdAt CR CB CW H1 H st n x) : RdAt CR CB CW H0 H st n x := by
  obtain ⟨dx, b, ps, h⟩ := h
  exact ⟨dx, b, ps, h.hx, h.hb, h.stk, h.nd, h.nf, s.free h.fx, s.free h.fb, fun p hp => ⟨s.free (h.fp p hp).1, s.free (h.fp p hp).2⟩, s.trans h.sm⟩
theorem RdAt.sm {H0 H : Hp} {st : List Fr} {n : Nat} {x : Addr} (h : RdAt CR CB CW H0 H st n x) : Same H0 H := by
  obtain ⟨dx, b, ps, h⟩ := h
  exact h.sm
theorem RdAt.ins {H0 H : Hp} {st : List Fr} {n : Nat} {x : Addr} (h : RdAt CR CB CW H0 H st n x) : ∃ dx b, H x = some (.ins CR dx (rf b (n : Int))) := by
  obtain ⟨dx, b, ps, h⟩ := h
  exact ⟨dx, b, h.hx⟩
end
section
variable {P : Program} {w : World} {K : PySem.W.Frag} {mg : Str → Option Value} {base : Heap} {CR CB CW : Addr}
def spRStep (CR CB CW : Addr) : Sp := fun vs H Q _ => ∃ (x l : Addr) (f : Fr) (r : List Fr) (n : Nat) (li : Li) (H0 : Hp), vs = [.ref x, .ref l] ∧ RdAt CR CB CW H0 H (f :: r) n x ∧ H l = some (.lst (sv (liW li))) ∧ H0 l = some (.lst (sv (liW li))) ∧ f.steps.length < 12 ∧
  ((∃ s h, li = .plain s ∧ f.head = some h ∧ ¬ isTun s ∧ s.fine h ∧ n < 40 ∧ ∀ H', RdAt CR CB CW H0 H' ({ f with steps := f.steps ++ [s] } :: r) (n + 1) x → Q (.bl true) H') ∨
   (∃ m t, li = .tun m t ∧ 1 ≤ m ∧ m ≤ 1000000000000 ∧ n + 1 < 40 ∧ r.length + 2 ≤ 3 ∧ ∀ H', RdAt CR CB CW H0 H' (⟨some (m, t), none, []⟩ :: f :: r) (n + 1) x → Q (.bl true) H'))
theorem scRs : FnScope ["self", "words", "begun", "step"] ["self", "words"] (defScope sRStep) := ⟨rfl, rfl, rfl, by decide +kernel, rfl, by decide +kernel, by decide +kernel⟩
theorem ok_rstep (n1 : CW ≠ CB) (n2 : CW ≠ CR) {f : Addr} {fd : FuncData} (F : Fun K "_takes_step" "Reader._takes_step" sRStep f fd) (B : Bn mg) (T : Rt K mg CR) (TB : Bt K mg CB) (TW : WP.Wt K mg CW) (DS : Df P w K mg base 4 "_step" ["words", "head"] (spTStep CW)) (MU : Mr P w K mg base CR 4 "_takes_tunnel" ["self", "words"] (spRTun CR CB CW)) : FnOk P w K mg base CX0 5 f fd ["self", "words"] (spRStep CR CB CW) := by
  obtain ⟨fS, fdS, GS, gS, kS, bS⟩ := DS.ex
  obtain ⟨fU, fdU, GU, mU, bU⟩ := MU.ex
  obtain ⟨t1, q1⟩ := TW.gSteps
  obtain ⟨t2, q2⟩ := TW.gSize
  refine F.ok scRs (fun vs H Q E h => ?_) (fun cdv A outer s H vs Q E hr h => ?_)
  · obtain ⟨x, l, f, r, n, li, H0, rfl, _⟩ := h
    rfl
  · obtain ⟨x, l, f, r, n, li, H0, rfl, ⟨dx, b, ps, hR⟩, hl, hl0, h12, hh⟩ := h
    refine ⟨_, pss_cons (ps_set (i := 2) scRs.nd rfl (Or.inl rfl) (pe_ix ix_list (pe_fld (pv 0) rfl) (pe_un un_neg (pe_int)) (fun _ _ => rfl)))
      (pss_cons (ps_if (PW.pt (pw_or (pt_cmpR (op_eq) (pe_callB call_len_seq (by rfl) B.len PySem.boot_len (pa_cons (pe_fld (pv 2) rfl) pa_nil)) (pe_glob (v := .int 12) rfl q1 ⟨_, rfl⟩) (nomark _)) (pw_or1 (pt_cmpR (op_eq) (pe_fld (pv 0) rfl) (pe_glob (v := .int 40) rfl q2 ⟨_, rfl⟩) (nomark _))))) (pss_one (ps_ret (pe_bl))) (pss_nil))
      (pss_cons (ps_fld (pv 0) (pe_op (op_add) (pe_fld (pv 0) rfl) (pe_int)) rfl)
      (pss_cons (ps_if (pt_cmpR (op_eq) (pe_ix ix_list (pv 1) (pe_int) (fun _ _ => rfl)) (pe_str) (nomark _)) (pss_one (ps_ret (pe_meth (pv 0) T.cl mU GU (hr.mono (by omega)) bU .nil pass0 (pa_cons (pv 1) pa_nil)))) (pss_nil))
      (pss_cons (ps_set (i := 3) scRs.nd rfl (Or.inl rfl) (pe_call GS (hr.mono (by omega)) rfl gS kS bS .nil pass0 (pa_cons (pv 1) (pa_cons (pe_fld (pv 2) rfl) pa_nil))))
      (pss_cons (ps_if (pt_cmpR (op_isN) (pv 3) (pe_non) (nomark _)) (pss_one (ps_ret (pe_bl))) (pss_nil))
      (pss_cons (ps_expr (pe_bm PySem.F.plainAttrs_list PySem.F.slot_list_append PySem.F.type_list_append mt_append (pe_fld (pv 2) rfl) (pa_cons (pv 3) pa_nil)))
      (pss_one (ps_ret (pe_bl))))))))), ?_⟩
    obtain ⟨p, qs, rfl, g1, g2⟩ := stk_cons hR.stk
    obtain ⟨dxf, xs, w1, w2, w3⟩ := g1.ex
    have n40 : n < 40 := by
      rcases hh with ⟨_, _, _, _, _, _, h, _⟩ | ⟨_, _, _, _, _, h, _⟩ <;> omega
    refine set_then (i := 2) (rd_top T rfl hR ?_)
    refine ⟨_, rfl, p.1, CB, dxf, _, _, rfl, w1, TB.cl, TB.nS, bf_look.2.2.2, p.2, xs, rfl, .inl (SqL.of w2), rfl, _, rfl, iteN (fun z => ?_) ?_⟩
    · have z := V.int.inj z
      rw [w3.len] at z
      omega
    refine ⟨_, rfl, x, CR, dx, _, _, rfl, hR.hx, T.cl, T.nS, rf_look.2, rfl, _, rfl, iteN (fun z => ?_) ?_⟩
    · have z := V.int.inj z
      omega
    refine ⟨_, rfl, x, CR, dx, _, _, rfl, hR.hx, T.cl, T.nS, rf_look.2, _, _, rfl, rfl, _, rfl, x, CR, dx, _, rfl, hR.hx, T.cl, T.nS, rf_len _ _, ?_⟩
    rw [rf_size]
    have hR2 := rd_size (m := n + 1) n1 n2 hR
    change RdP CR CB CW H0 (upd H x (.ins CR dx (rf b ((n : Int) + 1)))) (f :: r) (n + 1) x dx b (p :: qs) at hR2
    generalize upd H x (.ins CR dx (rf b ((n : Int) + 1))) = H1 at hR2 ⊢
    have hl1 := hR2.sm _ _ hl0
    have hq := SqL.of (K := K) hl1
    rcases hh with ⟨st, h, rfl, hh, nt, hf, _, k⟩ | ⟨m, t, rfl, m1, m2, hn, hr2, k⟩
    · have first : ∃ c rest, liW (.plain st) = c :: rest ∧ c ≠ cTun := by
        cases st with
        | road _ _ _ => exact ⟨_, _, rfl, by decide⟩
        | join _ => exact ⟨_, _, rfl, by decide⟩
        | tunnel _ _ _ => exact absurd trivial nt
      obtain ⟨c0, rest, ef, nc⟩ := first
      have hq0 : SqL K H1 l (V.str (TX.S c0) :: sv rest) := by
        rw [ef] at hq
        exact hq
      refine ⟨_, rfl, l, _, _, _, rfl, rfl, hq0, at_k0, rfl, _, rfl, iteN (fun z => S_ne nc (z.trans (congrArg V.str k_tun))) ?_⟩
      obtain ⟨p', qs', e0, g1', g2'⟩ := stk_cons hR2.stk
      cases e0
      obtain ⟨dxf2, xs2, v1, v2, v3⟩ := g1'.ex
      rw [hh] at v1
      unfold tNext
      dsimp only
      refine set_then (i := 3) ⟨_, rfl, _, rfl, p.1, CB, dxf2, _, _, rfl, v1, TB.cl, TB.nH, bf_look.2.2.1, l, h, st, rfl, hl1, nt, hf, fun t2 H2 s2 hS => ?_⟩
      refine ⟨_, rfl, rfl, _, rfl, iteN (fun z => by cases z) ?_⟩
      have hR3 := hR2.same s2
      refine ⟨_, rfl, p.1, CB, dxf2, _, _, rfl, s2 _ _ v1, TB.cl, TB.nS, bf_look.2.2.2, .inl ⟨rfl, _, SqL.of (s2 _ _ v2)⟩, _, rfl, p.2, xs2, _, rfl, rfl, s2 _ _ v2, small1000 (by rw [v3.len]; omega), ?_⟩
      exact k _ ⟨dx, b, p :: qs, rd_put n1 n2 hR3 (s2 _ _ v2) hS⟩
    · have hq0 : SqL K H1 l (V.str (TX.S cTun) :: sv [numL m, TX.tw t]) := hq
      refine ⟨_, rfl, l, _, _, _, rfl, rfl, hq0, at_k0, rfl, _, rfl, iteP (congrArg V.str k_tun.symm) ?_⟩
      exact ⟨_, rfl, x, dx, _, rfl, hR2.hx, rf_no (by decide +kernel) (by decide +kernel), _, rfl, x, l, f :: r, n + 1, m, t, H0, rfl, ⟨dx, b, _, hR2⟩, hl1, m1, m2, by rw [List.length_cons]; omega, hn, k⟩
/-- Reader.takes -/
def spTakes (CR CB CW : Addr) : Sp := fun vs H Q _ => ∃ (x : Addr) (st st' : List Fr) (n n' lv : Nat) (li : Li) (H0 : Hp), vs = [.ref x, .str (TX.S (lineOf (lv, li)))] ∧ RdAt CR CB CW H0 H st n x ∧ Feed (st, n) (lv, li) (st', n') ∧ (∀ v ∈ liW li, Wd v) ∧ lv ≤ 3 ∧ ∀ H', RdAt CR CB CW H0 H' st' n' x → Q (.bl true) H'
theorem scTk : FnScope ["self", "line", "level", "words"] ["self", "line"] (defScope sRTakes) := ⟨rfl, rfl, rfl, by decide +kernel, rfl, by decide +kernel, by decide +kernel⟩
theorem li_few (li : Li) : ∃ c r, liW li = c :: r ∧ (liW li).length ≤ 4 := by
  cases li with
  | head h => exact ⟨_, _, rfl, by show 2 ≤ 4; decide⟩
  | plain s =>
    cases s with
    | road _ _ _ => exact ⟨_, _, rfl, by show 4 ≤ 4; decide⟩
    | join _ => exact ⟨_, _, rfl, by show 2 ≤ 4; decide⟩
    | tunnel _ _ _ => exact ⟨_, _, rfl, by show 3 ≤ 4; decide⟩
  | tun m t => exact ⟨_, _, rfl, by show 3 ≤ 4; decide⟩
theorem wd_first {ws : List (List Nat)} (h : ∀ v ∈ ws, Wd v) : ∀ d q, wd ws = d :: q → d ≠ 32 := fun d q e => by
  cases ws with
  | nil => cases e
  | cons a r =>
    have ha := h a List.mem_cons_self
    obtain ⟨c, a', rfl⟩ := List.exists_cons_of_ne_nil ha.ne
    have hc := (ha.sp c List.mem_cons_self).1
    cases r with
    | nil =>
      have e : c :: a' = d :: q := e
      cases e
      exact hc
    | cons b r =>
      have e : c :: a' ++ ([32] ++ joinL [32] (b :: r)) = d :: q := e
      have e := (List.cons.inj e).1
      rw [← e]
      exact hc
theorem ok_takes (n1 : CW ≠ CB) (n2 : CW ≠ CR) {f : Addr} {fd : FuncData} (F : Fun K "takes" "Reader.takes" sRTakes f fd) (B : Bn mg) (T : Rt K mg CR) (TB : Bt K mg CB) (gI : ∃ t, mg "INDENTATION" = some (.str "  " t)) (ML : Mr P w K mg base CR 2 "_level" ["self", "line"] (spLevel CR CB CW))
    (MH : Mr P w K mg base CR 4 "_takes_head" ["self", "words"] (spTHead CR CB CW)) (ME : Mr P w K mg base CR 8 "_end_inner" ["self"] (spREnd CR CB CW)) (MS : Mr P w K mg base CR 5 "_takes_step" ["self", "words"] (spRStep CR CB CW)) : FnOk P w K mg base CX0 9 f fd ["self", "line"] (spTakes CR CB CW) := by
  obtain ⟨fL, fdL, GL, mL, bL⟩ := ML.ex
  obtain ⟨fH, fdH, GH, mH, bH⟩ := MH.ex
  obtain ⟨fE, fdE, GE, mE, bE⟩ := ME.ex
  obtain ⟨fS, fdS, GS, mS, bS⟩ := MS.ex
  obtain ⟨tI, gI⟩ := gI
  refine F.ok scTk (fun vs H Q E h => ?_) (fun cdv A outer s H vs Q E hr h => ?_)
  · obtain ⟨x, st, st', n, n', lv, li, H0, rfl, _⟩ := h
    rfl
  · obtain ⟨x, st, st', n, n', lv, li, H0, rfl, hR, hF, hw, l3, k⟩ := h
    refine ⟨_, pss_cons (ps_set (i := 2) scTk.nd rfl (Or.inl rfl) (pe_meth (pv 0) T.cl mL GL (hr.mono (by omega)) bL .nil pass0 (pa_cons (pv 1) pa_nil)))
      (pss_cons (ps_if (pt_cmpR (op_isN) (pv 2) (pe_non) (nomark _)) (pss_one (ps_ret (pe_bl))) (pss_nil))
      (pss_cons (ps_set (i := 3) scTk.nd rfl (Or.inl rfl) (pe_split (pe_slice sl_str (pv 1) (po_some (pe_op (op_mul) (pv 2) (pe_callB call_len_str (by rfl) B.len PySem.boot_len (pa_cons (pe_glob (v := .str "  ") rfl gI ⟨_, rfl⟩) pa_nil)))) po_none) (pe_str)))
      (pss_cons (ps_if (pt_cmpR (op_isN) (pe_fld (pe_ix ix_list (pe_fld (pv 0) rfl) (pe_un un_neg (pe_int)) (fun _ _ => rfl)) rfl) (pe_non) (nomark _)) (pss_one (ps_ret (pe_meth (pv 0) T.cl mH GH (hr.mono (by omega)) bH .nil pass0 (pa_cons (pv 3) pa_nil)))) (pss_nil))
      (pss_cons (ps_while PassesOwn.never (pt_cmpR (op_gt) (pe_callB call_len_seq (by rfl) B.len PySem.boot_len (pa_cons (pe_fld (pv 0) rfl) pa_nil)) (pe_op (op_add) (pv 2) (pe_int)) (nomark _)) (pss_one (ps_expr (pe_meth0 (pv 0) T.cl mE GE (hr.mono (by omega)) bE .nil pass0))))
      (pss_one (ps_ret (pe_meth (pv 0) T.cl mS GS (hr.mono (by omega)) bS .nil pass0 (pa_cons (pv 3) pa_nil)))))))), ?_⟩
    obtain ⟨w0, wr, ew, l4⟩ := li_few li
    have big : ∀ {n : Nat}, n ≤ 1000 → n ≤ sizeLine := fun h => Nat.le_of_lt (small1000 h)
    have wl56 := (ln_wd hw l4).1
    have ind : (indL lv).length = 2 * lv := by unfold indL; simp
    have ll : (TX.S (lineOf (lv, li))).length = 2 * lv + (wd (liW li)).length := by
      rw [S_len]
      show (indL lv ++ wd (liW li)).length = _
      rw [List.length_append, ind]
    have l2 : ("  " : Str).length = 2 := by rw [len_tl, k_ind, tl_S]; rfl
    -- the stack as the level sees it
    obtain ⟨b0, q0, rfl, v1, v2⟩ : ∃ b0 q0, st = b0 :: q0 ∧ lv ≤ q0.length ∧ (lv = q0.length ∨ b0.steps ≠ []) := by
      cases hF with
      | head h1 h2 h3 => exact ⟨_, _, rfl, Nat.le_refl _, .inl rfl⟩
      | plain hr _ _ _ _ _ _ =>
        obtain ⟨b0, q0, e, _, h2⟩ := hr.top
        have := hr.cl.le
        rw [e, List.length_cons] at this
        refine ⟨b0, q0, e, by omega, ?_⟩
        rcases h2 with h2 | h2
        · exact .inr h2
        · rw [e, List.length_cons] at h2
          exact .inl (by omega)
      | tun hr _ _ _ _ _ =>
        obtain ⟨b0, q0, e, _, h2⟩ := hr.top
        have := hr.cl.le
        rw [e, List.length_cons] at this
        refine ⟨b0, q0, e, by omega, ?_⟩
        rcases h2 with h2 | h2
        · exact .inr h2
        · rw [e, List.length_cons] at h2
          exact .inl (by omega)
    obtain ⟨dx0, bb0, hx0⟩ := hR.ins
    refine set_then (i := 2) ⟨_, rfl, x, dx0, _, rfl, hx0, rf_no (by decide +kernel) (by decide +kernel), _, rfl, x, _, b0, q0, n, lv, wd (liW li), H0, rfl, hR, tl_S _, wd_first hw, by rw [ll]; omega, v1, v2, ?_⟩
    refine ⟨_, rfl, rfl, _, rfl, iteN (fun z => by cases z) ?_⟩
    unfold tNext
    dsimp only
    refine set_then (i := 3) ⟨_, rfl, _, rfl, _, rfl, by rw [l2]; decide, _, _, rfl, rfl, .inl ⟨by omega, by omega⟩, _, rfl, ?_⟩
    dsimp only [tNoPart]
    have lS : (TX.S (lineOf (lv, li))).length ≤ 100 := by rw [ll]; omega
    have cut : cutS (TX.S (lineOf (lv, li))) (some ((lv : Int) * ((("  " : Str).length : Nat) : Int))) none = TX.S (wd (liW li)) := by
      rw [l2, show (lv : Int) * ((2 : Nat) : Int) = ((2 * lv : Nat) : Int) by omega]
      exact cut_ind (k := 2 * lv) (by rw [tl_S]; rfl)
    refine ⟨_, rfl, big (by omega), ⟨_, rfl⟩, _, _, rfl, rfl, by decide +kernel, ?_, fun l hl => ?_⟩
    · rw [cut, S_len]
      exact big (by omega)
    rw [cut, k_sp, split_wd hw (by rw [ew]; simp), ← sv_strs]
    have hRl := hR.more (o := .lst (sv (liW li))) hl
    have sH0 : Same H0 (upd H0 l (.lst (sv (liW li)))) := of_upd (by
      cases z : H0 l with
      | none => rfl
      | some o =>
        have := hR.sm _ _ z
        rw [hl] at this
        cases this)
    have e0 : upd H0 l (.lst (sv (liW li))) l = some (.lst (sv (liW li))) := upd_same
    generalize upd H0 l (.lst (sv (liW li))) = H2 at hRl sH0 e0
    have el : upd H l (.lst (sv (liW li))) l = some (.lst (sv (liW li))) := upd_same
    generalize upd H l (.lst (sv (liW li))) = H1 at hRl el ⊢
    have hRp := hRl
    obtain ⟨dx, b, ps, hP⟩ := hRp
    obtain ⟨p, qs, rfl, g1, g2⟩ := stk_cons hP.stk
    obtain ⟨dxf, xs, w1, w2, w3⟩ := g1.ex
    refine ⟨_, rfl, x, CR, dx, _, _, rfl, hP.hx, T.cl, T.nB, rf_look.1, _, rfl, b, _, _, _, rfl, rfl, SqL.of hP.hb, bg_top p qs, p.1, CB, dxf, _, _, rfl, w1, TB.cl, TB.nH, bf_look.2.2.1, rfl, _, rfl, ?_⟩
    have two : (∃ h, li = .head h ∧ lv = q0.length ∧ b0.head = none ∧ 1 ≤ h ∧ h ≤ 40 ∧ ∀ H', RdAt CR CB CW H2 H' ({ b0 with head := some h } :: q0) n x → Q (.bl true) H') ∨
        ∃ (f : Fr) (r : List Fr), (∃ h, b0.head = some h) ∧ Closes lv (b0 :: q0) (f :: r) ∧ f.steps.length < 12 ∧ ((∃ s h, li = .plain s ∧ f.head = some h ∧ ¬ isTun s ∧ s.fine h ∧ n < 40 ∧ ∀ H', RdAt CR CB CW H2 H' ({ f with steps := f.steps ++ [s] } :: r) (n + 1) x → Q (.bl true) H') ∨
          (∃ m t, li = .tun m t ∧ 1 ≤ m ∧ m ≤ 1000000000000 ∧ n + 1 < 40 ∧ r.length + 2 ≤ 3 ∧ ∀ H', RdAt CR CB CW H2 H' (⟨some (m, t), none, []⟩ :: f :: r) (n + 1) x → Q (.bl true) H')) := by
      cases hF with
      | head h1 h2 h3 => exact .inl ⟨_, rfl, rfl, h1, h2, h3, fun H' hR' => k H' (hR'.less sH0)⟩
      | plain hr hh nt hf h40 hl hn =>
        obtain ⟨b1, q1, e, ht, _⟩ := hr.top
        cases e
        exact .inr ⟨_, _, ht, hr.cl, hl, .inl ⟨_, _, rfl, hh, nt, hf, hn, fun H' hR' => k H' (hR'.less sH0)⟩⟩
      | tun hr m1 m2 hl hn hr2 =>
        obtain ⟨b1, q1, e, ht, _⟩ := hr.top
        cases e
        exact .inr ⟨_, _, ht, hr.cl, hl, .inr ⟨_, _, rfl, m1, m2, hn, hr2, fun H' hR' => k H' (hR'.less sH0)⟩⟩
    rcases two with ⟨h, rfl, _, hn, h1, h2, kk⟩ | ⟨f, r, ⟨h0, hh0⟩, cl, l12, kk⟩
    · refine iteP (by rw [hn]; rfl) ?_
      exact ⟨_, rfl, x, dx, _, rfl, hP.hx, rf_no (by decide +kernel) (by decide +kernel), _, rfl, x, l, b0, q0, n, h, H2, rfl, ⟨dx, b, _, hP⟩, el, h1, h2, kk⟩
    refine iteN (fun z => by rw [hh0] at z; cases z) ?_
    dsimp only
    refine ⟨fun m σ G => ∃ st, m = st.length ∧ RdAt CR CB CW H2 G st n x ∧ Closes lv st (f :: r) ∧ σ = [some (.ref x), some (.str (TX.S (lineOf (lv, li)))), some (.int (lv : Int)), some (.ref l)], ⟨_, b0 :: q0, rfl, hRl, cl, rfl⟩, ?_⟩
    rintro m σ G ⟨st, rfl, ⟨dx, b, ps, hP⟩, cl, rfl⟩
    refine ⟨_, rfl, x, CR, dx, _, _, rfl, hP.hx, T.cl, T.nB, rf_look.1, b, _, rfl, .inl (SqL.of hP.hb), _, rfl, _, _, rfl, rfl, _, _, rfl, rfl, _, rfl, ?_⟩
    rw [bg_len, hP.stk.len]
    cases cl with
    | done hl =>
      have hl2 : r.length = lv := by
        rw [List.length_cons] at hl
        omega
      rw [decide_eq_false (by rw [List.length_cons, hl2]; omega)]
      refine iteF ?_
      exact ⟨_, rfl, x, dx, _, rfl, hP.hx, rf_no (by decide +kernel) (by decide +kernel), _, rfl, x, l, f, r, n, li, H2, rfl, ⟨dx, b, _, hP⟩, hP.sm _ _ e0, e0, l12, kk⟩
    | @close c a r2 st2 h m t hl o1 o2 o3 cl =>
      rw [decide_eq_true (by omega)]
      refine iteT ⟨fun σ' G' => (∃ st, st.length = (a :: r2).length ∧ RdAt CR CB CW H2 G' st n x ∧ Closes lv st (f :: r)) ∧ σ' = [some (.ref x), some (.str (TX.S (lineOf (lv, li)))), some (.int (lv : Int)), some (.ref l)], fun σ' G' ⟨⟨st, e, h1, h2⟩, h3⟩ => ⟨_, by rw [List.length_cons]; exact Nat.lt_succ_self _, st, e.symm, h1, h2, h3⟩, ?_⟩
      refine ⟨_, rfl, x, dx, _, rfl, hP.hx, rf_no (by decide +kernel) (by decide +kernel), x, c, a, r2, n, h, m, t, H2, rfl, ⟨dx, b, _, hP⟩, o1, o2, o3, ?_, fun G' hR' => ⟨⟨{ a with steps := a.steps ++ [.tunnel (.mk h c.steps) m t] } :: r2, rfl, hR', cl⟩, rfl⟩⟩
      have := cl.few (Nat.le_of_lt l12)
      rw [List.length_append] at this
      omega
end
end CP

end
section
set_option autoImplicit false
set_option Elab.async false
set_option linter.all false
set_option maxRecDepth 100000
set_option maxHeartbeats 4000000
/-! ## != of an own class that says only == -/
namespace WO
open PySem PySem.Spec PyProof.Rows L2
section
variable {prog : Program} {w : World} {A : Around} {E : Value → Shared → Prop} {s : Shared} {K : PySem.W.Frag} {x y C f : Addr} {ox : Obj} {od : Option Obj}
theorem bound_ne {M : Model} {args : List Value} {Q : Option Value → Shared → Prop} (X : K.In s.heap) (I : PySem.W.InstAt s.heap x ox C od) (hs : PySem.W.findIn K (.ref C) "__ne__" = some (some (.builtin "object.__ne__")))
    (h : wpAny M A (call (.builtin "object.__ne__") (.ref x :: args)) (fun v => Q (some v)) E s) : wpAny M A (callSpecialIfBound? (.ref x) "__ne__" args) Q E s := by
  simp only [callSpecialIfBound?, bindSpecialIfBound?]
  refine wpAny_holding (wpAny_bind (wpAny_bind (wpAny_bind (I.type.here ((PySem.W.looks_findIn X hs).here ?_)))))
  refine wpAny_bind (wpAny_askSetting (wpAny_ite ?_))
  have e : wpAny M A (call (.builtin "object.__ne__") ([.ref x] ++ args) >>= fun v => pure (some v)) Q E s := wpAny_bind (wpAny_mono h (fun v s' q => wpAny_pure q) fun _ _ q => q)
  split
  · exact wpAny_bind (wpAny_of_eq (F.cmp_object.ne.bind _) (wpAny_pure (by exact e)))
  · exact wpAny_tryCatch (wpAny_bind (wpAny_of_eq (F.cmp_object.ne.bind _) (wpAny_pure (by exact e))))
theorem entry_ne {Q : Fin → Shared → Prop} (hu : A.units < cLine) (X : K.In s.heap) (I : PySem.W.InstAt s.heap x ox C od) (he : PySem.W.findIn K (.ref C) "__eq__" = some (some (.ref f))) (hf : PySem.W.isFn K (.ref f) = true)
    (h : wpAny (model prog w) A (call (.ref f) [.ref x, .ref y]) (fun v s' => ∃ b, v = .bool b ∧ Q (.done (.ret (.bool (!b)))) s') E s) : wpAny (model prog w) A (Builtin.«object.__ne__» ⟨[.ref x, .ref y], []⟩) Q E s := by
  unfold Builtin.«object.__ne__»
  repeat (first
    | with_reducible refine wpAny_cRoomFor hu ?_
    | (refine wpAny_bind (m := callSpecialIfBound? (.ref x) (Str.ofString "__eq__") [.ref y]) (PySem.W.ifBound_K X I he hf (wpAny_mono h (fun r s' hr => by
          obtain ⟨b, rfl, hq⟩ := hr
          repeat (first | exact hq | exact wpAny_pure hq | exact wpAny_truthy_bool hq | (refine wpAny_bind (m := truthy (.bool _)) (wpAny_truthy_bool ?_)) | wp_step)) fun _ _ e => e)))
    | wp_step)
theorem rich_ne {Q : Value → Shared → Prop} (hu : A.units + 1 < cLine) (X : K.In s.heap) (I : PySem.W.InstAt s.heap x ox C od) (hy : PySem.W.Looks (model prog w) s.heap (typeOf (.ref y)) (.ref C)) (hm : PySem.W.mroIn K C (.type "object") = some true)
    (hs : PySem.W.findIn K (.ref C) "__ne__" = some (some (.builtin "object.__ne__"))) (he : PySem.W.findIn K (.ref C) "__eq__" = some (some (.ref f))) (hf : PySem.W.isFn K (.ref f) = true)
    (h : wpAny (model prog w) A.in1 (call (.ref f) [.ref x, .ref y]) (fun v s' => ∃ b, v = .bool b ∧ Q (.bool (!b)) s') E s) : wpAny (model prog w) A (richCompare .NotEq (.ref x) (.ref y)) Q E s := by
  have one : wpAny (model prog w) A (tryCompare (.ref x) "__ne__" (.ref y)) (fun r s' => ∃ v, r = some v ∧ Q v s') E s := by
    unfold tryCompare
    refine wpAny_bind (bound_ne X I hs (wpAny_call (codeAny_call_builtin F.cmp_object.ne.plain F.cmpEntry_ne (PySem.W.check_slot F.cmpKind_ne F.cmpSplit_ne (I.type.andThen (PySem.W.looks_mroIn X hm)) (F.cmpArgs_ne _ _)
      (entry_ne (A := A.in1) hu X I he hf (wpAny_mono h (fun v s' hv => ?_) fun _ _ e => e))))))
    obtain ⟨b, rfl, hq⟩ := hv
    exact ⟨b, rfl, wpAny_pure ⟨_, rfl, hq⟩⟩
  unfold richCompare
  simp only [oneThing_ref]
  refine wpAny_holding (wpAny_bind (wpAny_cRoomFor (Nat.lt_of_succ_lt hu) ?_))
  refine wpAny_bind (I.type.here (wpAny_bind (hy.here ?_)))
  split
  · rename_i q
    simp at q
  · refine wpAny_bind (wpAny_pure ?_)
    simp only [Bool.false_eq_true, if_false]
    refine wpAny_bind (wpAny_mono one (fun r s' z => ?_) fun _ _ e => e)
    obtain ⟨v, rfl, hq⟩ := z
    exact wpAny_pure hq
end
section
variable {X : Cx} {CX : CXT} {n : Nat} {C f : Addr} {fd : FuncData} {ps : List Str} {sp : Sp} {E : XK}
/-- != by the own __eq__ -/
def rNeO (C : Addr) (sp : Sp) (E : XK) : R2 := fun x y H Q => ∃ a b, x = .ref a ∧ y = .ref b ∧ InsC C H a ∧ InsC C H b ∧ sp [.ref a, .ref b] H (fun v H1 => ∃ c, v = .bl c ∧ Q (.bl (!c)) H1) E
theorem op_neO (F : FnOk X.prog X.w X.K X.mg X.base CX n f fd ps sp) (hr : Room (n + 1) X.A) (O : Own X.K C f "__eq__") (hm : PySem.W.mroIn X.K C (.type "object") = some true) (hs : PySem.W.findIn X.K (.ref C) "__ne__" = some (some (.builtin "object.__ne__")))
    (hb : Binds X.K fd ps []) (hx : Passes CX X E) : OpR X (compareOp .NotEq) (rNeO C sp E) := by
  intro pins s σ H x y v u Q I rx ry h
  obtain ⟨a, b, rfl, rfl, ⟨dx, fs, ha⟩, ⟨dy, gs, hb'⟩, hsp⟩ := h
  cases rx
  cases ry
  obtain ⟨_, J, _⟩ := ins_get I.hok ha
  obtain ⟨_, J', _⟩ := ins_get I.hok hb'
  obtain ⟨od, J, _⟩ := J.look
  obtain ⟨od', J', _⟩ := J'.look
  show wpAny (model X.prog X.w) X.A (richCompare .NotEq (.ref a) (.ref b)) (EP X pins σ Q) X.xe s
  refine rich_ne hr.in1.units0 I.kIn J J'.type hm hs O.at' O.fn (run_own F (A := X.A.in1) (xs := [.ref a, .ref b]) ⟨hr.in1, rfl⟩ hb hx I (.cons rfl (.cons rfl .nil)) hsp fun z u H1 s1 I1 rz q => ?_)
  obtain ⟨c, rfl, q⟩ := q
  cases rz
  exact ⟨c, rfl, .bl (!c), H1, I1, rfl, q⟩
end
end WO

end
section
set_option autoImplicit false
set_option Elab.async false
set_option linter.all false
set_option maxRecDepth 100000
set_option maxHeartbeats 4000000
/-! ## ways: len, without a step, == -/
namespace WP
open PySem L2 G
abbrev sWithout : Stmt := inClass (top 26) 6
abbrev sWEq : Stmt := inClass (top 26) 4
theorem StepsAt.app {C : Addr} {H : Hp} : ∀ {s r : List M.Step} {xs ys : List V}, StepsAt C H s xs → StepsAt C H r ys → StepsAt C H (s ++ r) (xs ++ ys)
  | [], r, xs, ys, a, b => by
    unfold StepsAt at a
    subst a
    exact b
  | x :: s, r, xs, ys, a, b => by
    unfold StepsAt at a
    obtain ⟨u, us, rfl, h1, h2⟩ := a
    show StepsAt C H (x :: (s ++ r)) (u :: (us ++ ys))
    unfold StepsAt
    exact ⟨u, us ++ ys, rfl, h1, h2.app b⟩
theorem StepsAt.ne {C : Addr} {H : Hp} {s : List M.Step} {xs : List V} (h : StepsAt C H s xs) (n : 1 ≤ s.length) : xs ≠ [] := fun e => by
  have := h.len
  rw [e] at this
  simp at this
  rw [← this] at n
  simp at n
theorem StepsAt.take {C : Addr} {H : Hp} : ∀ {s : List M.Step} {xs : List V} (i : Nat), StepsAt C H s xs → StepsAt C H (s.take i) (xs.take i)
  | s, xs, 0, _ => by
    rw [List.take_zero, List.take_zero]
    unfold StepsAt
    rfl
  | [], xs, i + 1, h => by
    unfold StepsAt at h
    subst h
    unfold StepsAt
    rfl
  | y :: s, xs, i + 1, h => by
    unfold StepsAt at h
    obtain ⟨u, us, rfl, h1, h2⟩ := h
    rw [List.take_succ_cons, List.take_succ_cons]
    unfold StepsAt
    exact ⟨u, us.take i, rfl, h1, h2.take i⟩
theorem StepsAt.drop {C : Addr} {H : Hp} : ∀ {s : List M.Step} {xs : List V} (i : Nat), StepsAt C H s xs → StepsAt C H (s.drop i) (xs.drop i)
  | s, xs, 0, h => by
    rw [List.drop_zero, List.drop_zero]
    exact h
  | [], xs, i + 1, h => by
    unfold StepsAt at h
    subst h
    unfold StepsAt
    rfl
  | y :: s, xs, i + 1, h => by
    unfold StepsAt at h
    obtain ⟨u, us, rfl, h1, h2⟩ := h
    rw [List.drop_succ_cons, List.drop_succ_cons]
    exact h2.drop i
theorem sl_any {K : PySem.W.Frag} {H : Hp} {Q : VK} {t : Addr} {xs : List V} {lo hi : Option Int} (h : H t = some (.tup xs)) (k : ∀ u G, Same H G → G u = some (.tup (cutV xs lo hi)) → Q (.ref u) G) : rSlA K (.ref t) lo hi H Q :=
  ⟨t, xs, rfl, SqT.of h, fun z => k t H (Same.refl H) (by
    unfold cutV
    rw [z.1, z.2, List.drop_zero, Nat.sub_zero, List.take_length]
    exact h), fun _ p hp => k p _ (Same.of_upd hp) upd_same⟩
theorem catA_own {K : PySem.W.Frag} {H : Hp} {Q : VK} {a b : Addr} {xs ys : List V} (ha : H a = some (.tup xs)) (hb : H b = some (.tup ys)) (hl : xs.length + ys.length ≤ sizeLine) (k : ∀ c H', Same H H' → H' c = some (.tup (xs ++ ys)) → Q (.ref c) H') : rCatA K (.ref a) (.ref b) H Q :=
  ⟨a, b, xs, ys, rfl, rfl, SqT.of ha, SqT.of hb, hl, fun z => k b H (Same.refl H) (by rw [z]; exact hb), fun _ z => k a H (Same.refl H) (by rw [z, List.append_nil]; exact ha), fun _ _ p hp => k p _ (Same.of_upd hp) upd_same⟩
theorem cut_lo (xs : List V) (k : Nat) : cutV xs (some (k : Int)) none = xs.drop k := Y.cut_from xs k
theorem cut_hi (xs : List V) (k : Nat) : cutV xs none (some (k : Int)) = xs.take k := by
  unfold cutV
  rw [HT.sIx_nat, HT.sIx_none, List.drop_zero, Nat.sub_zero]
  by_cases h : k ≤ xs.length
  · rw [Nat.min_eq_left h]
  · rw [Nat.min_eq_right (by omega), List.take_of_length_le (Nat.le_refl _), List.take_of_length_le (by omega)]
section
variable {P : Program} {w : World} {K : PySem.W.Frag} {mg : Str → Option Value} {base : Heap} {C : Addr}
def spLenW (C : Addr) : Sp := fun vs H Q _ => ∃ a wy, vs = [.ref a] ∧ WayAt C H wy a ∧ Q (.int ((M.Way.steps wy).length : Nat)) H
theorem scLW : FnScope ["self"] ["self"] (defScope sLen) := ⟨rfl, rfl, rfl, by decide +kernel, rfl, by decide +kernel, by decide +kernel⟩
theorem ok_len {f : Addr} {fd : FuncData} (F : Fun K "__len__" "Way.__len__" sLen f fd) (B : Bn mg) (T : Wt K mg C) : FnOk P w K mg base CX0 1 f fd ["self"] (spLenW C) := by
  refine F.ok scLW (fun vs H Q E h => ?_) (fun cdv A outer s H vs Q E hr h => ?_)
  · obtain ⟨a, wy, rfl, _⟩ := h
    rfl
  · obtain ⟨a, wy, rfl, hw, k⟩ := h
    obtain ⟨dx, fs, t, xs, h1, h2, h3, h4⟩ := steps_fld hw
    refine ⟨_, pss_one (ps_ret (pe_callB call_len_seq (by rfl) B.len PySem.boot_len (pa_cons (pe_fld (pv 0) rfl) pa_nil))), ?_⟩
    refine ⟨_, rfl, a, C, dx, fs, _, rfl, h1, T.cl, T.nS, h2, t, xs, rfl, .inr (SqT.of h3), ?_⟩
    rw [h4.len]
    exact k
/-- without a step -/
def spOutW (C : Addr) : Sp := fun vs H Q _ => ∃ (a : Addr) (i h : Nat) (s : List M.Step), vs = [.ref a, .int (i : Int)] ∧ WayAt C H (.mk h s) a ∧ i < s.length ∧ s.length ≤ 100 ∧ M.Way.fine (.mk h (s.take i ++ s.drop (i + 1))) ∧ ∀ c H', Same H H' → WayAt C H' (.mk h (s.take i ++ s.drop (i + 1))) c → Q (.ref c) H'
theorem scOW : FnScope ["self", "position"] ["self", "position"] (defScope sWithout) := ⟨rfl, rfl, rfl, by decide +kernel, rfl, by decide +kernel, by decide +kernel⟩
theorem ok_out {f : Addr} {fd : FuncData} (F : Fun K "without" "Way.without" sWithout f fd) (B : Bn mg) (T : Wt K mg C) (MW : Mw P w K mg base C) (DW : Df P w K mg base 2 "is_within" ["value", "least", "greatest"] spWithin) : FnOk P w K mg base CX0 8 f fd ["self", "position"] (spOutW C) := by
  obtain ⟨fI, fdI, GI, MK, bI⟩ := MW.ex
  obtain ⟨fW, fdW, GW, gW, kW, bW⟩ := DW.ex
  refine F.ok scOW (fun vs H Q E h => ?_) (fun cdv A outer s H vs Q E hr h => ?_)
  · obtain ⟨a, i, h, s, rfl, _⟩ := h
    rfl
  · obtain ⟨a, i, h, sts, rfl, hw, hi, hn, hf, k⟩ := h
    refine ⟨_, pss_cons (ps_if (pt_not (pt_val (pe_call GW (hr.mono (by decide)) rfl gW kW bW .nil pass0 (pa_cons (pv 1) (pa_cons pe_int (pa_cons (pe_op op_sub (pe_callB call_len_seq (by rfl) B.len PySem.boot_len (pa_cons (pe_fld (pv 0) rfl) pa_nil)) pe_int) pa_nil)))))) ps_dead pss_nil)
      (pss_one (ps_ret (pe_make MK GI hr rfl T.g bI .nil pass0 (pa_cons (pe_fld (pv 0) rfl) (pa_cons (pe_op op_catA (pe_slice sl_tupA (pe_fld (pv 0) rfl) po_none (po_some (pv 1))) (pe_slice sl_tupA (pe_fld (pv 0) rfl) (po_some (pe_op op_add (pv 1) pe_int)) po_none)) pa_nil))))), ?_⟩
    obtain ⟨da, fa, a1, a2⟩ := head_fld hw
    obtain ⟨dc, fc, t1, xs, c1, c2, c3, c4⟩ := steps_fld hw
    have lx := c4.len
    have lx2 : xs.length = sts.length := lx
    refine ⟨_, rfl, _, rfl, a, C, dc, fc, _, rfl, c1, T.cl, T.nS, c2, t1, _, rfl, .inr (SqT.of c3), _, _, rfl, rfl, (i : Int), 0, _, rfl, ?_⟩
    rw [lx2, decide_eq_true (show (0 : Int) ≤ (i : Int) ∧ (i : Int) ≤ (sts.length : Int) - 1 by omega)]
    refine ⟨_, rfl, iteF ?_⟩
    refine ⟨_, rfl, a, C, da, fa, _, rfl, a1, T.cl, T.nH, a2, ?_⟩
    refine ⟨_, rfl, a, C, dc, fc, _, rfl, c1, T.cl, T.nS, c2, ?_⟩
    dsimp only [tNoPart]
    refine ⟨_, rfl, _, rfl, ?_⟩
    refine sl_any c3 fun u1 G1 s1 h1 => ?_
    refine ⟨_, rfl, a, C, dc, fc, _, rfl, s1 _ _ c1, T.cl, T.nS, c2, _, rfl, _, _, rfl, rfl, _, rfl, ?_⟩
    dsimp only [tNoPart]
    refine sl_any (s1 _ _ c3) fun u2 G2 s2 h2 => ?_
    rw [cut_hi] at h1
    rw [show ((i : Int) + 1) = ((i + 1 : Nat) : Int) from rfl, cut_lo] at h2
    refine catA_own (s2 _ _ h1) h2 (by rw [List.length_take, List.length_drop]; exact Nat.le_trans (show _ ≤ 200 by omega) (by decide)) fun c G3 s3 hc => ?_
    have s4 := (s1.trans s2).trans s3
    exact made_way (.inr hc) (((c4.mono s4).take i).app ((c4.mono s4).drop (i + 1))) hf fun x H' s5 wa => k x H' (s4.trans s5) wa
/-- ways alike in all their parts -/
def RWy (C : Addr) (n : Nat) : Addr → Addr → Hp → Prop := fun a b H => ∃ wy, WayAt C H wy a ∧ WayAt C H wy b ∧ wy.depth ≤ n
theorem mon_rwy (C : Addr) (n : Nat) : ∀ a b H H', Ext H H' → RWy C n a b H → RWy C n a b H' := fun a b H H' e h => by
  obtain ⟨wy, h1, h2, h3⟩ := h
  exact ⟨wy, h1.mono e, h2.mono e, h3⟩
/-- an item of a step: plain, or a way -/
def DItW (C : Addr) (n : Nat) : Eqv := fun x y H => DFlat x y H ∨ DIns C (RWy C n) x y H
theorem mon_itw (C : Addr) (n : Nat) : Mon (DItW C n) := mon_flat.or (mon_ins (mon_rwy C n))
theorem int_flat (z : Int) : eqV (.int z) (.int z) = true := by simp [eqV]
theorem str_flat (s : Str) : eqV (.str s) (.str s) = true := by simp [eqV]
theorem step_eq {H : Hp} {n : Nat} : ∀ {s : M.Step} {x y : V}, M.Step.dep s ≤ n → StepAt C H s x → StepAt C H s y → DTup K (DItW C n) x y H
  | .road size ts lw, x, y, d, h1, h2 => by
    unfold StepAt at h1 h2
    obtain ⟨t, rfl, a⟩ := h1
    obtain ⟨u, rfl, b⟩ := h2
    exact ⟨t, u, _, _, rfl, rfl, SqT.of a, SqT.of b, .cons (.inl ⟨rfl, rfl, str_flat _⟩) (.cons (.inl ⟨rfl, rfl, int_flat _⟩) (.cons (.inl ⟨rfl, rfl, str_flat _⟩) (.cons (.inl ⟨rfl, rfl, str_flat _⟩) .nil)))⟩
  | .join most, x, y, d, h1, h2 => by
    unfold StepAt at h1 h2
    obtain ⟨t, rfl, a⟩ := h1
    obtain ⟨u, rfl, b⟩ := h2
    exact ⟨t, u, _, _, rfl, rfl, SqT.of a, SqT.of b, .cons (.inl ⟨rfl, rfl, str_flat _⟩) (.cons (.inl ⟨rfl, rfl, int_flat _⟩) .nil)⟩
  | .tunnel w most tw, x, y, d, h1, h2 => by
    unfold StepAt at h1 h2
    obtain ⟨t, a0, rfl, a, wa⟩ := h1
    obtain ⟨u, b0, rfl, b, wb⟩ := h2
    obtain ⟨da, fa, g1, _⟩ := head_fld wa
    obtain ⟨db, fb, g2, _⟩ := head_fld wb
    exact ⟨t, u, _, _, rfl, rfl, SqT.of a, SqT.of b, .cons (.inl ⟨rfl, rfl, str_flat _⟩) (.cons (.inr ⟨a0, b0, da, db, fa, fb, rfl, rfl, g1, g2, w, wa, wb, d⟩) (.cons (.inl ⟨rfl, rfl, int_flat _⟩) (.cons (.inl ⟨rfl, rfl, str_flat _⟩) .nil)))⟩
theorem steps_eq {H : Hp} {n : Nat} : ∀ {s : List M.Step} {xs ys : List V}, M.Step.deepest s ≤ n → StepsAt C H s xs → StepsAt C H s ys → Prs (DTup K (DItW C n)) xs ys H
  | [], xs, ys, d, h1, h2 => by
    unfold StepsAt at h1 h2
    subst h1 h2
    exact .nil
  | s :: r, xs, ys, d, h1, h2 => by
    rw [M.deep_cons] at d
    unfold StepsAt at h1 h2
    obtain ⟨x, xs, rfl, a1, a2⟩ := h1
    obtain ⟨y, ys, rfl, b1, b2⟩ := h2
    exact .cons (step_eq (by omega) a1 b1) (steps_eq (by omega) a2 b2)
theorem scWEq : FnScope ["self", "other"] ["self", "other"] (defScope sWEq) := ⟨rfl, rfl, rfl, by decide +kernel, rfl, by decide +kernel, by decide +kernel⟩
theorem ok_weq {k n : Nat} {f : Addr} {fd : FuncData} (F : Fun K "__eq__" "Way.__eq__" sWEq f fd) (B : Bn mg) (T : Wt K mg C) (G0 : FnOk P w K mg base CX0 k f fd ["self", "other"] (spEq (RWy C n))) (O : WO.Own K C f "__eq__") (b : Binds K fd ["self", "other"] []) : FnOk P w K mg base CX0 (k + 3) f fd ["self", "other"] (spEq (RWy C (n + 1))) := by
  refine F.ok scWEq (fun vs H Q E h => ?_) (fun cdv A outer s H vs Q E hr h => ?_)
  · obtain ⟨a, b, rfl, _⟩ := h
    rfl
  · obtain ⟨x, y, rfl, ⟨wy, ha, hb, hd⟩, kk⟩ := h
    refine ⟨_, pss_one (ps_ret (pe_and (pe_callB call_isi (by rfl) B.isi (by decide +kernel) (pa_cons (pv 1) (pa_cons (pe_glob (v := .ref C) rfl T.g rfl) pa_nil)))
      (pe_and (pe_cmpR op_eq (pe_fld (pv 0) rfl) (pe_fld (pv 1) rfl) (nomark _))
      (pe_one (pe_cmpR (op_eqG (rcG_tup (mon_tup (mon_itw C n)) (eqG_tup (mon_itw C n) ((eqG_flat.mono (Nat.zero_le k)).or (eqG_ins G0 O.at' O.fn b pass0)))) hr) (pe_fld (pv 0) rfl) (pe_fld (pv 1) rfl) (nomark _)))))), ?_⟩
    obtain ⟨da, fa, a1, a2⟩ := head_fld ha
    obtain ⟨db, fb, b1, b2⟩ := head_fld hb
    obtain ⟨dc, fc, t1, xs, c1, c2, c3, c4⟩ := steps_fld ha
    obtain ⟨de, fe, t2, ys, e1, e2, e3, e4⟩ := steps_fld hb
    refine ⟨_, rfl, _, _, _, _, true, rfl, .own C, .base (.ins b1 T.cl T.iA T.iN T.iT T.iM), ?_, _, rfl, iteT ?_⟩
    · unfold PySem.W.kitOne
      rw [if_pos (by simp)]
    refine ⟨_, rfl, x, C, da, fa, _, rfl, a1, T.cl, T.nH, a2, _, rfl, y, C, db, fb, _, rfl, b1, T.cl, T.nH, b2, rfl, _, rfl, ?_⟩
    rw [decide_eq_true rfl]
    refine iteT ⟨_, rfl, x, C, dc, fc, _, rfl, c1, T.cl, T.nS, c2, _, rfl, y, C, de, fe, _, rfl, e1, T.cl, T.nS, e2, ?_⟩
    obtain ⟨wh, st⟩ := wy
    unfold M.Way.depth at hd
    change StepsAt C H st xs at c4
    change StepsAt C H st ys at e4
    exact ⟨⟨t1, t2, xs, ys, rfl, rfl, SqT.of c3, SqT.of e3, steps_eq (by omega) c4 e4⟩, kk⟩
theorem df_weq {f : Addr} {fd : FuncData} (F : Fun K "__eq__" "Way.__eq__" sWEq f fd) (B : Bn mg) (T : Wt K mg C) (O : WO.Own K C f "__eq__") (b : Binds K fd ["self", "other"] []) : ∀ n, FnOk P w K mg base CX0 (1 + 3 * n) f fd ["self", "other"] (spEq (RWy C n))
  | 0 => F.ok scWEq (fun vs H Q E h => by
      obtain ⟨a, b, rfl, _⟩ := h
      rfl) (fun cdv A outer s H vs Q E hr h => by
      exfalso
      obtain ⟨a, b, _, ⟨wy, _, _, hd⟩, _⟩ := h
      have := M.depth_pos wy
      omega)
  | n + 1 => ok_weq F B T (df_weq F B T O b n) O b
end
end WP

end
section
set_option autoImplicit false
set_option Elab.async false
set_option linter.all false
set_option maxRecDepth 100000
set_option maxHeartbeats 4000000
/-! ## a way as its plan -/
namespace CP
open PySem L2 G Y
abbrev sLike : Stmt := S.top 50
section
variable {P : Program} {w : World} {K : PySem.W.Frag} {mg : Str → Option Value} {base : Heap} {C CW : Addr}
structure Mx (P : Program) (w : World) (K : PySem.W.Frag) (mg : Str → Option Value) (base : Heap) (C : Addr) : Prop where
  ex : ∃ (f : Addr) (fd : FuncData), FnOk P w K mg base CX0 8 f fd ["self", "position"] (WP.spOutW C) ∧ Meth K C "without" f ∧ Binds K fd ["self", "position"] []
structure Ow (P : Program) (w : World) (K : PySem.W.Frag) (mg : Str → Option Value) (base : Heap) (C : Addr) : Prop where
  ex : ∃ (f : Addr) (fd : FuncData), FnOk P w K mg base CX0 1 f fd ["self"] (WP.spLenW C) ∧ WO.Own K C f "__len__" ∧ Binds K fd ["self"] []
theorem nk_wo : ¬ (("without" : Str) = "head") ∧ ¬ (("without" : Str) = "steps") ∧ ¬ (("without" : Str) = "depth") ∧ ¬ (("without" : Str) = "size") := by decide +kernel
theorem way_ins {H : Hp} {wy : M.Way} {a : Addr} (h : WP.WayAt C H wy a) : ∃ dx fs, H a = some (.ins C dx fs) ∧ fs.lookup ("without" : Str) = none := by
  obtain ⟨wh, ws⟩ := wy
  unfold WP.WayAt at h
  obtain ⟨dx, t, xs, h1, _, _⟩ := h
  refine ⟨dx, _, h1, ?_⟩
  unfold WP.flds
  simp only [lookup_putF, if_neg nk_wo.1, if_neg nk_wo.2.1, if_neg nk_wo.2.2.1, if_neg nk_wo.2.2.2]
  rfl
theorem way_is {H : Hp} {wy : M.Way} {a : Addr} (h : WP.WayAt C H wy a) : WO.InsC C H a := by
  obtain ⟨dx, fs, h1, _⟩ := WP.head_fld h
  exact ⟨dx, fs, h1⟩
/-! ### a way as its plan -/
structure Ew (P : Program) (w : World) (K : PySem.W.Frag) (mg : Str → Option Value) (base : Heap) (C : Addr) : Prop where
  ex : ∃ (f : Addr) (fd : FuncData), FnOk P w K mg base CX0 10 f fd ["self", "other"] (spEq (WP.RWy C 3)) ∧ WO.Own K C f "__eq__" ∧ Binds K fd ["self", "other"] []
theorem eq_way {H : Hp} {Q : VK} {x y : Addr} {wy : M.Way} (hx : WP.WayAt CW H wy x) (hy : WP.WayAt CW H wy y) (hd : wy.depth ≤ 3) (k : ∀ G, Same H G → Q (.bl true) G) : WO.rEqO CW (spEq (WP.RWy CW 3)) E0 (.ref x) (.ref y) H Q :=
  ⟨x, y, rfl, rfl, way_is hx, way_is hy, x, y, rfl, ⟨wy, hx, hy, hd⟩, fun G s => ⟨_, rfl, k G s⟩⟩
def spLike (CW : Addr) : Sp := fun vs H Q _ => ∃ (a : Addr) (v : V) (wy : M.Way), vs = [.ref a, v] ∧ WP.WayAt CW H wy a ∧ PlanAt H wy v ∧ M.Way.fine wy ∧ ∀ H', Same H H' → Q (.bl true) H'
theorem scLi : FnScope ["one", "plan", "other"] ["one", "plan"] (defScope sLike) := ⟨rfl, rfl, rfl, by decide +kernel, rfl, by decide +kernel, by decide +kernel⟩
theorem ok_like {f : Addr} {fd : FuncData} (F : Fun K "_law_is_like" "_law_is_like" sLike f fd) (B : Bn mg) (T : WP.Wt K mg CW) (DL : Df P w K mg base 11 "_law_way" ["plan"] (spLWay CW 3)) (DE : Ew P w K mg base CW) (DW : Ow P w K mg base CW) : FnOk P w K mg base CX0 12 f fd ["one", "plan"] (spLike CW) := by
  obtain ⟨fL, fdL, GL, gL, kL, bL⟩ := DL.ex
  obtain ⟨fE, fdE, GE, OE, bE⟩ := DE.ex
  obtain ⟨fW, fdW, GW, OW, bW⟩ := DW.ex
  refine F.ok scLi (fun vs H Q E h => ?_) (fun cdv A outer s H vs Q E hr h => ?_)
  · obtain ⟨a, v, wy, rfl, _⟩ := h
    rfl
  · obtain ⟨a, v, wy, rfl, hw, hp, hf, kk⟩ := h
    refine ⟨_, pss_cons (ps_set (i := 2) scLi.nd rfl (Or.inl rfl) (pe_call GL (hr.mono (by omega)) rfl gL kL bL .nil pass0 (pa_cons (pv 1) pa_nil)))
      (pss_cons (ps_if (PW.pt (pw_or (pt_not (pt_cmpR (WO.op_eqO GE (hr.mono (by omega)) OE bE pass0) (pv 0) (pv 2) (nomark _))) (pw_or1 (pt_cmpR (op_ne) (pe_fld (pv 0) rfl) (pe_fld (pv 2) rfl) (nomark _))))) (pss_one (ps_ret pe_bl)) (pss_nil))
      (pss_one (ps_ret (pe_and (pe_cmpR (op_eq) (pe_fld (pv 0) rfl) (pe_fld (pv 2) rfl) (nomark _)) (pe_one (pe_cmpR (op_eq) (pe_callB (WO.call_lenO GW (hr.mono (by omega)) OW bW pass0) (by rfl) B.len PySem.boot_len (pa_cons (pv 0) pa_nil)) (pe_callB (WO.call_lenO GW (hr.mono (by omega)) OW bW pass0) (by rfl) B.len PySem.boot_len (pa_cons (pv 2) pa_nil)) (nomark _))))))), ?_⟩
    have hd := fine_dep hf
    refine set_then (i := 2) ⟨_, rfl, v, wy, rfl, hp, hf, hd, fun b G s1 hb => ?_⟩
    have ha := hw.mono s1
    refine ⟨_, rfl, _, rfl, eq_way ha hb hd fun G2 s2 => ⟨_, rfl, iteF ?_⟩⟩
    have ha2 := ha.mono s2
    have hb2 := hb.mono s2
    have ln : wy.steps.length < 1000000 := by
      have := (fine_all hf).2.1
      omega
    obtain ⟨wh, st⟩ := wy
    have la := ha2
    have lb := hb2
    unfold WP.WayAt at ha2 hb2
    obtain ⟨da, ta, xs, a1, a2, a3⟩ := ha2
    obtain ⟨db, tb, ys, b1, b2, b3⟩ := hb2
    refine ⟨_, rfl, a, CW, da, _, _, rfl, a1, T.cl, T.nD, WP.flds_depth _ _ _ _, _, rfl, b, CW, db, _, _, rfl, b1, T.cl, T.nD, WP.flds_depth _ _ _ _, rfl, _, rfl, iteNS rfl ?_⟩
    refine ⟨_, rfl, a, CW, da, _, _, rfl, a1, T.cl, T.nZ, WP.flds_size _ _ _ _, _, rfl, b, CW, db, _, _, rfl, b1, T.cl, T.nZ, WP.flds_size _ _ _ _, rfl, _, rfl, ?_⟩
    rw [decide_eq_true rfl]
    refine iteT ⟨_, rfl, a, rfl, way_is la, a, _, rfl, la, _, rfl, ln, _, rfl, b, rfl, way_is lb, b, _, rfl, lb, _, rfl, ln, rfl, ?_⟩
    rw [decide_eq_true rfl]
    exact kk G2 (s1.trans s2)
end
end CP

end
section
set_option autoImplicit false
set_option Elab.async false
set_option linter.all false
set_option maxRecDepth 100000
set_option maxHeartbeats 4000000
/-! ## the way that was read; read_way -/
namespace QK
open PySem PySem.Spec PyProof.Rows L2
section
variable {X : Cx} {CX : CXT} {k : Nat} {f : Addr} {fd : FuncData} {ps ks : List Str} {sp : Sp} {E : XK} {x : Str} {p pos : Pos} {kws : List Keyword} {tk : TA} {g : List Value → List Value → List Value} {gV : List V → List V → List V}
theorem pe_kall (F : FnOk X.prog X.w X.K X.mg X.base CX k f fd ps sp) (hr : Room k X.A) (hg : Gl X x) (hm : X.mg x = some (.ref f)) (hk : PySem.W.keepIn X.K (.ref f) = true) (hb : KBinds X.K fd ps ks g gV) (hx : Passes CX X E) (hkw : PK X kws tk)
    (hall : (backToKw pos (keywordEach kws X.env)).all (·.1.isSome) = true := by rfl) (hks : (backToKw pos (keywordEach kws X.env)).filterMap (·.1) = ks := by rfl) (hdb : (x == ("__debug__" : Str)) = false := by decide)
    (hpl : ((backTo pos (starEach [] X.env)).any (·.1) || (backToKw pos (keywordEach kws X.env)).any (·.1.isNone)) = false := by rfl) : PE X (.Call (.Name x p) [] kws pos) (tCallK sp gV E tNil tk) := ⟨fun pins s σ H Q I h =>
  wpAny_Call_Name_kw (ld_glob I hg hm (PySem.W.callWith_KW0 (h₀ := X.base) I.ok.mod.kin hk hall (thn (hkw.run pos pins s σ H _ I h) fun ws s2 ⟨zs, H2, I2, rz, q2⟩ => ⟨I2.kIn, by
    rw [hks]
    exact run_fnk (us := []) (vs := []) F hr hb hx I2 .nil rz q2⟩) hpl) hdb)⟩
end
end QK
namespace CP
open PySem L2 G Y
section
variable {α : Type}
def i1 : List α → List α
  | [c] => [c]
  | _ => []
def g0 (f : List α → List α) : List α → List α → List α
  | [], ws => f ws
  | _ :: _, _ => []
end
theorem rel0 {fV : List V → List V} {f : List Value → List Value} (h : ∀ {zs : List V} {ws : List Value}, Vals zs ws → Vals (fV zs) (f ws)) {vs : List V} {us : List Value} {zs : List V} {ws : List Value} (r : Vals vs us) (rz : Vals zs ws) : Vals (g0 fV vs zs) (g0 f us ws) := by
  cases r with
  | nil => exact h rz
  | cons _ _ => exact .nil
theorem ri {zs : List V} {ws : List Value} (rz : Vals zs ws) : Vals (i1 zs) (i1 ws) := by
  cases rz with
  | nil => exact .nil
  | cons a rz => cases rz with
    | nil => exact .cons a .nil
    | cons _ _ => exact .nil
end CP
namespace G
open PySem PySem.Spec PyProof.Rows L2
section
variable {X : Cx} {CX : CXT} {k : Nat} {f : Addr} {fd : FuncData} {ps : List Str} {sp : Sp} {E : XK} {x : Str} {p pos : Pos} {e : Expr} {es : List Expr} {t : TA}
theorem go_fn {pins : List (Addr × Obj)} {σ : L2.St} {H : Hp} {s : Shared} {Q : VK} {us : List Value} {vs : List V} (hg : X.A.guards = some []) (F : Ok X.prog X.w X.K X.mg X.base CX k f fd ps sp) (hr : Room k X.A) (hb : Binds X.K fd ps [])
    (hx : Passes CX X E) (I : Inv X pins σ H s) (rv : Vals vs us) (h : sp vs H Q E) : wpAny (model X.prog X.w) X.A (call (.ref f) us) (EP X pins σ Q) X.xe s := by
  have b := hb s us I.kIn (by rw [List.append_nil, ← rv.length]; exact F.len _ _ _ _ h)
  rw [List.append_nil] at b
  refine wpAny_call (codeAny_mono (F.go X.A hg X.stack s H ⟨us, []⟩ us vs Q E hr I.env0 b rv h) ?_)
  intro r s' z
  match r, z with
  | .error e, z => exact hx pins σ H s e s' I z
  | .ok (.ret u), z => exact I.after z
  | .ok .next, z => exact z.elim
  | .ok .brk, z => exact z.elim
  | .ok .cont, z => exact z.elim
theorem pe_callG (hgu : X.A.guards = some []) (F : Ok X.prog X.w X.K X.mg X.base CX k f fd ps sp) (hr : Room k X.A) (hl : Gl X x) (hm : X.mg x = some (.ref f)) (hk : PySem.W.keepIn X.K (.ref f) = true) (hb : Binds X.K fd ps []) (hx : Passes CX X E)
    (ha : PA X (e :: es) t) (hdb : (x == ("__debug__" : Str)) = false := by decide) (he : starEach (e :: es) X.env = (false, eval e X.env) :: starEach es X.env := by rfl) (hpl : (backTo pos (starEach es X.env)).any (·.1) = false := by rfl) :
    PE X (.Call (.Name x p) (e :: es) [] pos) (tCall sp [] E t) := ⟨fun pins s σ H Q I h =>
  wpAny_Call_Name_kw (ld_glob I hl hm (PySem.W.callWith_K (h₀ := X.base) I.ok.mod.kin hk (thn (ha.run pos pins s σ H _ I h) fun us s1 ⟨vs, H1, I1, r, q⟩ => ⟨I1.kIn,
    go_fn hgu F hr hb hx I1 r ((congrArg (fun z => sp z H1 Q E) (List.append_nil vs)).mp q)⟩) he hpl) hdb)⟩
end
structure Du (P : Program) (w : World) (K : PySem.W.Frag) (mg : Str → Option Value) (base : Heap) (k : Nat) (x : Str) (ps : List Str) (sp : Sp) : Prop where
  ex : ∃ (f : Addr) (fd : FuncData), Ok P w K mg base CX0 k f fd ps sp ∧ mg x = some (.ref f) ∧ PySem.W.keepIn K (.ref f) = true ∧ Binds K fd ps []
end G
namespace CP
open PySem L2 G Y
open TL TX
abbrev sRead : Stmt := S.top 36
section
variable {P : Program} {w : World} {K : PySem.W.Frag} {mg : Str → Option Value} {base : Heap} {CR CB CW : Addr}
def spRWay (CR CB CW : Addr) : Sp := fun vs H Q _ => ∃ (x : Addr) (st : List Fr) (f : Fr) (n h : Nat) (H0 : Hp), vs = [.ref x] ∧ RdAt CR CB CW H0 H st n x ∧ Closes 0 st [f] ∧ f.head = some h ∧ M.Way.fine (.mk h f.steps) ∧ ∀ a H', Same H0 H' → WP.WayAt CW H' (.mk h f.steps) a → Q (.ref a) H'
theorem scRy : FnScope ["self"] ["self"] (defScope sRWay) := ⟨rfl, rfl, rfl, by decide +kernel, rfl, by decide +kernel, by decide +kernel⟩
theorem ok_rway {f : Addr} {fd : FuncData} (F : Fun K "way" "Reader.way" sRWay f fd) (B : Bn mg) (T : Rt K mg CR) (TB : Bt K mg CB) (TW : WP.Wt K mg CW) (ME : Mr P w K mg base CR 8 "_end_inner" ["self"] (spREnd CR CB CW)) (MW : WP.Mw P w K mg base CW) : FnOk P w K mg base CX0 9 f fd ["self"] (spRWay CR CB CW) := by
  obtain ⟨fE, fdE, GE, mE, bE⟩ := ME.ex
  obtain ⟨fI, fdI, GI, MI, bI⟩ := MW.ex
  have gI := TW.g
  refine F.ok scRy (fun vs H Q E h => ?_) (fun cdv A outer s H vs Q E hr h => ?_)
  · obtain ⟨x, st, f, n, h, H0, rfl, _⟩ := h
    rfl
  · obtain ⟨x, st, f, n, h, H0, rfl, hR, cl, hh, hf, k⟩ := h
    refine ⟨_, pss_cons (ps_while PassesOwn.never (pt_cmpR (op_gt) (pe_callB call_len_seq (by rfl) B.len PySem.boot_len (pa_cons (pe_fld (pv 0) rfl) pa_nil)) (pe_int) (nomark _)) (pss_one (ps_expr (pe_meth0 (pv 0) T.cl mE GE (hr.mono (by omega)) bE .nil pass0))))
      (pss_one (ps_ret (pe_make MI GI (hr.mono (by omega)) rfl gI bI .nil pass0 (pa_cons (pe_fld (pe_ix ix_list (pe_fld (pv 0) rfl) (pe_int) (fun _ _ => rfl)) rfl) (pa_cons (pe_fld (pe_ix ix_list (pe_fld (pv 0) rfl) (pe_int) (fun _ _ => rfl)) rfl) pa_nil))))), ?_⟩
    have f12 : f.steps.length ≤ 12 := by
      have := hf
      unfold M.Way.fine at this
      exact this.2.1.2
    refine ⟨fun m σ G => ∃ st, m = st.length ∧ RdAt CR CB CW H0 G st n x ∧ Closes 0 st [f] ∧ σ = [some (.ref x)], ⟨_, st, rfl, hR, cl, rfl⟩, ?_⟩
    rintro m σ G ⟨st, rfl, ⟨dx, b, ps, hP⟩, cl, rfl⟩
    refine ⟨_, rfl, x, CR, dx, _, _, rfl, hP.hx, T.cl, T.nB, rf_look.1, b, _, rfl, .inl (SqL.of hP.hb), _, _, rfl, rfl, _, rfl, ?_⟩
    rw [bg_len, hP.stk.len]
    cases cl with
    | done hl =>
      refine iteF ?_
      obtain ⟨p, qs, rfl, g1, g2⟩ := stk_cons hP.stk
      have e0 : qs = [] := g2
      subst e0
      obtain ⟨dxf, xs, w1, w2, w3⟩ := g1.ex
      rw [hh] at w1
      have t0 : bgV [p] = [V.ref p.1] := rfl
      have hb : SqL K G b [V.ref p.1] := SqL.of hP.hb
      refine ⟨_, rfl, x, CR, dx, _, _, rfl, hP.hx, T.cl, T.nB, rf_look.1, b, _, _, _, rfl, rfl, hb, at_k0, p.1, CB, dxf, _, _, rfl, w1, TB.cl, TB.nH, bf_look.2.2.1, ?_⟩
      refine ⟨_, rfl, x, CR, dx, _, _, rfl, hP.hx, T.cl, T.nB, rf_look.1, b, _, _, _, rfl, rfl, hb, at_k0, p.1, CB, dxf, _, _, rfl, w1, TB.cl, TB.nS, bf_look.2.2.2, ?_⟩
      intro y dy hy hdy ne
      exact ⟨y, p.2, dy, h, xs, f.steps, G, rfl, upd_same, hy, (of_upd hdy).trans (of_upd (by rw [upd_ne ne.symm]; exact hy)), .inl w2, w3, hf, fun H2 s2 wa => ⟨rfl, k y H2 (hP.sm.trans s2) wa⟩⟩
    | @close c a r2 st2 h2 m t hl o1 o2 o3 cl =>
      rw [decide_eq_true (by omega)]
      refine iteT ⟨fun σ' G' => (∃ st, st.length = (a :: r2).length ∧ RdAt CR CB CW H0 G' st n x ∧ Closes 0 st [f]) ∧ σ' = [some (.ref x)], fun σ' G' ⟨⟨st, e, h1, h2⟩, h3⟩ => ⟨_, by rw [List.length_cons]; exact Nat.lt_succ_self _, st, e.symm, h1, h2, h3⟩, ?_⟩
      refine ⟨_, rfl, x, dx, _, rfl, hP.hx, rf_no (by decide +kernel) (by decide +kernel), x, c, a, r2, n, h2, m, t, H0, rfl, ⟨dx, b, _, hP⟩, o1, o2, o3, ?_, fun G' hR' => ⟨⟨{ a with steps := a.steps ++ [.tunnel (.mk h2 c.steps) m t] } :: r2, rfl, hR', cl⟩, rfl⟩⟩
      have := cl.few f12
      rw [List.length_append] at this
      omega
def spRead (CW : Addr) : Sp := fun vs H Q _ => ∃ wy : M.Way, vs = [.str (TX.S (text wy))] ∧ wy.fine ∧ ∀ a H', Same H H' → WP.WayAt CW H' wy a → Q (.ref a) H'
theorem scRd : FnScope ["text", "lines", "reader", "at", "line"] ["text"] (defScope sRead) := ⟨rfl, rfl, rfl, by decide +kernel, rfl, by decide +kernel, by decide +kernel⟩
mutual
theorem wl_all : ∀ (w : M.Way) (lv : Nat), w.fine → lv + w.depth ≤ 3 → ∀ x ∈ wl lv w, (∀ v ∈ liW x.2, Wd v) ∧ x.1 ≤ 3
  | .mk h s, lv, hf, hd, x, hx => by
    unfold M.Way.fine at hf
    unfold M.Way.depth at hd
    unfold wl at hx
    rcases List.mem_cons.mp hx with e | e
    · rw [e]
      exact ⟨headW_wd hf.1.2, by show lv ≤ 3; omega⟩
    · exact sls_all s lv h hf.2.2.1 (by omega) x e
theorem sls_all : ∀ (s : List M.Step) (lv h : Nat), M.Step.fineAll h s → lv + 1 + M.Step.deepest s ≤ 3 → ∀ x ∈ sls lv s, (∀ v ∈ liW x.2, Wd v) ∧ x.1 ≤ 3
  | [], lv, h, _, _, x, hx => by
    unfold sls at hx
    cases hx
  | y :: r, lv, h, hf, hd, x, hx => by
    unfold M.Step.fineAll at hf
    rw [M.deep_cons] at hd
    unfold sls at hx
    rcases List.mem_append.mp hx with e | e
    · exact sl_all y lv h hf.1 (by omega) x e
    · exact sls_all r lv h hf.2 (by omega) x e
theorem sl_all : ∀ (y : M.Step) (lv h : Nat), y.fine h → lv + 1 + y.dep ≤ 3 → ∀ x ∈ sl lv y, (∀ v ∈ liW x.2, Wd v) ∧ x.1 ≤ 3
  | .road a b c, lv, h, hf, hd, x, hx => by
    unfold sl at hx
    rw [List.mem_singleton.mp hx]
    exact ⟨plainW_wd hf, by show lv ≤ 3; omega⟩
  | .join a, lv, h, hf, hd, x, hx => by
    unfold sl at hx
    rw [List.mem_singleton.mp hx]
    exact ⟨plainW_wd hf, by show lv ≤ 3; omega⟩
  | .tunnel w m t, lv, h, hf, hd, x, hx => by
    have hf0 := hf
    unfold M.Step.fine at hf
    have hd2 : lv + 1 + w.depth ≤ 3 := hd
    unfold sl at hx
    rcases List.mem_cons.mp hx with e | e
    · rw [e]
      exact ⟨plainW_wd hf0, by show lv ≤ 3; omega⟩
    · exact wl_all w (lv + 1) hf.1 (by omega) x e
end
theorem ok_read {f : Addr} {fd : FuncData} (F : Fun K "read_way" "read_way" sRead f fd) (B : Bn mg) (hstr : mg "str" = none) (T : Rt K mg CR) (MN : Mn P w K mg base CR 3 ["self"] (spRInit CR CB CW)) (MT : Mr P w K mg base CR 9 "takes" ["self", "line"] (spTakes CR CB CW)) (MI : Mr P w K mg base CR 1 "is_whole" ["self"] (spWhole CR CB CW))
    (MY : Mr P w K mg base CR 9 "way" ["self"] (spRWay CR CB CW)) : FnOk P w K mg base CX0 10 f fd ["text"] (spRead CW) := by
  obtain ⟨fN, fdN, GN, mN, bN⟩ := MN.ex
  obtain ⟨fT, fdT, GT, mT, bT⟩ := MT.ex
  obtain ⟨fI, fdI, GI, mI, bI⟩ := MI.ex
  obtain ⟨fY, fdY, GY, mY, bY⟩ := MY.ex
  have gN := T.g
  refine F.ok scRd (fun vs H Q E h => ?_) (fun cdv A outer s H vs Q E hr h => ?_)
  · obtain ⟨wy, rfl, _⟩ := h
    rfl
  · obtain ⟨wy, rfl, hf, k⟩ := h
    refine ⟨_, pss_cons (ps_if (pt_not (pt_val (pe_callB call_isi (by rfl) B.isi (by decide +kernel) (pa_cons (pv 0) (pa_cons (pe_bltn (v := .ty "str") (by rfl) hstr (by decide +kernel) rfl) pa_nil))))) (ps_dead) (pss_nil))
      (pss_cons (ps_set (i := 1) scRd.nd rfl (Or.inl rfl) (pe_split (pv 0) (pe_str)))
      (pss_cons (ps_set (i := 2) scRd.nd rfl (Or.inl rfl) (pe_make0 mN GN (hr.mono (by omega)) rfl gN bN .nil pass0))
      (pss_cons (ps_for PassesOwn.never rfl (pi_enum (by rfl) B.enum (pa_cons (pv 1) pa_nil)) (pg_tup (by rfl) (pgs_cons (pg_name (i := 3) scRd.nd rfl (Or.inl rfl)) (pgs_cons (pg_name (i := 4) scRd.nd rfl (Or.inl rfl)) pgs_nil))) (pss_one (ps_if (pt_not (pt_val (pe_meth (pv 2) T.cl mT GT (hr.mono (by omega)) bT .nil pass0 (pa_cons (pv 4) pa_nil)))) (ps_dead) (pss_nil))))
      (pss_cons (ps_if (pt_not (pt_val (pe_meth0 (pv 2) T.cl mI GI (hr.mono (by omega)) bI .nil pass0))) (ps_dead) (pss_nil))
      (pss_one (ps_ret (pe_meth0 (pv 2) T.cl mY GY (hr.mono (by omega)) bY .nil pass0))))))), ?_⟩
    obtain ⟨len1, len2⟩ := lines_len hf
    have big : ∀ {n : Nat}, n ≤ 100000 → n ≤ sizeLine := fun h => Nat.le_trans h (by decide)
    have lt : (TX.S (text wy)).length ≤ 81 * 61 := by
      rw [S_len]
      have := join_len (S := [10]) 60 1 (by decide) (ps := Way.lines wy) len1
      unfold text
      omega
    refine ⟨_, rfl, _, _, _, _, true, rfl, .ty _, .base (.str _), kit_ty (by decide +kernel), _, rfl, iteF ?_⟩
    try unfold tNext
    dsimp only
    refine set_then (i := 1) ⟨_, rfl, ⟨_, rfl⟩, _, _, rfl, rfl, by decide +kernel, big (by omega), fun l hl => ?_⟩
    have nn : Way.lines wy ≠ [] := by
      obtain ⟨h, s⟩ := wy
      unfold Way.lines
      simp
    have e1 : Txt.split (TX.S (text wy)) ("\n" : Str) = (Way.lines wy).map TX.S := by
      rw [k_nl]
      exact split_lines (fun l hl => ((way_lines wy 3 hf (fine_dep hf)).1 l hl).2) nn
    rw [e1, ← sv_strs]
    have s0 := of_upd (o := .lst (sv (Way.lines wy))) hl
    have el : upd H l (.lst (sv (Way.lines wy))) l = some (.lst (sv (Way.lines wy))) := upd_same
    generalize upd H l (.lst (sv (Way.lines wy))) = H0 at s0 el ⊢
    dsimp only
    refine set_then (i := 2) ?_
    intro x dx hx hdx ne
    refine ⟨x, dx, H0, rfl, upd_same, hx, (of_upd hdx).trans (of_upd (by rw [upd_ne ne.symm]; exact hx)), fun H1 hR => ⟨rfl, ?_⟩⟩
    obtain ⟨stE, runs, cl, b1, q1, eE, nE⟩ := runs_text hf
    have lw := text_lines wy
    have wa := wl_all wy 0 hf (by have := fine_dep hf; omega)
    refine ⟨_, rfl, l, _, rfl, SqL.of (hR.sm _ _ el), ?_⟩
    have llen : (sv (Way.lines wy)).length = (wl 0 wy).length := by rw [sv_len, lw, List.length_map]
    refine for_it walk_enum (fun i σ G => ∃ st n q3 q4, RdAt CR CB CW H0 G st n x ∧ Runs (st, n) ((wl 0 wy).drop i) (stE, wy.size) ∧ σ = [some (.str (TX.S (text wy))), some (.ref l), some (.ref x), q3, q4])
      ⟨_, 0, _, _, hR, by rw [List.drop_zero]; exact runs, rfl⟩ (fun i σ G _ z => by obtain ⟨st, n, q3, q4, hR, _⟩ := z; exact SqL.of (hR.sm _ _ el)) ?_ ?_
    · rintro i v σ G G' hi ⟨st, n, q3, q4, hR, rn, rfl⟩ ⟨T0, a, b, rfl, nT, rfl, ha, hb⟩
      have ha : V.int (i : Nat) = a := Option.some.inj ha
      subst ha
      obtain ⟨ln, hln, rfl⟩ := sv_get hb
      rw [lw, List.getElem?_map] at hln
      obtain ⟨y, hy, rfl⟩ : ∃ y, (wl 0 wy)[i]? = some y ∧ lineOf y = ln := by
        cases e : (wl 0 wy)[i]? with
        | none => rw [e] at hln; cases hln
        | some y => rw [e] at hln; exact ⟨y, rfl, Option.some.inj hln⟩
      rw [drop_at hy] at rn
      obtain ⟨lv, li⟩ := y
      have wy1 := wa _ (List.mem_of_getElem? hy)
      have hR1 := hR.same (of_upd (o := .tup [.int (i : Nat), .str (TX.S (lineOf (lv, li)))]) nT)
      refine ⟨T0, _, rfl, SqT.of upd_same, rfl, _, _, rfl, _, _, rfl, rfl, ?_⟩
      generalize upd G T0 (.tup [.int (i : Nat), .str (TX.S (lineOf (lv, li)))]) = G1 at hR1 ⊢
      obtain ⟨dx1, b1', hx1⟩ := hR1.ins
      generalize hz : ((stE, wy.size) : List Fr × Nat) = z at rn
      cases rn with
      | @cons _ y2 _ _ _ fd rn =>
        obtain ⟨st2, n2⟩ := y2
        subst hz
        exact ⟨_, rfl, x, dx1, _, rfl, hx1, rf_no (by decide +kernel) (by decide +kernel), _, rfl, x, st, st2, n, n2, lv, li, H0, rfl, hR1, fd, wy1.1, wy1.2, fun H' hR' => ⟨_, rfl, iteF ⟨st2, n2, _, _, hR', rn, rfl⟩⟩⟩
    · rintro σ G ⟨st, n, q3, q4, hR, rn, rfl⟩
      rw [llen, List.drop_length] at rn
      generalize hz : ((stE, wy.size) : List Fr × Nat) = z at rn
      cases rn with
      | nil =>
        cases hz
        subst eE
        obtain ⟨dx1, b1', hx1⟩ := hR.ins
        refine ⟨_, rfl, x, dx1, _, rfl, hx1, rf_no (by decide +kernel) (by decide +kernel), x, b1, q1, _, H0, rfl, hR, _, rfl, ?_⟩
        rw [decide_eq_true (List.length_pos_iff.mpr nE)]
        refine iteF ?_
        obtain ⟨wh, ws⟩ := wy
        exact ⟨_, rfl, x, dx1, _, rfl, hx1, rf_no (by decide +kernel) (by decide +kernel), x, b1 :: q1, ⟨none, some wh, ws⟩, _, wh, H0, rfl, hR, cl, rfl, hf, fun a H' s wa => k a H' (s0.trans s) wa⟩
end
end CP

end
section
set_option autoImplicit false
set_option Elab.async false
set_option linter.all false
set_option maxRecDepth 100000
set_option maxHeartbeats 4000000
/-! ## the law -/
namespace TX
open PySem hiding Step
open TL M
theorem sm_num (n : Nat) : ∀ c ∈ numL n, c < 200 := fun c hc => by
  have := numL_digits n c hc
  omega
theorem sm_of {l : List Nat} (h : (l.all fun c => decide (c < 200)) = true) : ∀ c ∈ l, c < 200 := fun c hc => of_decide_eq_true (List.all_eq_true.mp h c hc)
theorem sm_plain (s : Step) : ∀ v ∈ plainW s, ∀ c ∈ v, c < 200 := fun v hv => by
  have hs : ∀ b, ∀ c ∈ sd b, c < 200 := fun b => by rcases sd_cs b with e | e <;> rw [e] <;> exact sm_of (by decide +kernel)
  have hl : ∀ b, ∀ c ∈ lw b, c < 200 := fun b => by rcases lw_cs b with e | e | e <;> rw [e] <;> exact sm_of (by decide +kernel)
  have ht : ∀ b, ∀ c ∈ tw b, c < 200 := fun b => by rcases tw_cs b with e | e | e <;> rw [e] <;> exact sm_of (by decide +kernel)
  cases s with
  | road size ts l =>
    simp only [plainW, List.mem_cons, List.mem_nil_iff, or_false] at hv
    rcases hv with rfl | rfl | rfl | rfl
    · exact sm_of (by decide +kernel)
    · exact sm_num _
    · exact hs _
    · exact hl _
  | join most =>
    simp only [plainW, List.mem_cons, List.mem_nil_iff, or_false] at hv
    rcases hv with rfl | rfl
    · exact sm_of (by decide +kernel)
    · exact sm_num _
  | tunnel w m t =>
    simp only [plainW, List.mem_cons, List.mem_nil_iff, or_false] at hv
    rcases hv with rfl | rfl | rfl
    · exact sm_of (by decide +kernel)
    · exact sm_num _
    · exact ht _
theorem sm_wd {ws : List (List Nat)} (h : ∀ v ∈ ws, ∀ c ∈ v, c < 200) : ∀ c ∈ wd ws, c < 200 := fun c hc => by
  rcases join_mem hc with e | ⟨p, hp, e⟩
  · rw [List.mem_singleton.mp e]
    decide
  · exact h p hp c e
theorem sm_head (h : Nat) : ∀ v ∈ headW h, ∀ c ∈ v, c < 200 := fun v hv => by
  simp only [headW, List.mem_cons, List.mem_nil_iff, or_false] at hv
  rcases hv with rfl | rfl
  · exact sm_of (by decide +kernel)
  · exact sm_num _
mutual
theorem way_small : ∀ (w : Way), ∀ l ∈ Way.lines w, ∀ c ∈ l, c < 200
  | .mk h s, l, hl => by
    unfold Way.lines at hl
    rcases List.mem_cons.mp hl with e | e
    · rw [e]
      exact sm_wd (sm_head h)
    · exact all_small s l e
theorem all_small : ∀ (s : List Step), ∀ l ∈ Step.linesAll s, ∀ c ∈ l, c < 200
  | [], l, hl => by
    unfold Step.linesAll at hl
    cases hl
  | x :: r, l, hl => by
    unfold Step.linesAll at hl
    rcases List.mem_append.mp hl with e | e
    · exact step_small x l e
    · exact all_small r l e
theorem step_small : ∀ (x : Step), ∀ l ∈ Step.lines x, ∀ c ∈ l, c < 200
  | .road a b d, l, hl => by
    unfold Step.lines at hl
    rw [List.mem_singleton.mp hl]
    exact sm_wd (sm_plain _)
  | .join a, l, hl => by
    unfold Step.lines at hl
    rw [List.mem_singleton.mp hl]
    exact sm_wd (sm_plain _)
  | .tunnel w m t, l, hl => by
    unfold Step.lines at hl
    rcases List.mem_cons.mp hl with e | e
    · rw [e]
      exact sm_wd (sm_plain _)
    · obtain ⟨k, hk, rfl⟩ := List.mem_map.mp e
      intro c hc
      rcases List.mem_append.mp hc with z | z
      · simp only [List.mem_cons, List.mem_nil_iff, or_false] at z
        omega
      · exact way_small w k hk c z
end
theorem text_small (w : Way) : ∀ c ∈ text w, c < 200 := fun c hc => by
  rcases join_mem hc with e | ⟨p, hp, e⟩
  · rw [List.mem_singleton.mp e]
    decide
  · exact way_small w p hp c e
end TX
namespace CP
open PySem L2 G Y QR
open TL TX
abbrev sLaw : Stmt := S.top 52
theorem text_len {wy : M.Way} (hf : wy.fine) : (text wy).length ≤ 5000 := by
  obtain ⟨len1, len2⟩ := lines_len hf
  have := join_len (S := [10]) 60 1 (by decide) (ps := Way.lines wy) len1
  unfold text
  omega
/-- a list of two texts of a way -/
theorem sh_two {K : PySem.W.Frag} {H : Hp} {L : Addr} {wy : M.Way} (hf : wy.fine) (h : H L = some (.lst [.str (TX.S (text wy)), .str (TX.S (text wy))])) : Sh K H (.ref L) (PyData.list [.str (TX.S (text wy)), .str (TX.S (text wy))]).shown := by
  have e1 : (TX.S (text wy)).cps.toList.all (fun c => decide (c < 16 ^ 8)) = true := List.all_eq_true.mpr fun c hc => decide_eq_true (by
    have hc : c ∈ tl (TX.S (text wy)) := hc
    rw [tl_S] at hc
    have := text_small wy c hc
    exact Nat.lt_of_lt_of_le this (by decide))
  have e2 : (TX.S (text wy)).cps.size = (text wy).length := S_len _
  have := text_len hf
  refine .ref (.lst (SqL.of h) (.cons (.str _) (.cons (.str _) .nil))) ?_ ?_ ?_ ?_
  · simp only [PyData.showable, PyData.showableAll, Bool.and_self]
  · simp only [PyData.depth, PyData.depthAll]
    omega
  · simp only [PyData.leavesShort, PyData.leavesShortAll, e1, Bool.and_self]
  · simp only [PyData.bulk, PyData.bulkAll, e2]
    exact Nat.le_trans (show _ ≤ 20000 by omega) (by decide)
section
variable {P : Program} {w : World} {K : PySem.W.Frag} {mg : Str → Option Value} {base : Heap} {CW : Addr}
structure DKw (P : Program) (w : World) (K : PySem.W.Frag) (mg : Str → Option Value) (base : Heap) (k : Nat) (x p : Str) (sp : Sp) : Prop where
  ex : ∃ (f : Addr) (fd : FuncData), FnOk P w K mg base CX0 k f fd [p] sp ∧ mg x = some (.ref f) ∧ PySem.W.keepIn K (.ref f) = true ∧ Binds K fd [p] [] ∧ KBinds K fd [p] [p] (g0 i1) (g0 i1)
def spLaw (K : PySem.W.Frag) : Sp := fun vs H Q _ => ∃ (a : Addr) (ns : List Int), vs = [.ref a] ∧ SqL K H a (ns.map V.int) ∧ ns.length ≤ 63 ∧ (∀ z ∈ ns, Builtin.Int.intBits z ≤ 1048576) ∧ ∀ H', Q (.bl true) H'
theorem scLa : FnScope ["script", "start", "stream", "turn", "plan", "one", "due", "two"] ["script"] (defScope sLaw) := ⟨rfl, rfl, rfl, by decide +kernel, rfl, by decide +kernel, by decide +kernel⟩
theorem ne3 {K : PySem.W.Frag} {H : Hp} {Q : VK} {t u : Addr} {a b c : Int} (h1 : H t = some (.tup [.int a, .int b, .int c])) (h2 : H u = some (.tup [.int a, .int b, .int c])) (k : Q (.bl false) H) : rNeD K (.ref t) (.ref u) H Q :=
  ⟨.tuple [.int a, .int b, .int c], .tuple [.int a, .int b, .int c], .tup (SqT.of h1) (.cons (.int _) (.cons (.int _) (.cons (.int _) .nil))), .tup (SqT.of h2) (.cons (.int _) (.cons (.int _) (.cons (.int _) .nil))), by rfl, by rfl, by
    rw [SeqAt.eqv_refl _ (by rfl)]
    exact k⟩
theorem ok_law {f : Addr} {fd : FuncData} (F : Fun K "law" "law" sLaw f fd) (B : Bn mg) (TW : WP.Wt K mg CW) (DU : Df P w K mg base 1 "_law_stream" ["script", "start"] (S.spSource K)) (DPl : Df P w K mg base 10 "_law_plan" ["stream", "depth", "base"] (spLPlan 3)) (DLw : Df P w K mg base 11 "_law_way" ["plan"] (spLWay CW 3))
    (DLl : Df P w K mg base 4 "_law_lines" ["plan", "lead"] (spLLines 3)) (DS : G.Du P w K mg base 1 "_law_same" ["one", "two"] (S.spSame K)) (DT : DKw P w K mg base 5 "way_text" "way" (spWText CW)) (DR : DKw P w K mg base 10 "read_way" "text" (spRead CW))
    (DLk : Df P w K mg base 12 "_law_is_like" ["one", "plan"] (spLike CW)) (DE : Ew P w K mg base CW) (DW : Ow P w K mg base CW) : G.Ok P w K mg base CX0 13 f fd ["script"] (spLaw K) := by
  obtain ⟨fU, fdU, GU, gU, kU, bU⟩ := DU.ex
  obtain ⟨fP, fdP, GP, gP, kP, bP⟩ := DPl.ex
  obtain ⟨fY, fdY, GY, gY, kY, bY⟩ := DLw.ex
  obtain ⟨fZ, fdZ, GZ, gZ, kZ, bZ⟩ := DLl.ex
  obtain ⟨fS, fdS, GS, gS, kS, bS⟩ := DS.ex
  obtain ⟨fT, fdT, GT, gT, kT, bT, kaT⟩ := DT.ex
  obtain ⟨fR, fdR, GR, gR, kR, bR, kaR⟩ := DR.ex
  obtain ⟨fK, fdK, GK, gK, kK, bK⟩ := DLk.ex
  obtain ⟨fE, fdE, GE, OE, bE⟩ := DE.ex
  obtain ⟨fW, fdW, GW, OW, bW⟩ := DW.ex
  refine G.mk F scLa (fun vs H Q E h => ?_) (fun cdv A outer s H vs Q E hg hr h => ?_)
  · obtain ⟨a, ns, rfl, _⟩ := h
    rfl
  · obtain ⟨a, ns, rfl, hS, hl, hb, k⟩ := h
    refine ⟨_, pss_cons (ps_for PassesOwn.never rfl (pi_range1 (by rfl) B.range (pa_cons (pe_callB (call_max2 rfl) (by rfl) B.max (by decide +kernel) (pa_cons (pe_int) (pa_cons (pe_callB (call_min2 rfl) (by rfl) B.min (by decide +kernel) (pa_cons (pe_int) (pa_cons (pe_callB call_len_seq (by rfl) B.len PySem.boot_len (pa_cons (pv 0) pa_nil)) pa_nil))) pa_nil))) pa_nil)) (pg_name (i := 1) scLa.nd rfl (Or.inl rfl)) (pss_cons (ps_set (i := 2) scLa.nd rfl (Or.inl rfl) (pe_call GU (hr.mono (by omega)) rfl gU kU bU .nil pass0 (pa_cons (pv 0) (pa_cons (pv 1) pa_nil))))
      (pss_one (ps_for PassesOwn.never rfl (pi_range1 (by rfl) B.range (pa_cons (pe_int) pa_nil)) (pg_name (i := 3) scLa.nd rfl (Or.inl rfl)) (pss_cons (ps_set (i := 4) scLa.nd rfl (Or.inl rfl) (pe_call GP (hr.mono (by omega)) rfl gP kP bP .nil pass0 (pa_cons (pv 2) (pa_cons (pe_int) (pa_cons (pe_int) pa_nil)))))
      (pss_cons (ps_par (i := 5) (j := 6) (by rfl) scLa.nd rfl rfl (by decide) rfl rfl (pa_cons (pe_call GY (hr.mono (by omega)) rfl gY kY bY .nil pass0 (pa_cons (pv 4) pa_nil)) (pa_cons (pe_join (pe_str) (pe_call GZ (hr.mono (by omega)) rfl gZ kZ bZ .nil pass0 (pa_cons (pv 4) (pa_cons (pe_str) pa_nil)))) pa_nil)) (by rfl))
      (pss_cons (ps_if (pt_not (pt_val (pe_callG hg GS (hr.mono (by omega)) rfl gS kS bS pass0 (pa_cons (pe_lst (pa_cons (pe_call GT (hr.mono (by omega)) rfl gT kT bT .nil pass0 (pa_cons (pv 5) pa_nil)) (pa_cons (QK.pe_kall GT (hr.mono (by omega)) rfl gT kT kaT pass0 (pk_cons (pv 5) pk_nil)) pa_nil))) (pa_cons (pe_lst (pa_cons (pv 6) (pa_cons (pv 6) pa_nil))) pa_nil))))) (pss_one (ps_ret (pe_bl))) (pss_nil))
      (pss_cons (ps_if (PW.pt (pw_or (pt_not (pt_cmpR (WO.op_eqO GE (hr.mono (by omega)) OE bE pass0) (pe_call GR (hr.mono (by omega)) rfl gR kR bR .nil pass0 (pa_cons (pv 6) pa_nil)) (pv 5) (nomark _))) (pw_or (pt_not (pt_cmpR (WO.op_eqO GE (hr.mono (by omega)) OE bE pass0) (QK.pe_kall GR (hr.mono (by omega)) rfl gR kR kaR pass0 (pk_cons (pv 6) pk_nil)) (pv 5) (nomark _))) (pw_or1 (pt_not (pt_val (pe_callB call_isi (by rfl) B.isi (by decide +kernel) (pa_cons (pe_call GR (hr.mono (by omega)) rfl gR kR bR .nil pass0 (pa_cons (pv 6) pa_nil)) (pa_cons (pe_glob (v := .ref CW) rfl TW.g rfl) pa_nil))))))))) (pss_one (ps_ret (pe_bl))) (pss_nil))
      (pss_cons (ps_set (i := 7) scLa.nd rfl (Or.inl rfl) (pe_call GR (hr.mono (by omega)) rfl gR kR bR .nil pass0 (pa_cons (pv 6) pa_nil)))
      (pss_cons (ps_if (pt_cmpR (op_neD hr.units) (pe_tup (pa_cons (pe_fld (pv 7) rfl) (pa_cons (pe_fld (pv 7) rfl) (pa_cons (pe_callB (WO.call_lenO GW (hr.mono (by omega)) OW bW pass0) (by rfl) B.len PySem.boot_len (pa_cons (pv 7) pa_nil)) pa_nil)))) (pe_tup (pa_cons (pe_fld (pv 5) rfl) (pa_cons (pe_fld (pv 5) rfl) (pa_cons (pe_callB (WO.call_lenO GW (hr.mono (by omega)) OW bW pass0) (by rfl) B.len PySem.boot_len (pa_cons (pv 5) pa_nil)) pa_nil)))) (nomark _)) (pss_one (ps_ret (pe_bl))) (pss_nil))
      (pss_one (ps_if (pt_not (pt_val (pe_call GK (hr.mono (by omega)) rfl gK kK bK .nil pass0 (pa_cons (pv 5) (pa_cons (pv 4) pa_nil))))) (pss_one (ps_ret (pe_bl))) (pss_nil)))))))))))))
      (pss_one (ps_ret (pe_bl))), ?_⟩
    refine ⟨_, rfl, a, _, rfl, .inl hS, _, _, rfl, _, _, rfl, _, rfl, by split <;> omega, by split <;> (try split) <;> omega, for_range (n := Int.toNat _) (fun i σ G => Same H G ∧ ∃ q1 q2 q3 q4 q5 q6 q7, σ = [some (.ref a), q1, q2, q3, q4, q5, q6, q7])
      ⟨Same.refl H, _, _, _, _, _, _, _, rfl⟩ ?_ ?_⟩
    · rintro i σ G hi ⟨s0, q1, q2, q3, q4, q5, q6, q7, rfl⟩
      dsimp only
      refine set_then (i := 2) ⟨_, rfl, _, rfl, a, ns, i, by show [V.ref a, V.int (0 + (i : Int))] = _; rw [Int.zero_add], ?_, s0.seq hS, hl, hb, fun p r m hp hf => ?_⟩
      · split at hi <;> (try split at hi) <;> omega
      have hp0 : H p = none := s0.free hp
      have s1 : Same H (upd G p (.lst (S.Two r m))) := s0.trans (of_upd hp)
      have at1 : S.At (upd G p (.lst (S.Two r m))) p := ⟨r, m, upd_same, hf⟩
      generalize upd G p (.lst (S.Two r m)) = G1 at s1 at1 ⊢
      clear hp hf
      refine ⟨2, rfl, by decide, by decide, for_range (n := 2) (fun _ σ G => Same H G ∧ S.At G p ∧ ∃ st q3 q4 q5 q6 q7, σ = [some (.ref a), st, some (.ref p), q3, q4, q5, q6, q7])
        ⟨s1, at1, _, _, _, _, _, _, rfl⟩ ?_ fun σ G z => ⟨z.1, by obtain ⟨_, _, st, q3, q4, q5, q6, q7, e⟩ := z; exact ⟨_, _, _, _, _, _, _, e⟩⟩⟩
      rintro i2 σ G2 hi2 ⟨s2, hA, st, q3, q4, q5, q6, q7, rfl⟩
      dsimp only
      refine set_then (i := 4) ⟨_, rfl, p, 2, 0, rfl, hA, by decide, by decide, by decide, fun wy v G3 b3 pl sm => ?_⟩
      have s3 := sameBt s2 hp0 b3
      have a3 := b3.2
      have hf := sm.fine
      have hd : wy.depth ≤ 3 := sm.dp
      clear b3 hA s2
      refine ⟨_, rfl, v, wy, rfl, pl, hf, hd, fun x G4 s4 wa => ?_⟩
      refine ⟨⟨_, rfl⟩, _, rfl, v, wy, ("" : Str), rfl, pl.keep (same_keepT s4), hf, hd, by decide +kernel, fun D G5 s5 n5 e5 => ?_⟩
      have e0 : (Way.lines wy).map (tl ("" : Str) ++ ·) = Way.lines wy := by
        rw [show tl ("" : Str) = [] by decide +kernel]
        show (Way.lines wy).map (fun l => [] ++ l) = _
        simp
      rw [e0] at e5
      obtain ⟨len1, len2⟩ := lines_len hf
      refine ⟨_, D, (Way.lines wy).map TX.S, rfl, rfl, .inl (SqL.of (by rw [e5, sv_strs])), ?_, _, _, rfl, ?_⟩
      · have := sum_len (k := 60) len1
        rw [List.length_map, show ("\n" : Str).length = 1 from by rw [len_tl, k_nl, tl_S]; rfl]
        omega
      rw [join_nl]
      have s45 := s4.trans s5
      have s6 := s3.trans s45
      have a6 := sameAt s45 a3
      have wa6 := wa.mono s5
      have pl6 := pl.keep (same_keepT s45)
      clear s3 a3 wa pl s4 s5 n5 e5
      have dep1 : wy.depth ≤ 3 := hd
      refine ⟨_, rfl, x, wy, rfl, wa6, hf, fun H1 t1 => ⟨_, rfl, x, wy, rfl, wa6.mono t1, hf, fun H2 t2 => ⟨line2.1, fun L1 n1 => ⟨_, rfl, _, rfl, line2.1, fun L2 n2 => ?_⟩⟩⟩⟩
      have u1 := of_upd (o := .lst [V.str (TX.S (text wy)), .str (TX.S (text wy))]) n1
      have u2 := of_upd (o := .lst [V.str (TX.S (text wy)), .str (TX.S (text wy))]) n2
      refine ⟨.ref L1, .ref L2, _, rfl, sh_two hf (u2 _ _ upd_same), sh_two hf upd_same, _, rfl, iteF ?_⟩
      have t5 := ((t1.trans t2).trans u1).trans u2
      change Same G5 (upd (upd H2 L1 (.lst [V.str (TX.S (text wy)), .str (TX.S (text wy))])) L2 (.lst [V.str (TX.S (text wy)), .str (TX.S (text wy))])) at t5
      try unfold tNext
      dsimp only
      have kit : PySem.W.kitOne K (.ref CW) (.ref CW) = some true := by
        unfold PySem.W.kitOne
        rw [if_pos (by simp)]
      have w5 := wa6.mono t5
      refine ⟨_, rfl, wy, rfl, hf, fun b4 H4 t6 wb => ⟨_, rfl, eq_way wb (w5.mono t6) hd fun H5 t7 => ⟨_, rfl, iteF ?_⟩⟩⟩
      have w7 := (w5.mono t6).mono t7
      refine ⟨_, rfl, wy, rfl, hf, fun b6 H6 t8 wc => ⟨_, rfl, eq_way wc (w7.mono t8) hd fun H7 t9 => ⟨_, rfl, iteF ?_⟩⟩⟩
      have w9 := (w7.mono t8).mono t9
      refine ⟨_, rfl, wy, rfl, hf, fun b8 H8 t10 wdd => ?_⟩
      obtain ⟨dz, fz, hz, _⟩ := WP.head_fld wdd
      refine ⟨_, _, _, _, true, rfl, .own CW, .base (.ins hz TW.cl TW.iA TW.iN TW.iT TW.iM), kit, _, rfl, iteF ?_⟩
      have w10 := w9.mono t10
      try unfold tNext
      dsimp only
      refine set_then (i := 7) ⟨_, rfl, wy, rfl, hf, fun z9 H9 t11 wz => ?_⟩
      have w11 := w10.mono t11
      have s11 := ((((((t5.trans t6).trans t7).trans t8).trans t9).trans t10).trans t11)
      have ln : wy.steps.length < 1000000 := by
        have := (fine_all hf).2.1
        omega
      have wz0 := wz
      have w110 := w11
      obtain ⟨wh, ws⟩ := wy
      unfold WP.WayAt at wz0 w110
      obtain ⟨d1, t1', xs1, a1, a2, a3'⟩ := wz0
      obtain ⟨d2, t2', xs2, c1, c2, c3⟩ := w110
      refine ⟨_, rfl, z9, CW, d1, _, _, rfl, a1, TW.cl, TW.nD, WP.flds_depth _ _ _ _, _, rfl, z9, CW, d1, _, _, rfl, a1, TW.cl, TW.nZ, WP.flds_size _ _ _ _, _, rfl, z9, rfl, way_is wz, z9, _, rfl, wz, _, rfl, ln, line2.2.1, fun ta hta => ?_⟩
      have q1' := of_upd (o := .tup [V.int ((1 + M.Step.deepest ws : Nat) : Int), .int ((ws.length + M.Step.inner ws : Nat) : Int), .int ((ws.length : Nat) : Int)]) hta
      refine ⟨_, rfl, x, CW, d2, _, _, rfl, q1' _ _ c1, TW.cl, TW.nD, WP.flds_depth _ _ _ _, _, rfl, x, CW, d2, _, _, rfl, q1' _ _ c1, TW.cl, TW.nZ, WP.flds_size _ _ _ _, _, rfl, x, rfl, way_is (w11.mono q1'), x, _, rfl, w11.mono q1', _, rfl, ln, line2.2.1, fun tb htb => ?_⟩
      have q2' := of_upd (o := .tup [V.int ((1 + M.Step.deepest ws : Nat) : Int), .int ((ws.length + M.Step.inner ws : Nat) : Int), .int ((ws.length : Nat) : Int)]) htb
      refine ne3 (q2' _ _ upd_same) upd_same ⟨_, rfl, iteF ?_⟩
      have s12 := (s11.trans q1').trans q2'
      exact ⟨_, rfl, _, rfl, x, v, _, rfl, (w11.mono q1').mono q2', pl6.keep (same_keepT s12), hf, fun H' sE => ⟨_, rfl, iteF ⟨s6.trans (s12.trans sE), sameAt (s12.trans sE) a6, _, _, _, _, _, _, rfl⟩⟩⟩
    · rintro σ G ⟨s0, q1, q2, q3, q4, q5, q6, q7, rfl⟩
      exact k G
end
end CP

end
section
set_option autoImplicit false
set_option Elab.async false
set_option linter.all false
set_option maxRecDepth 100000
set_option maxHeartbeats 4000000
/-! ## what the top leaves -/
namespace CP
open PySem L2 G Y
/-- a def as it stands behind the top -/
structure Fa (K : PySem.W.Frag) (mg : Str → Option Value) (x : Str) (st : Stmt) (ps : List Str) : Prop where
  ex : ∃ (f : Addr) (fd : FuncData), Fun K x x st f fd ∧ mg x = some (.ref f) ∧ PySem.W.keepIn K (.ref f) = true ∧ Binds K fd ps []
theorem Fa.df {P : Program} {w : World} {K : PySem.W.Frag} {mg : Str → Option Value} {base : Heap} {x : Str} {st : Stmt} {ps : List Str} {k : Nat} {sp : Sp} (h : Fa K mg x st ps) (ok : ∀ f fd, Fun K x x st f fd → FnOk P w K mg base CX0 k f fd ps sp) : Df P w K mg base k x ps sp := by
  obtain ⟨f, fd, h1, h2, h3, h4⟩ := h.ex
  exact ⟨f, fd, ok f fd h1, h2, h3, h4⟩
theorem Fa.dw {P : Program} {w : World} {K : PySem.W.Frag} {mg : Str → Option Value} {base : Heap} {x : Str} {st : Stmt} {ps : List Str} {k : Nat} {sp : Sp} (h : Fa K mg x st ps) (ok : ∀ f fd, Fun K x x st f fd → FnOk P w K mg base CX0 k f fd ps sp) : WP.Df P w K mg base k x ps sp := by
  obtain ⟨f, fd, h1, h2, h3, h4⟩ := h.ex
  exact ⟨f, fd, ok f fd h1, h2, h3, h4⟩
structure Fk (K : PySem.W.Frag) (mg : Str → Option Value) (x : Str) (st : Stmt) (p : Str) : Prop where
  ex : ∃ (f : Addr) (fd : FuncData), Fun K x x st f fd ∧ mg x = some (.ref f) ∧ PySem.W.keepIn K (.ref f) = true ∧ Binds K fd [p] [] ∧ KBinds K fd [p] [p] (g0 i1) (g0 i1)
theorem Fk.d {P : Program} {w : World} {K : PySem.W.Frag} {mg : Str → Option Value} {base : Heap} {x : Str} {st : Stmt} {p : Str} {k : Nat} {sp : Sp} (F : Fk K mg x st p) (ok : ∀ f fd, Fun K x x st f fd → FnOk P w K mg base CX0 k f fd [p] sp) : DKw P w K mg base k x p sp := by
  obtain ⟨f, fd, h1, h2, h3, h4, h5⟩ := F.ex
  exact ⟨f, fd, ok f fd h1, h2, h3, h4, h5⟩
theorem ne_cls {K : PySem.W.Frag} {C D : Addr} {m : Str} {v : Value} (a : PySem.W.findIn K (.ref C) m = some (some v)) (b : PySem.W.findIn K (.ref D) m = some none) : C ≠ D := fun e => by
  rw [e, b] at a
  cases a
section
variable {P : Program} {w : World} {K : PySem.W.Frag} {mg : Str → Option Value} {base : Heap} {C CW : Addr}
theorem dl_tlines (B : Bn mg) (hstr : mg "str" = none) (gI : ∃ t, mg "INDENTATION" = some (.str "  " t)) (T : WP.Wt K mg CW) (z : Fa K mg "_lines" sTLines ["way"]) : ∀ n, Df P w K mg base (1 + n) "_lines" ["way"] (spTLines CW n)
  | 0 => z.df fun f fd F => F.ok scTl (fun vs H Q E h => by
      obtain ⟨a, wy, rfl, _⟩ := h
      rfl) (fun cdv A outer s H vs Q E hr h => by
      exfalso
      obtain ⟨a, wy, _, _, _, hd, _⟩ := h
      have := M.depth_pos wy
      omega)
  | n + 1 => z.df fun f fd F => ok_tlines F B hstr gI T (by show 1 ≤ 1 + n; omega) (dl_tlines B hstr gI T z n)
theorem dl_llines (B : Bn mg) (hstr : mg "str" = none) (z : Fa K mg "_law_lines" sLLines ["plan", "lead"]) : ∀ n, Df P w K mg base (1 + n) "_law_lines" ["plan", "lead"] (spLLines n)
  | 0 => z.df fun f fd F => F.ok scLl (fun vs H Q E h => by
      obtain ⟨v, wy, ld, rfl, _⟩ := h
      rfl) (fun cdv A outer s H vs Q E hr h => by
      exfalso
      obtain ⟨v, wy, ld, _, _, _, hd, _⟩ := h
      have := M.depth_pos wy
      omega)
  | n + 1 => z.df fun f fd F => ok_llines F B hstr (by show 1 ≤ 1 + n; omega) (dl_llines B hstr z n)
theorem dl_plan (B : Bn mg) (zp : Fa K mg "_law_plan" sLPlan ["stream", "depth", "base"]) (zs : Fa K mg "_law_plan_step" sLStep ["stream", "depth", "base", "head"]) (DD : Df P w K mg base 1 "_law_draw" ["stream", "size"] S.spDraw) (DP : Df P w K mg base 2 "_law_choose" ["stream", "items"] (S.spChoose K)) (DM : Df P w K mg base 3 "_law_most" ["stream"] spLMost) :
    ∀ n, Df P w K mg base (4 + 2 * n) "_law_plan" ["stream", "depth", "base"] (spLPlan n)
  | 0 => zp.df fun f fd F => F.ok scPn (fun vs H Q E h => by
      obtain ⟨p, d, b, rfl, _⟩ := h
      rfl) (fun cdv A outer s H vs Q E hr h => by
      exfalso
      obtain ⟨p, d, b, _, _, hd, _⟩ := h
      omega)
  | n + 1 => by
    have D0 := dl_plan B zp zs DD DP DM n
    have DS : Df P w K mg base (4 + 2 * n + 1) "_law_plan_step" ["stream", "depth", "base", "head"] (spLStep n) := zs.df fun f fd F => ok_lstep F (by omega) B DD DP DM D0
    have r : Df P w K mg base (4 + 2 * n + 1 + 1) "_law_plan" ["stream", "depth", "base"] (spLPlan (n + 1)) := zp.df fun f fd F => ok_lplan F (by omega) B DD DP DS
    exact r
theorem dl_way (T : WP.Wt K mg CW) (MW : WP.Mw P w K mg base CW) (z : Fa K mg "_law_way" sLWay ["plan"]) : ∀ n, Df P w K mg base (8 + n) "_law_way" ["plan"] (spLWay CW n)
  | 0 => z.df fun f fd F => F.ok scLw (fun vs H Q E h => by
      obtain ⟨v, wy, rfl, _⟩ := h
      rfl) (fun cdv A outer s H vs Q E hr h => by
      exfalso
      obtain ⟨v, wy, _, _, _, hd, _⟩ := h
      have := M.depth_pos wy
      omega)
  | n + 1 => z.df fun f fd F => ok_lway F T MW (by show 7 ≤ 8 + n; omega) (dl_way T MW z n)
end
section
variable {K : PySem.W.Frag} {mg : Str → Option Value} {h : Heap} {f : Addr} {fd : FuncData}
theorem fd_I (X : K.In h) (Gn : h.Ns mainGlobals mg) (a : PySem.W.nsIn K mainGlobals "is_integer" = some (some (.ref f))) (F : Fun K "is_integer" "is_integer" WP.sInteger f fd) : Fa K mg "is_integer" WP.sInteger ["value"] :=
  ⟨f, fd, F, PySem.W.mg_of X Gn a, F.kp, F.binds fun _ _ _ _ _ _ us hl => match us, hl with | [_], _ => rfl⟩
theorem fd_W (X : K.In h) (Gn : h.Ns mainGlobals mg) (a : PySem.W.nsIn K mainGlobals "is_within" = some (some (.ref f))) (F : Fun K "is_within" "is_within" WP.sWithin f fd) : Fa K mg "is_within" WP.sWithin ["value", "least", "greatest"] :=
  ⟨f, fd, F, PySem.W.mg_of X Gn a, F.kp, F.binds fun _ _ _ _ _ _ us hl => match us, hl with | [_, _, _], _ => rfl⟩
theorem fd_wr (X : K.In h) (Gn : h.Ns mainGlobals mg) (a : PySem.W.nsIn K mainGlobals "written_integer" = some (some (.ref f))) (F : Fun K "written_integer" "written_integer" sWritten f fd) : Fa K mg "written_integer" sWritten ["word"] :=
  ⟨f, fd, F, PySem.W.mg_of X Gn a, F.kp, F.binds fun _ _ _ _ _ _ us hl => match us, hl with | [_], _ => rfl⟩
theorem fd_tp (X : K.In h) (Gn : h.Ns mainGlobals mg) (a : PySem.W.nsIn K mainGlobals "_step" = some (some (.ref f))) (F : Fun K "_step" "_step" sTStep f fd) : Fa K mg "_step" sTStep ["words", "head"] :=
  ⟨f, fd, F, PySem.W.mg_of X Gn a, F.kp, F.binds fun _ _ _ _ _ _ us hl => match us, hl with | [_, _], _ => rfl⟩
theorem fd_tl2 (X : K.In h) (Gn : h.Ns mainGlobals mg) (a : PySem.W.nsIn K mainGlobals "_lines" = some (some (.ref f))) (F : Fun K "_lines" "_lines" sTLines f fd) : Fa K mg "_lines" sTLines ["way"] :=
  ⟨f, fd, F, PySem.W.mg_of X Gn a, F.kp, F.binds fun _ _ _ _ _ _ us hl => match us, hl with | [_], _ => rfl⟩
theorem fd_ll (X : K.In h) (Gn : h.Ns mainGlobals mg) (a : PySem.W.nsIn K mainGlobals "_law_lines" = some (some (.ref f))) (F : Fun K "_law_lines" "_law_lines" sLLines f fd) : Fa K mg "_law_lines" sLLines ["plan", "lead"] :=
  ⟨f, fd, F, PySem.W.mg_of X Gn a, F.kp, F.binds fun _ _ _ _ _ _ us hl => match us, hl with | [_, _], _ => rfl⟩
theorem fd_ls (X : K.In h) (Gn : h.Ns mainGlobals mg) (a : PySem.W.nsIn K mainGlobals "_law_stream" = some (some (.ref f))) (F : Fun K "_law_stream" "_law_stream" S.sSource f fd) : Fa K mg "_law_stream" S.sSource ["script", "start"] :=
  ⟨f, fd, F, PySem.W.mg_of X Gn a, F.kp, F.binds fun _ _ _ _ _ _ us hl => match us, hl with | [_, _], _ => rfl⟩
theorem fd_ld (X : K.In h) (Gn : h.Ns mainGlobals mg) (a : PySem.W.nsIn K mainGlobals "_law_draw" = some (some (.ref f))) (F : Fun K "_law_draw" "_law_draw" S.sDraw f fd) : Fa K mg "_law_draw" S.sDraw ["stream", "size"] :=
  ⟨f, fd, F, PySem.W.mg_of X Gn a, F.kp, F.binds fun _ _ _ _ _ _ us hl => match us, hl with | [_, _], _ => rfl⟩
theorem fd_lch (X : K.In h) (Gn : h.Ns mainGlobals mg) (a : PySem.W.nsIn K mainGlobals "_law_choose" = some (some (.ref f))) (F : Fun K "_law_choose" "_law_choose" S.sPick f fd) : Fa K mg "_law_choose" S.sPick ["stream", "items"] :=
  ⟨f, fd, F, PySem.W.mg_of X Gn a, F.kp, F.binds fun _ _ _ _ _ _ us hl => match us, hl with | [_, _], _ => rfl⟩
theorem fd_sm (X : K.In h) (Gn : h.Ns mainGlobals mg) (a : PySem.W.nsIn K mainGlobals "_law_same" = some (some (.ref f))) (F : Fun K "_law_same" "_law_same" S.sSame f fd) : Fa K mg "_law_same" S.sSame ["one", "two"] :=
  ⟨f, fd, F, PySem.W.mg_of X Gn a, F.kp, F.binds fun _ _ _ _ _ _ us hl => match us, hl with | [_, _], _ => rfl⟩
theorem fd_pn (X : K.In h) (Gn : h.Ns mainGlobals mg) (a : PySem.W.nsIn K mainGlobals "_law_plan" = some (some (.ref f))) (F : Fun K "_law_plan" "_law_plan" sLPlan f fd) : Fa K mg "_law_plan" sLPlan ["stream", "depth", "base"] :=
  ⟨f, fd, F, PySem.W.mg_of X Gn a, F.kp, F.binds fun _ _ _ _ _ _ us hl => match us, hl with | [_, _, _], _ => rfl⟩
theorem fd_lm (X : K.In h) (Gn : h.Ns mainGlobals mg) (a : PySem.W.nsIn K mainGlobals "_law_most" = some (some (.ref f))) (F : Fun K "_law_most" "_law_most" sLMost f fd) : Fa K mg "_law_most" sLMost ["stream"] :=
  ⟨f, fd, F, PySem.W.mg_of X Gn a, F.kp, F.binds fun _ _ _ _ _ _ us hl => match us, hl with | [_], _ => rfl⟩
theorem fd_ps (X : K.In h) (Gn : h.Ns mainGlobals mg) (a : PySem.W.nsIn K mainGlobals "_law_plan_step" = some (some (.ref f))) (F : Fun K "_law_plan_step" "_law_plan_step" sLStep f fd) : Fa K mg "_law_plan_step" sLStep ["stream", "depth", "base", "head"] :=
  ⟨f, fd, F, PySem.W.mg_of X Gn a, F.kp, F.binds fun _ _ _ _ _ _ us hl => match us, hl with | [_, _, _, _], _ => rfl⟩
theorem fd_lw (X : K.In h) (Gn : h.Ns mainGlobals mg) (a : PySem.W.nsIn K mainGlobals "_law_way" = some (some (.ref f))) (F : Fun K "_law_way" "_law_way" sLWay f fd) : Fa K mg "_law_way" sLWay ["plan"] :=
  ⟨f, fd, F, PySem.W.mg_of X Gn a, F.kp, F.binds fun _ _ _ _ _ _ us hl => match us, hl with | [_], _ => rfl⟩
theorem fd_lk (X : K.In h) (Gn : h.Ns mainGlobals mg) (a : PySem.W.nsIn K mainGlobals "_law_is_like" = some (some (.ref f))) (F : Fun K "_law_is_like" "_law_is_like" sLike f fd) : Fa K mg "_law_is_like" sLike ["one", "plan"] :=
  ⟨f, fd, F, PySem.W.mg_of X Gn a, F.kp, F.binds fun _ _ _ _ _ _ us hl => match us, hl with | [_, _], _ => rfl⟩
theorem fd_li (X : K.In h) (Gn : h.Ns mainGlobals mg) (a : PySem.W.nsIn K mainGlobals "is_step_list" = some (some (.ref f))) (F : Fun K "is_step_list" "is_step_list" WP.sList f fd) : Fa K mg "is_step_list" WP.sList ["value"] :=
  ⟨f, fd, F, PySem.W.mg_of X Gn a, F.kp, F.binds fun _ _ _ _ _ _ us hl => match us, hl with | [_], _ => rfl⟩
theorem fd_st (X : K.In h) (Gn : h.Ns mainGlobals mg) (a : PySem.W.nsIn K mainGlobals "_is_step" = some (some (.ref f))) (F : Fun K "_is_step" "_is_step" WP.sStep f fd) : Fa K mg "_is_step" WP.sStep ["value", "head"] :=
  ⟨f, fd, F, PySem.W.mg_of X Gn a, F.kp, F.binds fun _ _ _ _ _ _ us hl => match us, hl with | [_, _], _ => rfl⟩
theorem fd_rd (X : K.In h) (Gn : h.Ns mainGlobals mg) (a : PySem.W.nsIn K mainGlobals "is_road" = some (some (.ref f))) (F : Fun K "is_road" "is_road" WP.sRoad f fd) : Fa K mg "is_road" WP.sRoad ["size", "sealed", "loose", "least"] :=
  ⟨f, fd, F, PySem.W.mg_of X Gn a, F.kp, F.binds fun _ _ _ _ _ _ us hl => match us, hl with | [_, _, _, _], _ => rfl⟩
theorem fd_tl (X : K.In h) (Gn : h.Ns mainGlobals mg) (a : PySem.W.nsIn K mainGlobals "is_tells" = some (some (.ref f))) (F : Fun K "is_tells" "is_tells" WP.sTells f fd) : Fa K mg "is_tells" WP.sTells ["value"] :=
  ⟨f, fd, F, PySem.W.mg_of X Gn a, F.kp, F.binds fun _ _ _ _ _ _ us hl => match us, hl with | [_], _ => rfl⟩
theorem fd_mo (X : K.In h) (Gn : h.Ns mainGlobals mg) (a : PySem.W.nsIn K mainGlobals "is_most" = some (some (.ref f))) (F : Fun K "is_most" "is_most" WP.sMost f fd) : Fa K mg "is_most" WP.sMost ["value"] :=
  ⟨f, fd, F, PySem.W.mg_of X Gn a, F.kp, F.binds fun _ _ _ _ _ _ us hl => match us, hl with | [_], _ => rfl⟩
theorem fd_hd (X : K.In h) (Gn : h.Ns mainGlobals mg) (a : PySem.W.nsIn K mainGlobals "is_head" = some (some (.ref f))) (F : Fun K "is_head" "is_head" WP.sHead f fd) : Fa K mg "is_head" WP.sHead ["value"] :=
  ⟨f, fd, F, PySem.W.mg_of X Gn a, F.kp, F.binds fun _ _ _ _ _ _ us hl => match us, hl with | [_], _ => rfl⟩
theorem words_of {a : Addr} {dd : Option Addr} {sl : Array (Option Value)} {n : Nat} {us : List Value} {xs : List V} (lk : K.lookup a = some ⟨.type "tuple", dd, .seq us.toArray n, sl⟩) (hl : xs.length ≤ sizeLine) (r : Vals xs us) : ∀ H, SqT K H a xs := fun H => .inr ⟨_, us.toArray, _, lk, rfl, rfl, by rw [List.size_toArray, ← r.length]; exact hl, by simpa using r⟩
theorem fund_mk {x y : Str} {v : V} {u : Value} {st : Stmt} {oc : Value} {od an : Option Addr} {osl : Array (Option Value)} {D : Addr} {doc pm cdv ct : Value} (l : K.lookup f = some ⟨oc, od, .func (PySem.W.fnOf x x (defArgs st) (defBody st) (defScope st) .none (.ref D) doc pm an cdv ct), osl⟩)
    (c : PySem.W.codeIn K cdv x = true) (k : PySem.W.keepIn K (.ref f) = true) (n : PySem.W.nsIn K D y = some (some u)) (r : RelV v u) : FunD K x x (defArgs st) (defBody st) (defScope st) [] [(y, v)] f (PySem.W.fnOf x x (defArgs st) (defBody st) (defScope st) .none (.ref D) doc pm an cdv ct) :=
  ⟨⟨oc, od, _, _, doc, pm, an, cdv, ct, osl, rfl, l, c, .inl ⟨rfl, rfl⟩, .inr ⟨D, rfl, fun q hq => by
    rw [List.mem_singleton.mp hq]
    exact ⟨_, n, r⟩⟩⟩, k⟩
theorem fk_wt (X : K.In h) (Gn : h.Ns mainGlobals mg) (a : PySem.W.nsIn K mainGlobals "way_text" = some (some (.ref f))) (F : Fun K "way_text" "way_text" sWText f fd) : Fk K mg "way_text" sWText "way" := by
  refine ⟨f, fd, F, PySem.W.mg_of X Gn a, F.kp, F.binds fun _ _ _ _ _ _ us hl => match us, hl with | [_], _ => rfl, ?_⟩
  obtain ⟨oc, od, kV, doc, pm, an, cdv, ct, osl, rfl, lk, hcd⟩ := F.ex
  refine ⟨fun _ us ws _ hl => ?_, fun {vs us zs ws} r rz => rel0 ri r rz⟩
  match us, ws, hl with
  | [], [_], _ => exact .of_eq rfl
theorem fk_rw (X : K.In h) (Gn : h.Ns mainGlobals mg) (a : PySem.W.nsIn K mainGlobals "read_way" = some (some (.ref f))) (F : Fun K "read_way" "read_way" sRead f fd) : Fk K mg "read_way" sRead "text" := by
  refine ⟨f, fd, F, PySem.W.mg_of X Gn a, F.kp, F.binds fun _ _ _ _ _ _ us hl => match us, hl with | [_], _ => rfl, ?_⟩
  obtain ⟨oc, od, kV, doc, pm, an, cdv, ct, osl, rfl, lk, hcd⟩ := F.ex
  refine ⟨fun _ us ws _ hl => ?_, fun {vs us zs ws} r rz => rel0 ri r rz⟩
  match us, ws, hl with
  | [], [_], _ => exact .of_eq rfl
theorem bn_mk (X : K.In h) (Gn : h.Ns mainGlobals mg) (a0 : PySem.W.nsIn K mainGlobals "isinstance" = some none) (a1 : PySem.W.nsIn K mainGlobals "bool" = some none) (a2 : PySem.W.nsIn K mainGlobals "int" = some none) (a3 : PySem.W.nsIn K mainGlobals "tuple" = some none) (a4 : PySem.W.nsIn K mainGlobals "list" = some none) (a5 : PySem.W.nsIn K mainGlobals "len" = some none) (a6 : PySem.W.nsIn K mainGlobals "range" = some none) (a7 : PySem.W.nsIn K mainGlobals "zip" = some none) (a8 : PySem.W.nsIn K mainGlobals "min" = some none) (a9 : PySem.W.nsIn K mainGlobals "max" = some none) (a10 : PySem.W.nsIn K mainGlobals "sorted" = some none) (a11 : PySem.W.nsIn K mainGlobals "set" = some none) (a12 : PySem.W.nsIn K mainGlobals "enumerate" = some none) : Bn mg := ⟨PySem.W.mg_none_of X Gn a0, PySem.W.mg_none_of X Gn a1, PySem.W.mg_none_of X Gn a2, PySem.W.mg_none_of X Gn a3, PySem.W.mg_none_of X Gn a4, PySem.W.mg_none_of X Gn a5, PySem.W.mg_none_of X Gn a6, PySem.W.mg_none_of X Gn a7, PySem.W.mg_none_of X Gn a8, PySem.W.mg_none_of X Gn a9, PySem.W.mg_none_of X Gn a10, PySem.W.mg_none_of X Gn a11, PySem.W.mg_none_of X Gn a12⟩
theorem no_mk {x : Str} (X : K.In h) (Gn : h.Ns mainGlobals mg) (a : PySem.W.nsIn K mainGlobals x = some none) : mg x = none := PySem.W.mg_none_of X Gn a
theorem bt_mk {C : Addr} (X : K.In h) (Gn : h.Ns mainGlobals mg) (cg : PySem.W.nsIn K mainGlobals "BegunWay" = some (some (.ref C))) (c1 : PySem.W.plainGet K C Str.empty = true) (c2 : PySem.W.hasDictIn K C = true) (c3 : PySem.W.plainOver K C = true) (c4 : PySem.W.findIn K (.ref C) "__setattr__" = some (some (.builtin "object.__setattr__")))
    (c5 : PySem.W.findIn K (.ref C) "most" = some none) (c6 : PySem.W.findIn K (.ref C) "tells" = some none) (c7 : PySem.W.findIn K (.ref C) "head" = some none) (c8 : PySem.W.findIn K (.ref C) "steps" = some none) : Bt K mg C := ⟨PySem.W.mg_of X Gn cg, ⟨c1, c2, c3, c4⟩, c5, c6, c7, c8⟩
theorem rt_mk {C : Addr} (X : K.In h) (Gn : h.Ns mainGlobals mg) (cg : PySem.W.nsIn K mainGlobals "Reader" = some (some (.ref C))) (c1 : PySem.W.plainGet K C Str.empty = true) (c2 : PySem.W.hasDictIn K C = true) (c3 : PySem.W.plainOver K C = true) (c4 : PySem.W.findIn K (.ref C) "__setattr__" = some (some (.builtin "object.__setattr__")))
    (c5 : PySem.W.findIn K (.ref C) "_begun" = some none) (c6 : PySem.W.findIn K (.ref C) "_size" = some none) : Rt K mg C := ⟨PySem.W.mg_of X Gn cg, ⟨c1, c2, c3, c4⟩, c5, c6⟩
theorem str_mk {t : Tok} {x z : Str} (X : K.In h) (Gn : h.Ns mainGlobals mg) (d : PySem.W.nsIn K mainGlobals x = some (some (.str z t))) : ∃ t, mg x = some (.str z t) := ⟨t, PySem.W.mg_of X Gn d⟩
theorem num_mk {t : Tok} {x : Str} {n : Int} (X : K.In h) (Gn : h.Ns mainGlobals mg) (d : PySem.W.nsIn K mainGlobals x = some (some (.int n t))) : ∃ t, mg x = some (.int n t) := ⟨t, PySem.W.mg_of X Gn d⟩
theorem wt_mk {C aS aL aT : Addr} {t0 t1 t2 t3 t4 t5 u1 u2 u3 u4 u5 u6 u7 u8 : Tok} {dS dL dT : Option Addr} {nS nL nT : Nat} {sS sL sT : Array (Option Value)} (X : K.In h) (Gn : h.Ns mainGlobals mg) (cg : PySem.W.nsIn K mainGlobals "Way" = some (some (.ref C)))
    (c1 : PySem.W.plainGet K C Str.empty = true) (c2 : PySem.W.hasDictIn K C = true) (c3 : PySem.W.plainOver K C = true) (c4 : PySem.W.findIn K (.ref C) "__setattr__" = some (some (.builtin "object.__setattr__")))
    (c5 : PySem.W.findIn K (.ref C) "head" = some none) (c6 : PySem.W.findIn K (.ref C) "steps" = some none) (c7 : PySem.W.findIn K (.ref C) "depth" = some none) (c8 : PySem.W.findIn K (.ref C) "size" = some none)
    (iA : PySem.W.findIn K (.ref C) "__class__" = some (some (.builtin "object.__class__"))) (iN : PySem.W.specialIn K (.builtin "object.__class__") "__get__" = some (some (.builtin "getset_descriptor.__get__"))) (iT : PySem.W.takesIn K (.builtin "object.__class__") = some true) (iM : PySem.W.mroIn K C (.type "object") = some true)
    (d0 : PySem.W.nsIn K mainGlobals "GREATEST_HEAD" = some (some (.int 40 t0))) (d1 : PySem.W.nsIn K mainGlobals "GREATEST_ROAD" = some (some (.int 1000 t1))) (d2 : PySem.W.nsIn K mainGlobals "GREATEST_MOST" = some (some (.int 1000000000000 t2))) (d3 : PySem.W.nsIn K mainGlobals "MOST_STEPS" = some (some (.int 12 t3))) (d4 : PySem.W.nsIn K mainGlobals "GREATEST_DEPTH" = some (some (.int 3 t4))) (d5 : PySem.W.nsIn K mainGlobals "GREATEST_SIZE" = some (some (.int 40 t5)))
    (e1 : PySem.W.nsIn K mainGlobals "SEALED_WORDS" = some (some (.ref aS))) (f1 : K.lookup aS = some ⟨.type "tuple", dS, .seq [Value.str "tell" u1, .str "drop" u2].toArray nS, sS⟩)
    (e2 : PySem.W.nsIn K mainGlobals "LOOSE_WORDS" = some (some (.ref aL))) (f2 : K.lookup aL = some ⟨.type "tuple", dL, .seq [Value.str "cut" u3, .str "tell" u4, .str "drop" u5].toArray nL, sL⟩)
    (e3 : PySem.W.nsIn K mainGlobals "TELLS_WORDS" = some (some (.ref aT))) (f3 : K.lookup aT = some ⟨.type "tuple", dT, .seq [Value.str "turn" u6, .str "keep" u7, .str "lose" u8].toArray nT, sT⟩)     : WP.Wt K mg C :=
  ⟨PySem.W.mg_of X Gn cg, ⟨c1, c2, c3, c4⟩, c5, c6, c7, c8, iA, iN, iT, iM, ⟨_, PySem.W.mg_of X Gn d0⟩, ⟨_, PySem.W.mg_of X Gn d1⟩, ⟨_, PySem.W.mg_of X Gn d2⟩, ⟨_, PySem.W.mg_of X Gn d3⟩, ⟨_, PySem.W.mg_of X Gn d4⟩, ⟨_, PySem.W.mg_of X Gn d5⟩,
    ⟨_, PySem.W.mg_of X Gn e1, words_of f1 (by decide) (.cons ⟨_, rfl⟩ (.cons ⟨_, rfl⟩ .nil))⟩, ⟨_, PySem.W.mg_of X Gn e2, words_of f2 (by decide) (.cons ⟨_, rfl⟩ (.cons ⟨_, rfl⟩ (.cons ⟨_, rfl⟩ .nil)))⟩, ⟨_, PySem.W.mg_of X Gn e3, words_of f3 (by decide) (.cons ⟨_, rfl⟩ (.cons ⟨_, rfl⟩ (.cons ⟨_, rfl⟩ .nil)))⟩⟩
end
theorem all_mk {l : PySem.W.OpenLaw} {w : World} {K : PySem.W.Frag} {h : Heap} {mg : Str → Option Value} {fa CR CB CW fIr fIb fIw fWl fWe fTk fWo fWy fLv fTh fTs fTt fEi fLaw : Addr} {dIr dIb dIw dWl dWe dTk dWo dWy dLv dTh dTs dTt dEi dLaw : FuncData} (X : K.In h) (Gn : h.Ns mainGlobals mg) (hfa : mg "law" = some (.ref fa)) (B : Bn mg) (hsum : mg "sum" = none) (hrep : mg "repr" = none) (hstr : mg "str" = none) (hall : mg "all" = none) (TB : Bt K mg CB) (TR : Rt K mg CR)
    (gD : ∃ t, mg "DIGITS" = some (.str "0123456789" t)) (gI : ∃ t, mg "INDENTATION" = some (.str "  " t)) (gM : ∃ t, mg "MOST_DIGITS" = some (.int 60 t)) (TW : WP.Wt K mg CW)
    (z_I : Fa K mg "is_integer" WP.sInteger ["value"])
    (z_W : Fa K mg "is_within" WP.sWithin ["value", "least", "greatest"])
    (z_wr : Fa K mg "written_integer" sWritten ["word"])
    (z_tp : Fa K mg "_step" sTStep ["words", "head"])
    (z_tl2 : Fa K mg "_lines" sTLines ["way"])
    (z_ll : Fa K mg "_law_lines" sLLines ["plan", "lead"])
    (z_ls : Fa K mg "_law_stream" S.sSource ["script", "start"])
    (z_ld : Fa K mg "_law_draw" S.sDraw ["stream", "size"])
    (z_lch : Fa K mg "_law_choose" S.sPick ["stream", "items"])
    (z_sm : Fa K mg "_law_same" S.sSame ["one", "two"])
    (z_pn : Fa K mg "_law_plan" sLPlan ["stream", "depth", "base"])
    (z_lm : Fa K mg "_law_most" sLMost ["stream"])
    (z_ps : Fa K mg "_law_plan_step" sLStep ["stream", "depth", "base", "head"])
    (z_lw : Fa K mg "_law_way" sLWay ["plan"])
    (z_lk : Fa K mg "_law_is_like" sLike ["one", "plan"])
    (z_li : Fa K mg "is_step_list" WP.sList ["value"])
    (z_st : Fa K mg "_is_step" WP.sStep ["value", "head"])
    (z_rd : Fa K mg "is_road" WP.sRoad ["size", "sealed", "loose", "least"])
    (z_tl : Fa K mg "is_tells" WP.sTells ["value"])
    (z_mo : Fa K mg "is_most" WP.sMost ["value"])
    (z_hd : Fa K mg "is_head" WP.sHead ["value"])
    (z_wt : Fk K mg "way_text" sWText "way")
    (z_rw : Fk K mg "read_way" sRead "text")
    (MIr : Mk K CR fIr) (FIr : Fun K "__init__" "Reader.__init__" sRInit fIr dIr) (MIb : Mk K CB fIb) (FIb : Fun K "__init__" "BegunWay.__init__" sBInit fIb dIb) (MIw : Mk K CW fIw) (FIw : Fun K "__init__" "Way.__init__" WP.sInit fIw dIw)
    (oWl : WO.Own K CW fWl "__len__") (FWl : Fun K "__len__" "Way.__len__" WP.sLen fWl dWl) (oWe : WO.Own K CW fWe "__eq__") (FWe : Fun K "__eq__" "Way.__eq__" WP.sWEq fWe dWe) (nB : PySem.W.findIn K (.ref CB) "__len__" = some none) (nR : PySem.W.findIn K (.ref CR) "__len__" = some none)
    (mTk : Meth K CR "takes" fTk) (FTk : Fun K "takes" "Reader.takes" sRTakes fTk dTk)
    (mWo : Meth K CR "is_whole" fWo) (FWo : Fun K "is_whole" "Reader.is_whole" sRWhole fWo dWo)
    (mWy : Meth K CR "way" fWy) (FWy : Fun K "way" "Reader.way" sRWay fWy dWy)
    (mLv : Meth K CR "_level" fLv) (FLv : Fun K "_level" "Reader._level" sRLevel fLv dLv)
    (mTh : Meth K CR "_takes_head" fTh) (FTh : Fun K "_takes_head" "Reader._takes_head" sRHead fTh dTh)
    (mTs : Meth K CR "_takes_step" fTs) (FTs : Fun K "_takes_step" "Reader._takes_step" sRStep fTs dTs)
    (mTt : Meth K CR "_takes_tunnel" fTt) (FTt : Fun K "_takes_tunnel" "Reader._takes_tunnel" sRTun fTt dTt)
    (mEi : Meth K CR "_end_inner" fEi) (FEi : Fun K "_end_inner" "Reader._end_inner" sREnd fEi dEi)
    (aL : PySem.W.nsIn K mainGlobals "law" = some (some (.ref fLaw))) (FLaw : Fun K "law" "law" sLaw fLaw dLaw) :
    ∃ fd : FuncData, (∀ (s : Shared) (u : Value), BindsTo s fd ⟨[u], []⟩ [("script", u)]) ∧ ∀ base : Heap, K.In base → base.Ns mainGlobals mg → G.Ok l.prog w K mg base CX0 13 fa fd ["script"] (spLaw K) := by
  have e := hfa.symm.trans (PySem.W.mg_of X Gn aL)
  cases e
  refine ⟨dLaw, ?_, fun base _ _ => ?_⟩
  · obtain ⟨_, _, _, _, _, _, _, _, _, rfl, _, _⟩ := FLaw.ex
    exact fun s u => .of_eq rfl
  have n1 : CW ≠ CB := ne_cls oWl.at' nB
  have n2 : CW ≠ CR := ne_cls oWl.at' nR
  have Bi : S.Bi mg := ⟨B.int, B.len⟩
  have DU : Df l.prog w K mg base 1 "_law_stream" ["script", "start"] (S.spSource K) := z_ls.df fun f fd F => S.ok_source F Bi
  have DR : Df l.prog w K mg base 1 "_law_draw" ["stream", "size"] S.spDraw := z_ld.df fun f fd F => S.ok_draw F Bi
  have DC2 : Df l.prog w K mg base 2 "_law_choose" ["stream", "items"] (S.spChoose K) := z_lch.df fun f fd F => S.ok_choose F B.len DR
  have DS : G.Du l.prog w K mg base 1 "_law_same" ["one", "two"] (S.spSame K) := by
    obtain ⟨f, fd, F, g1, g2, g3⟩ := z_sm.ex
    exact ⟨f, fd, S.ok_same F hrep, g1, g2, g3⟩
  -- ways
  have BW : WP.Bn mg := ⟨B.isi, B.bool, B.int, B.tuple, B.list, B.len, B.enum, B.max, hsum⟩
  obtain ⟨fN, fdN, FN, gN, kN, bN⟩ := z_I.ex
  obtain ⟨fW, fdW, FW, gW, kW, bW⟩ := z_W.ex
  obtain ⟨tM, gMo⟩ := TW.gMost
  have W0 : WP.Wi l.prog w K mg base fW fdW := ⟨WP.ok_within FW BW FN gN bN, gW, kW, bW⟩
  have EW : WP.Df l.prog w K mg base 2 "is_within" ["value", "least", "greatest"] WP.spWithin := ⟨fW, fdW, W0.ok, gW, kW, bW⟩
  have EM : WP.Df l.prog w K mg base 3 "is_most" ["value"] (WP.spIn1 1 1000000000000) := z_mo.dw fun f fd F => WP.ok_most F W0 gMo
  have EM2 : Df l.prog w K mg base 3 "is_most" ["value"] (WP.spIn1 1 1000000000000) := z_mo.df fun f fd F => WP.ok_most F W0 gMo
  have ERd : WP.Df l.prog w K mg base 3 "is_road" ["size", "sealed", "loose", "least"] WP.spRoad := z_rd.dw fun f fd F => WP.ok_road F TW EW
  have ERd2 : Df l.prog w K mg base 3 "is_road" ["size", "sealed", "loose", "least"] WP.spRoad := z_rd.df fun f fd F => WP.ok_road F TW EW
  have ETn : WP.Df l.prog w K mg base 1 "is_tells" ["value"] WP.spTells := z_tl.dw fun f fd F => WP.ok_tells F TW
  have ETn2 : Df l.prog w K mg base 1 "is_tells" ["value"] WP.spTells := z_tl.df fun f fd F => WP.ok_tells F TW
  obtain ⟨tH, gH⟩ := TW.gHead
  have EHd : WP.Df l.prog w K mg base 3 "is_head" ["value"] (WP.spIn1 1 40) := z_hd.dw fun f fd F => WP.ok_head F W0 gH
  have EHd2 : Df l.prog w K mg base 3 "is_head" ["value"] (WP.spIn1 1 40) := z_hd.df fun f fd F => WP.ok_head F W0 gH
  have ELi : WP.Df l.prog w K mg base 1 "is_step_list" ["value"] (WP.spList K) := z_li.dw fun f fd F => WP.ok_list F BW TW
  have ESt : WP.Df l.prog w K mg base 5 "_is_step" ["value", "head"] (WP.spStep CW) := z_st.dw fun f fd F => WP.ok_step F BW TW ERd EM ETn
  have MWw : WP.Mw l.prog w K mg base CW := ⟨fIw, dIw, WP.ok_init FIw BW TW EHd ELi ESt, MIw, FIw.binds fun _ _ _ _ _ _ us hl => match us, hl with | [_, _, _], _ => rfl⟩
  have DLm : Df l.prog w K mg base 3 "_law_most" ["stream"] spLMost := z_lm.df fun f fd F => ok_lmost F DR DC2
  have DPl : Df l.prog w K mg base 10 "_law_plan" ["stream", "depth", "base"] (spLPlan 3) := dl_plan B z_pn z_ps DR DC2 DLm 3
  have DLw : Df l.prog w K mg base 11 "_law_way" ["plan"] (spLWay CW 3) := dl_way TW MWw z_lw 3
  have GOw : Ow l.prog w K mg base CW := ⟨fWl, dWl, WP.ok_len FWl BW TW, oWl, FWl.binds fun _ _ _ _ _ _ us hl => match us, hl with | [_], _ => rfl⟩
  have bWe : Binds K dWe ["self", "other"] [] := FWe.binds fun _ _ _ _ _ _ us hl => match us, hl with | [_, _], _ => rfl
  have GEw : Ew l.prog w K mg base CW := ⟨fWe, dWe, WP.df_weq FWe BW TW oWe bWe 3, oWe, bWe⟩
  have GLk : Df l.prog w K mg base 12 "_law_is_like" ["one", "plan"] (spLike CW) := z_lk.df fun f fd F => ok_like F B TW DLw GEw GOw
  -- texts
  have DTl : Df l.prog w K mg base 4 "_lines" ["way"] (spTLines CW 3) := dl_tlines B hstr gI TW z_tl2 3
  have DLl : Df l.prog w K mg base 4 "_law_lines" ["plan", "lead"] (spLLines 3) := dl_llines B hstr z_ll 3
  have DWt : DKw l.prog w K mg base 5 "way_text" "way" (spWText CW) := z_wt.d fun f fd F => ok_wtext F DTl
  have DWr : Df l.prog w K mg base 1 "written_integer" ["word"] spWritten := z_wr.df fun f fd F => ok_written F B hall gD gM
  have DTs : Df l.prog w K mg base 4 "_step" ["words", "head"] (spTStep CW) := z_tp.df fun f fd F => ok_tstep F B DWr EM2 ERd2
  have NB : Mn l.prog w K mg base CB 1 ["self", "most", "tells"] (spBInit CB CW) := ⟨fIb, dIb, ok_binit FIb TB, MIb, FIb.binds fun _ _ _ _ _ _ us hl => match us, hl with | [_, _, _], _ => rfl⟩
  have NR : Mn l.prog w K mg base CR 3 ["self"] (spRInit CR CB CW) := ⟨fIr, dIr, ok_rinit FIr TR TB NB, MIr, FIr.binds fun _ _ _ _ _ _ us hl => match us, hl with | [_], _ => rfl⟩
  have RWo : Mr l.prog w K mg base CR 1 "is_whole" ["self"] (spWhole CR CB CW) := ⟨fWo, dWo, ok_whole FWo B TR TB, mWo, FWo.binds fun _ _ _ _ _ _ us hl => match us, hl with | [_], _ => rfl⟩
  have RLv : Mr l.prog w K mg base CR 2 "_level" ["self", "line"] (spLevel CR CB CW) := ⟨fLv, dLv, ok_level FLv B TR gI RWo, mLv, FLv.binds fun _ _ _ _ _ _ us hl => match us, hl with | [_, _], _ => rfl⟩
  have RTh : Mr l.prog w K mg base CR 4 "_takes_head" ["self", "words"] (spTHead CR CB CW) := ⟨fTh, dTh, ok_thead n1 n2 FTh B TR TB DWr EHd2, mTh, FTh.binds fun _ _ _ _ _ _ us hl => match us, hl with | [_, _], _ => rfl⟩
  have REi : Mr l.prog w K mg base CR 8 "_end_inner" ["self"] (spREnd CR CB CW) := ⟨fEi, dEi, ok_rend n1 n2 FEi TR TB TW MWw, mEi, FEi.binds fun _ _ _ _ _ _ us hl => match us, hl with | [_], _ => rfl⟩
  have RTt : Mr l.prog w K mg base CR 4 "_takes_tunnel" ["self", "words"] (spRTun CR CB CW) := ⟨fTt, dTt, ok_rtun n1 n2 FTt B TR TB TW DWr EM2 ETn2 NB, mTt, FTt.binds fun _ _ _ _ _ _ us hl => match us, hl with | [_, _], _ => rfl⟩
  have RTs : Mr l.prog w K mg base CR 5 "_takes_step" ["self", "words"] (spRStep CR CB CW) := ⟨fTs, dTs, ok_rstep n1 n2 FTs B TR TB TW DTs RTt, mTs, FTs.binds fun _ _ _ _ _ _ us hl => match us, hl with | [_, _], _ => rfl⟩
  have RTk : Mr l.prog w K mg base CR 9 "takes" ["self", "line"] (spTakes CR CB CW) := ⟨fTk, dTk, ok_takes n1 n2 FTk B TR TB gI RLv RTh REi RTs, mTk, FTk.binds fun _ _ _ _ _ _ us hl => match us, hl with | [_, _], _ => rfl⟩
  have RWy : Mr l.prog w K mg base CR 9 "way" ["self"] (spRWay CR CB CW) := ⟨fWy, dWy, ok_rway FWy B TR TB TW REi MWw, mWy, FWy.binds fun _ _ _ _ _ _ us hl => match us, hl with | [_], _ => rfl⟩
  have DRw : DKw l.prog w K mg base 10 "read_way" "text" (spRead CW) := z_rw.d fun f fd F => ok_read F B hstr TR NR RTk RWo RWy
  exact ok_law FLaw B TW DU DPl DLw DLl DS DWt DRw GLk GEw GOw
end CP

end
section
open PySem PySem.W PyProof.Rows
set_option Elab.async false
set_option pp.deepTerms false
set_option pp.maxSteps 60
set_option maxRecDepth 100000 in
set_option maxHeartbeats 0 in
theorem PySem.Challenge.cw_roadsizes_k80_texts_of_ways_holds : PySem.Challenge.rw_roadsizes_k80_texts_of_ways.Holds := by
  w_on; o_law; k_head; (case hw => w_witness2)
  k_fill
  refine G.walk (l := PySem.Challenge.rw_roadsizes_k80_texts_of_ways) (n := 63) (k := 13) (sp := CP.spLaw) (x := "script") rfl (by decide) rfl ⟨rfl, by decide, by decide⟩ (fun w h Y => PySem.W.kIn_of Y) ?F (fun K H a ns hl hb hS => ⟨a, ns, rfl, hS, hl, hb, fun _ => rfl⟩)
  case F =>
    intro w mg fa h KX hNs hmg
    refine' CP.all_mk KX hNs hmg (CP.bn_mk KX hNs ?y0 ?y1 ?y2 ?y3 ?y4 ?y5 ?y6 ?y7 ?y8 ?y9 ?y10 ?y11 ?y12) (CP.no_mk KX hNs ?y13) (CP.no_mk KX hNs ?y14) (CP.no_mk KX hNs ?y15) (CP.no_mk KX hNs ?y16) (CP.bt_mk KX hNs ?bg ?b1 ?b2 ?b3 ?b4 ?b5 ?b6 ?b7 ?b8) (CP.rt_mk KX hNs ?rg ?r1 ?r2 ?r3 ?r4 ?r5 ?r6) (CP.str_mk KX hNs ?s0) (CP.str_mk KX hNs ?s1) (CP.num_mk KX hNs ?d0)
      (CP.wt_mk KX hNs ?wcg ?wc1 ?wc2 ?wc3 ?wc4 ?wc5 ?wc6 ?wc7 ?wc8 ?wiA ?wiN ?wiT ?wiM ?wd0 ?wd1 ?wd2 ?wd3 ?wd4 ?wd5 ?we1 ?wf1 ?we2 ?wf2 ?we3 ?wf3)
      (CP.fd_I KX hNs ?aI (L2.fun_mk (st := WP.sInteger) ?leI ?oeI ?keI))
      (CP.fd_W KX hNs ?aW (L2.fun_mk (st := WP.sWithin) ?leW ?oeW ?keW))
      (CP.fd_wr KX hNs ?awr (L2.fun_mk (st := CP.sWritten) ?lewr ?oewr ?kewr))
      (CP.fd_tp KX hNs ?atp (L2.fun_mk (st := CP.sTStep) ?letp ?oetp ?ketp))
      (CP.fd_tl2 KX hNs ?atl2 (L2.fun_mk (st := CP.sTLines) ?letl2 ?oetl2 ?ketl2))
      (CP.fd_ll KX hNs ?all (L2.fun_mk (st := CP.sLLines) ?lell ?oell ?kell))
      (CP.fd_ls KX hNs ?als (L2.fun_mk (st := S.sSource) ?lels ?oels ?kels))
      (CP.fd_ld KX hNs ?ald (L2.fun_mk (st := S.sDraw) ?leld ?oeld ?keld))
      (CP.fd_lch KX hNs ?alch (L2.fun_mk (st := S.sPick) ?lelch ?oelch ?kelch))
      (CP.fd_sm KX hNs ?asm (L2.fun_mk (st := S.sSame) ?lesm ?oesm ?kesm))
      (CP.fd_pn KX hNs ?apn (L2.fun_mk (st := CP.sLPlan) ?lepn ?oepn ?kepn))
      (CP.fd_lm KX hNs ?alm (L2.fun_mk (st := CP.sLMost) ?lelm ?oelm ?kelm))
      (CP.fd_ps KX hNs ?aps (L2.fun_mk (st := CP.sLStep) ?leps ?oeps ?keps))
      (CP.fd_lw KX hNs ?alw (L2.fun_mk (st := CP.sLWay) ?lelw ?oelw ?kelw))
      (CP.fd_lk KX hNs ?alk (L2.fun_mk (st := CP.sLike) ?lelk ?oelk ?kelk))
      (CP.fd_li KX hNs ?ali (L2.fun_mk (st := WP.sList) ?leli ?oeli ?keli))
      (CP.fd_st KX hNs ?ast (L2.fun_mk (st := WP.sStep) ?lest ?oest ?kest))
      (CP.fd_rd KX hNs ?ard (L2.fun_mk (st := WP.sRoad) ?lerd ?oerd ?kerd))
      (CP.fd_tl KX hNs ?atl (L2.fun_mk (st := WP.sTells) ?letl ?oetl ?ketl))
      (CP.fd_mo KX hNs ?amo (L2.fun_mk (st := WP.sMost) ?lemo ?oemo ?kemo))
      (CP.fd_hd KX hNs ?ahd (L2.fun_mk (st := WP.sHead) ?lehd ?oehd ?kehd))
      (CP.fk_wt KX hNs ?awt (L2.fun_mk (st := CP.sWText) ?lfwt ?ofwt ?kfwt))
      (CP.fk_rw KX hNs ?arw (L2.fun_mk (st := CP.sRead) ?lfrw ?ofrw ?kfrw))
      ⟨?g1, ?g2, ?g3, ?g4⟩ (L2.fun_mk (st := CP.sRInit) ?lGn ?oGn ?kGn) ⟨?i1, ?i2, ?i3, ?i4⟩ (L2.fun_mk (st := CP.sBInit) ?lIn ?oIn ?kIn) ⟨?j1, ?j2, ?j3, ?j4⟩ (L2.fun_mk (st := WP.sInit) ?lJn ?oJn ?kJn)
      ⟨?oaWl, ?ofWl⟩ (L2.fun_mk (st := WP.sLen) ?lqWl ?oqWl ?kqWl) ⟨?oaWe, ?ofWe⟩ (L2.fun_mk (st := WP.sWEq) ?lqWe ?oqWe ?kqWe) ?nB ?nR
      ⟨?maTk, ?mfTk, ?mkTk⟩ (L2.fun_mk (st := CP.sRTakes) ?lmTk ?omTk ?kmTk)
      ⟨?maWo, ?mfWo, ?mkWo⟩ (L2.fun_mk (st := CP.sRWhole) ?lmWo ?omWo ?kmWo)
      ⟨?maWy, ?mfWy, ?mkWy⟩ (L2.fun_mk (st := CP.sRWay) ?lmWy ?omWy ?kmWy)
      ⟨?maLv, ?mfLv, ?mkLv⟩ (L2.fun_mk (st := CP.sRLevel) ?lmLv ?omLv ?kmLv)
      ⟨?maTh, ?mfTh, ?mkTh⟩ (L2.fun_mk (st := CP.sRHead) ?lmTh ?omTh ?kmTh)
      ⟨?maTs, ?mfTs, ?mkTs⟩ (L2.fun_mk (st := CP.sRStep) ?lmTs ?omTs ?kmTs)
      ⟨?maTt, ?mfTt, ?mkTt⟩ (L2.fun_mk (st := CP.sRTun) ?lmTt ?omTt ?kmTt)
      ⟨?maEi, ?mfEi, ?mkEi⟩ (L2.fun_mk (st := CP.sREnd) ?lmEi ?omEi ?kmEi)
      ?aLaw (L2.fun_mk (st := CP.sLaw) ?lLaw ?oLaw ?kLaw)
    (case y0 => k_is)
    (case y1 => k_is)
    (case y2 => k_is)
    (case y3 => k_is)
    (case y4 => k_is)
    (case y5 => k_is)
    (case y6 => k_is)
    (case y7 => k_is)
    (case y8 => k_is)
    (case y9 => k_is)
    (case y10 => k_is)
    (case y11 => k_is)
    (case y12 => k_is)
    (case y13 => k_is)
    (case y14 => k_is)
    (case y15 => k_is)
    (case y16 => k_is)
    (case bg => k_is)
    (case b1 => k_is)
    (case b2 => k_is)
    (case b3 => k_is)
    (case b4 => k_is)
    (case b5 => k_is)
    (case b6 => k_is)
    (case b7 => k_is)
    (case b8 => k_is)
    (case rg => k_is)
    (case r1 => k_is)
    (case r2 => k_is)
    (case r3 => k_is)
    (case r4 => k_is)
    (case r5 => k_is)
    (case r6 => k_is)
    (case s0 => k_is)
    (case s1 => k_is)
    (case d0 => k_is)
    (case wcg => k_is)
    (case wc1 => k_is)
    (case wc2 => k_is)
    (case wc3 => k_is)
    (case wc4 => k_is)
    (case wc5 => k_is)
    (case wc6 => k_is)
    (case wc7 => k_is)
    (case wc8 => k_is)
    (case wiA => k_is)
    (case wiN => k_is)
    (case wiT => k_is)
    (case wiM => k_is)
    (case wd0 => k_is)
    (case wd1 => k_is)
    (case wd2 => k_is)
    (case wd3 => k_is)
    (case wd4 => k_is)
    (case wd5 => k_is)
    (case we1 => k_is)
    (case wf1 => k_is)
    (case we2 => k_is)
    (case wf2 => k_is)
    (case we3 => k_is)
    (case wf3 => k_is)
    (case aI => k_is)
    (case leI => k_is)
    (case oeI => k_is)
    (case keI => k_is)
    (case aW => k_is)
    (case leW => k_is)
    (case oeW => k_is)
    (case keW => k_is)
    (case awr => k_is)
    (case lewr => k_is)
    (case oewr => k_is)
    (case kewr => k_is)
    (case atp => k_is)
    (case letp => k_is)
    (case oetp => k_is)
    (case ketp => k_is)
    (case atl2 => k_is)
    (case letl2 => k_is)
    (case oetl2 => k_is)
    (case ketl2 => k_is)
    (case all => k_is)
    (case lell => k_is)
    (case oell => k_is)
    (case kell => k_is)
    (case als => k_is)
    (case lels => k_is)
    (case oels => k_is)
    (case kels => k_is)
    (case ald => k_is)
    (case leld => k_is)
    (case oeld => k_is)
    (case keld => k_is)
    (case alch => k_is)
    (case lelch => k_is)
    (case oelch => k_is)
    (case kelch => k_is)
    (case asm => k_is)
    (case lesm => k_is)
    (case oesm => k_is)
    (case kesm => k_is)
    (case apn => k_is)
    (case lepn => k_is)
    (case oepn => k_is)
    (case kepn => k_is)
    (case alm => k_is)
    (case lelm => k_is)
    (case oelm => k_is)
    (case kelm => k_is)
    (case aps => k_is)
    (case leps => k_is)
    (case oeps => k_is)
    (case keps => k_is)
    (case alw => k_is)
    (case lelw => k_is)
    (case oelw => k_is)
    (case kelw => k_is)
    (case alk => k_is)
    (case lelk => k_is)
    (case oelk => k_is)
    (case kelk => k_is)
    (case ali => k_is)
    (case leli => k_is)
    (case oeli => k_is)
    (case keli => k_is)
    (case ast => k_is)
    (case lest => k_is)
    (case oest => k_is)
    (case kest => k_is)
    (case ard => k_is)
    (case lerd => k_is)
    (case oerd => k_is)
    (case kerd => k_is)
    (case atl => k_is)
    (case letl => k_is)
    (case oetl => k_is)
    (case ketl => k_is)
    (case amo => k_is)
    (case lemo => k_is)
    (case oemo => k_is)
    (case kemo => k_is)
    (case ahd => k_is)
    (case lehd => k_is)
    (case oehd => k_is)
    (case kehd => k_is)
    (case awt => k_is)
    (case lfwt => k_is)
    (case ofwt => k_is)
    (case kfwt => k_is)
    (case arw => k_is)
    (case lfrw => k_is)
    (case ofrw => k_is)
    (case kfrw => k_is)
    (case g1 => k_is)
    (case g2 => k_is)
    (case g3 => k_is)
    (case g4 => k_is)
    (case lGn => k_is)
    (case oGn => k_is)
    (case kGn => k_is)
    (case i1 => k_is)
    (case i2 => k_is)
    (case i3 => k_is)
    (case i4 => k_is)
    (case lIn => k_is)
    (case oIn => k_is)
    (case kIn => k_is)
    (case j1 => k_is)
    (case j2 => k_is)
    (case j3 => k_is)
    (case j4 => k_is)
    (case lJn => k_is)
    (case oJn => k_is)
    (case kJn => k_is)
    (case oaWl => k_is)
    (case ofWl => k_is)
    (case lqWl => k_is)
    (case oqWl => k_is)
    (case kqWl => k_is)
    (case oaWe => k_is)
    (case ofWe => k_is)
    (case lqWe => k_is)
    (case oqWe => k_is)
    (case kqWe => k_is)
    (case nB => k_is)
    (case nR => k_is)
    (case maTk => k_is)
    (case mfTk => k_is)
    (case mkTk => k_is)
    (case lmTk => k_is)
    (case omTk => k_is)
    (case kmTk => k_is)
    (case maWo => k_is)
    (case mfWo => k_is)
    (case mkWo => k_is)
    (case lmWo => k_is)
    (case omWo => k_is)
    (case kmWo => k_is)
    (case maWy => k_is)
    (case mfWy => k_is)
    (case mkWy => k_is)
    (case lmWy => k_is)
    (case omWy => k_is)
    (case kmWy => k_is)
    (case maLv => k_is)
    (case mfLv => k_is)
    (case mkLv => k_is)
    (case lmLv => k_is)
    (case omLv => k_is)
    (case kmLv => k_is)
    (case maTh => k_is)
    (case mfTh => k_is)
    (case mkTh => k_is)
    (case lmTh => k_is)
    (case omTh => k_is)
    (case kmTh => k_is)
    (case maTs => k_is)
    (case mfTs => k_is)
    (case mkTs => k_is)
    (case lmTs => k_is)
    (case omTs => k_is)
    (case kmTs => k_is)
    (case maTt => k_is)
    (case mfTt => k_is)
    (case mkTt => k_is)
    (case lmTt => k_is)
    (case omTt => k_is)
    (case kmTt => k_is)
    (case maEi => k_is)
    (case mfEi => k_is)
    (case mkEi => k_is)
    (case lmEi => k_is)
    (case omEi => k_is)
    (case kmEi => k_is)
    (case aLaw => k_is)
    (case lLaw => k_is)
    (case oLaw => k_is)
    (case kLaw => k_is)

end
