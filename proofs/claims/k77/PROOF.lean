import PyProof.Rows.All
import Wide.All
import OpenK.AllK
import Wide.FinOn
import HandS.ForMost
import HandS.IsInst
import PyProof.ReprRoads
import HandS.Evl
import HandS.Walk
import HandS.Conv
import HandS.TupAny
import HandS.Deep
import HandS.Dict
import HandS.DictComp
import HandS.SortInts
import HandS.More
import HandS.Style
import HandS.SetFor
import PyProof.ReprLen
import PyProof.FitsInt
import HandS.Iter
import HandS.Zip
import HandS.TupSets
import KE.KDictItemsList
import HandS.DictTup
import HandS.ListItems
import KE.DataCmp
import KE.SortData
import HandS.WordsList
import HandS.Strs
import PyProof.WalksMore
import KE.DataMinMax
import KE.DataFind
import KE.KeyNested
import KE.KDictKeyed
import KE.KDictCopyH
import KE.KDictSum
import PyProof.Transfer
import PySem.Challenge.RW_wayrows_k77_webs_amid_others
set_option Elab.async false
set_option linter.all false
set_option maxRecDepth 100000
/-! repr of data, and the law's own def run at the caller's own surroundings (where no repr is under way) -/
namespace WR
open PySem PySem.Spec PyProof.Rows L2

section
variable {X : Cx}
/-- repr(x), x a list or tuple of data -/
def rReprD (K : PySem.W.Frag) : List V → Hp → VK → Prop := fun xs H Q =>
  ∃ (a : Addr) (d : PyData), xs = [.ref a] ∧ Dp K H (.ref a) d ∧ d.showable = true ∧ d.hasDict = false ∧ d.shown.length ≤ sizeLine ∧ d.depth ≤ 40 ∧ Q (.str d.shown) H
theorem call_reprD (hg : X.A.guards = some []) (hu : X.A.units + 64 < cLine) : CallR X (.builtin "repr") (rReprD X.K) := by
  intro pins s σ H xs us Q I r h
  obtain ⟨a, d, rfl, hd, hs, hn, hz, hdp, q⟩ := h
  obtain ⟨u, rfl, rfl⟩ := vals1 r
  obtain ⟨as, rd⟩ := Dp.reads I d _ _ hd rfl
  refine repr_of_reads' rd hs (fun z => ?_) hg (by omega) (fun b o e => e) (fun h' t tk hk => ?_) hz
  · rw [hn] at z
    cases z
  · exact ⟨.str d.shown, H, I.kept hk, ⟨t, rfl⟩, q⟩
end
end WR
set_option Elab.async false
set_option linter.all false
set_option maxRecDepth 100000
/-! the law's own def, run at callerA alone: there nothing is being shown by repr, so repr may be called in it -/
namespace WR
open PySem PySem.Spec PyProof.Rows L2

/-- the promise of the law's own def, at the law's caller alone -/
def RunsG (P : Program) (w : World) (K : PySem.W.Frag) (mg : Str → Option Value) (base : Heap)
    (fa : Addr) (fd : FuncData) (x : Str) (sp : Sp) : Prop :=
  ∀ (s : Shared) (H : Hp) (u : Value) (v : V) (Q : VK), Env0 P w K mg base callerA [] s H →
    BindsTo s fd ⟨[u], []⟩ [(x, u)] → RelV v u → sp [v] H Q (fun _ _ _ => False) →
    codeAny (model P w) callerA (.call (.ref fa) ⟨[u], []⟩) (CR CX0 [] P w H s Q (fun _ _ _ => False)) s

section
variable {P : Program} {w : World} {K : PySem.W.Frag} {mg : Str → Option Value} {base : Heap}
theorem runsG_of {q : Str} {st : Stmt} {f : Addr} {fd : FuncData} {N : List Str} {x : Str} {k : Nat} {sp : Sp}
    (F : Fun K q q st f fd) (S : FnScope N [x] (defScope st)) (hk : Room (k + 1) callerA)
    (body : ∀ (cdv : Value) (s : Shared) (H : Hp) (v : V) (Q : VK),
      Room k (callerA.deeper (envOfC q (defScope st) s.heap.objs.size f cdv)) → sp [v] H Q (fun _ _ _ => False) →
      ∃ t, PSs (cxOf CX0 P w K mg base N q (defScope st) f cdv callerA [] s H (fun _ _ _ => False)).nox (defBody st) t ∧
        t { nx := fun _ H' => Q .non H', rt := Q } (start N [v]) H) :
    RunsG P w K mg base f fd x sp := by
  intro s H u v Q e0 hb rv hsp
  obtain ⟨oc, od, kV, doc, pm, an, cdv, ct, osl, rfl, lk, hcd⟩ := F.ex
  have inn : K.In s.heap :=
    e0.mod.kin.keeps fun b o e => (e0.bs b o e).1
  have nol : s.heap.NoLimit :=
    e0.mod.nolimit.keeps fun b o e => (e0.bs b o e).1
  have kinds : ∀ y ∈ [(x, u)], (defScope st).names.lookup y.1 = some .local ∨
      ((defScope st).names.lookup y.1 = some .cell ∧
        ((cellsFrom (s.heap.objs.size + 1) (defScope st).names []).lookup y.1).isSome = true) := by
    intro y hy
    rw [List.mem_singleton] at hy
    subst hy
    cases S.par x (List.mem_singleton.mpr rfl) with
    | inl z => exact .inl z
    | inr z => exact .inr ⟨z, PySem.W.cellsFrom_some _ _ _ (.inl z)⟩
  refine codeAny_call_function hk.depth (inn _ _ lk) rfl S.co S.gen rfl
    (PySem.W.codeRec_of inn hcd) (hb _ _ _ _ ?_)
  refine wpAny_newFunctionEnv_cells S.kind kinds fun env he s1 z => ?_
  subst he
  refine ⟨nol.keeps z.toInCall.keep, codeAny_func ?_⟩
  obtain ⟨t, ht, hq⟩ := body cdv s H v Q (hk.deeper _) hsp
  have J := inv_start (CX := CX0) (E := fun _ _ _ => False) (vs := [v]) (us := [u]) S hk.hd e0 rfl (.cons rv .nil) z
  refine wpAny_mono (ht.nox.run [] s1 (start N [v]) H _ J hq) (fun fl s' hs => ?_) (fun e s' hs => hs)
  cases fl with
  | ret u' =>
    obtain ⟨v', σ', H', I', r', q'⟩ := hs
    exact ⟨v', H', I'.os, I'.bare, I'.base, I'.hok, r', q'⟩
  | next =>
    obtain ⟨σ', H', I', q'⟩ := hs
    exact ⟨V.non, H', I'.os, I'.bare, I'.base, I'.hok, rfl, q'⟩
  | brk =>
    obtain ⟨_, _, _, no⟩ := hs
    exact no.elim
  | cont =>
    obtain ⟨_, _, _, no⟩ := hs
    exact no.elim
end

theorem law_callG {P : Program} {w : World} {K : PySem.W.Frag} {mg mb : Str → Option Value} {fa a : Addr}
    {fd : FuncData} {x : Str} {sp : Sp} {s₁ : Shared} {vs : List Value} {ns : List Int}
    (KX : K.In s₁.heap) (hns : s₁.heap.Ns mainGlobals mg) (hb : s₁.heap.Ns builtinsNs mb)
    (hbb : ∀ x : Str, x ≠ "__name__" → mb x = bootBuiltins x) (hlim : s₁.heap.NoLimit) (hg : s₁.gens = #[])
    (ha : s₁.heap.get? a = some { cls := .type "list", data := .seq vs.toArray }) (hi : IntsAre vs ns)
    (hl : ns.length ≤ sizeLine)
    (F : ∀ base : Heap, K.In base → base.Ns mainGlobals mg → RunsG P w K mg base fa fd x sp)
    (hbind : ∀ (s : Shared) (u : Value), BindsTo s fd ⟨[u], []⟩ [(x, u)])
    (hsp : ∀ H : Hp, Only H → SqL K H a (ns.map V.int) → sp [.ref a] H (fun v _ => v = .bl true) fun _ _ _ => False) :
    codeAny (model P w) callerA (.call (.ref fa) ⟨[.ref a], []⟩)
      (fun r s' => r = .ok (.ret (.bool true)) ∧ OldK s₁.heap s'.heap ∧ s'.os = s₁.os ∧ AllBare s'.gens) s₁ := by
  have main : ∀ H : Hp, Only H → SqL K H a (ns.map V.int) → HOk P w H s₁.heap →
      (∀ b, H b = none ∨ b = a) → (H a = none ∨ K.lookup a = none) →
      codeAny (model P w) callerA (.call (.ref fa) ⟨[.ref a], []⟩)
        (fun r s' => r = .ok (.ret (.bool true)) ∧ OldK s₁.heap s'.heap ∧ s'.os = s₁.os ∧ AllBare s'.gens) s₁ := by
    intro H hO hS hok hA hK
    have dictFree : ∀ {b : Addr} {o : Obj} {es : Array DictEntry} {ep : Nat},
        s₁.heap.get? b = some o → o.data = .dict es ep → H b = none := by
      intro b o es ep e d
      rcases hA b with n | rfl
      · exact n
      · rw [ha] at e
        cases e
        cases (show Data.seq vs.toArray _ = Data.dict es ep from d)
    have nsK : ∀ {b : Addr} {m : Str → Option Value}, s₁.heap.Ns b m → (hidT s₁.heap H).Ns b m :=
      fun {b m} ⟨o, es, ep, e, d, r⟩ => ⟨o, es, ep, hidT_get e (dictFree e d), d, r⟩
    have kinB : K.In (hidT s₁.heap H) := by
      intro b o e
      refine hidT_get (KX b o e) ?_
      rcases hA b with n | rfl
      · exact n
      · rcases hK with n | n
        · exact n
        · rw [n] at e
          cases e
    have modB : Mod K mg (hidT s₁.heap H) := by
      obtain ⟨mc, h1, h2⟩ := hlim
      exact ⟨kinB, nsK hns, ⟨mb, nsK hb, hbb⟩, ⟨mc, nsK h1, h2⟩⟩
    have env : Env0 P w K mg (hidT s₁.heap H) callerA [] s₁ H :=
      ⟨rfl, modB, fun b o e => of_hidT e, Nat.le_of_eq (hidT_size _ _), trivial, (fun b hb => by cases hb), hok, .of_eq hg⟩
    have run := F _ kinB (nsK hns) s₁ H (.ref a) (.ref a) (fun v _ => v = .bl true) env (hbind s₁ (.ref a)) rfl (hsp H hO hS)
    refine codeAny_mono run fun r s' h => ?_
    match r, h with
    | .error e, h => exact (show False from h).elim
    | .ok .next, h => exact (show False from h).elim
    | .ok .brk, h => exact (show False from h).elim
    | .ok .cont, h => exact (show False from h).elim
    | .ok (.ret u), h =>
      obtain ⟨v, H', os, bare, un, hok', rv, qv⟩ := h
      have qv' : v = .bl true := qv
      subst qv'
      have ru : u = Value.bool true := rv
      subst ru
      refine ⟨rfl, OldK.of_keep fun b o e => ?_, os, bare⟩
      rcases hO b with n | ⟨ob, ys, n⟩
      · exact un.keep b o e n (by intro z; cases z) (by simp)
      · obtain ⟨e1, _⟩ := hok b _ n
        obtain ⟨e2, _⟩ := hok' b _ (un.frzs b ob _ n)
        rw [e] at e1
        cases e1
        exact e2
  have rvs : Vals (ns.map V.int) vs := vals_ints hi
  have lenV : vs.length = ns.length := hi.length
  by_cases hk : ∃ o, K.lookup a = some o
  · obtain ⟨o, hk⟩ := hk
    have e := KX a o hk
    rw [ha] at e
    cases e
    refine main (fun _ => none) (fun _ => .inl rfl) (.inr ⟨_, vs.toArray, _, hk, rfl, rfl, rfl, ?_, by simpa using rvs⟩)
      (fun b u z => by cases (show (none : Option HO) = some u from z)) (fun b => .inl rfl) (.inl rfl)
    rw [List.size_toArray, lenV]
    exact hl
  · have hn : K.lookup a = none := by
      cases z : K.lookup a with
      | none => rfl
      | some o => exact absurd ⟨o, z⟩ hk
    let O : HO := .frz { cls := .type "list", data := .seq vs.toArray } (.lst (ns.map V.int))
    refine main (fun b => if b = a then some O else none) (fun b => ?_) (.inl (.inr ⟨_, if_pos rfl⟩)) (fun b u z => ?_)
      (fun b => ?_) (.inr hn)
    · by_cases hb : b = a
      · exact .inr ⟨_, _, if_pos hb⟩
      · exact .inl (if_neg hb)
    · by_cases hb : b = a
      · cases (if_pos hb).symm.trans z
        subst hb
        exact ⟨ha, by rw [List.length_map]; exact hl, vs, _, rvs, ha⟩
      · cases (if_neg hb).symm.trans z
    · by_cases hb : b = a
      · exact .inr hb
      · exact .inl (if_neg hb)

theorem walk_ofG {l : PySem.W.OpenLaw} {n : Nat} {q : Program} {loose : List Str}
    {XP : (Str → Option Value) → Heap → Prop} {YP : World → Heap → Prop} {d : DefRec}
    {K : Params → PySem.W.Frag} {sp : PySem.W.Frag → Sp} {x : Str}
    (hn : l.most = some n) (hn2 : n ≤ sizeLine) (hdf : d.params.defaults = [])
    (hY : ∀ (w : World) (h : Heap), YP w h → (K w.params).In h)
    (F : ∀ (w : World) (mg : Str → Option Value) (fa : Addr) (h : Heap), (K w.params).In h → h.Ns mainGlobals mg →
      mg d.name = some (.ref fa) →
      ∃ fd : FuncData, (∀ (s : Shared) (u : Value), BindsTo s fd ⟨[u], []⟩ [(x, u)]) ∧
        ∀ base : Heap, (K w.params).In base → base.Ns mainGlobals mg →
          RunsG l.prog w (K w.params) mg base fa fd x (sp (K w.params)))
    (hsp : ∀ (K : PySem.W.Frag) (H : Hp) (a : Addr) (ns : List Int), ns.length ≤ n → Only H →
      SqL K H a (ns.map V.int) → sp K [.ref a] H (fun v _ => v = .bl true) fun _ _ _ => False) :
    PySem.W.WalkO q loose XP YP l.row.toRowW d [] (fun f vs => PySem.call f vs) := by
  apply Att.attach_call hn hdf
  intro w s₀ s₁ mg mb fa o pm cd doc a vs ns G Y ho hd hcd hmg hobj hints hlen hg
  have KX := hY w _ Y
  obtain ⟨fd, hb, hF⟩ := F w mg fa _ KX G.T.g hmg
  exact law_callG KX G.T.g G.T.b G.T.builtins G.T.nolimit hg hobj hints (Nat.le_trans hlen hn2) hF hb
    (fun H hO hS => hsp _ H a ns hlen hO hS)
end WR
set_option Elab.async false
set_option linter.all false
set_option maxRecDepth 100000
set_option maxHeartbeats 1000000
/-! readings upon data: what evaluates to which datum, wherever the heap has grown -/
namespace WR
open PySem PySem.Spec PyProof.Rows L2 Evl

/-! ### data in a heap that grows -/
mutual
theorem dp_ex {K : PySem.W.Frag} {H H' : Hp} (e : Ex H H') : ∀ {v : V} (d : PyData), Dp K H v d → Dp K H' v d
  | _, .none, h => by cases h; exact .non
  | _, .bool _, h => by cases h; exact .bl _
  | _, .int _, h => by cases h; exact .int _
  | _, .str _, h => by cases h; exact .str _
  | _, .list ds, h => by
    cases h with
    | lst a b => exact .lst (ex_l e a) (dpAll_ex e ds b)
  | _, .tuple ds, h => by
    cases h with
    | tup a b => exact .tup (ex_t e a) (dpAll_ex e ds b)
  | _, .dict _, h => by cases h
theorem dpAll_ex {K : PySem.W.Frag} {H H' : Hp} (e : Ex H H') : ∀ {vs : List V} (ds : List PyData), DpAll K H vs ds → DpAll K H' vs ds
  | _, [], h => by cases h; exact .nil
  | _, d :: ds, h => by
    cases h with
    | cons a b => exact .cons (dp_ex e d a) (dpAll_ex e ds b)
end
section
variable {K : PySem.W.Frag} {H H' : Hp}
theorem dpAll_len : ∀ {vs : List V} {ds : List PyData}, DpAll K H vs ds → vs.length = ds.length
  | _, [], h => by cases h; rfl
  | _, _ :: _, h => by
    cases h with
    | cons a b => simp [dpAll_len b]
theorem dpAll_at : ∀ {vs : List V} {ds : List PyData} {i : Nat} {v : V}, DpAll K H vs ds → vs[i]? = some v → ∃ d, ds[i]? = some d ∧ Dp K H v d
  | _, [], _, _, h, e => by cases h; simp at e
  | _, _ :: _, 0, _, h, e => by
    cases h with
    | cons a b => exact ⟨_, rfl, by simp at e; rw [← e]; exact a⟩
  | _, _ :: _, i + 1, _, h, e => by
    cases h with
    | cons a b =>
      obtain ⟨d, h1, h2⟩ := dpAll_at (i := i) b (by simpa using e)
      exact ⟨d, by simpa using h1, h2⟩
theorem dpAll_at' : ∀ {vs : List V} {ds : List PyData} {i : Nat} {d : PyData}, DpAll K H vs ds → ds[i]? = some d → ∃ v, vs[i]? = some v ∧ Dp K H v d
  | _, [], _, _, h, e => by simp at e
  | _, _ :: _, 0, _, h, e => by
    cases h with
    | cons a b => exact ⟨_, rfl, by simp at e; rw [← e]; exact a⟩
  | _, _ :: _, i + 1, _, h, e => by
    cases h with
    | cons a b =>
      obtain ⟨v, h1, h2⟩ := dpAll_at' (i := i) b (by simpa using e)
      exact ⟨v, by simpa using h1, h2⟩
theorem dpAll_snoc : ∀ {vs : List V} {ds : List PyData} {v : V} {d : PyData}, DpAll K H vs ds → Dp K H v d → DpAll K H (vs ++ [v]) (ds ++ [d])
  | _, [], _, _, h, a => by cases h; exact .cons a .nil
  | _, _ :: _, _, _, h, a => by
    cases h with
    | cons b c => exact .cons b (dpAll_snoc c a)
theorem dpAll_app : ∀ {vs ws : List V} {ds es : List PyData}, DpAll K H vs ds → DpAll K H ws es → DpAll K H (vs ++ ws) (ds ++ es)
  | _, _, [], _, h, a => by cases h; exact a
  | _, _, _ :: _, _, h, a => by
    cases h with
    | cons b c => exact .cons b (dpAll_app c a)
theorem dpAll_drop : ∀ {vs : List V} {ds : List PyData} (n : Nat), DpAll K H vs ds → DpAll K H (vs.drop n) (ds.drop n)
  | _, _, 0, h => by simpa using h
  | _, [], n + 1, h => by cases h; exact .nil
  | _, _ :: _, n + 1, h => by
    cases h with
    | cons a b => exact dpAll_drop n b
theorem dpAll_take : ∀ {vs : List V} {ds : List PyData} (n : Nat), DpAll K H vs ds → DpAll K H (vs.take n) (ds.take n)
  | _, _, 0, h => .nil
  | _, [], n + 1, h => by cases h; exact .nil
  | _, _ :: _, n + 1, h => by
    cases h with
    | cons a b => exact .cons a (dpAll_take n b)
theorem dpAll_ints : ∀ (ns : List Int), DpAll K H (ns.map V.int) (ns.map PyData.int)
  | [] => .nil
  | _ :: ns => .cons (.int _) (dpAll_ints ns)
theorem dpAll_bls : ∀ (ns : List Bool), DpAll K H (ns.map V.bl) (ns.map PyData.bool)
  | [] => .nil
  | _ :: ns => .cons (.bl _) (dpAll_bls ns)
theorem ints_of : ∀ {vs : List V} {ns : List Int}, DpAll K H vs (ns.map PyData.int) → vs = ns.map V.int
  | _, [], h => by cases h; rfl
  | _, _ :: ns, h => by
    cases h with
    | cons a b => cases a; rw [ints_of b]; rfl
theorem bls_of : ∀ {vs : List V} {ns : List Bool}, DpAll K H vs (ns.map PyData.bool) → vs = ns.map V.bl
  | _, [], h => by cases h; rfl
  | _, _ :: ns, h => by
    cases h with
    | cons a b => cases a; rw [bls_of b]; rfl
theorem dp_tup {v : V} {ds : List PyData} (h : Dp K H v (.tuple ds)) : ∃ a xs, v = .ref a ∧ SqT K H a xs ∧ DpAll K H xs ds := by
  cases h with
  | tup a b => exact ⟨_, _, rfl, a, b⟩
theorem dp_lst {v : V} {ds : List PyData} (h : Dp K H v (.list ds)) : ∃ a xs, v = .ref a ∧ SqL K H a xs ∧ DpAll K H xs ds := by
  cases h with
  | lst a b => exact ⟨_, _, rfl, a, b⟩
theorem dp_int {v : V} {i : Int} (h : Dp K H v (.int i)) : v = .int i := by cases h; rfl
theorem dp_bl {v : V} {i : Bool} (h : Dp K H v (.bool i)) : v = .bl i := by cases h; rfl
theorem dp_non {v : V} (h : Dp K H v .none) : v = .non := by cases h; rfl
end

/-! data without lists and dicts within -/
mutual
def nl : PyData → Bool
  | .list _ => false
  | .dict _ => false
  | .tuple ds => nlAll ds
  | _ => true
def nlAll : List PyData → Bool
  | [] => true
  | d :: ds => nl d && nlAll ds
end
theorem nlAll_mem : ∀ {ds : List PyData}, (∀ d ∈ ds, nl d = true) → nlAll ds = true
  | [], _ => rfl
  | d :: ds, h => by
    show (nl d && nlAll ds) = true
    rw [h d (List.mem_cons_self ..), nlAll_mem fun x hx => h x (List.mem_cons_of_mem _ hx)]
    rfl
theorem ex_tL {K : PySem.W.Frag} {H : Hp} {a l : Addr} {xs ys zs : List V} (hl : H l = some (.lst ys)) (h : SqT K H a xs) : SqT K (upd H l (.lst zs)) a xs := by
  rcases h with (h | ⟨o, h⟩) | h
  · exact .inl (.inl (by rw [upd_ne (ne_of h hl (by intro z; cases z))]; exact h))
  · exact .inl (.inr ⟨o, by rw [upd_ne (ne_of h hl (by intro z; cases z))]; exact h⟩)
  · exact .inr h
mutual
/-- a list that changes changes no such datum -/
theorem dp_updL {K : PySem.W.Frag} {H : Hp} {l : Addr} {ys zs : List V} (hl : H l = some (.lst ys)) : ∀ {v : V} (d : PyData), nl d = true → Dp K H v d → Dp K (upd H l (.lst zs)) v d
  | _, .none, _, h => by cases h; exact .non
  | _, .bool _, _, h => by cases h; exact .bl _
  | _, .int _, _, h => by cases h; exact .int _
  | _, .str _, _, h => by cases h; exact .str _
  | _, .list ds, n, h => by cases n
  | _, .tuple ds, n, h => by
    cases h with
    | tup a b => exact .tup (ex_tL hl a) (dpAll_updL hl ds n b)
  | _, .dict _, _, h => by cases h
theorem dpAll_updL {K : PySem.W.Frag} {H : Hp} {l : Addr} {ys zs : List V} (hl : H l = some (.lst ys)) : ∀ {vs : List V} (ds : List PyData), nlAll ds = true → DpAll K H vs ds → DpAll K (upd H l (.lst zs)) vs ds
  | _, [], _, h => by cases h; exact .nil
  | _, d :: ds, n, h => by
    have n' : (nl d && nlAll ds) = true := n
    rw [Bool.and_eq_true] at n'
    cases h with
    | cons a b => exact .cons (dp_updL hl d n'.1 a) (dpAll_updL hl ds n'.2 b)
end

/-! ### what evaluates to which datum -/
def EvD (K : PySem.W.Frag) (te : TE) (σ : L2.St) (H : Hp) (d : PyData) : Prop := ∀ H1, Ex H H1 → ∀ Q : VK, (∀ v H2, Ex H1 H2 → Dp K H2 v d → Q v H2) → te σ H1 Q
def EvDA (K : PySem.W.Frag) (ta : TA) (σ : L2.St) (H : Hp) (ds : List PyData) : Prop := ∀ H1, Ex H H1 → ∀ Q : List V → Hp → Prop, (∀ vs H2, Ex H1 H2 → DpAll K H2 vs ds → Q vs H2) → ta σ H1 Q
/-- a new list of data -/
def EvN (K : PySem.W.Frag) (te : TE) (σ : L2.St) (H : Hp) (ds : List PyData) : Prop := ∀ H1, Ex H H1 → ∀ Q : VK, (∀ p xs H2, H1 p = none → Ex H1 H2 → H2 p = some (.lst xs) → DpAll K H2 xs ds → Q (.ref p) H2) → te σ H1 Q
/-- a promise: called with the data ds, it hands back the datum F ds -/
def spD (K : PySem.W.Frag) (F : List PyData → Option PyData) : Sp := fun vs H Q _ => ∃ ds r, DpAll K H vs ds ∧ F ds = some r ∧ ∀ v H', Ex H H' → Dp K H' v r → Q v H'

section
variable {K : PySem.W.Frag} {σ : L2.St} {H H' : Hp} {ta tb te tx : TE} {t u : TT} {x y z v : V} {r : R2} {d d1 d2 : PyData} {ds es : List PyData}
theorem EvD.mono (e : Ex H H') (h : EvD K te σ H d) : EvD K te σ H' d := fun H1 a Q q => h H1 (e.trans a) Q q
theorem EvN.mono (e : Ex H H') (h : EvN K te σ H ds) : EvN K te σ H' ds := fun H1 a Q q => h H1 (e.trans a) Q q
theorem EvDA.mono {ta : TA} (e : Ex H H') (h : EvDA K ta σ H ds) : EvDA K ta σ H' ds := fun H1 a Q q => h H1 (e.trans a) Q q
theorem ed_ev (h : Ev te σ H v) (hd : Dp K H v d) : EvD K te σ H d := fun H1 e Q q => h H1 e Q fun H2 e2 => q v H2 e2 (dp_ex (e.trans e2) d hd)
theorem ed_n (h : EvN K te σ H ds) : EvD K te σ H (.list ds) := fun H1 e Q q => h H1 e Q fun p xs H2 _ e2 hp hd => q _ H2 e2 (.lst (sq_of hp) hd)
theorem ev_i {i : Int} (h : EvD K te σ H (.int i)) : Ev te σ H (.int i) := fun H1 e Q q => h H1 e Q fun v H2 e2 hv => by
  cases dp_int hv
  exact q H2 e2
theorem ev_b {i : Bool} (h : EvD K te σ H (.bool i)) : Ev te σ H (.bl i) := fun H1 e Q q => h H1 e Q fun v H2 e2 hv => by
  cases dp_bl hv
  exact q H2 e2
theorem ed_i {i : Int} (h : Ev te σ H (.int i)) : EvD K te σ H (.int i) := ed_ev h (.int i)
theorem ed_b {i : Bool} (h : Ev te σ H (.bl i)) : EvD K te σ H (.bool i) := ed_ev h (.bl i)
theorem ed_var {i : Nat} (h : σ[i]? = some (some v)) (hd : Dp K H v d) : EvD K (tVar i) σ H d := ed_ev (ev_var h) hd
theorem ed_is (h : EvD K te σ H d) (e : d = d1) : EvD K te σ H d1 := by
  rw [← e]
  exact h
theorem eda_nil : EvDA K tNil σ H [] := fun H1 _ _ q => q [] H1 (Ex.refl H1) .nil
theorem eda_cons {tr : TA} (h : EvD K te σ H d) (hr : EvDA K tr σ H ds) : EvDA K (tCons te tr) σ H (d :: ds) := fun H1 e Q q =>
  h H1 e _ fun v H2 e2 hv => hr H2 (e.trans e2) _ fun vs H3 e3 hvs => q _ H3 (e2.trans e3) (.cons (dp_ex e3 d hv) hvs)
theorem ed_call {F : List PyData → Option PyData} {E : XK} {ta : TA} (h : EvDA K ta σ H ds) (hf : F ds = some d) : EvD K (tCall (spD K F) [] E ta) σ H d := fun H1 e Q q =>
  h H1 e _ fun vs H2 e2 hv => by
    rw [List.append_nil]
    exact ⟨ds, d, hv, hf, fun v H3 e3 hd => q v H3 (e2.trans e3) hd⟩
/-- an item of a tuple, of a list -/
theorem ed_ixT {n : Nat} {i : Int} (ha : EvD K ta σ H (.tuple ds)) (hb : EvD K tb σ H (.int i)) (hi : i = (n : Int)) (hx : ds[n]? = some d) : EvD K (tOp (rIxT K) ta tb) σ H d := fun H1 e Q q =>
  ha H1 e _ fun v H2 e2 hv => hb H2 (e.trans e2) _ fun w H3 e3 hw => by
    obtain ⟨a, xs, rfl, hs, hd⟩ := dp_tup (dp_ex e3 _ hv)
    cases dp_int hw
    obtain ⟨x, hx1, hx2⟩ := dpAll_at' hd hx
    subst hi
    exact ⟨a, xs, _, x, rfl, rfl, hs, atI_nat hx1, q x H3 (e2.trans e3) hx2⟩
theorem ed_ixL {n : Nat} {i : Int} (ha : EvD K ta σ H (.list ds)) (hb : EvD K tb σ H (.int i)) (hi : i = (n : Int)) (hx : ds[n]? = some d) : EvD K (tOp (rIxL K) ta tb) σ H d := fun H1 e Q q =>
  ha H1 e _ fun v H2 e2 hv => hb H2 (e.trans e2) _ fun w H3 e3 hw => by
    obtain ⟨a, xs, rfl, hs, hd⟩ := dp_lst (dp_ex e3 _ hv)
    cases dp_int hw
    obtain ⟨x, hx1, hx2⟩ := dpAll_at' hd hx
    subst hi
    exact ⟨a, xs, _, x, rfl, rfl, hs, atI_nat hx1, q x H3 (e2.trans e3) hx2⟩
/-- len -/
theorem ed_lenT (h : EvD K te σ H (.tuple ds)) : Ev (tCB (fun xs H Q => ∃ p ys, xs = [.ref p] ∧ (SqL K H p ys ∨ SqT K H p ys) ∧ Q (.int ys.length) H) (tCons te tNil)) σ H (.int (ds.length : Int)) := fun H1 e Q q =>
  h H1 e _ fun v H2 e2 hv => by
    obtain ⟨a, xs, rfl, hs, hd⟩ := dp_tup hv
    refine ⟨a, xs, rfl, .inr hs, ?_⟩
    rw [dpAll_len hd]
    exact q H2 e2
theorem ed_lenL (h : EvD K te σ H (.list ds)) : Ev (tCB (fun xs H Q => ∃ p ys, xs = [.ref p] ∧ (SqL K H p ys ∨ SqT K H p ys) ∧ Q (.int ys.length) H) (tCons te tNil)) σ H (.int (ds.length : Int)) := fun H1 e Q q =>
  h H1 e _ fun v H2 e2 hv => by
    obtain ⟨a, xs, rfl, hs, hd⟩ := dp_lst hv
    refine ⟨a, xs, rfl, .inl hs, ?_⟩
    rw [dpAll_len hd]
    exact q H2 e2
/-- tuple(list) -/
theorem ed_tupL (h : EvD K te σ H (.list ds)) : EvD K (tCB (fun xs H Q => ∃ p ys, xs = [.ref p] ∧ ((SqL K H p ys ∧ ∀ l, H l = none → Q (.ref l) (upd H l (.tup ys))) ∨ (SqT K H p ys ∧ Q (.ref p) H))) (tCons te tNil)) σ H (.tuple ds) := fun H1 e Q q =>
  h H1 e _ fun v H2 e2 hv => by
    obtain ⟨a, xs, rfl, hs, hd⟩ := dp_lst hv
    exact ⟨a, xs, rfl, .inl ⟨hs, fun l hl => q _ _ (e2.trans (Ex.new hl)) (.tup (st_of upd_same) (dpAll_ex (Ex.new hl) ds hd))⟩⟩
/-- a tuple written, a list written -/
theorem ed_tup {ta : TA} (h : EvDA K ta σ H ds) (hl : ds.length ≤ 100000) : EvD K (tTup ta) σ H (.tuple ds) := fun H1 e Q q =>
  h H1 e _ fun vs H2 e2 hv => ⟨sz_of (by rw [dpAll_len hv]; exact hl), fun p hp => q _ _ (e2.trans (Ex.new hp)) (.tup (st_of upd_same) (dpAll_ex (Ex.new hp) ds hv))⟩
theorem ed_lst {ta : TA} (h : EvDA K ta σ H ds) (hl : ds.length ≤ 100000) : EvN K (tLst ta) σ H ds := fun H1 e Q q =>
  h H1 e _ fun vs H2 e2 hv => ⟨sz_of (by rw [dpAll_len hv]; exact hl), fun p hp => q p vs _ (fresh_back e2 hp) (e2.trans (Ex.new hp)) upd_same (dpAll_ex (Ex.new hp) ds hv)⟩
/-- all(list of truths) -/
theorem ed_all {bs : List Bool} (h : EvD K te σ H (.list (bs.map PyData.bool))) : Ev (tCB (rAll K) (tCons te tNil)) σ H (.bl (bs.all id)) := fun H1 e Q q =>
  h H1 e _ fun v H2 e2 hv => by
    obtain ⟨a, xs, rfl, hs, hd⟩ := dp_lst hv
    rw [bls_of hd] at hs
    exact ⟨a, bs, rfl, hs, q H2 e2⟩
/-- tuple + tuple -/
theorem ed_cat (ha : EvD K ta σ H (.tuple ds)) (hb : EvD K tb σ H (.tuple es)) (hl : ds.length + es.length ≤ 100000) : EvD K (tOp (rCatA K) ta tb) σ H (.tuple (ds ++ es)) := fun H1 e Q q =>
  ha H1 e _ fun v H2 e2 hv => hb H2 (e.trans e2) _ fun w H3 e3 hw => by
    obtain ⟨a, xs, rfl, hs, hd⟩ := dp_tup (dp_ex e3 _ hv)
    obtain ⟨b, ys, rfl, ht, he⟩ := dp_tup hw
    refine ⟨a, b, xs, ys, rfl, rfl, hs, ht, sz_of (by rw [dpAll_len hd, dpAll_len he]; exact hl), fun z => ?_, fun _ z => ?_, fun _ _ p hp => ?_⟩
    · subst z
      have : ds = [] := by
        have := dpAll_len hd
        cases ds with
        | nil => rfl
        | cons _ _ => simp at this
      subst this
      exact q _ H3 (e2.trans e3) hw
    · subst z
      have : es = [] := by
        have := dpAll_len he
        cases es with
        | nil => rfl
        | cons _ _ => simp at this
      subst this
      exact q _ H3 (e2.trans e3) (by rw [List.append_nil]; exact .tup hs hd)
    · exact q _ _ ((e2.trans e3).trans (Ex.new hp)) (.tup (st_of upd_same) (dpAll_app (dpAll_ex (Ex.new hp) ds hd) (dpAll_ex (Ex.new hp) es he)))
end

/-! ### statements -/
section
variable {K : PySem.W.Frag} {σ : L2.St} {H H' : Hp} {ta tb te tx : TE} {t u : TT} {x y z v : V} {D : Ends} {tu tw tz : TS} {g : TG} {d d1 d2 : PyData} {ds : List PyData}
theorem s_retD (h : EvD K te σ H d) (k : ∀ v H1, Ex H H1 → Dp K H1 v d → D.rt v H1) : tRet te D σ H := h H (Ex.refl H) _ k
theorem s_asgD {i : Nat} (h : EvD K te σ H d) (k : ∀ v H1, Ex H H1 → Dp K H1 v d → D.nx (σ.set i (some v)) H1) : tAsg te (gName i) D σ H := h H (Ex.refl H) _ k
theorem q_asgD {i : Nat} (h : EvD K te σ H d) (k : ∀ v H1, Ex H H1 → Dp K H1 v d → tz D (σ.set i (some v)) H1) : tSeq (tAsg te (gName i)) tz D σ H := h H (Ex.refl H) _ k
theorem q_asgN {i : Nat} (h : EvN K te σ H ds) (k : ∀ p xs H1, H p = none → Ex H H1 → H1 p = some (.lst xs) → DpAll K H1 xs ds → tz D (σ.set i (some (.ref p))) H1) : tSeq (tAsg te (gName i)) tz D σ H := h H (Ex.refl H) _ k
theorem q_unp2 {i j : Nat} (h : EvD K te σ H (.tuple [d1, d2])) (k : ∀ v w H1, Ex H H1 → Dp K H1 v d1 → Dp K H1 w d2 → tz D ((σ.set i (some v)).set j (some w)) H1) :
    tSeq (tAsg te (gTup K 2 (gCons (gName i) (gCons (gName j) gNil)))) tz D σ H := h H (Ex.refl H) _ fun v H1 e hv => by
  obtain ⟨a, xs, rfl, hs, hd⟩ := dp_tup hv
  cases hd with
  | cons h1 hd =>
    cases hd with
    | cons h2 hd =>
      cases hd
      exact ⟨a, _, rfl, hs, rfl, _, _, rfl, _, _, rfl, rfl, k _ _ H1 e h1 h2⟩
end

/-! ### what a for, a comprehension walks -/
/-- wi gives the data ds, one by one; wherever the heap has grown from H (stable: G) -/
def Src (K : PySem.W.Frag) (wi : TI) (σ : L2.St) (H : Hp) (ds : List PyData) : Prop :=
  ∀ H1, Ex H H1 → ∀ R : It → Hp → Prop, (∀ J H2 (G : Hp → Prop), Ex H1 H2 → (∀ H', Ex H2 H' → G H') →
    Walk J ds.length G (fun i H x H' => H' = H ∧ ∃ d, ds[i]? = some d ∧ Dp K H x d) → R J H2) → wi σ H1 R
/-- the same where the walked object stood in H already -/
def SrcS (K : PySem.W.Frag) (wi : TI) (σ : L2.St) (H : Hp) (ds : List PyData) : Prop :=
  ∀ H1, Ex H H1 → ∀ R : It → Hp → Prop, (∀ J H2 (G : Hp → Prop), Ex H1 H2 → (∀ H', Ex H H' → G H') →
    Walk J ds.length G (fun i Hc x H' => H' = Hc ∧ ∃ d, ds[i]? = some d ∧ Dp K H x d) → R J H2) → wi σ H1 R
section
variable {K : PySem.W.Frag} {σ : L2.St} {H H' : Hp} {ta tb te tx tl : TE} {t u : TT} {x y z v : V} {D : Ends} {tu tw tz : TS} {g : TG} {d d1 d2 : PyData} {ds : List PyData} {wi : TI}
theorem SrcS.src (h : SrcS K wi σ H ds) : Src K wi σ H ds := fun H1 e R k => h H1 e R fun J H2 G e2 hg w =>
  k J H2 (fun H' => Ex H H') e2 (fun H' e3 => (e.trans e2).trans e3) (w.mono (fun H' e3 => hg H' e3) fun i Hc x H' _ e3 hy => ⟨hy.1, by
    obtain ⟨d, h1, h2⟩ := hy.2
    exact ⟨d, h1, dp_ex e3 _ h2⟩⟩)
theorem walk_sT {H0 : Hp} {a : Addr} {xs : List V} (hd : DpAll K H0 xs ds) : Walk (Itt K a) ds.length (fun H => SqT K H a xs) (fun i Hc x H' => H' = Hc ∧ ∃ d, ds[i]? = some d ∧ Dp K H0 x d) := by
  rw [← dpAll_len hd]
  exact (walk_tup (K := K) (a := a) (xs := xs)).mono (fun H h => h) fun i H x H' hi hg hy => ⟨hy.1, dpAll_at hd hy.2⟩
theorem walk_sL {H0 : Hp} {a : Addr} {xs : List V} (hd : DpAll K H0 xs ds) : Walk (Itl K a) ds.length (fun H => SqL K H a xs) (fun i Hc x H' => H' = Hc ∧ ∃ d, ds[i]? = some d ∧ Dp K H0 x d) := by
  rw [← dpAll_len hd]
  exact (walk_list (K := K) (a := a) (xs := xs)).mono (fun H h => h) fun i H x H' hi hg hy => ⟨hy.1, dpAll_at hd hy.2⟩
theorem Src.mono (e : Ex H H') (h : Src K wi σ H ds) : Src K wi σ H' ds := fun H1 a R k => h H1 (e.trans a) R k
theorem walk_dT {a : Addr} {xs : List V} (hn : xs.length = ds.length) : Walk (Itt K a) ds.length (fun H => SqT K H a xs ∧ DpAll K H xs ds) (fun i H x H' => H' = H ∧ ∃ d, ds[i]? = some d ∧ Dp K H x d) := by
  rw [← hn]
  refine (walk_tup (K := K) (a := a) (xs := xs)).mono (fun H h => h.1) (fun i H x H' hi hg hy => ⟨hy.1, ?_⟩)
  exact dpAll_at hg.2 hy.2
theorem walk_dL {a : Addr} {xs : List V} (hn : xs.length = ds.length) : Walk (Itl K a) ds.length (fun H => SqL K H a xs ∧ DpAll K H xs ds) (fun i H x H' => H' = H ∧ ∃ d, ds[i]? = some d ∧ Dp K H x d) := by
  rw [← hn]
  refine (walk_list (K := K) (a := a) (xs := xs)).mono (fun H h => h.1) (fun i H x H' hi hg hy => ⟨hy.1, ?_⟩)
  exact dpAll_at hg.2 hy.2
theorem src_T (h : EvD K tl σ H (.tuple ds)) : Src K (iTup K tl) σ H ds := fun H1 e R k => h H1 e _ fun v H2 e2 hv => by
  obtain ⟨a, xs, rfl, hs, hd⟩ := dp_tup hv
  exact ⟨a, rfl, ⟨xs, hs⟩, k _ H2 _ e2 (fun H' e3 => ⟨ex_t e3 hs, dpAll_ex e3 ds hd⟩) (walk_dT (dpAll_len hd))⟩
theorem src_L (h : EvD K tl σ H (.list ds)) : Src K (iList K tl) σ H ds := fun H1 e R k => h H1 e _ fun v H2 e2 hv => by
  obtain ⟨a, xs, rfl, hs, hd⟩ := dp_lst hv
  exact ⟨a, rfl, ⟨xs, hs⟩, k _ H2 _ e2 (fun H' e3 => ⟨ex_l e3 hs, dpAll_ex e3 ds hd⟩) (walk_dL (dpAll_len hd))⟩
theorem srcS_T (h : Ev tl σ H v) (hv : Dp K H v (.tuple ds)) : SrcS K (iTup K tl) σ H ds := fun H1 e R k => h H1 e _ fun H2 e2 => by
  obtain ⟨a, xs, rfl, hs, hd⟩ := dp_tup hv
  exact ⟨a, rfl, ⟨xs, ex_t (e.trans e2) hs⟩, k _ H2 _ e2 (fun H' e3 => ex_t e3 hs) (walk_sT hd)⟩
theorem srcS_L (h : Ev tl σ H v) (hv : Dp K H v (.list ds)) : SrcS K (iList K tl) σ H ds := fun H1 e R k => h H1 e _ fun H2 e2 => by
  obtain ⟨a, xs, rfl, hs, hd⟩ := dp_lst hv
  exact ⟨a, rfl, ⟨xs, ex_l (e.trans e2) hs⟩, k _ H2 _ e2 (fun H' e3 => ex_l e3 hs) (walk_sL hd)⟩
/-- the ints of a range -/
def rngD (lo : Int) (n : Nat) : List PyData := (List.range n).map fun (k : Nat) => PyData.int (lo + (k : Int))
theorem rngD_len {lo : Int} {n : Nat} : (rngD lo n).length = n := by unfold rngD; rw [List.length_map, List.length_range]
theorem rngD_at {lo : Int} {n i : Nat} (h : i < n) : (rngD lo n)[i]? = some (.int (lo + (i : Int))) := by unfold rngD; rw [List.getElem?_map, List.getElem?_range h]; rfl
theorem walk_dR {H0 : Hp} {lo : Int} {n : Nat} : Walk (Itr lo n) (rngD lo n).length (fun _ => True) (fun i Hc x H' => H' = Hc ∧ ∃ d, (rngD lo n)[i]? = some d ∧ Dp K H0 x d) := by
  rw [rngD_len]
  refine (walk_range (lo := lo) (n := n)).mono (fun H h => h) (fun i H x H' hi hg hy => ⟨hy.1, _, rngD_at hi, ?_⟩)
  rw [hy.2]
  exact .int _
theorem srcS_R1 {ta : TA} {n : Int} (h : EvA ta σ H [.int n]) (h1 : -100000000 ≤ n ∧ n ≤ 100000000) : SrcS K (iRng1 ta) σ H (rngD 0 n.toNat) := fun H1 e R k => h H1 e _ fun H2 e2 =>
  ⟨n, rfl, by omega, by omega, k _ H2 _ e2 (fun _ _ => trivial) walk_dR⟩
theorem srcS_R2 {ta : TA} {lo n : Int} (h : EvA ta σ H [.int lo, .int n]) (h1 : -100000000 ≤ n ∧ n ≤ 100000000 ∧ -100000000 ≤ lo ∧ lo ≤ 100000000) : SrcS K (iRng2 ta) σ H (rngD lo (n - lo).toNat) := fun H1 e R k => h H1 e _ fun H2 e2 =>
  ⟨lo, n, rfl, ⟨by omega, by omega, by omega, by omega⟩, k _ H2 _ e2 (fun _ _ => trivial) walk_dR⟩

/-! ### loops -/
theorem q_forS {H0 : Hp} {j : Nat} (e0 : Ex H0 H) (h : SrcS K wi σ H0 ds) (Pv : Nat → L2.St → Hp → Prop) (h0 : ∀ H1, Ex H H1 → Pv 0 σ H1) (hG : ∀ i σ' H', Pv i σ' H' → Ex H0 H')
    (hs : ∀ i d x σ' H', ds[i]? = some d → Dp K H0 x d → Pv i σ' H' → tu { D with nx := Pv (i + 1), ct := Pv (i + 1), bk := tz D } (σ'.set j (some x)) H') (hd : ∀ σ' H', Pv ds.length σ' H' → tz D σ' H') :
    tSeq (tFor wi (gName j) tu) tz D σ H := h H e0 _ fun J H2 G e2 hg w =>
  for_it w (D := { D with nx := tz D }) Pv (h0 H2 e2) (fun i σ' H' _ p => hg H' (hG i σ' H' p)) (fun i x σ' Hc H' hi p hy => by
    obtain ⟨rfl, d, h1, h2⟩ := hy
    exact hs i d x σ' H' h1 h2 p) hd
theorem s_forS {H0 : Hp} {j : Nat} (e0 : Ex H0 H) (h : SrcS K wi σ H0 ds) (Pv : Nat → L2.St → Hp → Prop) (h0 : ∀ H1, Ex H H1 → Pv 0 σ H1) (hG : ∀ i σ' H', Pv i σ' H' → Ex H0 H')
    (hs : ∀ i d x σ' H', ds[i]? = some d → Dp K H0 x d → Pv i σ' H' → tu { D with nx := Pv (i + 1), ct := Pv (i + 1), bk := D.nx } (σ'.set j (some x)) H') (hd : ∀ σ' H', Pv ds.length σ' H' → D.nx σ' H') :
    tFor wi (gName j) tu D σ H := h H e0 _ fun J H2 G e2 hg w =>
  for_it w (D := D) Pv (h0 H2 e2) (fun i σ' H' _ p => hg H' (hG i σ' H' p)) (fun i x σ' Hc H' hi p hy => by
    obtain ⟨rfl, d, h1, h2⟩ := hy
    exact hs i d x σ' H' h1 h2 p) hd
/-- over what may be new: the heap H2 behind its making -/
theorem q_forD {j : Nat} (h : Src K wi σ H ds) (Pv : Hp → Nat → L2.St → Hp → Prop) (h0 : ∀ H1, Ex H H1 → Pv H1 0 σ H1) (hG : ∀ H2 i σ' H', Pv H2 i σ' H' → Ex H2 H')
    (hs : ∀ H2 i d x σ' H', Ex H H2 → ds[i]? = some d → Dp K H' x d → Pv H2 i σ' H' → tu { D with nx := Pv H2 (i + 1), ct := Pv H2 (i + 1), bk := tz D } (σ'.set j (some x)) H') (hd : ∀ H2 σ' H', Ex H H2 → Pv H2 ds.length σ' H' → tz D σ' H') :
    tSeq (tFor wi (gName j) tu) tz D σ H := h H (Ex.refl H) _ fun J H2 G e2 hg w =>
  for_it w (D := { D with nx := tz D }) (Pv H2) (h0 H2 e2) (fun i σ' H' _ p => hg H' (hG H2 i σ' H' p)) (fun i x σ' Hc H' hi p hy => by
    obtain ⟨rfl, d, h1, h2⟩ := hy
    exact hs H2 i d x σ' H' e2 h1 h2 p) fun σ' H' p => hd H2 σ' H' e2 p
/-- for k in range(..): if c(k): return r(k) -/
theorem q_find {j : Nat} {lo : Int} {n : Nat} (h : SrcS K wi σ H (rngD lo n)) (b : Nat → Bool)
    (ht : ∀ k H1, k < n → Ex H H1 → EvT t (σ.set j (some (.int (lo + (k : Int))))) H1 (b k))
    (hr : ∀ k H1 D', k < n → b k = true → (∀ i, i < k → b i = false) → Ex H H1 → D'.rt = D.rt → tu D' (σ.set j (some (.int (lo + (k : Int))))) H1)
    (hd : (∀ k, k < n → b k = false) → ∀ σ' H1, Ex H H1 → (σ' = σ ∨ ∃ x, σ' = σ.set j (some x)) → tz D σ' H1) :
    tSeq (tFor wi (gName j) (tIfS t tu tNext)) tz D σ H := by
  refine q_forS (Ex.refl H) h (fun i σ' H' => Ex H H' ∧ (∀ k, k < i → b k = false) ∧ (σ' = σ ∨ ∃ x, σ' = σ.set j (some x))) (fun H1 e => ⟨e, fun k hk => by omega, .inl rfl⟩) (fun i σ' H' p => p.1) (fun i d x σ' H' hi hx p => ?_) fun σ' H' p => hd (fun k hk => p.2.1 k (by rw [rngD_len]; exact hk)) σ' H' p.1 p.2.2
  have hin : i < n := by
    have q := (List.getElem?_eq_some_iff.mp hi).1
    rw [rngD_len] at q
    exact q
  rw [rngD_at hin] at hi
  cases hi
  cases dp_int hx
  obtain ⟨e, hb, hσ⟩ := p
  have es : σ'.set j (some (.int (lo + (i : Int)))) = σ.set j (some (.int (lo + (i : Int)))) := by
    rcases hσ with rfl | ⟨x, rfl⟩
    · rfl
    · rw [List.set_set]
  rw [es]
  refine s_if (ht i H' hin e) (fun hbi H1 e1 => hr i H1 _ hin hbi hb (e.trans e1) rfl) fun hbi H1 e1 => ?_
  exact ⟨e.trans e1, fun k hk => by
    rcases Nat.lt_succ_iff_lt_or_eq.mp hk with z | z
    · exact hb k z
    · rw [z]
      exact hbi, .inr ⟨_, rfl⟩⟩

/-! ### comprehensions: the data that f gives -/
theorem en_lc {j : Nat} {vs : List Nat} (f : PyData → Option PyData) (h : Src K wi σ H ds) (hz : ds.length ≤ 40000) (hw : ∀ x, wipe ((wipe σ vs).set j (some x)) vs = wipe σ vs)
    (ht : ∀ d v H1, Ex H H1 → d ∈ ds → Dp K H1 v d → EvT t ((wipe σ vs).set j (some v)) H1 (f d).isSome)
    (he : ∀ d r v H1, Ex H H1 → d ∈ ds → Dp K H1 v d → f d = some r → EvD K te ((wipe σ vs).set j (some v)) H1 r) (hn : ∀ d r, d ∈ ds → f d = some r → nl r = true) :
    EvN K (tLc wi (gName j) t te vs) σ H (ds.filterMap f) := fun H1 e Q q => h H1 e _ fun J H2 G e2 hg w Dl hD => by
  refine lc_it w (fun i H' => Ex H2 H' ∧ ∃ acc, H' Dl = some (.lst acc) ∧ DpAll K H' acc ((ds.take i).filterMap f)) ⟨Ex.new hD, [], upd_same, by simpa using DpAll.nil⟩ (fun i H' _ p => hg H' p.1) (fun i x H' H'' hi p hy => ?_) (fun H' p => ?_)
  · obtain ⟨rfl, d, hd, hx⟩ := hy
    obtain ⟨p1, acc, p2, p3⟩ := p
    have e3 : Ex H H'' := (e.trans e2).trans p1
    have hm : d ∈ ds := List.mem_of_getElem? hd
    have htk : ds.take (i + 1) = ds.take i ++ [d] := by rw [List.take_add_one, hd]; rfl
    refine ⟨hw x, ht d x H'' e3 hm hx H'' (Ex.refl _) _ fun H3 e4 => ?_⟩
    have hle : acc.length ≤ ds.length := by
      rw [dpAll_len p3]
      exact Nat.le_trans (List.length_filterMap_le _ _) (by rw [List.length_take]; omega)
    cases hf : f d with
    | none =>
      show Ex H2 H3 ∧ _
      refine ⟨p1.trans e4, acc, e4 _ _ p2, ?_⟩
      rw [htk, List.filterMap_append, List.filterMap_cons, hf]
      simpa using dpAll_ex e4 _ p3
    | some r =>
      show te _ H3 _
      refine he d r x H'' e3 hm hx hf H3 e4 _ fun y H4 e5 hyr => ⟨acc, e5 _ _ (e4 _ _ p2), sz_lt (by omega), Ex.mut ((p1.trans e4).trans e5) hD, _, upd_same, ?_⟩
      rw [htk, List.filterMap_append, List.filterMap_cons, hf]
      have hall : nlAll ((ds.take i).filterMap f) = true := nlAll_mem fun r' hr' => by
        obtain ⟨d', h1, h2⟩ := List.mem_filterMap.mp hr'
        exact hn d' r' (List.mem_of_mem_take h1) h2
      exact dpAll_snoc (dpAll_updL (e5 _ _ (e4 _ _ p2)) _ hall (dpAll_ex (e4.trans e5) _ p3)) (dp_updL (e5 _ _ (e4 _ _ p2)) _ (hn d r hm hf) hyr)
  · obtain ⟨p1, acc, p2, p3⟩ := p
    rw [List.take_length] at p3
    exact q Dl acc H' (fresh_back e2 hD) (e2.trans p1) p2 p3
end
end WR
set_option Elab.async false
set_option linter.all false
set_option maxRecDepth 100000
set_option maxHeartbeats 1000000
namespace WR
open PySem PySem.Spec PyProof.Rows L2 Evl

/-! ### dicts whose keys are tuples of any make: told by what is true of their one object -/
/-- a kind of keys over the layer: where a cell is such a key -/
structure TK (P : Program) (w : World) (K : PySem.W.Frag) (κ : Type) [DecidableEq κ] where
  kind : HeapKind P w κ
  cell : Hp → κ → Addr → Prop
  ok : ∀ {H : Hp} {h : Heap} {k : κ} {a : Addr}, HOk P w H h → K.In h → cell H k a → kind.is h k a
  mono : ∀ {H H' : Hp} {k : κ} {a : Addr}, (∀ b ys, SqT K H b ys → SqT K H' b ys) → cell H k a → cell H' k a
  /-- how much room its keys want -/
  sl : Nat
  room : ∀ A : Around, A.units + sl < cLine → kind.room A
theorem sqT_tup {P : Program} {w : World} {K : PySem.W.Frag} {H : Hp} {h : Heap} {a : Addr} {xs : List V} (ok : HOk P w H h) (kin : K.In h) (q : SqT K H a xs) : ∃ its : List Value, Vals xs its ∧ IsTup h a its.toArray := by
  rcases q with q | ⟨o, its, n, hk, hc, hs, hz, r⟩
  · obtain ⟨z, its, r, p⟩ := q.ok ok
    exact ⟨its, r, p⟩
  · exact ⟨its.toList, r, ⟨o, kin a o hk, hc, n, by simpa using hs⟩⟩
/-- keys that are tuples of ints and texts -/
def rowTK (P : Program) (w : World) (K : PySem.W.Frag) : TK P w K (List L2.Key) where
  kind := tupleKind (mixKind P w)
  cell := fun H k a => SqT K H a (k.map kV)
  ok := fun hok kin q => by
    obtain ⟨its, r, o, h1, h2, n, h3⟩ := sqT_tup hok kin q
    exact ⟨o, its.toArray, n, h1, h2, h3, by simpa using items_are r⟩
  mono := fun m q => m _ _ q
  sl := 0
  room := fun A h => h
section
variable {P : Program} {w : World} {κ : Type} [DecidableEq κ]
def valZ (es : List (κ × Addr × V)) (k : κ) : Option V := (es.find? fun p => decide (p.1 = k)).map (·.2.2)
def putZ (es : List (κ × Addr × V)) (k : κ) (b : Addr) (v : V) : List (κ × Addr × V) := if (valZ es k).isSome = true then es.map fun p => if p.1 = k then (p.1, p.2.1, v) else p else es ++ [(k, b, v)]
abbrev ZR : List (κ × Addr × V) → List (κ × Addr × Value) → Prop := Paired fun p q => p.1 = q.1 ∧ p.2.1 = q.2.1 ∧ RelV p.2.2 q.2.2
def DzR (kd : HeapKind P w κ) (a : Addr) (es : List (κ × Addr × V)) (h : Heap) : Prop := ∃ (o : Obj) (xs : List (κ × Addr × Value)) (ents : Array DictEntry) (ep : Nat), h.get? a = some o ∧ o.ExactDict ∧ o.data = .dict ents ep ∧
  ents.toList = xs.map (entryOfKey kd) ∧ (xs.map (·.1)).Nodup ∧ ZR es xs ∧ (a == sysModules) = false
def DzO (kd : HeapKind P w κ) (a : Addr) (es : List (κ × Addr × V)) : HO := .ext (DzR kd a es)
theorem dzO_ok {kd : HeapKind P w κ} {a : Addr} {es : List (κ × Addr × V)} {H : Hp} {h : Heap} (r : DzR kd a es h) : ObjOk P w H h a (DzO kd a es) := by
  have r0 := r
  obtain ⟨o, xs, ents, ep, h1, h2, h3, h4, h5, h6, h7⟩ := r
  exact ⟨r0, ⟨o, h1⟩, fun g1 g2 ⟨o, xs, ents, ep, a1, a2⟩ hk => ⟨o, xs, ents, ep, hk _ a1, a2⟩⟩
theorem ZR.val {es : List (κ × Addr × V)} {xs : List (κ × Addr × Value)} (r : ZR es xs) (k : κ) : RelO (valZ es k) ((atKey xs k).map (·.2)) := by
  induction r with
  | nil => exact True.intro
  | @cons p q ps qs h t ih =>
    obtain ⟨h1, _, h2⟩ := h
    by_cases e : p.1 = k
    · have e' : q.1 = k := h1.symm.trans e
      have b : atKey (q :: qs) k = some q.2 := by simp [atKey, List.find?_cons, e']
      have c : valZ (p :: ps) k = some p.2.2 := by simp [valZ, List.find?_cons, e]
      rw [b, c]
      exact h2
    · have e' : ¬ q.1 = k := fun z => e (h1.trans z)
      have b : atKey (q :: qs) k = atKey qs k := by simp [atKey, List.find?_cons, e']
      have c : valZ (p :: ps) k = valZ ps k := by simp [valZ, List.find?_cons, e]
      rw [b, c]
      exact ih
theorem ZR.put {es : List (κ × Addr × V)} {xs : List (κ × Addr × Value)} (r : ZR es xs) (k : κ) {b : Addr} {y : V} {u : Value} (ry : RelV y u) : ZR (putZ es k b y) (storedH xs k b u) := by
  have e : (valZ es k).isSome = (atKey xs k).isSome := by
    rw [(r.val k).isSome_eq, Option.isSome_map]
  unfold putZ storedH
  rw [e]
  by_cases q : (atKey xs k).isSome = true
  · rw [if_pos q, if_pos q]
    clear e q
    induction r with
    | nil => exact .nil
    | @cons p q ps qs h t ih =>
      rw [List.map_cons, List.map_cons]
      refine .cons ?_ ih
      obtain ⟨h1, h2, h3⟩ := h
      unfold putAt
      by_cases e : p.1 = k
      · rw [if_pos e, if_pos (h1.symm.trans e)]
        exact ⟨h1, h2, ry⟩
      · rw [if_neg e, if_neg (fun z => e (h1.trans z))]
        exact ⟨h1, h2, h3⟩
  · rw [if_neg q, if_neg q]
    exact Paired.snoc r ⟨rfl, rfl, ry⟩
theorem len_putZ (es : List (κ × Addr × V)) (k : κ) (b : Addr) (v : V) : (putZ es k b v).length ≤ es.length + 1 := by
  unfold putZ
  split
  · rw [List.length_map]
    omega
  · rw [List.length_append]
    exact Nat.le_refl _
theorem mem_putZ {es : List (κ × Addr × V)} {k : κ} {b : Addr} {v : V} {p : κ × Addr × V} (h : p ∈ putZ es k b v) : (∃ q ∈ es, q.1 = p.1 ∧ q.2.1 = p.2.1) ∨ (p.1 = k ∧ p.2.1 = b) := by
  unfold putZ at h
  split at h
  · obtain ⟨q, hq, rfl⟩ := List.mem_map.mp h
    refine .inl ⟨q, hq, ?_⟩
    split <;> exact ⟨rfl, rfl⟩
  · rcases List.mem_append.mp h with h | h
    · exact .inl ⟨p, h, rfl, rfl⟩
    · rw [List.mem_singleton.mp h]
      exact .inr ⟨rfl, rfl⟩
theorem valZ_nil {k : κ} : valZ ([] : List (κ × Addr × V)) k = none := rfl
theorem valZ_mapSame {k : κ} {v : V} : ∀ {es : List (κ × Addr × V)}, (valZ es k).isSome = true → valZ (es.map fun p => if p.1 = k then (p.1, p.2.1, v) else p) k = some v
  | [], h => by cases h
  | p :: es, h => by
    by_cases e : p.1 = k
    · simp [valZ, List.find?_cons, e]
    · have : valZ (p :: es) k = valZ es k := by simp [valZ, List.find?_cons, e]
      rw [this] at h
      have ih := valZ_mapSame (v := v) h
      rw [List.map_cons, if_neg e]
      have : ∀ r, valZ (p :: r) k = valZ r k := fun r => by simp [valZ, List.find?_cons, e]
      rw [this, ih]
theorem valZ_mapNe {k k' : κ} {v : V} (hne : k' ≠ k) : ∀ {es : List (κ × Addr × V)}, valZ (es.map fun p => if p.1 = k then (p.1, p.2.1, v) else p) k' = valZ es k'
  | [] => rfl
  | p :: es => by
    have ih := valZ_mapNe (v := v) hne (es := es)
    rw [List.map_cons]
    by_cases e : p.1 = k
    · rw [if_pos e]
      have h1 : ¬ p.1 = k' := fun z => hne (z.symm.trans e)
      have a : ∀ (x : Addr × V) (r : List (κ × Addr × V)), valZ ((p.1, x) :: r) k' = valZ r k' := fun x r => by simp [valZ, List.find?_cons, h1]
      rw [a, ih]
      exact (a p.2 es).symm
    · rw [if_neg e]
      by_cases e2 : p.1 = k'
      · simp [valZ, List.find?_cons, e2]
      · have a : ∀ r, valZ (p :: r) k' = valZ r k' := fun r => by simp [valZ, List.find?_cons, e2]
        rw [a, a, ih]
theorem valZ_app {k : κ} {p : κ × Addr × V} : ∀ {es : List (κ × Addr × V)}, valZ (es ++ [p]) k = (valZ es k).or (if p.1 = k then some p.2.2 else none)
  | [] => by
    by_cases e : p.1 = k
    · simp [valZ, List.find?_cons, e]
    · simp [valZ, List.find?_cons, e]
  | q :: es => by
    by_cases e : q.1 = k
    · simp [valZ, List.find?_cons, e]
    · have a : ∀ r, valZ (q :: r) k = valZ r k := fun r => by simp [valZ, List.find?_cons, e]
      rw [List.cons_append, a, a, valZ_app]
/-- what a dict holds behind a store -/
theorem valZ_put {es : List (κ × Addr × V)} {k k' : κ} {b : Addr} {v : V} : valZ (putZ es k b v) k' = if k' = k then some v else valZ es k' := by
  unfold putZ
  by_cases q : (valZ es k).isSome = true
  · rw [if_pos q]
    by_cases e : k' = k
    · subst e
      rw [if_pos rfl, valZ_mapSame q]
    · rw [if_neg e, valZ_mapNe e]
  · rw [if_neg q, valZ_app]
    by_cases e : k' = k
    · subst e
      have : valZ es k' = none := by simpa using q
      rw [this, if_pos rfl]
      rfl
    · rw [if_neg e, if_neg (Ne.symm e)]
      cases valZ es k' <;> rfl
end
section
variable {P : Program} {w : World} {K : PySem.W.Frag} {κ : Type} [DecidableEq κ] (T : TK P w K κ)
/-- a dict at a -/
structure DZ (H : Hp) (a : Addr) (es : List (κ × Addr × V)) : Prop where
  at_ : H a = some (DzO T.kind a es)
  cells : ∀ p ∈ es, T.cell H p.1 p.2.1
  len : es.length ≤ sizeLine
variable {T}
theorem sqT_upd {H : Hp} {a : Addr} {φ : Heap → Prop} {o : HO} (h : H a = some (.ext φ)) : ∀ b ys, SqT K H b ys → SqT K (upd H a o) b ys := fun b ys q => by
  rcases q with q | q
  · refine .inl ?_
    have hne : b ≠ a := fun z => by
      subst z
      rcases q with q | ⟨o', q⟩
      · rw [h] at q
        cases q
      · rw [h] at q
        cases q
    rcases q with q | ⟨o', q⟩
    · exact .inl (by rw [upd_ne hne]; exact q)
    · exact .inr ⟨o', by rw [upd_ne hne]; exact q⟩
  · exact .inr q
theorem sqT_new {H : Hp} {a : Addr} {o : HO} (h : H a = none) : ∀ b ys, SqT K H b ys → SqT K (upd H a o) b ys := fun b ys q => ex_t (Ex.new h) q
theorem DZ.put {H : Hp} {a b : Addr} {es : List (κ × Addr × V)} {k : κ} {v : V} (h : DZ T H a es) (hb : T.cell H k b) (hl : es.length < sizeLine) : DZ T (upd H a (DzO T.kind a (putZ es k b v))) a (putZ es k b v) := by
  refine ⟨upd_same, fun p hp => ?_, by have := len_putZ es k b v; omega⟩
  refine T.mono (sqT_upd h.at_) ?_
  rcases mem_putZ hp with ⟨q, hq, e1, e2⟩ | ⟨e1, e2⟩
  · rw [← e1, ← e2]
    exact h.cells q hq
  · rw [e1, e2]
    exact hb
theorem DZ.new {H : Hp} {a : Addr} : DZ T (upd H a (DzO T.kind a [])) a [] := ⟨upd_same, fun p hp => (by cases hp), Nat.zero_le _⟩
theorem DZ.ex {H H' : Hp} {a : Addr} {es : List (κ × Addr × V)} (h : DZ T H a es) (e : Ex H H') : DZ T H' a es :=
  ⟨e _ _ h.at_, fun p hp => T.mono (fun b ys q => ex_t e q) (h.cells p hp), h.len⟩
end
section
variable {X : Cx} {κ : Type} [DecidableEq κ] {T : TK X.prog X.w X.K κ} {pins : List (Addr × Obj)} {σ : L2.St} {H : Hp} {s : Shared} {a b : Addr} {es : List (κ × Addr × V)} {k : κ}
theorem dz_of (I : Inv X pins σ H s) (h : DZ T H a es) : (a == sysModules) = false ∧ ∃ xs, ZR es xs ∧ s.heap.DictOfH T.kind a xs := by
  obtain ⟨⟨o, xs, ents, ep, h1, h2, h3, h4, h5, h6, h7⟩, _, _⟩ := (show ObjOk X.prog X.w H s.heap a (DzO T.kind a es) from I.hok a _ h.at_)
  refine ⟨h7, xs, h6, o, ents, ep, h1, h2, h3, h4, fun x hx => ?_, h5⟩
  have all : ∀ {l : List (κ × Addr × V)} {m : List (κ × Addr × Value)}, ZR l m → (∀ p ∈ l, T.cell H p.1 p.2.1) → ∀ x ∈ m, T.kind.is s.heap x.1 x.2.1 := by
    intro l m q
    induction q with
    | nil => intro _ x hx; exact nomatch hx
    | @cons p q ps qs hq t ih =>
      intro hc x hx
      rcases List.mem_cons.mp hx with e | hx
      · subst e
        have := T.ok I.hok I.kIn (hc p (List.mem_cons_self ..))
        rw [hq.1, hq.2.1] at this
        exact this
      · exact ih (fun p hp => hc p (List.mem_cons_of_mem _ hp)) x hx
  exact all h6 h.cells x hx
theorem dz_set {A : Around} {E : Value → Shared → Prop} {v : V} {r : Value} (I : Inv X pins σ H s) (h : DZ T H a es) (hb : T.cell H k b) (hl : es.length < sizeLine) (rv : RelV v r) {h' : Heap} {t' : Nat} {xs : List (κ × Addr × Value)} (rel : ZR es xs) (hd : (a == sysModules) = false)
    (dd : h'.DictOfH T.kind a (storedH xs k b r)) (hs : Heap.SameBut a s.heap h') : Inv X pins σ (upd H a (DzO T.kind a (putZ es k b v))) { s with heap := h', toks := t' } := by
  obtain ⟨o, ents, ep, h1, h2, h3, h4, h5, h6⟩ := dd
  exact d_write I (by rw [h.at_]; exact True.intro) hs ⟨o, h1⟩ (dzO_ok ⟨o, _, ents, ep, h1, h2, h3, h4, h6, rel.put k rv, hd⟩)
end
/-! the rules -/
section
variable {P : Program} {w : World} {K : PySem.W.Frag} {κ : Type} [DecidableEq κ] (T : TK P w K κ)
def tDzNew : TE := fun _ H Q => ∀ p, H p = none → Q (.ref p) (upd H p (DzO T.kind p []))
def sDzPut (td ty tv : TE) : TS := fun D σ H => tv σ H fun v H1 => td σ H1 fun x H2 => ty σ H2 fun y H3 => ∃ a es k b, x = .ref a ∧ DZ T H3 a es ∧ y = .ref b ∧ T.cell H3 k b ∧ es.length < sizeLine ∧ D.nx σ (upd H3 a (DzO T.kind a (putZ es k b v)))
def tDzGet (td ty : TE) : TE := fun σ H Q => td σ H fun x H1 => ty σ H1 fun y H2 => ∃ a es k b v, x = .ref a ∧ DZ T H2 a es ∧ y = .ref b ∧ T.cell H2 k b ∧ valZ es k = some v ∧ Q v H2
def tDzIn (ng : Bool) (ty td : TE) : TE := fun σ H Q => ty σ H fun y H1 => td σ H1 fun x H2 => ∃ a es k b, x = .ref a ∧ DZ T H2 a es ∧ y = .ref b ∧ T.cell H2 k b ∧ Q (.bl ((valZ es k).isSome != ng)) H2
/-- d.get(k, x) -/
def tDzGet2 (td ty tx : TE) : TE := fun σ H Q => td σ H fun x H1 => ∃ a, x = .ref a ∧ (∃ es, DZ T H1 a es) ∧ ty σ H1 fun y H2 => tx σ H2 fun z H3 => ∃ es k b, DZ T H3 a es ∧ y = .ref b ∧ T.cell H3 k b ∧ Q ((valZ es k).getD z) H3
end
section
variable {X : Cx} {κ : Type} [DecidableEq κ] (T : TK X.prog X.w X.K κ) {o i e f value : Expr} {pos pos' tpos apos cpos : Pos} {td ty tv tx : TE}
theorem pe_dznew : PE X (.Dict [] [] pos) (tDzNew T) := ⟨fun pins s σ H Q I h =>
  wpAny_Dict_empty ⟨.ref s.heap.objs.size, _, I.laid (a := s.heap.objs.size) (o := DzO T.kind s.heap.objs.size []) (t' := s.toks) (fun _ _ q => Heap.get?_push_of_some _ q) (Nat.le_refl _)
    (dzO_ok ⟨_, [], #[], 0, Heap.get?_push_size _ rfl, ⟨rfl, rfl, rfl⟩, rfl, rfl, List.nodup_nil, .nil, beq_eq_false_iff_ne.mpr (Ne.symm (Nat.ne_of_lt I.big))⟩), rfl, h _ (I.hok.fresh (Nat.le_refl _))⟩⟩
theorem ps_dzput (hu : X.A.units + 1 + T.sl < cLine) (ho : PE X o td) (hi : PE X i ty) (hv : PE X value tv) (hs : swapsWith value (some (.Subscript o i pos')) pos.line X.env = pure false := by rfl) :
    PS X (.Assign [.Subscript o i pos'] value pos) (sDzPut T td ty tv) := by
  refine ⟨fun pins s σ H D I h => ?_⟩
  refine wpAny_Assign_Subscript (thn (hv.run pins s σ H _ I h) fun r s1 ⟨v, H1, I1, rv, q1⟩ => thn (ho.run pins s1 σ H1 _ I1 q1) fun u s2 ⟨x, H2, I2, rx, q2⟩ => thn (hi.run pins s2 σ H2 _ I2 q2) fun iv s3 ⟨y, H3, I3, ry, a, es, k, b, ex, hz, ey, hb, hl, q3⟩ => ?_) hs
  subst ex ey
  obtain rfl : u = Value.ref a := rx
  obtain rfl : iv = Value.ref b := ry
  obtain ⟨hd, xs, rel, dd⟩ := dz_of I3 hz
  refine wpAny_setItem_heap (hsz := by rw [← Paired.length rel]; exact Nat.le_of_lt hl) (T.room _ hu) (T.ok I3.hok I3.kIn hb) dd fun h' dd' hs' => ?_
  exact ⟨σ, _, dz_set (A := X.A) (E := X.xe) I3 hz hb hl rv rel hd dd' hs', q3⟩
theorem pe_dzget (hu : X.A.units + 1 + T.sl < cLine) (ho : PE X o td) (hi : PE X i ty) (hs : NoSl i := by exact fun _ _ => rfl) : PE X (.Subscript o i pos) (tDzGet T td ty) := by
  refine ⟨fun pins s σ H Q I h => ?_⟩
  refine subD_of PySem.F.slot_dict_getitem.lookup hs (thn (ho.run pins s σ H _ I h) fun u s1 ⟨x, H1, I1, rx, q1⟩ => thn (hi.run pins s1 σ H1 _ I1 q1) fun iv s2 ⟨y, H2, I2, ry, a, es, k, b, v, ex, hz, ey, hb, hv, q2⟩ => ?_)
  subst ex ey
  obtain rfl : u = Value.ref a := rx
  obtain rfl : iv = Value.ref b := ry
  obtain ⟨hd, xs, rel, dd⟩ := dz_of I2 hz
  obtain ⟨w', hw, rw'⟩ := RelO.some_of (v := v) (o := (atKey xs k).map (·.2)) (by rw [← hv]; exact rel.val k)
  obtain ⟨p, hp, hp2⟩ := Option.map_eq_some_iff.mp hw
  refine ⟨dd.typeIs, wpAny_getItem_heap (T.room _ hu) (T.ok I2.hok I2.kIn hb) dd hp ?_⟩
  rw [hp2]
  exact ⟨v, H2, I2.tok _, rw', q2⟩
theorem pc_dzin (hu : X.A.units + 1 + T.sl < cLine) (hi : PE X i ty) (ho : PE X o td) : PC X .In i o (tDzIn T false ty td) := by
  refine ⟨fun pins s σ H Q I h => ?_⟩
  refine thn (hi.run pins s σ H _ I h) fun iv s1 ⟨y, H1, I1, ry, q1⟩ => thn (ho.run pins s1 σ H1 _ I1 q1) fun u s2 ⟨x, H2, I2, rx, a, es, k, b, ex, hz, ey, hb, q2⟩ => ?_
  subst ex ey
  obtain rfl : u = Value.ref a := rx
  obtain rfl : iv = Value.ref b := ry
  obtain ⟨hd, xs, rel, dd⟩ := dz_of I2 hz
  refine wpAny_in_heap (T.room _ hu) (T.ok I2.hok I2.kIn hb) hd dd ?_
  have q := (rel.val k).isSome_eq
  rw [Option.isSome_map] at q
  refine ⟨_, H2, I2.tok _, ?_, q2⟩
  show _ = _
  rw [← q]
  cases (valZ es k).isSome <;> rfl
theorem pc_dznotin (hu : X.A.units + 1 + T.sl < cLine) (hi : PE X i ty) (ho : PE X o td) : PC X .NotIn i o (tDzIn T true ty td) := by
  refine ⟨fun pins s σ H Q I h => ?_⟩
  refine thn (hi.run pins s σ H _ I h) fun iv s1 ⟨y, H1, I1, ry, q1⟩ => thn (ho.run pins s1 σ H1 _ I1 q1) fun u s2 ⟨x, H2, I2, rx, a, es, k, b, ex, hz, ey, hb, q2⟩ => ?_
  subst ex ey
  obtain rfl : u = Value.ref a := rx
  obtain rfl : iv = Value.ref b := ry
  obtain ⟨hd, xs, rel, dd⟩ := dz_of I2 hz
  refine wpAny_notIn_heap (T.room _ hu) (T.ok I2.hok I2.kIn hb) hd dd ?_
  have q := (rel.val k).isSome_eq
  rw [Option.isSome_map] at q
  refine ⟨_, H2, I2.tok _, ?_, q2⟩
  show _ = _
  rw [← q]
  cases (valZ es k).isSome <;> rfl
theorem pe_dzget2 (hu : X.A.units + 1 + T.sl < cLine) (ho : PE X o td) (he : PE X e ty) (hf : PE X f tx) (m : M2 X o "get" apos e f cpos) : PE X (.Call (.Attribute o "get" apos) [e, f] [] cpos) (tDzGet2 T td ty tx) := by
  refine ⟨fun pins s σ H Q I h => wpAny_Call_method m.base m.few m.line PySem.F.plainAttrs_dict PySem.F.slot_dict_get PySem.F.type_dict_get (thn (ho.run pins s σ H _ I h) ?_)⟩
  rintro u s1 ⟨x, H1, I1, rx, a, rfl, ⟨es0, hz0⟩, q1⟩
  obtain rfl : u = Value.ref a := rx
  obtain ⟨hd, xs0, rel0, dd0⟩ := dz_of I1 hz0
  obtain ⟨o0, ents0, ep0, ho0, hex0, hrest0⟩ := dd0
  refine ⟨⟨o0, ho0, hex0.1⟩, fun a' e' => (by cases e'; exact ⟨o0, ho0, hex0.2.1⟩), ?_⟩
  rw [m.trees]
  refine Calls.callWith_builtin rfl (Calls.evalArgs_plain (Calls.spliced_cons (thn (he.run pins s1 σ H1 _ I1 q1) ?_)))
  rintro iv s2 ⟨y, H2, I2, ry, q2⟩
  refine Calls.spliced_cons (thn (hf.run pins s2 σ H2 _ I2 q2) ?_)
  rintro fv s3 ⟨z, H3, I3, rz, es, k, b, hz, rfl, hb, q3⟩
  refine Calls.spliced_nil ?_
  obtain rfl : iv = Value.ref b := ry
  obtain ⟨_, xs, rel, dd⟩ := dz_of I3 hz
  refine call_meetsIn PySem.F.slot_dict_get dd.typeIs PySem.F.entry_dict_get (PySem.F.args_dict_get_3 _ _ _) (meetsH_dict_get_default T.kind a b hd fv) ⟨T.room _ hu, k, xs, T.ok I3.hok I3.kIn hb, dd, ?_⟩
  refine ⟨(valZ es k).getD z, H3, I3.tok _, ?_, q3⟩
  have := rel.val k
  cases e1 : valZ es k with
  | none =>
    rw [e1] at this
    cases e2 : (atKey xs k).map (·.2) with
    | none => exact rz
    | some u => rw [e2] at this; exact this.elim
  | some v =>
    rw [e1] at this
    cases e2 : (atKey xs k).map (·.2) with
    | none => rw [e2] at this; exact this.elim
    | some u => rw [e2] at this; exact this
end
end WR
set_option Elab.async false
set_option linter.all false
set_option maxRecDepth 100000
set_option maxHeartbeats 1000000
namespace WR
open PySem PySem.Spec PyProof.Rows L2 Evl
/-! ### isinstance upon data -/
def tyName : PyData → String
  | .none => "NoneType"
  | .bool _ => "bool"
  | .int _ => "int"
  | .str _ => "str"
  | .list _ => "list"
  | .tuple _ => "tuple"
  | .dict _ => "dict"
theorem tyx_of {K : PySem.W.Frag} {H : Hp} {v : V} {d : PyData} (h : Dp K H v d) : TyX K H v (.type (tyName d)) := by
  cases h with
  | non => exact .base .non
  | bl b => exact .base (.bl b)
  | int i => exact .base (.int i)
  | str x => exact .base (.str x)
  | lst a b =>
    rcases a with (a | ⟨o, a⟩) | ⟨o, its, n, a, c, _⟩
    · exact .base (.lst a)
    · exact .base (.frz a)
    · exact .kList a c
  | tup a b =>
    rcases a with (a | ⟨o, a⟩) | ⟨o, its, n, a, c, _⟩
    · exact .base (.tup a)
    · exact .fTuple a
    · exact .kTuple a c
theorem ev_isi {K : PySem.W.Frag} {σ : L2.St} {H : Hp} {te : TE} {d : PyData} {T : String} {b : Bool} (h : EvD K te σ H d) (hk : kitB (tyName d) T = some b) :
    Ev (tCB (rIsi K) (tCons te (tCons (tC (.ty T)) tNil))) σ H (.bl b) := fun H1 e Q q =>
  h H1 e _ fun v H2 e2 hv => ⟨v, .ty T, _, _, b, rfl, .ty T, tyx_of hv, kit_ty hk, q H2 e2⟩
def isTup : PyData → Bool | .tuple _ => true | _ => false
def isInt : PyData → Bool | .int _ => true | _ => false
def isIntB : PyData → Bool | .int _ => true | .bool _ => true | _ => false
def isBool : PyData → Bool | .bool _ => true | _ => false
theorem kit_tup (d : PyData) : kitB (tyName d) "tuple" = some (isTup d) := by cases d <;> (simp only [tyName, isTup]; decide +kernel)
theorem kit_int (d : PyData) : kitB (tyName d) "int" = some (isIntB d) := by cases d <;> (simp only [tyName, isIntB]; decide +kernel)
theorem kit_bool (d : PyData) : kitB (tyName d) "bool" = some (isBool d) := by cases d <;> (simp only [tyName, isBool]; decide +kernel)

theorem ev_chain {K : PySem.W.Frag} {σ : L2.St} {H : Hp} {ta tb tc : TE} {a i b : Int} {p1 p2 : Int → Int → Bool} (ha : EvD K ta σ H (.int a)) (hb : EvD K tb σ H (.int i)) (hc : EvD K tc σ H (.int b)) :
    Ev (tChain (rI0 fun i j => .bl (p1 i j)) (rI0 fun i j => .bl (p2 i j)) ta tb tc) σ H (.bl (p1 a i && p2 i b)) := fun H1 e Q q =>
  ha H1 e _ fun v H2 e2 hv => hb H2 (e.trans e2) _ fun w H3 e3 hw => by
    cases dp_int hv
    cases dp_int hw
    refine ⟨a, i, rfl, rfl, _, rfl, ?_⟩
    cases h : p1 a i with
    | false =>
      rw [h] at q
      exact q H3 (e2.trans e3)
    | true =>
      rw [h] at q
      show tc σ H3 _
      refine hc H3 ((e.trans e2).trans e3) _ fun x H4 e4 hx => ?_
      cases dp_int hx
      exact ⟨i, b, rfl, rfl, q H4 ((e2.trans e3).trans e4)⟩
theorem spD_len {K : PySem.W.Frag} {F : List PyData → Option PyData} {n : Nat} (hF : ∀ ds r, F ds = some r → ds.length = n) {vs : List V} {H : Hp} {Q : VK} {E : XK} (h : spD K F vs H Q E) : vs.length = n := by
  obtain ⟨ds, r, hd, hf, _⟩ := h
  rw [dpAll_len hd]
  exact hF ds r hf
theorem dpAll_1 {K : PySem.W.Frag} {H : Hp} {vs : List V} {d : PyData} (h : DpAll K H vs [d]) : ∃ v, vs = [v] ∧ Dp K H v d := by
  cases h with
  | cons a b => cases b; exact ⟨_, rfl, a⟩
theorem dpAll_2 {K : PySem.W.Frag} {H : Hp} {vs : List V} {d e : PyData} (h : DpAll K H vs [d, e]) : ∃ v w, vs = [v, w] ∧ Dp K H v d ∧ Dp K H w e := by
  cases h with
  | cons a b =>
    obtain ⟨w, rfl, c⟩ := dpAll_1 b
    exact ⟨_, w, rfl, a, c⟩
theorem dpAll_3 {K : PySem.W.Frag} {H : Hp} {vs : List V} {d e f : PyData} (h : DpAll K H vs [d, e, f]) : ∃ v w x, vs = [v, w, x] ∧ Dp K H v d ∧ Dp K H w e ∧ Dp K H x f := by
  cases h with
  | cons a b =>
    obtain ⟨w, x, rfl, c⟩ := dpAll_2 b
    exact ⟨_, w, x, rfl, a, c⟩
/-- functions upon data, by their number of arguments -/
def f1 (g : PyData → Option PyData) : List PyData → Option PyData | [a] => g a | _ => none
def f2 (g : PyData → PyData → Option PyData) : List PyData → Option PyData | [a, b] => g a b | _ => none
def f3 (g : PyData → PyData → PyData → Option PyData) : List PyData → Option PyData | [a, b, c] => g a b c | _ => none
theorem f1_len {g : PyData → Option PyData} : ∀ ds r, f1 g ds = some r → ds.length = 1
  | [_], _, _ => rfl
theorem f2_len {g : PyData → PyData → Option PyData} : ∀ ds r, f2 g ds = some r → ds.length = 2
  | [_, _], _, _ => rfl
theorem f3_len {g : PyData → PyData → PyData → Option PyData} : ∀ ds r, f3 g ds = some r → ds.length = 3
  | [_, _, _], _, _ => rfl
theorem sp1 {K : PySem.W.Frag} {g : PyData → Option PyData} {vs : List V} {H : Hp} {Q : VK} {E : XK} (h : spD K (f1 g) vs H Q E) :
    ∃ v d r, vs = [v] ∧ Dp K H v d ∧ g d = some r ∧ ∀ v H', Ex H H' → Dp K H' v r → Q v H' := by
  obtain ⟨ds, r, hd, hf, q⟩ := h
  match ds, hf with
  | [d], hf =>
    obtain ⟨v, rfl, hv⟩ := dpAll_1 hd
    exact ⟨v, d, r, rfl, hv, hf, q⟩
theorem sp2 {K : PySem.W.Frag} {g : PyData → PyData → Option PyData} {vs : List V} {H : Hp} {Q : VK} {E : XK} (h : spD K (f2 g) vs H Q E) :
    ∃ v w d e r, vs = [v, w] ∧ Dp K H v d ∧ Dp K H w e ∧ g d e = some r ∧ ∀ v H', Ex H H' → Dp K H' v r → Q v H' := by
  obtain ⟨ds, r, hd, hf, q⟩ := h
  match ds, hf with
  | [d, e], hf =>
    obtain ⟨v, w, rfl, hv, hw⟩ := dpAll_2 hd
    exact ⟨v, w, d, e, r, rfl, hv, hw, hf, q⟩
theorem sp3 {K : PySem.W.Frag} {g : PyData → PyData → PyData → Option PyData} {vs : List V} {H : Hp} {Q : VK} {E : XK} (h : spD K (f3 g) vs H Q E) :
    ∃ v w x d e f r, vs = [v, w, x] ∧ Dp K H v d ∧ Dp K H w e ∧ Dp K H x f ∧ g d e f = some r ∧ ∀ v H', Ex H H' → Dp K H' v r → Q v H' := by
  obtain ⟨ds, r, hd, hf, q⟩ := h
  match ds, hf with
  | [d, e, f], hf =>
    obtain ⟨v, w, x, rfl, hv, hw, hx⟩ := dpAll_3 hd
    exact ⟨v, w, x, d, e, f, r, rfl, hv, hw, hx, hf, q⟩

theorem fm_map {α β : Type} {f : α → Option β} {g : α → β} : ∀ {l : List α}, (∀ x ∈ l, f x = some (g x)) → l.filterMap f = l.map g
  | [], _ => rfl
  | x :: l, h => by
    rw [List.filterMap_cons, h x (List.mem_cons_self ..), List.map_cons]
    show g x :: _ = _
    rw [fm_map fun y hy => h y (List.mem_cons_of_mem _ hy)]
end WR
set_option Elab.async false
set_option linter.all false
namespace WR
open PySem
def topS (i : Nat) : Stmt := PySem.Challenge.pw_wayrows_k77_webs_amid_others.main.body.getD i (.Pass ⟨0, 0, 0, 0⟩)
abbrev s_WebError : Stmt := topS 1
abbrev s_OtherLeaves : Stmt := topS 2
abbrev sRowsOf : Stmt := topS 4
abbrev sLeafRow : Stmt := topS 5
abbrev sLot : Stmt := topS 6
abbrev s_check_leaves : Stmt := topS 8
abbrev s_middle : Stmt := topS 10
abbrev s_apart : Stmt := topS 11
abbrev s_tallies : Stmt := topS 12
abbrev s_tally_of : Stmt := topS 13
abbrev s_far : Stmt := topS 14
abbrev sDeck : Stmt := topS 16
abbrev sDraw : Stmt := topS 17
abbrev sOne : Stmt := topS 18
abbrev sLTree : Stmt := topS 19
abbrev sUps : Stmt := topS 20
abbrev sDown : Stmt := topS 21
abbrev sLMix : Stmt := topS 22
abbrev sNumb : Stmt := topS 23
abbrev sLKids : Stmt := topS 24
abbrev sLWeb : Stmt := topS 25
abbrev sLists : Stmt := topS 26
abbrev sLRows : Stmt := topS 27
abbrev s_law_webs : Stmt := topS 28
abbrev s_law_distance : Stmt := topS 29
abbrev s_law_apart : Stmt := topS 30
abbrev sLaw : Stmt := topS 31
end WR
set_option Elab.async false
set_option linter.all false
set_option maxRecDepth 100000
set_option maxHeartbeats 1000000
namespace WR
open PySem PySem.Spec PyProof.Rows L2 Evl
/-! ### the deck: an object that each draw changes -/
def rem (H : Hp) (p : Addr) : Hp := fun q => if q = p then none else H q
theorem rem_self {H : Hp} {p : Addr} : rem H p p = none := if_pos rfl
theorem rem_ne {H : Hp} {p q : Addr} (h : q ≠ p) : rem H p q = H q := if_neg h
theorem rem_ex {H : Hp} {p : Addr} : Ex (rem H p) H := fun a o h => by
  by_cases e : a = p
  · rw [e, rem_self] at h
    cases h
  · rwa [rem_ne e] at h
theorem rem_mono {H H' : Hp} {p : Addr} (e : Ex H H') : Ex (rem H p) (rem H' p) := fun a o h => by
  by_cases z : a = p
  · rw [z, rem_self] at h
    cases h
  · rw [rem_ne z] at h ⊢
    exact e a o h
/-- what is behind a change of p is behind a second one -/
theorem rem_trans {H H1 H2 : Hp} {p : Addr} (a : Ex (rem H p) H1) (b : Ex (rem H1 p) H2) : Ex (rem H p) H2 := fun q o h => by
  have n : q ≠ p := fun z => by
    rw [z, rem_self] at h
    cases h
  exact b q o (by rw [rem_ne n]; exact a q o h)
def DkO (L : Addr) (a b n : Int) : HO := .lst [.ref L, .int a, .int b, .int n]
structure DkAt (H : Hp) (p L : Addr) (ns : List Int) (a b n : Int) : Prop where
  at_ : H p = some (DkO L a b n)
  ls : H L = some (.lst (ns.map V.int))
  a0 : 0 ≤ a
  b0 : 0 ≤ b
  n0 : 0 ≤ n
  len : ns.length ≤ 63
def Dk (H : Hp) (p L : Addr) (ns : List Int) (N : Int) : Prop := ∃ a b n, DkAt H p L ns a b n ∧ n ≤ N
theorem DkAt.ne {H : Hp} {p L : Addr} {ns : List Int} {a b n : Int} (h : DkAt H p L ns a b n) : L ≠ p := by
  intro z
  have h1 := h.at_
  have h2 := h.ls
  rw [z, h1] at h2
  have h3 : [V.ref L, .int a, .int b, .int n] = ns.map V.int := HO.lst.inj (Option.some.inj h2)
  cases ns with
  | nil => cases h3
  | cons x r => cases h3
theorem DkAt.ex {H H' : Hp} {p L : Addr} {ns : List Int} {a b n : Int} (h : DkAt H p L ns a b n) (e : Ex H H') : DkAt H' p L ns a b n :=
  ⟨e _ _ h.at_, e _ _ h.ls, h.a0, h.b0, h.n0, h.len⟩
theorem DkAt.upd {H : Hp} {p L : Addr} {ns : List Int} {a b n a' b' n' : Int} (h : DkAt H p L ns a b n) (ha : 0 ≤ a') (hb : 0 ≤ b') (hn : 0 ≤ n') : DkAt (upd H p (DkO L a' b' n')) p L ns a' b' n' :=
  ⟨upd_same, by rw [upd_ne h.ne]; exact h.ls, ha, hb, hn, h.len⟩
theorem Dk.ex {H H' : Hp} {p L : Addr} {ns : List Int} {N : Int} (h : Dk H p L ns N) (e : Ex H H') : Dk H' p L ns N := by
  obtain ⟨a, b, n, d, hn⟩ := h
  exact ⟨a, b, n, d.ex e, hn⟩
theorem ex_upd {H B : Hp} {p : Addr} {o : HO} (e : Ex B H) (h : B p = none) : Ex B (upd H p o) := Ex.mut e h

/-- a draw below m: some number, the deck one draw on -/
def spDraw : Sp := fun vs H Q _ => ∃ p L ns m N, vs = [.ref p, .int m] ∧ Dk H p L ns N ∧ N ≤ 1000000000 ∧ 1 ≤ m ∧ m ≤ 1000000000 ∧
  ∀ r H', 0 ≤ r → r < m → Ex (rem H p) H' → Dk H' p L ns (N + 1) → Q (.int r) H'
theorem spDraw_len {vs : List V} {H : Hp} {Q : VK} {E : XK} (h : spDraw vs H Q E) : vs.length = 2 := by
  obtain ⟨p, L, ns, m, N, rfl, _⟩ := h
  rfl

abbrev nDraw : List Str := ["_law_deck_here", "_law_many", "_law_found", "_law_cell", "_law_mixed"]
theorem scDraw : FnScope nDraw ["_law_deck_here", "_law_many"] (defScope sDraw) := ⟨rfl, rfl, rfl, by decide +kernel, rfl, by decide +kernel, by decide +kernel⟩
theorem ev_int {σ : L2.St} {H : Hp} {te : TE} {i : Int} (h : Ev te σ H (.int i)) : Ev (tCB (fun xs H Q => (∃ i, xs = [.int i] ∧ Q (.int i) H) ∨ ∃ k, xs = [.bl k] ∧ Q (.int (if k then 1 else 0)) H) (tCons te tNil)) σ H (.int i) :=
  ev_cb (ea_cons h ea_nil) fun H1 _ Q q => .inl ⟨i, rfl, q H1 (Ex.refl H1)⟩
theorem ev_abs {σ : L2.St} {H : Hp} {te : TE} {i : Int} (h : Ev te σ H (.int i)) : Ev (tCB (fun xs H Q => ∃ i, xs = [.int i] ∧ Q (.int (if i < 0 then -i else i)) H) (tCons te tNil)) σ H (.int (if i < 0 then -i else i)) :=
  ev_cb (ea_cons h ea_nil) fun H1 _ Q q => ⟨i, rfl, q H1 (Ex.refl H1)⟩
theorem eqv_ints_nil : ∀ ns : List Int, PyData.eqv (.list (ns.map PyData.int)) (.list []) = ns.isEmpty
  | [] => by simp [PyData.eqv, PyData.eqvAll]
  | _ :: _ => by simp [PyData.eqv, PyData.eqvAll]
theorem lay_ints : ∀ ns : List Int, PyData.canLayAll0 (ns.map PyData.int) = true ∧ PyData.depthAll (ns.map PyData.int) = 0
  | [] => by simp [PyData.canLayAll0, PyData.depthAll]
  | n :: ns => by
    have ih := lay_ints ns
    simp only [List.map_cons, PyData.canLayAll0, PyData.canLay0, PyData.depthAll, PyData.depth, ih.1, ih.2]
    decide
theorem shaped_ints (ns : List Int) : SeqAt.shaped (.list (ns.map PyData.int)) = true := by
  have q := lay_ints ns
  show (PyData.canLay0 _ && decide (PyData.depth _ ≤ 64)) = true
  simp only [PyData.canLay0, PyData.depth, q.1, q.2]
  decide
section
variable {P : Program} {w : World} {K : PySem.W.Frag} {mg : Str → Option Value} {base : Heap}
theorem ok_draw {f : Addr} {fd : FuncData} (F : Fun K "_law_draw" "_law_draw" sDraw f fd) (m1 : mg "int" = none) (m2 : mg "abs" = none) (m3 : mg "len" = none) :
    FnOk P w K mg base CX0 1 f fd ["_law_deck_here", "_law_many"] spDraw := by
  refine F.ok scDraw (fun vs H Q E h => spDraw_len h) (fun cdv A outer s H vs Q E hr h => ?_)
  obtain ⟨p, L, ns, m, N, rfl, hdk, hN, hm1, hm2, q⟩ := h
  refine ⟨_, pss_cons (ps_asg (pe_op op_add (pe_ix ix_list (pv 0) pe_int (fun _ _ => rfl)) pe_int) (pg_sub (pv 0) pe_int set_list))
    (pss_cons (ps_if (pt_cmpR op_gt (pe_ix ix_list (pv 0) pe_int (fun _ _ => rfl)) pe_int (nomark _))
      (pss_cons (ps_set (i := 2) scDraw.nd rfl (.inl rfl) (pe_op op_mod (pe_callTy call_int1 (by rfl) m1 (by decide +kernel) (pa_cons (pe_ix ix_list (pv 0) pe_int (fun _ _ => rfl)) pa_nil)) (pv 1)))
      (pss_cons (ps_asg (pe_op op_fdiv (pe_ix ix_list (pv 0) pe_int (fun _ _ => rfl)) (pv 1)) (pg_sub (pv 0) pe_int set_list))
      (pss_one (ps_ret (pv 2))))) pss_nil)
    (pss_cons (ps_set (i := 3) scDraw.nd rfl (.inl rfl) pe_int)
    (pss_cons (ps_if (pt_cmpR (op_neD (by have := hr.units; exact this)) (pe_ix ix_list (pv 0) pe_int (fun _ _ => rfl)) (pe_lst pa_nil) (nomark _))
      (pss_one (ps_set (i := 3) scDraw.nd rfl (.inl rfl) (pe_ix ix_list (pe_ix ix_list (pv 0) pe_int (fun _ _ => rfl)) (pe_op op_mod (pe_callTy call_int1 (by rfl) m1 (by decide +kernel) (pa_cons (pe_ix ix_list (pv 0) pe_int (fun _ _ => rfl)) pa_nil)) (pe_callB call_len_seq (by rfl) m3 PySem.boot_len (pa_cons (pe_ix ix_list (pv 0) pe_int (fun _ _ => rfl)) pa_nil))) (fun _ _ => rfl)))) pss_nil)
    (pss_cons (ps_asg (pe_op op_add (pe_ix ix_list (pv 0) pe_int (fun _ _ => rfl)) pe_int) (pg_sub (pv 0) pe_int set_list))
    (pss_cons (ps_if (pw_and (pt_cmpR op_ge (pe_callB call_abs (by rfl) m2 (by decide +kernel) (pa_cons (pv 3) pa_nil)) (pe_op op_pow pe_int pe_int) (nomark _))
        (pw_and1 (pt_cmpR op_le (pe_ix ix_list (pv 0) pe_int (fun _ _ => rfl)) (pe_callB call_len_seq (by rfl) m3 PySem.boot_len (pa_cons (pe_ix ix_list (pv 0) pe_int (fun _ _ => rfl)) pa_nil)) (nomark _)))).pt
      (pss_cons (ps_asg (pe_op op_fdiv (pe_callB call_abs (by rfl) m2 (by decide +kernel) (pa_cons (pv 3) pa_nil)) (pv 1)) (pg_sub (pv 0) pe_int set_list))
      (pss_one (ps_ret (pe_op op_mod (pe_callTy call_int1 (by rfl) m1 (by decide +kernel) (pa_cons (pe_callB call_abs (by rfl) m2 (by decide +kernel) (pa_cons (pv 3) pa_nil)) pa_nil)) (pv 1))))) pss_nil)
    (pss_cons (ps_set (i := 4) scDraw.nd rfl (.inl rfl) (pe_op op_mod (pe_op op_pow (pe_callTy call_int1 (by rfl) m1 (by decide +kernel) (pa_cons (pe_op op_add (pe_op op_mod (pe_callTy call_int1 (by rfl) m1 (by decide +kernel) (pa_cons (pv 3) pa_nil)) pe_int)
        (pe_op op_mul pe_int (pe_ix ix_list (pv 0) pe_int (fun _ _ => rfl)))) pa_nil)) pe_int) pe_int))
    (pss_cons (ps_set (i := 4) scDraw.nd rfl (.inl rfl) (pe_op op_mod (pe_op op_pow (pe_callTy call_int1 (by rfl) m1 (by decide +kernel) (pa_cons (pe_op op_add (pe_op op_mul (pv 4) (pe_op op_add (pe_op op_mul pe_int (pe_ix ix_list (pv 0) pe_int (fun _ _ => rfl))) pe_int)) pe_int) pa_nil)) pe_int) pe_int))
    (pss_one (ps_ret (pe_op op_mod (pe_op op_fdiv (pv 4) pe_int) (pv 1))))))))))), ?_⟩
  obtain ⟨a, b, n, d, hnN⟩ := hdk
  have hB : rem H p p = none := rem_self
  have g0 : ∀ {σ' : L2.St} {H' : Hp} {a b n : Int}, σ'[0]? = some (some (.ref p)) → DkAt H' p L ns a b n → Ev (tOp (rIxL K) (tVar 0) (tC (.int 0))) σ' H' (.ref L) := fun hs d => ev_op (ev_var hs) ev_c (rv_ixL (sq_of d.at_) rfl)
  have g1 : ∀ {σ' : L2.St} {H' : Hp} {a b n : Int}, σ'[0]? = some (some (.ref p)) → DkAt H' p L ns a b n → Ev (tOp (rIxL K) (tVar 0) (tC (.int 1))) σ' H' (.int a) := fun hs d => ev_op (ev_var hs) ev_c (rv_ixL (sq_of d.at_) rfl)
  have g2 : ∀ {σ' : L2.St} {H' : Hp} {a b n : Int}, σ'[0]? = some (some (.ref p)) → DkAt H' p L ns a b n → Ev (tOp (rIxL K) (tVar 0) (tC (.int 2))) σ' H' (.int b) := fun hs d => ev_op (ev_var hs) ev_c (rv_ixL (sq_of d.at_) rfl)
  have g3 : ∀ {σ' : L2.St} {H' : Hp} {a b n : Int}, σ'[0]? = some (some (.ref p)) → DkAt H' p L ns a b n → Ev (tOp (rIxL K) (tVar 0) (tC (.int 3))) σ' H' (.int n) := fun hs d => ev_op (ev_var hs) ev_c (rv_ixL (sq_of d.at_) rfl)
  have gl : ∀ {σ' : L2.St} {H' : Hp} {a b n : Int}, σ'[0]? = some (some (.ref p)) → DkAt H' p L ns a b n → Ev (tCB (fun xs H Q => ∃ p ys, xs = [.ref p] ∧ (SqL K H p ys ∨ SqT K H p ys) ∧ Q (.int ys.length) H) (tCons (tOp (rIxL K) (tVar 0) (tC (.int 0))) tNil)) σ' H' (.int (ns.length : Int)) := fun hs d =>
    ev_is (ev_len (K := K) (g0 hs d) (sq_of d.ls)) (by rw [List.length_map])
  have hm : (0 : Int) < m := by omega
  have cdiv : ∀ i, CDiv i m := fun i => ⟨hm, by omega⟩
  have n0 := d.n0
  -- the draw is counted
  refine q_setL (j := 3) (v := .int (n + 1)) d.at_ (ev_op (g3 rfl d) ev_c rv_I0) (ev_var rfl) ev_c (show 3 < 4 by decide) fun H1 e1 => ?_
  have d1 : DkAt (upd H1 p (DkO L a b (n + 1))) p L ns a b (n + 1) := (d.ex e1).upd d.a0 d.b0 (by omega)
  have x1 : Ex (rem H p) (upd H1 p (DkO L a b (n + 1))) := ex_upd (rem_ex.trans e1) hB
  show tSeq _ _ _ _ (upd H1 p (DkO L a b (n + 1)))
  generalize upd H1 p (DkO L a b (n + 1)) = H1 at d1 x1 ⊢
  -- what is left of a great one
  refine q_when (b := decide (0 < b)) (et_test (ev_op (g2 rfl d1) ev_c rv_I0)) (fun _ H2 e2 => ?_) fun _ H2 e2 => ?_
  · have d2 := d1.ex e2
    refine q_asg (v := .int (b % m)) (ev_op (ev_int (g2 rfl d2)) (ev_var rfl) (rv_I hm)) fun H3 e3 => ?_
    have d3 := d2.ex e3
    refine q_setL (j := 2) (v := .int (b / m)) d3.at_ (ev_op (g2 rfl d3) (ev_var rfl) (rv_I (cdiv b))) (ev_var rfl) ev_c (show 2 < 4 by decide) fun H4 e4 => ?_
    have d4 : DkAt (upd H4 p (DkO L a (b / m) (n + 1))) p L ns a (b / m) (n + 1) := (d3.ex e4).upd d.a0 (Int.ediv_nonneg d.b0 (by omega)) (by omega)
    refine s_ret (v := .int (b % m)) (ev_var rfl) fun H5 e5 => ?_
    refine q _ H5 (Int.emod_nonneg _ (by omega)) (Int.emod_lt_of_pos _ hm) ((ex_upd (((x1.trans e2).trans e3).trans e4) hB).trans e5) ?_
    exact ⟨_, _, _, d4.ex e5, by omega⟩
  have d2 := d1.ex e2
  have x2 := x1.trans e2
  refine q_asg (v := .int 61) ev_c fun H3 e3 => ?_
  have d3 := d2.ex e3
  have x3 := x2.trans e3
  have hlen : ∀ H', DkAt H' p L ns a b (n + 1) → SqL K H' L (ns.map V.int) := fun H' d => sq_of d.ls
  refine q_ifAsg (b := !ns.isEmpty) (v := .int (if ns.isEmpty then 61 else ns.getD (a % (ns.length : Int)).toNat 0)) ?_ (fun hb => ?_) (fun hb => ?_) fun H4 e4 => ?_
  · refine et_test (ev_opL (x := .ref L) (xs := []) (g0 rfl d3) (el_lst ea_nil (by simp)) fun q' H5 h5 e5 => ?_)
    intro H6 e6 Q' q6
    refine ⟨.list (ns.map PyData.int), .list [], .lst (sq_of ((d3.ex (e5.trans e6)).ls)) (dpAll_ints ns), .lst (sq_of (e6 _ _ h5)) .nil, shaped_ints ns, shaped_ints [], ?_⟩
    rw [eqv_ints_nil]
    exact q6 H6 (Ex.refl H6)
  · have hne : ns ≠ [] := by
      intro z
      rw [z] at hb
      cases hb
    have hpos : 0 < ns.length := by
      cases ns with
      | nil => exact absurd rfl hne
      | cons _ _ => simp
    have hie : ns.isEmpty = false := by simpa using hne
    have hr0 : 0 ≤ a % (ns.length : Int) := Int.emod_nonneg _ (by omega)
    have hr1 : a % (ns.length : Int) < (ns.length : Int) := Int.emod_lt_of_pos _ (by omega)
    rw [hie]
    refine ev_op (x := .ref L) (y := .int (a % (ns.length : Int))) (g0 rfl d3) (ev_op (ev_int (g1 rfl d3)) (gl rfl d3) (rv_I (by omega))) (rv_ixL (K := K) (sq_of d3.ls) ?_)
    obtain ⟨k, hk⟩ : ∃ k : Nat, a % (ns.length : Int) = (k : Int) := ⟨_, (Int.toNat_of_nonneg hr0).symm⟩
    rw [hk]
    refine atI_nat ?_
    have hkl : k < ns.length := by omega
    rw [Int.toNat_natCast, List.getElem?_map, List.getD_eq_getElem?_getD, List.getElem?_eq_getElem hkl]
    rfl
  · have hie : ns.isEmpty = true := by simpa using hb
    rw [hie]
    rfl
  generalize (if ns.isEmpty = true then (61 : Int) else ns.getD (a % (ns.length : Int)).toNat 0) = cell
  have d4 := d3.ex e4
  have x4 := x3.trans e4
  refine q_setL (j := 1) (v := .int (a + 1)) d4.at_ (ev_op (g1 rfl d4) ev_c rv_I0) (ev_var rfl) ev_c (show 1 < 4 by decide) fun H5 e5 => ?_
  have a0 := d.a0
  have d5 : DkAt (upd H5 p (DkO L (a + 1) b (n + 1))) p L ns (a + 1) b (n + 1) := (d4.ex e5).upd (by omega) d.b0 (by omega)
  have x5 : Ex (rem H p) (upd H5 p (DkO L (a + 1) b (n + 1))) := ex_upd (x4.trans e5) hB
  show tSeq _ _ _ _ (upd H5 p (DkO L (a + 1) b (n + 1)))
  generalize upd H5 p (DkO L (a + 1) b (n + 1)) = H5 at d5 x5 ⊢
  refine q_when (b := decide ((10 : Int) ^ (18 : Int).toNat ≤ (if cell < 0 then -cell else cell)) && decide (a + 1 ≤ (ns.length : Int))) ?_ (fun _ H6 e6 => ?_) fun _ H6 e6 => ?_
  · refine et_and (et_test (ev_op (ev_abs (ev_var rfl)) (ev_op ev_c ev_c (rv_I ⟨by decide, by decide, by decide⟩)) rv_I0)) fun _ => et_test (ev_op (g1 rfl d5) (gl rfl d5) rv_I0)
  · have d6 := d5.ex e6
    have hab : 0 ≤ (if cell < 0 then -cell else cell) := by split <;> omega
    refine q_setL (j := 2) (v := .int ((if cell < 0 then -cell else cell) / m)) d6.at_ (ev_op (ev_abs (ev_var rfl)) (ev_var rfl) (rv_I (cdiv _))) (ev_var rfl) ev_c (show 2 < 4 by decide) fun H7 e7 => ?_
    have d7 : DkAt (upd H7 p (DkO L (a + 1) ((if cell < 0 then -cell else cell) / m) (n + 1))) p L ns (a + 1) ((if cell < 0 then -cell else cell) / m) (n + 1) := (d6.ex e7).upd (by omega) (Int.ediv_nonneg hab (by omega)) (by omega)
    refine s_ret (v := .int ((if cell < 0 then -cell else cell) % m)) (ev_op (ev_int (ev_abs (ev_var rfl))) (ev_var rfl) (rv_I hm)) fun H8 e8 => ?_
    refine q _ H8 (Int.emod_nonneg _ (by omega)) (Int.emod_lt_of_pos _ hm) ((ex_upd ((x5.trans e6).trans e7) hB).trans e8) ?_
    exact ⟨_, _, _, d7.ex e8, by omega⟩
  have d6 := d5.ex e6
  have x6 := x5.trans e6
  have c1 : 0 ≤ cell % 2147483587 := Int.emod_nonneg _ (by decide)
  have c2 : cell % 2147483587 < 2147483587 := Int.emod_lt_of_pos _ (by decide)
  refine q_asg (v := .int ((cell % 2147483587 + 67867979 * (n + 1)) ^ (5 : Int).toNat % 2147483647)) (ev_op (ev_op (ev_int (ev_op (ev_op (ev_int (ev_var rfl)) ev_c (rv_I (by decide))) (ev_op ev_c (g3 rfl d6) (rv_I (.inl ⟨by decide, by decide⟩))) rv_I0)) ev_c (rv_I ⟨by decide, by decide, by omega⟩)) ev_c (rv_I (by decide))) fun H7 e7 => ?_
  have m1 : 0 ≤ (cell % 2147483587 + 67867979 * (n + 1)) ^ (5 : Int).toNat % 2147483647 := Int.emod_nonneg _ (by decide)
  have m2 : (cell % 2147483587 + 67867979 * (n + 1)) ^ (5 : Int).toNat % 2147483647 < 2147483647 := Int.emod_lt_of_pos _ (by decide)
  generalize (cell % 2147483587 + 67867979 * (n + 1)) ^ (5 : Int).toNat % 2147483647 = mixed at m1 m2 ⊢
  have d7 := d6.ex e7
  have x7 := x6.trans e7
  have hmul : mixed * (2 * (n + 1) + 9) < 2147483647 * (2 * (n + 1) + 9) := Int.mul_lt_mul_of_pos_right m2 (by omega)
  have hmul0 : 0 ≤ mixed * (2 * (n + 1) + 9) := Int.mul_nonneg m1 (by omega)
  refine q_asg (v := .int ((mixed * (2 * (n + 1) + 9) + 7019) ^ (3 : Int).toNat % 2147483579)) (ev_op (ev_op (ev_int (ev_op (ev_op (ev_var rfl) (ev_op (ev_op ev_c (g3 rfl d7) (rv_I (.inl ⟨by decide, by decide⟩))) ev_c rv_I0) (rv_I (.inl ⟨by omega, by omega⟩))) ev_c rv_I0)) ev_c (rv_I ⟨by decide, by decide, by omega⟩)) ev_c (rv_I (by decide))) fun H8 e8 => ?_
  generalize (mixed * (2 * (n + 1) + 9) + 7019) ^ (3 : Int).toNat % 2147483579 = mixed2
  refine s_ret (v := .int (mixed2 / 16 % m)) (ev_op (ev_op (ev_var rfl) ev_c (rv_I ⟨by decide, by decide⟩)) (ev_var rfl) (rv_I hm)) fun H9 e9 => ?_
  refine q _ H9 (Int.emod_nonneg _ (by omega)) (Int.emod_lt_of_pos _ hm) ((x7.trans e8).trans e9) ?_
  exact ⟨_, _, _, (d7.ex e8).ex e9, by omega⟩
end
end WR
set_option Elab.async false
set_option linter.all false
set_option maxRecDepth 100000
set_option maxHeartbeats 1000000
namespace WR
open PySem PySem.Spec PyProof.Rows L2 Evl
section
variable {prog : Program} {w : World} {A : Around} {E : Value → Shared → Prop} {s : Shared}
theorem collect_tup {l : Addr} {vs : List Value} {Q : List Value → Shared → Prop} (hT : s.heap.IsTuple l vs.toArray) (hz : vs.length ≤ sizeLine)
    (k : Q vs { s with heap := (s.heap.push (seqObj "list" #[] 0)).update s.heap.objs.size (Obj.mapSeq (· ++ vs.toArray)) }) :
    wpAny (model prog w) A (collect (.ref l)) Q E s := by
  obtain ⟨ob, hob, hcl, n, hdat⟩ := id hT
  unfold collect
  refine wpAny_bind (wpAny_runValue ?_)
  refine codeAny_builtin entry_proto_collect' ?_
  show wpAny _ _ (do
    again (.builtin "list.__iadd__" ⟨[← newList [], .ref l], []⟩)) _ _ s
  refine wpAny_bind (wpAny_newList ?_)
  refine wpAny_pure ⟨Code.quiet_builtin _ (by decide +kernel), ?_⟩
  refine codeAny_builtin entry_list_iadd' ?_
  show wpAny _ _ (Builtin.List.listExtendWith
    (.ref s.heap.objs.size) (.ref l) (.ref s.heap.objs.size)) _ _ { s with heap := s.heap.push (seqObj "list" #[] 0) }
  unfold Builtin.List.listExtendWith
  have hob' : (s.heap.push (seqObj "list" #[] 0)).get? l = some ob :=
    Heap.get?_push_of_some _ hob
  have new := Heap.get?_push_size s.heap (o := seqObj "list" #[] 0) rfl
  refine wpAny_bind (wpAny_typeOf (T := "tuple") ⟨ob, hob', hcl⟩ ?_)
  rw [if_pos (by
    rw [show (Value.type "tuple" == Value.type "tuple") = true from rfl]
    simp)]
  refine wpAny_bind (listItems_at hob' hdat ?_)
  refine wpAny_bind (listItems_at new rfl ?_)
  rw [if_neg (by simp)]
  refine wpAny_bind (listUpdate_at new rfl ?_ (Nat.zero_le _) ?_)
  · refine wpAny_pure ?_
    show wpAny (model prog w) A (do
        let o ← load s.heap.objs.size
        match o.data with
        | .seq ys _ => pure ys.toList
        | _ => unsupported "internal:collect") Q E { s with heap := (s.heap.push (seqObj "list" #[] 0)).update s.heap.objs.size (Obj.mapSeq (· ++ vs.toArray)) }
    refine wpAny_bind (wpAny_load (get?_update_seq new _) ?_)
    have e : ((#[] : Array Value) ++ vs.toArray).toList = vs := by simp
    show wpAny _ _ (pure ((#[] : Array Value) ++ vs.toArray).toList) Q E _
    rw [e]
    exact wpAny_pure k
  · show (#[] ++ vs.toArray).size ≤ sizeLine + 1
    simp only [Array.size_append, List.size_toArray, List.length_nil]
    omega
theorem sorted_tupI {l : Addr} {vs : List Value} {ns : List Int} {Q : Value → Shared → Prop} (hT : s.heap.IsTuple l vs.toArray) (hi : IntsAre vs ns) (h64 : vs.length < 64)
    (k : ∀ (out : Array Value) (ns' : List Int), IntsAre out.toList ns' → ns'.Perm ns → ns'.Pairwise (· ≤ ·) →
      Q (.ref (s.heap.objs.size + 1)) { s with heap := sortedAll s.heap vs out }) :
    wpAny (model prog w) A (call (.builtin "sorted") [.ref l]) Q E s := by
  refine Calls.call_function_entry kind_sorted plain_sorted
    entry_sorted (args_sorted1 _) ?_
  unfold Builtin.«sorted»
  refine wpAny_bind (m := checkCount "sorted" 1 1 _) ?_
  refine wpAny_pure (wpAny_bind (collect_tup hT (small64 h64) ?_))
  refine wpAny_bind (wpAny_newList ?_)
  let h1 : Heap := (s.heap.push (seqObj "list" #[] 0)).update s.heap.objs.size (Obj.mapSeq (· ++ vs.toArray))
  have sz : h1.objs.size = s.heap.objs.size + 1 := by
    show ((s.heap.push (seqObj "list" #[] 0)).update s.heap.objs.size _).objs.size = _
    rw [Heap.size_update, size_push']
  have at2 : (h1.push (seqObj "list" vs.toArray 0)).get? (s.heap.objs.size + 1) = some (seqObj "list" vs.toArray 0) := by
    rw [← sz]
    exact Heap.get?_push_size _ rfl
  show wpAny _ _ _ _ _ { s with heap := h1.push (seqObj "list" vs.toArray 0) }
  rw [show (s.heap.push (seqObj "list" #[] 0)).update s.heap.objs.size (Obj.mapSeq (· ++ vs.toArray)) = h1 from rfl, sz]
  refine wpAny_bind (wpAny_holding ?_)
  refine wpAny_call_entry slot_list_sort ⟨_, at2, rfl⟩ entry_list_sort ?_ (args_list_sort _)
  refine list_sort_tree at2 hi h64 fun out ns' a1 a2 a3 => ⟨_, rfl, ?_⟩
  exact wpAny_pure ⟨_, rfl, k out ns' a1 a2 a3⟩
end
section
variable {X : Cx}
/-- sorted of a list or a tuple of ints -/
def rSortedA (K : PySem.W.Frag) : List V → Hp → VK → Prop := fun vs H Q =>
  ∃ (a : Addr) (ns : List Int), vs = [V.ref a] ∧ (SqL K H a (ns.map V.int) ∨ SqT K H a (ns.map V.int)) ∧ ns.length < 64 ∧
    ∀ (ns' : List Int) (p : Addr), ns'.Perm ns → ns'.Pairwise (· ≤ ·) → H p = none → Q (.ref p) (upd H p (.lst (ns'.map V.int)))
theorem cr_sortedA : CallR X (.builtin "sorted") (rSortedA X.K) := by
  intro pins s σ H vs us Q I r h
  obtain ⟨a, ns, rfl, hs, h64, q⟩ := h
  rcases hs with hs | hs
  · exact cr_sorted pins s σ H _ us Q I r ⟨a, ns, rfl, hs, h64, q⟩
  · obtain ⟨its, rv, hl, _⟩ := I.tuple hs
    rw [Vals.ref1 r]
    have hi := rv.ints
    refine sorted_tupI (show s.heap.IsTuple a its.toArray from hl) hi (by rw [hi.length]; exact h64) fun out ns' h1 h2 h3 => ?_
    obtain ⟨ep, e⟩ := sortedAll_at s.heap its out
    have hlen : (ns'.map V.int).length ≤ sizeLine := by
      rw [List.length_map, h2.length_eq]
      exact small64 h64
    refine ⟨.ref _, upd H (s.heap.objs.size + 1) (.lst (ns'.map V.int)), ?_, rfl, q ns' _ h2 h3 (I.hok.fresh (Nat.le_succ _))⟩
    exact I.laid (t' := s.toks) (fun _ _ => sortedAll_old) (Nat.le_succ _) ⟨hlen, out.toList, ep, vals_of_ints h1, e⟩
end
/-- the sorted one is one -/
def insI (x : Int) : List Int → List Int
  | [] => [x]
  | y :: r => if x ≤ y then x :: y :: r else y :: insI x r
def sortI : List Int → List Int
  | [] => []
  | x :: r => insI x (sortI r)
theorem insI_perm (x : Int) : ∀ l, (insI x l).Perm (x :: l)
  | [] => List.Perm.refl _
  | y :: r => by
    unfold insI
    split
    · exact List.Perm.refl _
    · exact ((insI_perm x r).cons y).trans (List.Perm.swap x y r)
theorem sortI_perm : ∀ l, (sortI l).Perm l
  | [] => List.Perm.refl _
  | x :: r => (insI_perm x _).trans ((sortI_perm r).cons x)
theorem insI_sorted (x : Int) : ∀ l : List Int, l.Pairwise (· ≤ ·) → (insI x l).Pairwise (· ≤ ·)
  | [], _ => List.pairwise_singleton _ _
  | y :: r, h => by
    rw [List.pairwise_cons] at h
    unfold insI
    split
    · next hxy =>
      rw [List.pairwise_cons, List.pairwise_cons]
      refine ⟨fun z hz => ?_, h⟩
      rcases List.mem_cons.mp hz with rfl | hz
      · exact hxy
      · exact Int.le_trans hxy (h.1 z hz)
    · next hxy =>
      rw [List.pairwise_cons]
      refine ⟨fun z hz => ?_, insI_sorted x r h.2⟩
      rcases List.mem_cons.mp ((insI_perm x r).mem_iff.mp hz) with rfl | hz
      · omega
      · exact h.1 z hz
theorem sortI_sorted : ∀ l, (sortI l).Pairwise (· ≤ ·)
  | [] => .nil
  | x :: r => insI_sorted x _ (sortI_sorted r)
theorem sorted_one : ∀ {a b : List Int}, a.Perm b → a.Pairwise (· ≤ ·) → b.Pairwise (· ≤ ·) → a = b
  | [], b, h, _, _ => by rw [List.nil_perm.mp h]
  | x :: a, [], h, _, _ => by cases List.perm_nil.mp h
  | x :: a, y :: b, h, ha, hb => by
    rw [List.pairwise_cons] at ha hb
    have h1 : x ≤ y := by
      rcases List.mem_cons.mp (h.mem_iff.mpr (List.mem_cons_self ..)) with z | z
      · omega
      · exact ha.1 y z
    have h2 : y ≤ x := by
      rcases List.mem_cons.mp (h.mem_iff.mp (List.mem_cons_self ..)) with z | z
      · omega
      · exact hb.1 x z
    have e : x = y := by omega
    subst e
    rw [sorted_one (List.Perm.cons_inv h) ha.2 hb.2]
section
variable {K : PySem.W.Frag} {σ : L2.St} {H : Hp} {te : TE} {ns : List Int}
/-- sorted(te): a new list -/
theorem en_sortedT (h : EvD K te σ H (.tuple (ns.map PyData.int))) (h64 : ns.length < 64) : EvN K (tCB (rSortedA K) (tCons te tNil)) σ H ((sortI ns).map PyData.int) := fun H1 e Q q =>
  h H1 e _ fun v H2 e2 hv => by
    obtain ⟨a, xs, rfl, hs, hd⟩ := dp_tup hv
    rw [ints_of hd] at hs
    refine ⟨a, ns, rfl, .inr hs, h64, fun ns' p hp hq hn => ?_⟩
    rw [sorted_one (hp.trans (sortI_perm ns).symm) hq (sortI_sorted ns)]
    exact q p _ _ (fresh_back e2 hn) (e2.trans (Ex.new hn)) upd_same (dpAll_ints _)
theorem en_sortedL (h : EvD K te σ H (.list (ns.map PyData.int))) (h64 : ns.length < 64) : EvN K (tCB (rSortedA K) (tCons te tNil)) σ H ((sortI ns).map PyData.int) := fun H1 e Q q =>
  h H1 e _ fun v H2 e2 hv => by
    obtain ⟨a, xs, rfl, hs, hd⟩ := dp_lst hv
    rw [ints_of hd] at hs
    refine ⟨a, ns, rfl, .inl hs, h64, fun ns' p hp hq hn => ?_⟩
    rw [sorted_one (hp.trans (sortI_perm ns).symm) hq (sortI_sorted ns)]
    exact q p _ _ (fresh_back e2 hn) (e2.trans (Ex.new hn)) upd_same (dpAll_ints _)
/-- tuple(a new list) -/
theorem ed_tupN {ds : List PyData} (h : EvN K te σ H ds) : EvD K (tCB (fun xs H Q => ∃ p ys, xs = [.ref p] ∧ ((SqL K H p ys ∧ ∀ l, H l = none → Q (.ref l) (upd H l (.tup ys))) ∨ (SqT K H p ys ∧ Q (.ref p) H))) (tCons te tNil)) σ H (.tuple ds) := ed_tupL (ed_n h)
end
section
variable {X : Cx}
/-- repr of any datum -/
def rReprA (K : PySem.W.Frag) : List V → Hp → VK → Prop := fun xs H Q =>
  ∃ (x : V) (d : PyData), xs = [x] ∧ Dp K H x d ∧ d.showable = true ∧ d.hasDict = false ∧ d.shown.length ≤ sizeLine ∧ d.depth ≤ 40 ∧ Q (.str d.shown) H
theorem call_reprA (hg : X.A.guards = some []) (hu : X.A.units + 64 < cLine) : CallR X (.builtin "repr") (rReprA X.K) := by
  intro pins s σ H xs us Q I r h
  obtain ⟨x, d, rfl, hd, hs, hn, hz, hdp, q⟩ := h
  have hd' := hd
  cases hd' with
  | lst a b => exact call_reprD hg hu pins s σ H _ us Q I r ⟨_, _, rfl, hd, hs, hn, hz, hdp, q⟩
  | tup a b => exact call_reprD hg hu pins s σ H _ us Q I r ⟨_, _, rfl, hd, hs, hn, hz, hdp, q⟩
  | non =>
    obtain ⟨u, rfl, ru⟩ := vals1 r
    cases ru
    exact PySem.P.repr_of_none ⟨.str _, H, I.tok _, ⟨_, rfl⟩, q⟩
  | bl b =>
    obtain ⟨u, rfl, ru⟩ := vals1 r
    cases ru
    exact PySem.P.repr_of_bool ⟨.str _, H, I.tok _, ⟨_, rfl⟩, q⟩
  | int i =>
    obtain ⟨u, rfl, t, rfl⟩ := vals1 r
    exact PySem.P.repr_of_int (of_decide_eq_true hs) ⟨.str _, H, I.tok _, ⟨_, rfl⟩, q⟩
  | str y =>
    obtain ⟨u, rfl, t, rfl⟩ := vals1 r
    exact PySem.P.repr_of_str ⟨.str _, H, I.tok _, ⟨_, rfl⟩, q⟩ hz
end
end WR
set_option Elab.async false
set_option linter.all false
set_option maxRecDepth 100000
set_option maxHeartbeats 1000000
namespace WR
open PySem PySem.Spec PyProof.Rows L2 Evl
/-! ### a list of data that grows -/
def LD (K : PySem.W.Frag) (H : Hp) (p : Addr) (ds : List PyData) : Prop := ∃ xs, H p = some (.lst xs) ∧ DpAll K H xs ds
theorem LD.ex {K : PySem.W.Frag} {H H' : Hp} {p : Addr} {ds : List PyData} (h : LD K H p ds) (e : Ex H H') : LD K H' p ds := by
  obtain ⟨xs, h1, h2⟩ := h
  exact ⟨xs, e _ _ h1, dpAll_ex e ds h2⟩
theorem LD.dp {K : PySem.W.Frag} {H : Hp} {p : Addr} {ds : List PyData} (h : LD K H p ds) : Dp K H (.ref p) (.list ds) := by
  obtain ⟨xs, h1, h2⟩ := h
  exact .lst (sq_of h1) h2
section
variable {K : PySem.W.Frag} {σ : L2.St} {H H' : Hp} {ta tb te tx : TE} {t : TT} {D : Ends} {tz : TS} {d : PyData} {ds es : List PyData} {l : Addr}
/-- xs.append(a datum) -/
theorem q_appD (hl : LD K H l ds) (ha : Ev ta σ H (.ref l)) (h : EvD K te σ H d) (hz : ds.length < 100000) (hn : nlAll ds = true) (hd : nl d = true)
    (k : ∀ H1, (∀ B : Hp, Ex B H → B l = none → Ex B H1) → LD K H1 l (ds ++ [d]) → tz D σ H1) :
    tSeq (tDrop (tBM K "list" rAppend ta (tCons te tNil))) tz D σ H := ha H (Ex.refl H) _ fun H1 e1 => by
  obtain ⟨xs, h1, h2⟩ := hl
  refine ⟨.inl ⟨rfl, xs, sq_of (e1 l _ h1)⟩, h H1 e1 _ fun v H2 e2 hv => ?_⟩
  have h3 := e2 l _ (e1 l _ h1)
  refine ⟨l, xs, v, rfl, rfl, h3, sz_lt (by rw [dpAll_len h2]; exact hz), k _ (fun B eb hb => Ex.mut ((eb.trans e1).trans e2) hb) ⟨_, upd_same, ?_⟩⟩
  exact dpAll_snoc (dpAll_updL h3 _ hn (dpAll_ex (e1.trans e2) _ h2)) (dp_updL h3 _ hd hv)
theorem s_appD (hl : LD K H l ds) (ha : Ev ta σ H (.ref l)) (h : EvD K te σ H d) (hz : ds.length < 100000) (hn : nlAll ds = true) (hd : nl d = true)
    (k : ∀ H1, (∀ B : Hp, Ex B H → B l = none → Ex B H1) → LD K H1 l (ds ++ [d]) → D.nx σ H1) :
    tDrop (tBM K "list" rAppend ta (tCons te tNil)) D σ H := ha H (Ex.refl H) _ fun H1 e1 => by
  obtain ⟨xs, h1, h2⟩ := hl
  refine ⟨.inl ⟨rfl, xs, sq_of (e1 l _ h1)⟩, h H1 e1 _ fun v H2 e2 hv => ?_⟩
  have h3 := e2 l _ (e1 l _ h1)
  refine ⟨l, xs, v, rfl, rfl, h3, sz_lt (by rw [dpAll_len h2]; exact hz), k _ (fun B eb hb => Ex.mut ((eb.trans e1).trans e2) hb) ⟨_, upd_same, ?_⟩⟩
  exact dpAll_snoc (dpAll_updL h3 _ hn (dpAll_ex (e1.trans e2) _ h2)) (dp_updL h3 _ hd hv)
theorem q_asgLD {i : Nat} (h : EvN K te σ H ds) (k : ∀ p H1, H p = none → Ex H H1 → LD K H1 p ds → tz D (σ.set i (some (.ref p))) H1) : tSeq (tAsg te (gName i)) tz D σ H :=
  q_asgN h fun p xs H1 hp e h1 hd => k p H1 hp e ⟨xs, h1, hd⟩
theorem en_if {b : Bool} (h : EvT t σ H b) (h1 : b = true → EvN K ta σ H ds) (h2 : b = false → EvN K tb σ H ds) : EvN K (tIf t ta tb) σ H ds := fun H1 e Q q => h H1 e _ fun H2 e2 => by
  cases b with
  | true =>
    show ta σ H2 Q
    exact h1 rfl H2 (e.trans e2) Q fun p xs H3 hp e3 h3 hd => q p xs H3 (fresh_back e2 hp) (e2.trans e3) h3 hd
  | false =>
    show tb σ H2 Q
    exact h2 rfl H2 (e.trans e2) Q fun p xs H3 hp e3 h3 hd => q p xs H3 (fresh_back e2 hp) (e2.trans e3) h3 hd
theorem ed_if {b : Bool} (h : EvT t σ H b) (h1 : b = true → EvD K ta σ H d) (h2 : b = false → EvD K tb σ H d) : EvD K (tIf t ta tb) σ H d := fun H1 e Q q => h H1 e _ fun H2 e2 => by
  cases b with
  | true =>
    show ta σ H2 Q
    exact h1 rfl H2 (e.trans e2) Q fun v H3 e3 hd => q v H3 (e2.trans e3) hd
  | false =>
    show tb σ H2 Q
    exact h2 rfl H2 (e.trans e2) Q fun v H3 e3 hd => q v H3 (e2.trans e3) hd
end
def tupI (ns : List Int) : PyData := .tuple (ns.map PyData.int)
def intI : PyData → Int
  | .int i => i
  | _ => 0
def sortT : PyData → PyData
  | .tuple ds => tupI (sortI (ds.map intI))
  | _ => .none
theorem map_intI : ∀ ns : List Int, (ns.map PyData.int).map intI = ns
  | [] => rfl
  | n :: ns => by rw [List.map_cons, List.map_cons, map_intI ns]; rfl
theorem sortT_tupI (ns : List Int) : sortT (tupI ns) = tupI (sortI ns) := by
  show tupI (sortI ((ns.map PyData.int).map intI)) = _
  rw [map_intI]
theorem nl_tupI (ns : List Int) : nl (tupI ns) = true := nlAll_mem fun d hd => by
  obtain ⟨n, _, rfl⟩ := List.mem_map.mp hd
  rfl
theorem nl_tupIs : ∀ l : List (List Int), nlAll (l.map tupI) = true
  | [] => rfl
  | x :: l => by
    show (nl (tupI x) && nlAll (l.map tupI)) = true
    rw [nl_tupI, nl_tupIs l]
    rfl
end WR
set_option Elab.async false
set_option linter.all false
set_option maxRecDepth 100000
set_option maxHeartbeats 1000000
namespace WR
open PySem PySem.Spec PyProof.Rows L2 Evl
/-! ### what stays while a list changes -/
theorem rem_tL {K : PySem.W.Frag} {H : Hp} {a l : Addr} {xs ys : List V} (hl : H l = some (.lst ys)) (h : SqT K H a xs) : SqT K (rem H l) a xs := by
  rcases h with (h | ⟨o, h⟩) | h
  · exact .inl (.inl (by rw [rem_ne (ne_of h hl (by intro z; cases z))]; exact h))
  · exact .inl (.inr ⟨o, by rw [rem_ne (ne_of h hl (by intro z; cases z))]; exact h⟩)
  · exact .inr h
mutual
theorem dp_rem {K : PySem.W.Frag} {H : Hp} {l : Addr} {ys : List V} (hl : H l = some (.lst ys)) : ∀ {v : V} (d : PyData), nl d = true → Dp K H v d → Dp K (rem H l) v d
  | _, .none, _, h => by cases h; exact .non
  | _, .bool _, _, h => by cases h; exact .bl _
  | _, .int _, _, h => by cases h; exact .int _
  | _, .str _, _, h => by cases h; exact .str _
  | _, .list ds, n, h => by cases n
  | _, .tuple ds, n, h => by
    cases h with
    | tup a b => exact .tup (rem_tL hl a) (dpAll_rem hl ds n b)
  | _, .dict _, _, h => by cases h
theorem dpAll_rem {K : PySem.W.Frag} {H : Hp} {l : Addr} {ys : List V} (hl : H l = some (.lst ys)) : ∀ {vs : List V} (ds : List PyData), nlAll ds = true → DpAll K H vs ds → DpAll K (rem H l) vs ds
  | _, [], _, h => by cases h; exact .nil
  | _, d :: ds, n, h => by
    have n' : (nl d && nlAll ds) = true := n
    rw [Bool.and_eq_true] at n'
    cases h with
    | cons a b => exact .cons (dp_rem hl d n'.1 a) (dpAll_rem hl ds n'.2 b)
end
/-- H1 is H grown, the list at l changed -/
def But (l : Addr) (H H1 : Hp) : Prop := ∀ B : Hp, Ex B H → B l = none → Ex B H1
theorem But.dp {K : PySem.W.Frag} {H H1 : Hp} {l : Addr} {ys : List V} {v : V} {d : PyData} (b : But l H H1) (hl : H l = some (.lst ys)) (h : Dp K H v d) (n : nl d = true) : Dp K H1 v d :=
  dp_ex (b _ rem_ex rem_self) d (dp_rem hl d n h)
theorem But.ld {K : PySem.W.Frag} {H H1 : Hp} {l p : Addr} {ys : List V} {ds : List PyData} (b : But l H H1) (hl : H l = some (.lst ys)) (h : LD K H p ds) (hne : p ≠ l) (n : nlAll ds = true) : LD K H1 p ds := by
  obtain ⟨xs, h1, h2⟩ := h
  have e := b _ rem_ex rem_self
  exact ⟨xs, e _ _ (by rw [rem_ne hne]; exact h1), dpAll_ex e _ (dpAll_rem hl _ n h2)⟩

/-! ### repr -/
def okR (d : PyData) : Bool := d.showable && !d.hasDict && decide (d.shown.length ≤ sizeLine) && decide (d.depth ≤ 40)
section
variable {K : PySem.W.Frag} {σ : L2.St} {H H' : Hp} {ta tb te tx : TE} {d e : PyData} {ds es : List PyData}
theorem ev_repr (h : EvD K te σ H d) (ok : okR d = true) : Ev (tCB (rReprA K) (tCons te tNil)) σ H (.str d.shown) := fun H1 e Q q =>
  h H1 e _ fun v H2 e2 hv => by
    unfold okR at ok
    simp only [Bool.and_eq_true, Bool.not_eq_true', decide_eq_true_eq] at ok
    exact ⟨v, d, rfl, hv, ok.1.1.1, ok.1.1.2, ok.1.2, ok.2, q H2 e2⟩
theorem et_reprNe (h1 : EvD K ta σ H d) (h2 : EvD K tb σ H d) (ok : okR d = true) : EvT (tTest (tOp rNe (tCB (rReprA K) (tCons ta tNil)) (tCB (rReprA K) (tCons tb tNil)))) σ H false :=
  et_test (ev_is (ev_op (ev_repr h1 ok) (ev_repr h2 ok) (rv_ne rfl)) (by rw [decide_eq_true (rfl : V.str d.shown = V.str d.shown)]; rfl))
theorem ev_reprEq (h1 : EvD K ta σ H d) (h2 : EvD K tb σ H d) (ok : okR d = true) : Ev (tOp rEq (tCB (rReprA K) (tCons ta tNil)) (tCB (rReprA K) (tCons tb tNil))) σ H (.bl true) :=
  ev_is (ev_op (ev_repr h1 ok) (ev_repr h2 ok) (rv_eq rfl)) (by rw [decide_eq_true (rfl : V.str d.shown = V.str d.shown)])
/-- the last item of a tuple -/
theorem ed_last (h : EvD K ta σ H (.tuple (ds ++ [d]))) : EvD K (tOp (rIxT K) ta (tUn (rU fun i => .int (-i)) (tC (.int 1)))) σ H d := fun H1 e Q q =>
  h H1 e _ fun v H2 e2 hv => by
    obtain ⟨a, xs, rfl, hs, hd⟩ := dp_tup hv
    have hl := dpAll_len hd
    rw [List.length_append] at hl
    have hl : xs.length = ds.length + 1 := hl
    obtain ⟨x, h1, h2⟩ := dpAll_at' (i := ds.length) (d := d) hd (by simp)
    have hx : xs = xs.take ds.length ++ [x] := by
      have q1 := List.take_append_drop ds.length xs
      have q2 : xs.drop ds.length = [x] := by
        rw [List.drop_eq_getElem_cons (by omega)]
        have q3 := (List.getElem?_eq_some_iff.mp h1).2
        rw [q3, List.drop_of_length_le (by omega)]
      rw [q2] at q1
      exact q1.symm
    refine ⟨1, rfl, a, xs, -1, x, rfl, rfl, hs, ?_, q x H2 e2 h2⟩
    rw [hx]
    exact atI_last _ _
/-- a tuple without its last item -/
theorem ed_init (h : EvD K ta σ H (.tuple (ds ++ [d]))) : EvD K (tSl (rSlA K) ta tNoPart (tPart (tUn (rU fun i => .int (-i)) (tC (.int 1))))) σ H (.tuple ds) := fun H1 e Q q =>
  h H1 e _ fun v H2 e2 hv => by
    obtain ⟨a, xs, rfl, hs, hd⟩ := dp_tup hv
    have hl := dpAll_len hd
    rw [List.length_append] at hl
    have hl : xs.length = ds.length + 1 := hl
    have hc : cutV xs none (some (-1)) = xs.take ds.length := by
      unfold cutV
      rw [HT.sIx_none, List.drop_zero]
      show xs.take (((-1 : Int) + (xs.length : Int)).toNat - 0) = _
      rw [show ((-1 : Int) + (xs.length : Int)).toNat - 0 = ds.length by omega]
    refine ⟨1, rfl, _, rfl, a, xs, rfl, hs, fun z => ?_, fun _ p hp => ?_⟩
    · have z2 : ((-1 : Int) + (xs.length : Int)).toNat = xs.length := z.2
      omega
    · refine q _ _ (e2.trans (Ex.new hp)) (.tup (st_of upd_same) ?_)
      rw [hc]
      have q1 := dpAll_take ds.length (dpAll_ex (Ex.new (o := .tup (xs.take ds.length)) hp) _ hd)
      rw [List.take_left] at q1
      exact q1
/-- list + list -/
theorem en_cat {p : Addr} (ha : Ev ta σ H (.ref p)) (hp : LD K H p ds) (hb : EvN K tb σ H es) (hl : ds.length + es.length ≤ 100000) : EvN K (tOp rCat ta tb) σ H (ds ++ es) := fun H1 e Q q =>
  ha H1 e _ fun H2 e2 => hb H2 (e.trans e2) _ fun b ys H3 hb' e3 hb3 hd3 => by
    obtain ⟨xs, h1, h2⟩ := hp.ex ((e.trans e2).trans e3)
    refine ⟨p, b, xs, ys, rfl, rfl, h1, hb3, sz_of (by rw [dpAll_len h2, dpAll_len hd3]; exact hl), fun c hc => ?_⟩
    exact q c _ _ (fresh_back (e2.trans e3) hc) ((e2.trans e3).trans (Ex.new hc)) upd_same (dpAll_app (dpAll_ex (Ex.new hc) _ h2) (dpAll_ex (Ex.new hc) _ hd3))
end
end WR
set_option Elab.async false
set_option linter.all false
set_option maxRecDepth 100000
set_option maxHeartbeats 1000000
namespace WR
open PySem PySem.Spec PyProof.Rows L2 Evl
/-! ### _law_deck -/
def spDeck (K : PySem.W.Frag) : Sp := fun vs H Q _ => ∃ (a : Addr) (ns : List Int), vs = [.ref a] ∧ SqL K H a (ns.map V.int) ∧ ns.length ≤ 63 ∧
  ∀ p L H', H p = none → H L = none → Ex H H' → Dk H' p L ns 0 → Q (.ref p) H'
theorem scDeck : FnScope ["_law_script"] ["_law_script"] (defScope sDeck) := ⟨rfl, rfl, rfl, by decide +kernel, rfl, by decide +kernel, by decide +kernel⟩
theorem cut63 {xs : List V} (h : xs.length ≤ 63) : cutV xs none (some 63) = xs := by
  unfold cutV
  rw [show HT.sIx xs.length xs.length (some 63) = min 63 xs.length from HT.sIx_nat xs.length xs.length 63, HT.sIx_none, List.drop_zero]
  exact List.take_of_length_le (by omega)
section
variable {P : Program} {w : World} {K : PySem.W.Frag} {mg : Str → Option Value} {base : Heap}
theorem ok_deck {f : Addr} {fd : FuncData} (F : Fun K "_law_deck" "_law_deck" sDeck f fd) (m1 : mg "list" = none) : FnOk P w K mg base CX0 1 f fd ["_law_script"] (spDeck K) := by
  refine F.ok scDeck (fun vs H Q E h => ?_) (fun cdv A outer s H vs Q E hr h => ?_)
  · obtain ⟨a, ns, rfl, _⟩ := h
    rfl
  obtain ⟨a, ns, rfl, hS, hlen, q⟩ := h
  refine ⟨_, pss_one (ps_ret (pe_lst (pa_cons (pe_callTy call_list_of (by rfl) m1 (by decide +kernel) (pa_cons (pe_slice sl_list (pv 0) po_none (po_some pe_int)) pa_nil)) (pa_cons pe_int (pa_cons pe_int (pa_cons pe_int pa_nil)))))), ?_⟩
  refine ⟨.ref a, rfl, 63, rfl, a, ns.map V.int, rfl, hS, fun c nc => ?_⟩
  rw [cut63 (by rw [List.length_map]; exact hlen)]
  refine ⟨c, ns.map V.int, rfl, .inl (sq_of upd_same), fun L nL => ?_⟩
  refine ⟨by show 4 ≤ sizeLine; decide, fun p np => ?_⟩
  have e1 : Ex H (upd H c (.lst (ns.map V.int))) := Ex.new nc
  have e2 := Ex.new (o := .lst (ns.map V.int)) nL
  have e3 := Ex.new (o := DkO L 0 0 0) np
  have hp : H p = none := fresh_back (e1.trans e2) np
  refine q p L _ hp (fresh_back e1 nL) ((e1.trans e2).trans e3) ⟨0, 0, 0, ⟨upd_same, ?_, by decide, by decide, by decide, hlen⟩, by decide⟩
  exact e3 _ _ upd_same

end
end WR
set_option Elab.async false
set_option linter.all false
set_option maxRecDepth 100000
set_option maxHeartbeats 1000000
namespace WR
open PySem PySem.Spec PyProof.Rows L2 Evl
theorem nlAll_snoc {ds : List PyData} {d : PyData} (h : nlAll ds = true) (hd : nl d = true) : nlAll (ds ++ [d]) = true := by
  induction ds with
  | nil =>
    show (nl d && true) = true
    rw [hd]
    rfl
  | cons x r ih =>
    have h' : (nl x && nlAll r) = true := h
    rw [Bool.and_eq_true] at h'
    show (nl x && nlAll (r ++ [d])) = true
    rw [h'.1, ih h'.2]
    rfl
theorem nlAll_cons {ds : List PyData} {d : PyData} (hd : nl d = true) (h : nlAll ds = true) : nlAll (d :: ds) = true := by
  show (nl d && nlAll ds) = true
  rw [hd, h]
  rfl
theorem nlAll_of {ds : List PyData} (h : nlAll ds = true) : ∀ d ∈ ds, nl d = true := by
  induction ds with
  | nil => exact fun _ h => by cases h
  | cons x r ih =>
    have h' : (nl x && nlAll r) = true := h
    rw [Bool.and_eq_true] at h'
    intro d hd
    rcases List.mem_cons.mp hd with rfl | hd
    · exact h'.1
    · exact ih h'.2 d hd
theorem q_deck {K : PySem.W.Frag} {σ : L2.St} {H : Hp} {te : TE} {D : Ends} {tz : TS} {i : Nat} {a : Addr} {ns : List Int} {E : XK} (h : Ev te σ H (.ref a)) (hS : SqL K H a (ns.map V.int)) (hl : ns.length ≤ 63)
    (k : ∀ p L H1, H p = none → H L = none → Ex H H1 → Dk H1 p L ns 0 → tz D (σ.set i (some (.ref p))) H1) : tSeq (tAsg (tCall (spDeck K) [] E (tCons te tNil)) (gName i)) tz D σ H :=
  h H (Ex.refl H) _ fun H1 e1 => ⟨a, ns, rfl, ex_l e1 hS, hl, fun p L H2 hp hL e2 hD => k p L H2 (fresh_back e1 hp) (fresh_back e1 hL) (e1.trans e2) hD⟩
theorem q_draw {σ : L2.St} {H : Hp} {te tb : TE} {D : Ends} {tz : TS} {i : Nat} {p L : Addr} {ns : List Int} {c m N : Int} {E : XK} (h : Ev te σ H (.ref p)) (hm : Ev tb σ H (.int m)) (hD : Dk H p L ns N) (hN : N ≤ 1000000000) (h1 : 1 ≤ m) (h2 : m ≤ 1000000000)
    (k : ∀ r H1, 0 ≤ r → r < m → Ex (rem H p) H1 → Dk H1 p L ns (N + 1) → tz D (σ.set i (some (.int (c + r)))) H1) : tSeq (tAsg (tOp (rI0 fun i j => .int (i + j)) (tC (.int c)) (tCall spDraw [] E (tCons te (tCons tb tNil)))) (gName i)) tz D σ H :=
  h H (Ex.refl H) _ fun H1 e1 => hm H1 e1 _ fun H2 e2 => ⟨p, L, ns, m, N, rfl, hD.ex (e1.trans e2), hN, h1, h2, fun r H3 hr0 hr1 e3 hD3 => ⟨c, r, rfl, rfl, k r H3 hr0 hr1 ((rem_mono (e1.trans e2)).trans e3) hD3⟩⟩
end WR
set_option Elab.async false
set_option linter.all false
set_option maxRecDepth 100000
set_option maxHeartbeats 1000000
namespace WR
open PySem PySem.Spec PyProof.Rows L2 Evl
/-! ### webs as data -/
def natD (k : Nat) : PyData := .int (k : Int)
def kidsD (ks : List Nat) : PyData := .tuple (ks.map natD)
def webD (l : Nat) (inner : List (List Nat)) : PyData := .tuple [natD l, .tuple (inner.map kidsD)]
/-- leaves and items in their bounds -/
structure Raw (l : Nat) (inner : List (List Nat)) : Prop where
  l1 : 1 ≤ l
  l8 : l ≤ 8
  n20 : inner.length ≤ 20
  lt : ∀ j ks, inner[j]? = some ks → ∀ k ∈ ks, k < l + j
  len : ∀ ks ∈ inner, ks.length ≤ 30
/-- a promise of a def of a web -/
def spW (K : PySem.W.Frag) (g : Nat → List (List Nat) → PyData) : Sp := fun vs H Q _ =>
  ∃ v l inner, vs = [v] ∧ Dp K H v (webD l inner) ∧ Raw l inner ∧ ∀ r H', Ex H H' → Dp K H' r (g l inner) → Q r H'
/-- of a web and a kind -/
def spWK (K : PySem.W.Frag) (g : Nat → List (List Nat) → Nat → PyData) : Sp := fun vs H Q _ =>
  ∃ v l inner k, vs = [v, .int ((k : Nat) : Int)] ∧ Dp K H v (webD l inner) ∧ Raw l inner ∧ k < l + inner.length ∧ ∀ r H', Ex H H' → Dp K H' r (g l inner k) → Q r H'
theorem spW_len {K : PySem.W.Frag} {g : Nat → List (List Nat) → PyData} {vs : List V} {H : Hp} {Q : VK} {E : XK} (h : spW K g vs H Q E) : vs.length = 1 := by
  obtain ⟨v, l, inner, rfl, _⟩ := h
  rfl
theorem spWK_len {K : PySem.W.Frag} {g : Nat → List (List Nat) → Nat → PyData} {vs : List V} {H : Hp} {Q : VK} {E : XK} (h : spWK K g vs H Q E) : vs.length = 2 := by
  obtain ⟨v, l, inner, k, rfl, _⟩ := h
  rfl
section
variable {K : PySem.W.Frag} {σ : L2.St} {H H' : Hp} {ta tb te tx : TE} {D : Ends} {tu tw tz : TS} {l : Nat} {inner : List (List Nat)} {k : Nat}
theorem ed_callW {g : Nat → List (List Nat) → PyData} {E : XK} (h : EvD K te σ H (webD l inner)) (hw : Raw l inner) : EvD K (tCall (spW K g) [] E (tCons te tNil)) σ H (g l inner) := fun H1 e Q q =>
  h H1 e _ fun v H2 e2 hv => ⟨v, l, inner, rfl, hv, hw, fun r H3 e3 hr => q r H3 (e2.trans e3) hr⟩
theorem ed_callWK {g : Nat → List (List Nat) → Nat → PyData} {E : XK} (h : EvD K te σ H (webD l inner)) (hk : EvD K tx σ H (natD k)) (hw : Raw l inner) (hlt : k < l + inner.length) :
    EvD K (tCall (spWK K g) [] E (tCons te (tCons tx tNil))) σ H (g l inner k) := fun H1 e Q q =>
  h H1 e _ fun v H2 e2 hv => hk H2 (e.trans e2) _ fun w H3 e3 hw' => by
    cases dp_int hw'
    exact ⟨v, l, inner, k, rfl, dp_ex e3 _ hv, hw, hlt, fun r H4 e4 hr => q r H4 ((e2.trans e3).trans e4) hr⟩
end
def topN (l : Nat) (inner : List (List Nat)) : Nat := l + inner.length - 1
def kidsAt (l : Nat) (inner : List (List Nat)) (k : Nat) : List Nat := if k < l then [] else inner.getD (k - l) []
end WR
set_option Elab.async false
set_option linter.all false
set_option maxRecDepth 100000
set_option maxHeartbeats 1000000
namespace WR
open PySem PySem.Spec PyProof.Rows L2 Evl
/-! ### how many parents each kind has -/
def bump (cs : List Int) (k : Nat) : List Int := cs.set k (cs.getD k 0 + 1)
def bumpAll (cs : List Int) (ks : List Nat) : List Int := ks.foldl bump cs
def cntF (n : Nat) (inner : List (List Nat)) : List Int := inner.foldl bumpAll (List.replicate n 0)
theorem bump_len (cs : List Int) (k : Nat) : (bump cs k).length = cs.length := by unfold bump; rw [List.length_set]
theorem bumpAll_len : ∀ (ks : List Nat) (cs : List Int), (bumpAll cs ks).length = cs.length
  | [], _ => rfl
  | k :: ks, cs => by
    show (bumpAll (bump cs k) ks).length = _
    rw [bumpAll_len ks, bump_len]
theorem foldl_bump_len : ∀ (inner : List (List Nat)) (cs : List Int), (inner.foldl bumpAll cs).length = cs.length
  | [], _ => rfl
  | ks :: inner, cs => by
    show (inner.foldl bumpAll (bumpAll cs ks)).length = _
    rw [foldl_bump_len inner, bumpAll_len]
theorem cntF_len (n : Nat) (inner : List (List Nat)) : (cntF n inner).length = n := by
  unfold cntF
  rw [foldl_bump_len, List.length_replicate]
theorem cntF_take {n i : Nat} {inner : List (List Nat)} {ks : List Nat} (h : inner[i]? = some ks) : cntF n (inner.take (i + 1)) = bumpAll (cntF n (inner.take i)) ks := by
  unfold cntF
  rw [List.take_add_one, h, List.foldl_append]
  rfl
theorem bumpAll_take {cs : List Int} {ks : List Nat} {j k : Nat} (h : ks[j]? = some k) : bumpAll cs (ks.take (j + 1)) = bump (bumpAll cs (ks.take j)) k := by
  unfold bumpAll
  rw [List.take_add_one, h, List.foldl_append]
  rfl
/-- of each kind of a web -/
def cnts (l : Nat) (inner : List (List Nat)) : List Int := cntF (l + inner.length) inner
theorem fm_rng {f : PyData → Option PyData} {g : Nat → PyData} {lo : Int} {n : Nat} (h : ∀ k : Nat, k < n → f (.int (lo + (k : Int))) = some (g k)) : (rngD lo n).filterMap f = (List.range n).map g := by
  unfold rngD
  rw [List.filterMap_map]
  exact fm_map fun k hk => h k (List.mem_range.mp hk)
end WR
set_option linter.all false
/-! ### webs as they are drawn: kinds by number, their children in any order -/
namespace WR
def cnt (K : Nat → List Nat) (k : Nat) : Nat → Nat
  | 0 => 0
  | n + 1 => cnt K k n + (if k ∈ K n then 1 else 0)
def setK (K : Nat → List Nat) (u : Nat) (ks : List Nat) : Nat → List Nat := fun x => if x = u then ks else K x
theorem setK_same {K : Nat → List Nat} {u : Nat} {ks : List Nat} : setK K u ks u = ks := if_pos rfl
theorem setK_ne {K : Nat → List Nat} {u x : Nat} {ks : List Nat} (h : x ≠ u) : setK K u ks x = K x := if_neg h
theorem cnt_ge {K : Nat → List Nat} {u k : Nat} {ks : List Nat} : ∀ {n : Nat}, n ≤ u → cnt (setK K u ks) k n = cnt K k n
  | 0, _ => rfl
  | n + 1, h => by
    show cnt (setK K u ks) k n + _ = cnt K k n + _
    rw [cnt_ge (by omega), setK_ne (show n ≠ u by omega)]
theorem cnt_set {K : Nat → List Nat} {u k : Nat} {ks : List Nat} : ∀ {n : Nat}, u < n → cnt (setK K u ks) k n + (if k ∈ K u then 1 else 0) = cnt K k n + (if k ∈ ks then 1 else 0)
  | n + 1, h => by
    show (cnt (setK K u ks) k n + _) + _ = (cnt K k n + _) + _
    by_cases e : u = n
    · subst e
      rw [cnt_ge (Nat.le_refl _), setK_same]
      omega
    · rw [setK_ne (show n ≠ u by omega)]
      have ih := cnt_set (K := K) (k := k) (ks := ks) (show u < n by omega)
      omega
theorem cnt_out {K : Nat → List Nat} {k : Nat} : ∀ {n : Nat}, (∀ u, u < n → k ∉ K u) → cnt K k n = 0
  | 0, _ => rfl
  | n + 1, h => by
    show cnt K k n + _ = 0
    rw [cnt_out fun u hu => h u (by omega), if_neg (h n (by omega))]
theorem cnt_pos {K : Nat → List Nat} {u k : Nat} : ∀ {n : Nat}, u < n → k ∈ K u → 1 ≤ cnt K k n
  | n + 1, h, hk => by
    show 1 ≤ cnt K k n + _
    by_cases e : u = n
    · subst e
      rw [if_pos hk]
      omega
    · have := cnt_pos (show u < n by omega) hk
      omega
/-- two parents are two -/
theorem cnt_two {K : Nat → List Nat} {u v k : Nat} : ∀ {n : Nat}, u < v → v < n → k ∈ K u → k ∈ K v → 2 ≤ cnt K k n
  | n + 1, h, hv, hk, hl => by
    show 2 ≤ cnt K k n + _
    by_cases e : v = n
    · subst e
      rw [if_pos hl]
      have := cnt_pos h hk
      omega
    · have := cnt_two h (show v < n by omega) hk hl
      omega
theorem cnt_one {K : Nat → List Nat} {u v k n : Nat} (h : cnt K k n ≤ 1) (hu : u < n) (hv : v < n) (hk : k ∈ K u) (hl : k ∈ K v) : u = v := by
  rcases Nat.lt_trichotomy u v with z | z | z
  · have := cnt_two z hv hk hl
    omega
  · exact z
  · have := cnt_two z hu hl hk
    omega
theorem cnt_ex {K : Nat → List Nat} {k : Nat} : ∀ {n : Nat}, 1 ≤ cnt K k n → ∃ u, u < n ∧ k ∈ K u
  | n + 1, h => by
    have h' : 1 ≤ cnt K k n + (if k ∈ K n then 1 else 0) := h
    by_cases e : k ∈ K n
    · exact ⟨n, by omega, e⟩
    · rw [if_neg e] at h'
      obtain ⟨u, h1, h2⟩ := cnt_ex (show 1 ≤ cnt K k n by omega)
      exact ⟨u, by omega, h2⟩
/-- b in a's place -/
def rep (a b : Nat) (ks : List Nat) : List Nat := ks.map fun x => if x = a then b else x
theorem rep_len {a b : Nat} {ks : List Nat} : (rep a b ks).length = ks.length := List.length_map ..
theorem rep_mem {a b k : Nat} {ks : List Nat} (ha : a ∈ ks) : k ∈ rep a b ks ↔ k = b ∨ (k ∈ ks ∧ k ≠ a) := by
  unfold rep
  rw [List.mem_map]
  constructor
  · rintro ⟨x, hx, e⟩
    by_cases z : x = a
    · rw [if_pos z] at e
      exact .inl e.symm
    · rw [if_neg z] at e
      subst e
      exact .inr ⟨hx, z⟩
  · rintro (rfl | ⟨h1, h2⟩)
    · exact ⟨a, ha, if_pos rfl⟩
    · exact ⟨k, h1, if_neg h2⟩
theorem rep_nd {a b : Nat} : ∀ {ks : List Nat}, ks.Nodup → b ∉ ks → (rep a b ks).Nodup
  | [], _, _ => List.nodup_nil
  | x :: r, h, hb => by
    rw [List.nodup_cons] at h
    rw [List.mem_cons, not_or] at hb
    show ((if x = a then b else x) :: rep a b r).Nodup
    rw [List.nodup_cons]
    refine ⟨fun hm => ?_, rep_nd h.2 hb.2⟩
    unfold rep at hm
    obtain ⟨y, hy, e⟩ := List.mem_map.mp hm
    by_cases hx : x = a
    · rw [if_pos hx] at e
      by_cases hya : y = a
      · exact h.1 (by rw [hx, ← hya]; exact hy)
      · rw [if_neg hya] at e
        exact hb.2 (e ▸ hy)
    · rw [if_neg hx] at e
      by_cases hya : y = a
      · rw [if_pos hya] at e
        exact hb.1 e
      · rw [if_neg hya] at e
        exact h.1 (e ▸ hy)

/-- a web as drawn; x: a mixing whose second parent is still to come -/
structure GenX (L n : Nat) (K : Nat → List Nat) (x : Nat) : Prop where
  l1 : 1 ≤ L
  ln : L ≤ n
  out : ∀ u, n ≤ u → K u = []
  leaf : ∀ u, u < L → K u = []
  lt : ∀ u c, c ∈ K u → c < n
  nd : ∀ u, (K u).Nodup
  rk : ∃ r : Nat → Nat, ∀ u c, c ∈ K u → r c < r u
  one : ∀ u, L ≤ u → u < n → u ≠ x → cnt K u n ≤ 1 → 2 ≤ (K u).length
  mix : ∀ u, 2 ≤ cnt K u n → (K u).length = 1
  lf1 : ∀ u, u < L → cnt K u n ≤ 1
  bare : ∀ u, L ≤ u → u < n → ∃ c ∈ K u, cnt K c n ≤ 1 ∧ c ≠ x
  root : ∃ t, t < n ∧ ∀ k, k < n → (cnt K k n = 0 ↔ k = t)
/-- x is a kind with one child and a parent -/
structure Lone (L n : Nat) (K : Nat → List Nat) (x : Nat) : Prop where
  lx : L ≤ x
  xn : x < n
  len : (K x).length = 1
  up : 1 ≤ cnt K x n
/-- the whole one: no kind waits -/
def Gen (L n : Nat) (K : Nat → List Nat) : Prop := GenX L n K n
theorem Gen.at {L n : Nat} {K : Nat → List Nat} (g : Gen L n K) {x : Nat} (h2 : 2 ≤ cnt K x n) : GenX L n K x :=
  ⟨g.l1, g.ln, g.out, g.leaf, g.lt, g.nd, g.rk, fun u h1 h3 _ h4 => g.one u h1 h3 (by omega) h4, g.mix, g.lf1,
    fun u h1 h3 => by
      obtain ⟨c, a, b, _⟩ := g.bare u h1 h3
      exact ⟨c, a, b, fun z => by subst z; omega⟩, g.root⟩
/-- closed downwards -/
def Shut (K : Nat → List Nat) (D : Nat → Prop) : Prop := ∀ u c, D u → c ∈ K u → D c

/-- a kind x waiting for a parent (or with two of them already) gets one more -/
theorem gen_more {L n : Nat} {K : Nat → List Nat} {x high : Nat} {D : Nat → Prop} (g : GenX L n K x) (lx : Lone L n K x) (hh : L ≤ high) (hn : high < n) (hp : cnt K high n ≤ 1) (hx : high ≠ x) (hnot : x ∉ K high)
    (hD : Shut K D) (hDx : D x) (hDh : ¬ D high) : Gen L n (setK K high (K high ++ [x])) := by
  have hc : ∀ k, cnt (setK K high (K high ++ [x])) k n = cnt K k n + (if k = x then 1 else 0) := fun k => by
    have q := cnt_set (K := K) (k := k) (ks := K high ++ [x]) hn
    by_cases e : k = x
    · subst e
      rw [if_neg hnot, if_pos (show k ∈ K high ++ [k] by simp)] at q
      rw [if_pos rfl]
      omega
    · have : (k ∈ K high ++ [x]) ↔ k ∈ K high := by simp [e]
      simp only [this] at q
      rw [if_neg e]
      omega
  have mem : ∀ u c, c ∈ setK K high (K high ++ [x]) u → c ∈ K u ∨ (u = high ∧ c = x) := fun u c h => by
    by_cases e : u = high
    · subst e
      rw [setK_same] at h
      rcases List.mem_append.mp h with h | h
      · exact .inl h
      · exact .inr ⟨rfl, by simpa using h⟩
    · rw [setK_ne e] at h
      exact .inl h
  refine ⟨g.l1, g.ln, fun u hu => ?_, fun u hu => ?_, fun u c h => ?_, fun u => ?_, ?_, fun u h1 h2 _ h3 => ?_, fun u h2 => ?_, fun u hu => ?_, fun u h1 h2 => ?_, ?_⟩
  · rw [setK_ne (by omega)]
    exact g.out u hu
  · rw [setK_ne (by omega)]
    exact g.leaf u hu
  · rcases mem u c h with h | ⟨_, rfl⟩
    · exact g.lt u c h
    · exact lx.xn
  · by_cases e : u = high
    · subst e
      rw [setK_same, List.nodup_append]
      refine ⟨g.nd u, by simp, fun a ha b hb => ?_⟩
      have : b = x := by simpa using hb
      subst this
      exact fun z => hnot (z ▸ ha)
    · rw [setK_ne e]
      exact g.nd u
  · obtain ⟨r, hr⟩ := g.rk
    obtain ⟨M, hM⟩ : ∃ M, ∀ u, u < n → r u < M := by
      clear hc mem
      have key : ∀ m, ∃ M, ∀ u, u < m → r u < M := fun m => by
        induction m with
        | zero => exact ⟨0, fun u h => by omega⟩
        | succ m ih =>
          obtain ⟨M, h⟩ := ih
          refine ⟨M + r m + 1, fun u hu => ?_⟩
          by_cases e : u = m
          · subst e
            omega
          · have := h u (by omega)
            omega
      exact key n
    have Dd : ∀ u, Decidable (D u) := fun u => Classical.propDecidable _
    refine ⟨fun u => if D u then r u else M + r u, fun u c h => ?_⟩
    show (if D c then r c else M + r c) < (if D u then r u else M + r u)
    rcases mem u c h with h | ⟨rfl, rfl⟩
    · have q := hr u c h
      have qc := hM c (g.lt u c h)
      by_cases d : D u
      · rw [if_pos d, if_pos (hD u c d h)]
        exact q
      · rw [if_neg d]
        split <;> omega
    · have := hM c lx.xn
      rw [if_pos hDx, if_neg hDh]
      omega
  · rw [hc] at h3
    have hux : u ≠ x := fun z => by
      subst z
      rw [if_pos rfl] at h3
      have := lx.up
      omega
    rw [if_neg hux] at h3
    have q := g.one u h1 h2 hux (by omega)
    by_cases e : u = high
    · subst e
      rw [setK_same, List.length_append]
      omega
    · rw [setK_ne e]
      exact q
  · rw [hc] at h2
    by_cases hux : u = x
    · subst hux
      rw [setK_ne (Ne.symm hx)]
      exact lx.len
    · rw [if_neg hux] at h2
      have : u ≠ high := fun z => by
        subst z
        omega
      rw [setK_ne this]
      exact g.mix u (by omega)
  · rw [hc, if_neg (by have := lx.lx; omega)]
    exact g.lf1 u hu
  · obtain ⟨c, a, b, d⟩ := g.bare u h1 h2
    refine ⟨c, ?_, by rw [hc, if_neg d]; exact b, by have := g.lt u c a; omega⟩
    by_cases e : u = high
    · subst e
      rw [setK_same]
      exact List.mem_append_left _ a
    · rw [setK_ne e]
      exact a
  · obtain ⟨t, h1, h2⟩ := g.root
    refine ⟨t, h1, fun k hk => ?_⟩
    rw [hc]
    by_cases e : k = x
    · subst e
      rw [if_pos rfl]
      have q := h2 k hk
      have := lx.up
      constructor
      · intro z
        omega
      · intro z
        have := q.mpr z
        omega
    · rw [if_neg e]
      exact h2 k hk

theorem bound_of (r : Nat → Nat) : ∀ m : Nat, ∃ M, ∀ u, u < m → r u < M
  | 0 => ⟨0, fun u h => by omega⟩
  | m + 1 => by
    obtain ⟨M, h⟩ := bound_of r m
    refine ⟨M + r m + 1, fun u hu => ?_⟩
    by_cases e : u = m
    · subst e
      omega
    · have := h u (by omega)
      omega
/-- a new kind n between up and its child low -/
def betweenK (K : Nat → List Nat) (n up low : Nat) : Nat → List Nat := setK (setK K up (rep low n (K up))) n [low]
theorem gen_between {L n : Nat} {K : Nat → List Nat} {up low : Nat} (g : Gen L n K) (hu : up < n) (hl : low ∈ K up) (h1 : cnt K low n ≤ 1) (hb : ∃ c ∈ K up, c ≠ low ∧ cnt K c n ≤ 1) :
    GenX L (n + 1) (betweenK K n up low) n ∧ Lone L (n + 1) (betweenK K n up low) n ∧ (∀ k, k < n → cnt (betweenK K n up low) k (n + 1) = cnt K k n) ∧ (∀ D : Nat → Prop, Shut K D → D low → Shut (betweenK K n up low) fun u => D u ∨ u = n) := by
  have lown : low < n := g.lt _ _ hl
  have nup : n ∉ K up := fun z => by
    have := g.lt _ _ z
    omega
  have un : up ≠ n := by omega
  have upL : L ≤ up := by
    rcases Nat.lt_or_ge up L with z | z
    · rw [g.leaf up z] at hl
      cases hl
    · exact z
  have Kn : betweenK K n up low n = [low] := setK_same
  have Ku : betweenK K n up low up = rep low n (K up) := by
    unfold betweenK
    rw [setK_ne un, setK_same]
  have Ko : ∀ u, u ≠ n → u ≠ up → betweenK K n up low u = K u := fun u a b => by
    unfold betweenK
    rw [setK_ne a, setK_ne b]
  have c0 : cnt K n n = 0 := cnt_out fun u _ z => by
    have := g.lt _ _ z
    omega
  have hc : ∀ k, cnt (betweenK K n up low) k (n + 1) = if k = n then 1 else cnt K k n := fun k => by
    show cnt (betweenK K n up low) k n + (if k ∈ betweenK K n up low n then 1 else 0) = _
    rw [Kn]
    unfold betweenK
    rw [cnt_ge (Nat.le_refl n)]
    have q := cnt_set (K := K) (k := k) (ks := rep low n (K up)) hu
    simp only [rep_mem hl] at q
    by_cases e : k = n
    · subst e
      rw [if_pos rfl, if_neg (show k ∉ [low] by simp; omega)]
      rw [if_neg nup, if_pos (.inl rfl)] at q
      omega
    · rw [if_neg e]
      by_cases z : k = low
      · subst z
        rw [if_pos hl, if_neg (by simp [e])] at q
        rw [if_pos (by simp)]
        omega
      · rw [if_neg (show k ∉ [low] by simp [z])]
        have : (k = n ∨ (k ∈ K up ∧ k ≠ low)) ↔ k ∈ K up := by simp [e, z]
        simp only [this] at q
        omega
  have hck : ∀ k, k ≠ n → cnt (betweenK K n up low) k (n + 1) = cnt K k n := fun k e => by rw [hc, if_neg e]
  have mem : ∀ u c, c ∈ betweenK K n up low u → (u = n ∧ c = low) ∨ (u = up ∧ c = n) ∨ (u ≠ n ∧ c ∈ K u) := fun u c h => by
    by_cases e : u = n
    · subst e
      rw [Kn] at h
      exact .inl ⟨rfl, by simpa using h⟩
    · by_cases z : u = up
      · subst z
        rw [Ku, rep_mem hl] at h
        rcases h with h | ⟨h, _⟩
        · exact .inr (.inl ⟨rfl, h⟩)
        · exact .inr (.inr ⟨e, h⟩)
      · rw [Ko u e z] at h
        exact .inr (.inr ⟨e, h⟩)
  have len : ∀ u, u ≠ n → (betweenK K n up low u).length = (K u).length := fun u e => by
    by_cases z : u = up
    · subst z
      rw [Ku, rep_len]
    · rw [Ko u e z]
  refine ⟨⟨g.l1, by have := g.ln; omega, fun u h => ?_, fun u h => ?_, fun u c h => ?_, fun u => ?_, ?_, fun u a b d e => ?_, fun u h => ?_, fun u h => ?_, fun u a b => ?_, ?_⟩, ⟨g.ln, by omega, by rw [Kn]; rfl, by rw [hc, if_pos rfl]; exact Nat.le_refl _⟩, fun k hk => hck k (by omega), fun D hD hDl u c a h => ?_⟩
  · rw [Ko u (by omega) (by omega)]
    exact g.out u (by omega)
  · have := g.ln
    rw [Ko u (by omega) (by omega)]
    exact g.leaf u h
  · rcases mem u c h with ⟨_, rfl⟩ | ⟨_, rfl⟩ | ⟨_, h⟩
    · omega
    · omega
    · have := g.lt u c h
      omega
  · by_cases e : u = n
    · subst e
      rw [Kn]
      simp
    · by_cases z : u = up
      · subst z
        rw [Ku]
        exact rep_nd (g.nd u) nup
      · rw [Ko u e z]
        exact g.nd u
  · obtain ⟨r, hr⟩ := g.rk
    refine ⟨fun u => if u = n then 2 * r low + 1 else 2 * r u, fun u c h => ?_⟩
    show (if c = n then 2 * r low + 1 else 2 * r c) < (if u = n then 2 * r low + 1 else 2 * r u)
    rcases mem u c h with ⟨rfl, rfl⟩ | ⟨rfl, rfl⟩ | ⟨e, h⟩
    · rw [if_pos rfl, if_neg (by omega)]
      omega
    · have := hr u low hl
      rw [if_pos rfl, if_neg un]
      omega
    · have q := hr u c h
      have := g.lt u c h
      rw [if_neg e, if_neg (by omega)]
      omega
  · rw [hck u d] at e
    rw [len u d]
    exact g.one u a (by omega) (by omega) e
  · have e : u ≠ n := fun z => by
      subst z
      rw [hc, if_pos rfl] at h
      omega
    rw [hck u e] at h
    rw [len u e]
    exact g.mix u h
  · have := g.ln
    rw [hck u (by omega)]
    exact g.lf1 u h
  · by_cases e : u = n
    · subst e
      exact ⟨low, by rw [Kn]; simp, by rw [hck low (by omega)]; exact h1, by omega⟩
    · by_cases z : u = up
      · subst z
        obtain ⟨c, p1, p2, p3⟩ := hb
        have := g.lt _ _ p1
        exact ⟨c, by rw [Ku, rep_mem hl]; exact .inr ⟨p1, p2⟩, by rw [hck c (by omega)]; exact p3, by omega⟩
      · obtain ⟨c, p1, p2, _⟩ := g.bare u a (by omega)
        have := g.lt _ _ p1
        exact ⟨c, by rw [Ko u e z]; exact p1, by rw [hck c (by omega)]; exact p2, by omega⟩
  · obtain ⟨t, a, b⟩ := g.root
    refine ⟨t, by omega, fun k hk => ?_⟩
    by_cases e : k = n
    · subst e
      rw [hc, if_pos rfl]
      constructor
      · intro z
        omega
      · intro z
        omega
    · rw [hck k e]
      exact b k (by omega)
  · rcases mem u c h with ⟨rfl, rfl⟩ | ⟨rfl, rfl⟩ | ⟨e, h⟩
    · exact .inl hDl
    · exact .inr rfl
    · rcases a with a | a
      · exact .inl (hD u c a h)
      · exact absurd a e
/-- a new kind n above s, whose parent is v, with x for its second child -/
theorem gen_above {L n : Nat} {K : Nat → List Nat} {x s v : Nat} {D : Nat → Prop} (g : GenX L n K x) (lx : Lone L n K x) (hv : v < n) (hs : s ∈ K v) (h1 : cnt K s n ≤ 1) (hsx : s ≠ x) (hD : Shut K D) (hDx : D x) (hDv : ¬ D v) :
    Gen L (n + 1) (setK (setK K v (rep s n (K v))) n [s, x]) := by
  have sn : s < n := g.lt _ _ hs
  have xn := lx.xn
  have nv : n ∉ K v := fun z => by
    have := g.lt _ _ z
    omega
  have vn : v ≠ n := by omega
  have vx : v ≠ x := fun z => hDv (z ▸ hDx)
  have vL : L ≤ v := by
    rcases Nat.lt_or_ge v L with z | z
    · rw [g.leaf v z] at hs
      cases hs
    · exact z
  let K' := setK (setK K v (rep s n (K v))) n [s, x]
  have Kn : K' n = [s, x] := setK_same
  have Kv : K' v = rep s n (K v) := by
    show setK (setK K v (rep s n (K v))) n [s, x] v = _
    rw [setK_ne vn, setK_same]
  have Ko : ∀ u, u ≠ n → u ≠ v → K' u = K u := fun u a b => by
    show setK (setK K v (rep s n (K v))) n [s, x] u = _
    rw [setK_ne a, setK_ne b]
  have c0 : cnt K n n = 0 := cnt_out fun u _ z => by
    have := g.lt _ _ z
    omega
  have hc : ∀ k, cnt K' k (n + 1) = if k = n then 1 else if k = x then cnt K x n + 1 else cnt K k n := fun k => by
    show cnt K' k n + (if k ∈ K' n then 1 else 0) = _
    rw [Kn]
    show cnt (setK (setK K v (rep s n (K v))) n [s, x]) k n + _ = _
    rw [cnt_ge (Nat.le_refl n)]
    have q := cnt_set (K := K) (k := k) (ks := rep s n (K v)) hv
    simp only [rep_mem hs] at q
    by_cases e : k = n
    · subst e
      rw [if_pos rfl, if_neg (show k ∉ [s, x] by simp; omega)]
      rw [if_neg nv, if_pos (.inl rfl)] at q
      omega
    · rw [if_neg e]
      by_cases z : k = s
      · subst z
        rw [if_pos hs, if_neg (by simp [e])] at q
        rw [if_pos (by simp), if_neg hsx]
        omega
      · have : (k = n ∨ (k ∈ K v ∧ k ≠ s)) ↔ k ∈ K v := by simp [e, z]
        simp only [this] at q
        by_cases y : k = x
        · subst y
          rw [if_pos (by simp), if_pos rfl]
          omega
        · rw [if_neg (show k ∉ [s, x] by simp [z, y]), if_neg y]
          omega
  have hcn : cnt K' n (n + 1) = 1 := by rw [hc, if_pos rfl]
  have hcx : cnt K' x (n + 1) = cnt K x n + 1 := by rw [hc, if_neg (by omega), if_pos rfl]
  have hck : ∀ k, k ≠ n → k ≠ x → cnt K' k (n + 1) = cnt K k n := fun k a b => by rw [hc, if_neg a, if_neg b]
  have mem : ∀ u c, c ∈ K' u → (u = n ∧ c = s) ∨ (u = n ∧ c = x) ∨ (u = v ∧ c = n) ∨ (u ≠ n ∧ c ∈ K u) := fun u c h => by
    by_cases e : u = n
    · subst e
      rw [Kn] at h
      have : c = s ∨ c = x := by simpa using h
      rcases this with h | h
      · exact .inl ⟨rfl, h⟩
      · exact .inr (.inl ⟨rfl, h⟩)
    · by_cases z : u = v
      · subst z
        rw [Kv, rep_mem hs] at h
        rcases h with h | ⟨h, _⟩
        · exact .inr (.inr (.inl ⟨rfl, h⟩))
        · exact .inr (.inr (.inr ⟨e, h⟩))
      · rw [Ko u e z] at h
        exact .inr (.inr (.inr ⟨e, h⟩))
  have len : ∀ u, u ≠ n → (K' u).length = (K u).length := fun u e => by
    by_cases z : u = v
    · subst z
      rw [Kv, rep_len]
    · rw [Ko u e z]
  show GenX L (n + 1) K' (n + 1)
  refine ⟨g.l1, by have := g.ln; omega, fun u h => ?_, fun u h => ?_, fun u c h => ?_, fun u => ?_, ?_, fun u a b _ e => ?_, fun u h => ?_, fun u h => ?_, fun u a b => ?_, ?_⟩
  · rw [Ko u (by omega) (by omega)]
    exact g.out u (by omega)
  · have := g.ln
    rw [Ko u (by omega) (by omega)]
    exact g.leaf u h
  · rcases mem u c h with ⟨_, rfl⟩ | ⟨_, rfl⟩ | ⟨_, rfl⟩ | ⟨_, h⟩
    · omega
    · omega
    · omega
    · have := g.lt u c h
      omega
  · by_cases e : u = n
    · subst e
      rw [Kn]
      simp [hsx]
    · by_cases z : u = v
      · subst z
        rw [Kv]
        exact rep_nd (g.nd u) nv
      · rw [Ko u e z]
        exact g.nd u
  · obtain ⟨r, hr⟩ := g.rk
    obtain ⟨M, hM⟩ := bound_of (fun u => 2 * r u) n
    have Dd : ∀ u, Decidable (D u) := fun u => Classical.propDecidable _
    let r' : Nat → Nat := fun u => if u = n then (if D s then M + 1 else M + 2 + 2 * r s + 1) else if D u then 2 * r u else M + 2 + 2 * r u
    have ro : ∀ u, u ≠ n → r' u = if D u then 2 * r u else M + 2 + 2 * r u := fun u e => if_neg e
    have rn : r' n = if D s then M + 1 else M + 2 + 2 * r s + 1 := if_pos rfl
    have hMs : 2 * r s < M := hM s sn
    have hMx : 2 * r x < M := hM x xn
    refine ⟨r', fun u c h => ?_⟩
    rcases mem u c h with ⟨rfl, rfl⟩ | ⟨rfl, rfl⟩ | ⟨rfl, rfl⟩ | ⟨e, h⟩
    · rw [rn, ro c (by omega)]
      by_cases d : D c
      · rw [if_pos d, if_pos d]
        omega
      · rw [if_neg d, if_neg d]
        omega
    · rw [rn, ro c (by omega), if_pos hDx]
      split <;> omega
    · have := hr u s hs
      rw [rn, ro u vn, if_neg hDv]
      split <;> omega
    · have q := hr u c h
      have cn := g.lt u c h
      have hMc : 2 * r c < M := hM c cn
      rw [ro u e, ro c (by omega)]
      by_cases d : D u
      · rw [if_pos d, if_pos (hD u c d h)]
        omega
      · rw [if_neg d]
        split <;> omega
  · by_cases z : u = n
    · subst z
      rw [Kn]
      exact Nat.le_refl 2
    · have y : u ≠ x := fun y => by
        subst y
        rw [hcx] at e
        have := lx.up
        omega
      rw [hck u z y] at e
      rw [len u z]
      exact g.one u a (by omega) y e
  · have z : u ≠ n := fun z => by
      subst z
      rw [hcn] at h
      omega
    rw [len u z]
    by_cases y : u = x
    · subst y
      exact lx.len
    · rw [hck u z y] at h
      exact g.mix u h
  · have := g.ln
    have := lx.lx
    rw [hck u (by omega) (by omega)]
    exact g.lf1 u h
  · by_cases z : u = n
    · subst z
      exact ⟨s, by rw [Kn]; simp, by rw [hck s (by omega) hsx]; exact h1, by omega⟩
    · obtain ⟨c, p1, p2, p3⟩ := g.bare u a (by omega)
      have cn := g.lt _ _ p1
      by_cases y : u = v
      · subst y
        by_cases cs : c = s
        · subst cs
          exact ⟨n, by rw [Kv, rep_mem hs]; exact .inl rfl, by rw [hcn]; exact Nat.le_refl _, by omega⟩
        · exact ⟨c, by rw [Kv, rep_mem hs]; exact .inr ⟨p1, cs⟩, by rw [hck c (by omega) p3]; exact p2, by omega⟩
      · exact ⟨c, by rw [Ko u z y]; exact p1, by rw [hck c (by omega) p3]; exact p2, by omega⟩
  · obtain ⟨t, a, b⟩ := g.root
    refine ⟨t, by omega, fun k hk => ?_⟩
    by_cases z : k = n
    · subst z
      rw [hcn]
      constructor
      · intro z
        omega
      · intro z
        omega
    · by_cases y : k = x
      · subst y
        have q := b k lx.xn
        have := lx.up
        rw [hcx]
        constructor
        · intro z
          omega
        · intro z
          have := q.mpr z
          omega
      · rw [hck k z y]
        exact b k (by omega)
/-- a new root n above the root s -/
theorem gen_top {L n : Nat} {K : Nat → List Nat} {x s : Nat} (g : GenX L n K x) (lx : Lone L n K x) (hs : s < n) (h0 : cnt K s n = 0) : Gen L (n + 1) (setK K n [s, x]) := by
  have xn := lx.xn
  have hsx : s ≠ x := fun z => by
    have := lx.up
    subst z
    omega
  let K' := setK K n [s, x]
  have Kn : K' n = [s, x] := setK_same
  have Ko : ∀ u, u ≠ n → K' u = K u := fun u a => setK_ne a
  have c0 : cnt K n n = 0 := cnt_out fun u _ z => by
    have := g.lt _ _ z
    omega
  have hc : ∀ k, cnt K' k (n + 1) = if k = s then 1 else if k = x then cnt K x n + 1 else cnt K k n := fun k => by
    show cnt (setK K n [s, x]) k n + (if k ∈ K' n then 1 else 0) = _
    rw [cnt_ge (Nat.le_refl n), Kn]
    by_cases z : k = s
    · subst z
      rw [if_pos (by simp), if_pos rfl]
      omega
    · by_cases y : k = x
      · subst y
        rw [if_pos (by simp), if_neg z, if_pos rfl]
      · rw [if_neg (show k ∉ [s, x] by simp [z, y]), if_neg z, if_neg y]
        rfl
  have hcs : cnt K' s (n + 1) = 1 := by rw [hc, if_pos rfl]
  have hcx : cnt K' x (n + 1) = cnt K x n + 1 := by rw [hc, if_neg (Ne.symm hsx), if_pos rfl]
  have hck : ∀ k, k ≠ s → k ≠ x → cnt K' k (n + 1) = cnt K k n := fun k a b => by rw [hc, if_neg a, if_neg b]
  have hcn : cnt K' n (n + 1) = 0 := by rw [hck n (by omega) (by omega)]; exact c0
  have mem : ∀ u c, c ∈ K' u → (u = n ∧ (c = s ∨ c = x)) ∨ (u ≠ n ∧ c ∈ K u) := fun u c h => by
    by_cases e : u = n
    · subst e
      rw [Kn] at h
      exact .inl ⟨rfl, by simpa using h⟩
    · rw [Ko u e] at h
      exact .inr ⟨e, h⟩
  have le1 : ∀ k, k ≠ x → cnt K k n ≤ 1 → cnt K' k (n + 1) ≤ 1 := fun k y h => by
    by_cases z : k = s
    · subst z
      rw [hcs]
      exact Nat.le_refl _
    · rw [hck k z y]
      exact h
  show GenX L (n + 1) K' (n + 1)
  refine ⟨g.l1, by have := g.ln; omega, fun u h => ?_, fun u h => ?_, fun u c h => ?_, fun u => ?_, ?_, fun u a b _ e => ?_, fun u h => ?_, fun u h => ?_, fun u a b => ?_, ?_⟩
  · rw [Ko u (by omega)]
    exact g.out u (by omega)
  · have := g.ln
    rw [Ko u (by omega)]
    exact g.leaf u h
  · rcases mem u c h with ⟨_, rfl | rfl⟩ | ⟨_, h⟩
    · omega
    · omega
    · have := g.lt u c h
      omega
  · by_cases e : u = n
    · subst e
      rw [Kn]
      simp [hsx]
    · rw [Ko u e]
      exact g.nd u
  · obtain ⟨r, hr⟩ := g.rk
    obtain ⟨M, hM⟩ := bound_of r n
    refine ⟨fun u => if u = n then M else r u, fun u c h => ?_⟩
    show (if c = n then M else r c) < (if u = n then M else r u)
    rcases mem u c h with ⟨rfl, h⟩ | ⟨e, h⟩
    · have cn : c < u := by omega
      rw [if_pos rfl, if_neg (by omega)]
      exact hM c cn
    · have := g.lt u c h
      rw [if_neg e, if_neg (by omega)]
      exact hr u c h
  · by_cases z : u = n
    · subst z
      rw [Kn]
      exact Nat.le_refl 2
    · have y : u ≠ x := fun y => by
        subst y
        rw [hcx] at e
        have := lx.up
        omega
      rw [Ko u z]
      refine g.one u a (by omega) y ?_
      by_cases w : u = s
      · subst w
        omega
      · rw [hck u w y] at e
        exact e
  · have z : u ≠ n := fun z => by
      subst z
      rw [hcn] at h
      omega
    rw [Ko u z]
    by_cases y : u = x
    · subst y
      exact lx.len
    · have w : u ≠ s := fun w => by
        subst w
        rw [hcs] at h
        omega
      rw [hck u w y] at h
      exact g.mix u h
  · have := g.ln
    have := lx.lx
    exact le1 u (by omega) (g.lf1 u h)
  · by_cases z : u = n
    · subst z
      exact ⟨s, by rw [Kn]; simp, by rw [hcs]; exact Nat.le_refl _, by omega⟩
    · obtain ⟨c, p1, p2, p3⟩ := g.bare u a (by omega)
      have cn := g.lt _ _ p1
      exact ⟨c, by rw [Ko u z]; exact p1, le1 c p3 p2, by omega⟩
  · obtain ⟨t, a, b⟩ := g.root
    have hst : s = t := (b s hs).mp h0
    refine ⟨n, by omega, fun k hk => ?_⟩
    by_cases z : k = n
    · subst z
      exact ⟨fun _ => rfl, fun _ => hcn⟩
    · refine ⟨fun h => ?_, fun h => absurd h z⟩
      exfalso
      by_cases w : k = s
      · subst w
        omega
      · by_cases y : k = x
        · subst y
          omega
        · rw [hck k w y] at h
          exact w (hst ▸ (b k (by omega)).mp h)
end WR
set_option Elab.async false
set_option linter.all false
set_option maxRecDepth 100000
set_option maxHeartbeats 1000000
namespace WR
open PySem PySem.Spec PyProof.Rows L2 Evl

/-! ### lists of lists that change -/
def nV (k : Nat) : V := .int (k : Int)
def nVs (ks : List Nat) : List V := ks.map nV
def natDs (ks : List Nat) : List PyData := ks.map natD
structure KdAt (H : Hp) (p : Addr) (rs : List Addr) (kk : List (List Nat)) : Prop where
  at_ : H p = some (.lst (rs.map V.ref))
  len : rs.length = kk.length
  nd : rs.Nodup
  np : p ∉ rs
  row : ∀ (i : Nat) r ks, rs[i]? = some r → kk[i]? = some ks → H r = some (.lst (nVs ks))
theorem KdAt.ex {H H' : Hp} {p : Addr} {rs : List Addr} {kk : List (List Nat)} (h : KdAt H p rs kk) (e : Ex H H') : KdAt H' p rs kk :=
  ⟨e _ _ h.at_, h.len, h.nd, h.np, fun i r ks a b => e _ _ (h.row i r ks a b)⟩
/-- the sizes are small -/
def Sml (kk : List (List Nat)) : Prop := kk.length ≤ 40 ∧ ∀ ks ∈ kk, ks.length ≤ 40
theorem dpAll_nat {K : PySem.W.Frag} {H : Hp} : ∀ ks : List Nat, DpAll K H (nVs ks) (natDs ks)
  | [] => .nil
  | _ :: ks => .cons (.int _) (dpAll_nat ks)
theorem nats_of {K : PySem.W.Frag} {H : Hp} : ∀ {vs : List V} {ks : List Nat}, DpAll K H vs (natDs ks) → vs = nVs ks
  | _, [], h => by cases h; rfl
  | _, _ :: ks, h => by
    cases h with
    | cons a b => cases a; rw [nats_of b]; rfl
theorem inV_nat {k : Nat} : ∀ {ks : List Nat}, inV (nV k) (nVs ks) = decide (k ∈ ks)
  | [] => rfl
  | x :: ks => by
    show (eqV (nV x) (nV k) || inV (nV k) (nVs ks)) = _
    rw [inV_nat]
    show (((x : Int) == (k : Int)) || decide (k ∈ ks)) = _
    by_cases e : x = k
    · subst e
      simp
    · have : ((x : Int) == (k : Int)) = false := beq_eq_false_iff_ne.mpr (by omega)
      rw [this, Bool.false_or]
      simp [Ne.symm e]
theorem flat_nVs : ∀ ks : List Nat, (nVs ks).all flatV = true
  | [] => rfl
  | _ :: ks => by
    show (true && (nVs ks).all flatV) = true
    rw [flat_nVs ks]
    rfl
theorem nVs_at {ks : List Nat} {i k : Nat} (h : ks[i]? = some k) : (nVs ks)[i]? = some (nV k) := by
  unfold nVs
  rw [List.getElem?_map, h]
  rfl
section
variable {K : PySem.W.Frag} {σ : L2.St} {H H' : Hp} {ta tb te tx : TE} {p : Addr} {rs : List Addr} {kk : List (List Nat)}
theorem KdAt.get (h : KdAt H p rs kk) {i : Nat} {ks : List Nat} (hi : kk[i]? = some ks) : ∃ r, rs[i]? = some r ∧ H r = some (.lst (nVs ks)) := by
  have hl := (List.getElem?_eq_some_iff.mp hi).1
  have hr : rs[i]? = some (rs[i]'(by rw [h.len]; exact hl)) := List.getElem?_eq_getElem _
  exact ⟨_, hr, h.row i _ ks hr hi⟩
/-- kids[i] -/
theorem ev_row (h : KdAt H p rs kk) {i : Nat} {r : Addr} (hr : rs[i]? = some r) (ha : Ev ta σ H (.ref p)) (hb : Ev tb σ H (nV i)) : Ev (tOp (rIxL K) ta tb) σ H (.ref r) :=
  ev_op ha hb (rv_ixL (sq_of h.at_) (atI_nat (by rw [List.getElem?_map, hr]; rfl)))
end

/-! ### _law_one -/
def spOne (K : PySem.W.Frag) : Sp := fun vs H Q _ => ∃ p L ns N i xs, vs = [.ref p, .ref i] ∧ Dk H p L ns N ∧ N ≤ 1000000000 ∧ H i = some (.lst xs) ∧ i ≠ p ∧ 1 ≤ xs.length ∧ xs.length ≤ 1000000 ∧
  ∀ x H', x ∈ xs → Ex (rem H p) H' → Dk H' p L ns (N + 1) → Q x H'
theorem scOne : FnScope ["_law_deck_here", "_law_items"] ["_law_deck_here", "_law_items"] (defScope sOne) := ⟨rfl, rfl, rfl, by decide +kernel, rfl, by decide +kernel, by decide +kernel⟩
/-! ### _law_ups -/
def upsL (kk : List (List Nat)) (k : Nat) : List Nat := (List.range kk.length).filter fun u => decide (k ∈ kk.getD u [])
def spUps (K : PySem.W.Frag) : Sp := fun vs H Q _ => ∃ p rs kk k, vs = [.ref p, nV k] ∧ KdAt H p rs kk ∧ Sml kk ∧ ∀ l H', H l = none → Ex H H' → H' l = some (.lst (nVs (upsL kk k))) → Q (.ref l) H'
abbrev nUps : List Str := ["_law_kids_here", "_law_kind", "_law_up"]
theorem scUps : FnScope nUps ["_law_kids_here", "_law_kind"] (defScope sUps) := ⟨rfl, rfl, rfl, by decide +kernel, rfl, by decide +kernel, by decide +kernel⟩
section
variable {P : Program} {w : World} {K : PySem.W.Frag} {mg : Str → Option Value} {base : Heap}
theorem ok_one {f fW : Addr} {fd fdW : FuncData} (F : Fun K "_law_one" "_law_one" sOne f fd) (FW : Fun K "_law_draw" "_law_draw" sDraw fW fdW) (bW : Binds K fdW ["_law_deck_here", "_law_many"] []) (gW : mg "_law_draw" = some (.ref fW)) (m3 : mg "len" = none)
    (GW : FnOk P w K mg base CX0 1 fW fdW ["_law_deck_here", "_law_many"] spDraw) : FnOk P w K mg base CX0 2 f fd ["_law_deck_here", "_law_items"] (spOne K) := by
  refine F.ok scOne (fun vs H Q E h => ?_) (fun cdv A outer s H vs Q E hr h => ?_)
  · obtain ⟨p, L, ns, N, i, xs, rfl, _⟩ := h
    rfl
  obtain ⟨p, L, ns, N, i, xs, rfl, hD, hN, hi, hne, h1, h2, q⟩ := h
  refine ⟨_, pss_one (ps_ret (pe_ix ix_list (pv 1) (pe_call GW hr (by rfl) gW FW.kp bW .nil pass0 (pa_cons (pv 0) (pa_cons (pe_callB call_len_seq (by rfl) m3 PySem.boot_len (pa_cons (pv 1) pa_nil)) pa_nil))) (fun _ _ => rfl))), ?_⟩
  refine ⟨.ref i, rfl, .ref p, rfl, .ref i, rfl, i, xs, rfl, .inl (sq_of hi), p, L, ns, _, N, rfl, hD, hN, by omega, by omega, fun r H' hr0 hr1 e hD' => ?_⟩
  have hi' : H' i = some (.lst xs) := e _ _ (by rw [rem_ne hne]; exact hi)
  obtain ⟨k, rfl⟩ : ∃ k : Nat, r = (k : Int) := ⟨r.toNat, (Int.toNat_of_nonneg hr0).symm⟩
  have hk : k < xs.length := by omega
  exact ⟨i, xs, (k : Int), xs[k], rfl, rfl, sq_of hi', atI_nat (by rw [List.getElem?_eq_getElem hk]), q _ H' (List.getElem_mem hk) e hD'⟩
theorem ok_ups {f : Addr} {fd : FuncData} (F : Fun K "_law_ups" "_law_ups" sUps f fd) (m1 : mg "range" = none) (m3 : mg "len" = none) : FnOk P w K mg base CX0 1 f fd ["_law_kids_here", "_law_kind"] (spUps K) := by
  refine F.ok scUps (fun vs H Q E h => ?_) (fun cdv A outer s H vs Q E hr h => ?_)
  · obtain ⟨p, rs, kk, k, rfl, _⟩ := h
    rfl
  obtain ⟨p, rs, kk, k, rfl, hK, hS, q⟩ := h
  refine ⟨_, pss_one (ps_ret (pe_lc (own := [("_law_up", 2)]) (g := gName 2) rfl scUps.nd (pi_range1 (by rfl) m1 (pa_cons (pe_callB call_len_seq (by rfl) m3 PySem.boot_len (pa_cons (pv 0) pa_nil)) pa_nil)) (blkOk_by (N := nUps) (sc := defScope sUps) (by decide +kernel))
      (fun _ _ _ _ _ => pg_name (i := 2) scUps.nd rfl (Or.inl rfl)) (fun _ _ _ _ _ => pts_one (pt_cmpR (r := rIn K false) op_in_seq (pv 1) (pe_ix (r := rIxL K) ix_list (pv 0) (pv 2) (fun _ _ => rfl)) rfl)) (fun _ _ _ _ _ => pv 2))), ?_⟩
  have hl := hS.1
  let g : PyData → Option PyData := fun d => match d with | .int i => if decide (k ∈ kk.getD i.toNat []) = true then some (.int i) else none | _ => none
  have hR : SrcS K (iRng1 (tCons (tCB (fun xs H Q => ∃ p ys, xs = [.ref p] ∧ (SqL K H p ys ∨ SqT K H p ys) ∧ Q (.int ys.length) H) (tCons (tVar 0) tNil)) tNil)) (start nUps [.ref p, nV k]) H (rngD 0 kk.length) := by
    have q1 := srcS_R1 (K := K) (σ := start nUps [.ref p, nV k]) (H := H) (n := (kk.length : Int)) (ta := tCons (tCB (fun xs H Q => ∃ p ys, xs = [.ref p] ∧ (SqL K H p ys ∨ SqT K H p ys) ∧ Q (.int ys.length) H) (tCons (tVar 0) tNil)) tNil)
      (ea_cons (ev_is (ev_len (K := K) (ev_var rfl) (sq_of hK.at_)) (by rw [List.length_map, hK.len])) ea_nil) (by omega)
    rw [Int.toNat_natCast] at q1
    exact q1
  refine en_lc (K := K) (ds := rngD 0 kk.length) g hR.src (by rw [rngD_len]; omega) (fun _ => rfl) (fun d v H3 e3 hd hv => ?_) (fun d r v H3 e3 hd hv hr => ?_) (fun d r hd hr => ?_) H (Ex.refl H) _ fun l xs H1 hl e1 h1 h2 => ?_
  · obtain ⟨i, hi, rfl⟩ := List.mem_map.mp hd
    have hi := List.mem_range.mp hi
    rw [show (0 : Int) + (i : Int) = (i : Int) by omega] at hv ⊢
    cases dp_int hv
    obtain ⟨r, hr, hrow⟩ := (hK.ex e3).get (List.getElem?_eq_getElem hi)
    refine et_is (et_test (ev_op (x := nV k) (y := .ref r) (ev_var rfl) (ev_row (hK.ex e3) hr (ev_var rfl) (ev_var rfl)) (rv_isL (sq_of hrow) rfl (flat_nVs _)))) ?_
    rw [inV_nat]
    show _ = (if decide (k ∈ kk.getD i []) = true then some (PyData.int (i : Int)) else none).isSome
    rw [List.getD_eq_getElem?_getD, List.getElem?_eq_getElem hi]
    show decide (k ∈ kk[i]) = (if decide (k ∈ kk[i]) = true then some (PyData.int (i : Int)) else none).isSome
    by_cases z : k ∈ kk[i]
    · rw [decide_eq_true z]
      rfl
    · rw [decide_eq_false z]
      rfl
  · obtain ⟨i, hi, rfl⟩ := List.mem_map.mp hd
    have hr : (if decide (k ∈ kk.getD ((0 : Int) + (i : Int)).toNat []) = true then some (PyData.int ((0 : Int) + (i : Int))) else none) = some r := hr
    split at hr
    · cases hr
      exact ed_var rfl hv
    · cases hr
  · obtain ⟨i, hi, rfl⟩ := List.mem_map.mp hd
    have hr : (if decide (k ∈ kk.getD ((0 : Int) + (i : Int)).toNat []) = true then some (PyData.int ((0 : Int) + (i : Int))) else none) = some r := hr
    split at hr
    · cases hr
      rfl
    · cases hr
  · have e : (rngD 0 kk.length).filterMap g = natDs (upsL kk k) := by
      unfold rngD natDs upsL
      rw [List.filterMap_map]
      have key : ∀ l : List Nat, l.filterMap (g ∘ fun (j : Nat) => PyData.int ((0 : Int) + (j : Int))) = (l.filter fun u => decide (k ∈ kk.getD u [])).map natD := fun l => by
        induction l with
        | nil => rfl
        | cons x r ih =>
          have e0 : (g ∘ fun (j : Nat) => PyData.int ((0 : Int) + (j : Int))) x = if decide (k ∈ kk.getD x []) = true then some (natD x) else none := by
            show (if decide (k ∈ kk.getD ((0 : Int) + (x : Int)).toNat []) = true then some (PyData.int ((0 : Int) + (x : Int))) else none) = _
            rw [show ((0 : Int) + (x : Int)).toNat = x by omega, show (0 : Int) + (x : Int) = (x : Int) by omega]
            rfl
          rw [List.filterMap_cons, List.filter_cons, e0, ih]
          by_cases z : k ∈ kk.getD x []
          · rw [decide_eq_true z]
            rfl
          · rw [decide_eq_false z]
            rfl
      exact key _
    rw [e] at h2
    rw [nats_of h2] at h1
    exact q l H1 hl e1 h1
end
end WR
set_option Elab.async false
set_option linter.all false
set_option maxRecDepth 100000
set_option maxHeartbeats 1000000
namespace WR
open PySem PySem.Spec PyProof.Rows L2 Evl

/-! ### _law_down: all that is beneath -/
def un (S : List Nat) : Nat → Nat
  | 0 => 0
  | m + 1 => un S m + (if m ∈ S then 0 else 1)
theorem un_nil : ∀ n, un [] n = n
  | 0 => rfl
  | n + 1 => by
    show un [] n + (if n ∈ ([] : List Nat) then 0 else 1) = n + 1
    rw [un_nil n]
    rfl
theorem un_ge {S : List Nat} {x : Nat} : ∀ {n : Nat}, n ≤ x → un (S ++ [x]) n = un S n
  | 0, _ => rfl
  | n + 1, h => by
    show un (S ++ [x]) n + _ = un S n + _
    rw [un_ge (by omega)]
    have : (n ∈ S ++ [x]) ↔ n ∈ S := by simp; omega
    simp only [this]
theorem un_add {S : List Nat} {x : Nat} : ∀ {n : Nat}, x < n → x ∉ S → un (S ++ [x]) n + 1 = un S n
  | n + 1, h, hx => by
    show (un (S ++ [x]) n + _) + 1 = un S n + _
    by_cases e : x = n
    · subst e
      rw [un_ge (Nat.le_refl _), if_neg hx, if_pos (by simp)]
    · have ih := un_add (S := S) (show x < n by omega) hx
      have : (n ∈ S ++ [x]) ↔ n ∈ S := by simp; omega
      simp only [this]
      omega
def dKs (S : List Nat) : List (Key × V) := S.map fun (k : Nat) => (Sum.inl (k : Int), V.bl true)
theorem dKs_val {k : Nat} : ∀ {S : List Nat}, valV (dKs S) (Sum.inl (k : Int)) = if k ∈ S then some (V.bl true) else none
  | [] => rfl
  | x :: S => by
    by_cases e : x = k
    · subst e
      rw [if_pos (List.mem_cons_self ..)]
      exact valV_pos rfl
    · have hn : ¬ ((Sum.inl (x : Int) : Key) = Sum.inl (k : Int)) := fun z => e (by
        have := Sum.inl.inj z
        omega)
      show valV ((Sum.inl (x : Int), V.bl true) :: dKs S) _ = _
      rw [valV_neg hn, dKs_val]
      have : (k ∈ x :: S) ↔ k ∈ S := by simp [Ne.symm e]
      simp only [this]
theorem dKs_put {k : Nat} {S : List Nat} (h : k ∉ S) : putK (dKs S) (Sum.inl (k : Int)) (V.bl true) = dKs (S ++ [k]) := by
  rw [putK_new _ (by rw [dKs_val, if_neg h])]
  unfold dKs
  rw [List.map_append]
  rfl
def rowAt (kk : List (List Nat)) (u : Nat) : List Nat := kk.getD u []
/-- S: what is beneath kind, and it -/
structure Beneath (kk : List (List Nat)) (kind : Nat) (S : List Nat) : Prop where
  nd : S.Nodup
  self : kind ∈ S
  shut : ∀ u c, u ∈ S → c ∈ rowAt kk u → c ∈ S
  least : ∀ T : Nat → Prop, T kind → (∀ u c, T u → c ∈ rowAt kk u → T c) → ∀ x ∈ S, T x
  lt : ∀ x ∈ S, x < kk.length
def spDown (K : PySem.W.Frag) : Sp := fun vs H Q _ => ∃ p rs kk k, vs = [.ref p, nV k] ∧ KdAt H p rs kk ∧ Sml kk ∧ k < kk.length ∧ (∀ ks ∈ kk, ∀ c ∈ ks, c < kk.length) ∧
  ∀ d H' S, Beneath kk k S → H d = none → Ex H H' → H' d = some (.dK (dKs S)) → Q (.ref d) H'
abbrev nDown : List Str := ["_law_kids_here", "_law_kind", "_law_found", "_law_left", "_law_one_here"]
theorem scDown : FnScope nDown ["_law_kids_here", "_law_kind"] (defScope sDown) := ⟨rfl, rfl, rfl, by decide +kernel, rfl, by decide +kernel, by decide +kernel⟩
theorem eqv_nats_nil : ∀ ks : List Nat, PyData.eqv (.list (natDs ks)) (.list []) = ks.isEmpty
  | [] => by simp [natDs, PyData.eqv, PyData.eqvAll]
  | _ :: _ => by simp [natDs, PyData.eqv, PyData.eqvAll]
theorem shaped_nats (ks : List Nat) : SeqAt.shaped (.list (natDs ks)) = true := by
  have e : natDs ks = (ks.map fun (k : Nat) => (k : Int)).map PyData.int := by
    unfold natDs
    rw [List.map_map]
    rfl
  rw [e]
  exact shaped_ints _
/-- xs != [] -/
theorem et_neNil {K : PySem.W.Frag} {σ : L2.St} {H : Hp} {ta : TE} {l : Addr} {ks : List Nat} (ha : Ev ta σ H (.ref l)) (hl : H l = some (.lst (nVs ks))) : EvT (tTest (tOp (rNeD K) ta (tLst tNil))) σ H (!ks.isEmpty) :=
  et_test (ev_opL (x := .ref l) (xs := []) ha (el_lst ea_nil (by simp)) fun q H1 h1 e1 H2 e2 Q q2 => by
    refine ⟨.list (natDs ks), .list [], .lst (sq_of (e2 _ _ (e1 _ _ hl))) (dpAll_nat ks), .lst (sq_of (e2 _ _ h1)) .nil, shaped_nats ks, shaped_ints [], ?_⟩
    rw [eqv_nats_nil]
    exact q2 H2 (Ex.refl H2))
theorem et_eqNil {K : PySem.W.Frag} {σ : L2.St} {H : Hp} {ta : TE} {l : Addr} {ks : List Nat} (ha : Ev ta σ H (.ref l)) (hl : H l = some (.lst (nVs ks))) : EvT (tTest (tOp (rEqD K) ta (tLst tNil))) σ H ks.isEmpty :=
  et_test (ev_opL (x := .ref l) (xs := []) ha (el_lst ea_nil (by simp)) fun q H1 h1 e1 H2 e2 Q q2 => by
    refine ⟨.list (natDs ks), .list [], .lst (sq_of (e2 _ _ (e1 _ _ hl))) (dpAll_nat ks), .lst (sq_of (e2 _ _ h1)) .nil, shaped_nats ks, shaped_ints [], ?_⟩
    rw [eqv_nats_nil]
    exact q2 H2 (Ex.refl H2))
/-- x = xs.pop() -/
theorem q_pop {K : PySem.W.Frag} {σ : L2.St} {H : Hp} {ta : TE} {D : Ends} {tz : TS} {i : Nat} {l : Addr} {xs : List V} {x : V} (ha : Ev ta σ H (.ref l)) (hl : H l = some (.lst (xs ++ [x]))) (k : ∀ H1, Ex H H1 → tz D (σ.set i (some x)) (upd H1 l (.lst xs))) :
    tSeq (tAsg (tBM0 K "list" rPop ta) (gName i)) tz D σ H := ha H (Ex.refl H) _ fun H1 e1 => by
  have h1 := e1 _ _ hl
  refine ⟨.inl ⟨rfl, _, sq_of h1⟩, l, _, x, rfl, rfl, h1, by simp, ?_⟩
  rw [List.dropLast_concat]
  exact k H1 e1
theorem et_dnotin {σ : L2.St} {H : Hp} {td ty : TE} {d : Addr} {kvs : List (Key × V)} {k : Int} (hd : Ev td σ H (.ref d)) (hk : Ev ty σ H (.int k)) (h : H d = some (.dK kvs)) : EvT (tB (tDNotIn ty td)) σ H (!(valV kvs (Sum.inl k)).isSome) := fun H1 e Q q =>
  hk H1 e _ fun H2 e2 => hd H2 (e.trans e2) _ fun H3 e3 => ⟨d, _, rfl, DGet.k (k := Sum.inl k) (((e.trans e2).trans e3) _ _ h), _, rfl, q H3 (e2.trans e3)⟩
theorem et_din {σ : L2.St} {H : Hp} {td ty : TE} {d : Addr} {kvs : List (Key × V)} {k : Int} (hd : Ev td σ H (.ref d)) (hk : Ev ty σ H (.int k)) (h : H d = some (.dK kvs)) : EvT (tB (tDIn ty td)) σ H (valV kvs (Sum.inl k)).isSome := fun H1 e Q q =>
  hk H1 e _ fun H2 e2 => hd H2 (e.trans e2) _ fun H3 e3 => ⟨d, _, rfl, DGet.k (k := Sum.inl k) (((e.trans e2).trans e3) _ _ h), _, rfl, q H3 (e2.trans e3)⟩
/-- d[k] = v -/
theorem q_dput {σ : L2.St} {H : Hp} {td ty tv : TE} {D : Ends} {tz : TS} {d : Addr} {kvs : List (Key × V)} {k : Int} {v : V} (hv : Ev tv σ H v) (hd : Ev td σ H (.ref d)) (hk : Ev ty σ H (.int k)) (h : H d = some (.dK kvs)) (hz : kvs.length < 100000)
    (c : ∀ H1, Ex H H1 → tz D σ (upd H1 d (.dK (putK kvs (Sum.inl k) v)))) : tSeq (sDPut td ty tv) tz D σ H :=
  hv H (Ex.refl H) _ fun H1 e1 => hd H1 e1 _ fun H2 e2 => hk H2 (e1.trans e2) _ fun H3 e3 => ⟨d, _, rfl, DPut.k (k := Sum.inl k) (((e1.trans e2).trans e3) _ _ h) (sz_lt hz), c H3 ((e1.trans e2).trans e3)⟩
/-- xs.extend(ys) -/
theorem s_extend {K : PySem.W.Frag} {σ : L2.St} {H : Hp} {ta tb : TE} {D : Ends} {l b : Addr} {xs ys : List V} (ha : Ev ta σ H (.ref l)) (hb : Ev tb σ H (.ref b)) (hl : H l = some (.lst xs)) (hy : H b = some (.lst ys)) (hz : xs.length + ys.length ≤ 100000)
    (k : ∀ H1, Ex H H1 → D.nx σ (upd H1 l (.lst (xs ++ ys)))) : tDrop (tBM K "list" rExtend ta (tCons tb tNil)) D σ H :=
  ha H (Ex.refl H) _ fun H1 e1 => ⟨.inl ⟨rfl, _, sq_of (e1 _ _ hl)⟩, hb H1 e1 _ fun H2 e2 => ⟨l, b, xs, ys, rfl, rfl, (e1.trans e2) _ _ hl, (e1.trans e2) _ _ hy, sz_of hz, k H2 (e1.trans e2)⟩⟩
section
variable {P : Program} {w : World} {K : PySem.W.Frag} {mg : Str → Option Value} {base : Heap}
theorem ok_down {f : Addr} {fd : FuncData} (F : Fun K "_law_down" "_law_down" sDown f fd) : FnOk P w K mg base CX0 1 f fd ["_law_kids_here", "_law_kind"] (spDown K) := by
  refine F.ok scDown (fun vs H Q E h => ?_) (fun cdv A outer s H vs Q E hr h => ?_)
  · obtain ⟨p, rs, kk, k, rfl, _⟩ := h
    rfl
  obtain ⟨p, rs, kk, k, rfl, hK, hS, hk, hlt, q⟩ := h
  refine ⟨_, pss_cons (ps_par (i := 2) (j := 3) rfl scDown.nd rfl rfl (by decide) rfl rfl (pa_cons pe_dnewK (pa_cons (pe_lst (pa_cons (pv 1) pa_nil)) pa_nil)) rfl)
    (pss_cons (ps_while PassesOwn.never (pt_cmpR (op_neD (by have := hr.units; exact this)) (pv 3) (pe_lst pa_nil) (nomark _))
      (pss_cons (ps_set (i := 4) scDown.nd rfl (.inl rfl) (pe_bm0 PySem.F.plainAttrs_list PySem.F.slot_list_pop PySem.F.type_list_pop mt_pop (pv 3)))
      (pss_one (ps_if (pt_cmp (pc_dnotin (hu_of hr) (pv 4) (pv 2))) (pss_cons (ps_dput (hu_of hr) (pv 2) (pv 4) pe_bl rfl)
        (pss_one (ps_expr (pe_bm PySem.F.plainAttrs_list PySem.F.slot_list_extend PySem.F.type_list_extend mt_extend (pv 3) (pa_cons (pe_ix ix_list (pv 0) (pv 4) (fun _ _ => rfl)) pa_nil))))) pss_nil))))
    (pss_one (ps_ret (pv 2)))), ?_⟩
  have hn : kk.length ≤ 40 := hS.1
  let S4 (x2 x3 x4 : Option V) : L2.St := [some (.ref p), some (nV k), x2, x3, x4]
  -- the dict and the list
  intro d hd
  have e1 : Ex H (upd H d (.dK [])) := Ex.new hd
  refine ⟨nV k, rfl, by show 1 ≤ sizeLine; decide, fun lf hlf => ⟨.ref d, .ref lf, rfl, ?_⟩⟩
  have e2 : Ex H (upd (upd H d (.dK [])) lf (.lst [nV k])) := e1.trans (Ex.new hlf)
  have hlf0 : H lf = none := fresh_back e1 hlf
  have hne : d ≠ lf := ne_of_none (show upd H d (.dK []) d = some (.dK []) from upd_same) hlf
  have hd2 : upd (upd H d (.dK [])) lf (.lst [nV k]) d = some (.dK (dKs [])) := by
    rw [upd_ne hne, upd_same]
    rfl
  have hl2 : upd (upd H d (.dK [])) lf (.lst [nV k]) lf = some (.lst (nVs [k])) := upd_same
  show tSeq (tWhile _ _) _ _ (S4 (some (.ref d)) (some (.ref lf)) none) (upd (upd H d (.dK [])) lf (.lst [nV k]))
  generalize upd (upd H d (.dK [])) lf (.lst [nV k]) = H2 at e2 hd2 hl2 ⊢
  clear e1 hlf
  have row_lt : ∀ u c, c ∈ rowAt kk u → c < kk.length := fun u c h => by
    unfold rowAt at h
    rw [List.getD_eq_getElem?_getD] at h
    cases e : kk[u]? with
    | none =>
      rw [e] at h
      cases h
    | some ks =>
      rw [e] at h
      exact hlt ks (List.mem_of_getElem? e) c h
  let Inv (m : Nat) (σ' : L2.St) (H' : Hp) : Prop := ∃ (S left : List Nat) (x4 : Option V), σ' = S4 (some (.ref d)) (some (.ref lf)) x4 ∧ Ex H H' ∧ H' d = some (.dK (dKs S)) ∧ H' lf = some (.lst (nVs left)) ∧
    m = 41 * un S kk.length + left.length ∧ S.length + un S kk.length = kk.length ∧ S.Nodup ∧ (∀ x ∈ S, x < kk.length) ∧ (∀ x ∈ left, x < kk.length) ∧ (k ∈ S ∨ k ∈ left) ∧ (∀ u c, u ∈ S → c ∈ rowAt kk u → c ∈ S ∨ c ∈ left) ∧
    (∀ T : Nat → Prop, T k → (∀ u c, T u → c ∈ rowAt kk u → T c) → (∀ x ∈ S, T x) ∧ ∀ x ∈ left, T x) ∧ m ≤ 41 * 40 + 1
  refine q_while Inv (41 * un [] kk.length + 1) ⟨[], [k], none, rfl, e2, hd2, hl2, rfl, ?_, List.nodup_nil, ?_, ?_, .inr (List.mem_singleton.mpr rfl), ?_, ?_, ?_⟩ fun m σ' H' hI => ?_
  · rw [un_nil]
    exact Nat.zero_add _
  · exact fun x h => by cases h
  · exact fun x h => by rw [List.mem_singleton.mp h]; exact hk
  · exact fun u c h => by cases h
  · exact fun T h1 h2 => ⟨fun x h => (by cases h), fun x h => (by rw [List.mem_singleton.mp h]; exact h1)⟩
  · rw [un_nil]
    omega
  obtain ⟨S, left, x4, rfl, e3, hd3, hl3, hm, hun, hnd, hSl, hLl, hkin, hcl, hmin, hmb⟩ := hI
  refine ⟨!left.isEmpty, et_neNil (ev_var rfl) hl3, fun hb H3 e4 => ?_, fun hb H3 e4 => ?_⟩
  · have hne0 : left ≠ [] := fun z => by
      rw [z] at hb
      cases hb
    obtain ⟨init, x, rfl⟩ : ∃ init x, left = init ++ [x] := ⟨left.dropLast, left.getLast hne0, (List.dropLast_concat_getLast hne0).symm⟩
    have hx : x < kk.length := hLl x (by simp)
    have hlen : (init ++ [x]).length = init.length + 1 := by simp
    refine ⟨fun σ2 H2 => ∃ m', m' < m ∧ Inv m' σ2 H2, fun σ2 H2 h => h, ?_⟩
    have hl4 := e4 _ _ hl3
    have hd4 := e4 _ _ hd3
    have eS : nVs (init ++ [x]) = nVs init ++ [nV x] := by unfold nVs; rw [List.map_append]; rfl
    rw [eS] at hl4
    refine q_pop (ev_var rfl) hl4 fun H4 e5 => ?_
    have hd4 := e5 _ _ hd4
    have e5 : Ex H (upd H4 lf (.lst (nVs init))) := Ex.mut ((e3.trans e4).trans e5) hlf0
    have hl5 : upd H4 lf (.lst (nVs init)) lf = some (.lst (nVs init)) := upd_same
    have hd5 : upd H4 lf (.lst (nVs init)) d = some (.dK (dKs S)) := by
      rw [upd_ne hne]
      exact hd4
    generalize upd H4 lf (.lst (nVs init)) = H5 at e5 hl5 hd5 ⊢
    refine s_if (b := !(valV (dKs S) (Sum.inl (x : Int))).isSome) (et_dnotin (ev_var rfl) (ev_var rfl) hd5) (fun hb5 H6 e6 => ?_) fun hb5 H6 e6 => ?_
    rotate_left
    · have hxS : x ∈ S := by
        by_cases z : x ∈ S
        · exact z
        · rw [dKs_val, if_neg z] at hb5
          cases hb5
      replace e5 := e5.trans e6
      replace hd5 := e6 _ _ hd5
      replace hl5 := e6 _ _ hl5
      refine ⟨41 * un S kk.length + init.length, by omega, S, init, _, rfl, e5, hd5, hl5, rfl, hun, hnd, hSl, fun y hy => hLl y (List.mem_append_left _ hy), ?_, fun u c hu hc => ?_, fun T h1 h2 => ?_, by omega⟩
      · rcases hkin with h | h
        · exact .inl h
        · rcases List.mem_append.mp h with h | h
          · exact .inr h
          · rw [List.mem_singleton.mp h]
            exact .inl hxS
      · rcases hcl u c hu hc with h | h
        · exact .inl h
        · rcases List.mem_append.mp h with h | h
          · exact .inr h
          · rw [List.mem_singleton.mp h]
            exact .inl hxS
      · exact ⟨(hmin T h1 h2).1, fun y hy => (hmin T h1 h2).2 y (List.mem_append_left _ hy)⟩
    · have hxS : x ∉ S := fun z => by
        rw [dKs_val, if_pos z] at hb5
        cases hb5
      replace e5 := e5.trans e6
      replace hd5 := e6 _ _ hd5
      replace hl5 := e6 _ _ hl5
      have hz : (dKs S).length < 100000 := by
        unfold dKs
        rw [List.length_map]
        omega
      refine q_dput (v := .bl true) ev_c (ev_var rfl) (ev_var rfl) hd5 hz fun H7 e7 => ?_
      rw [dKs_put hxS]
      have e6 : Ex H (upd H7 d (.dK (dKs (S ++ [x])))) := Ex.mut (e5.trans e7) hd
      have hl6 : upd H7 d (.dK (dKs (S ++ [x]))) lf = some (.lst (nVs init)) := by
        rw [upd_ne (Ne.symm hne)]
        exact e7 _ _ hl5
      have hd6 : upd H7 d (.dK (dKs (S ++ [x]))) d = some (.dK (dKs (S ++ [x]))) := upd_same
      generalize upd H7 d (.dK (dKs (S ++ [x]))) = H6 at e6 hl6 hd6 ⊢
      have hrx : kk[x]? = some (rowAt kk x) := by
        unfold rowAt
        rw [List.getD_eq_getElem?_getD, List.getElem?_eq_getElem hx]
        rfl
      obtain ⟨r, hr, hrow⟩ := (hK.ex e6).get hrx
      have hrl : (rowAt kk x).length ≤ 40 := hS.2 _ (List.mem_of_getElem? hrx)
      have hua := un_add (S := S) hx hxS
      refine s_extend (ev_var rfl) (ev_row (hK.ex e6) hr (ev_var rfl) (ev_var rfl)) hl6 hrow ?_ fun H8 e8 => ?_
      · unfold nVs
        rw [List.length_map, List.length_map]
        omega
      replace e6 := e6.trans e8
      replace hd6 := e8 _ _ hd6
      rw [show nVs init ++ nVs (rowAt kk x) = nVs (init ++ rowAt kk x) by unfold nVs; rw [List.map_append]]
      refine ⟨41 * un (S ++ [x]) kk.length + (init ++ rowAt kk x).length, ?_, S ++ [x], init ++ rowAt kk x, _, rfl, Ex.mut e6 hlf0, ?_, upd_same, rfl, ?_, ?_, fun y hy => ?_, fun y hy => ?_, ?_, fun u c hu hc => ?_, fun T h1 h2 => ?_, ?_⟩
      · rw [List.length_append]
        omega
      · rw [upd_ne hne]
        exact hd6
      · rw [List.length_append, List.length_singleton]
        omega
      · rw [List.nodup_append]
        exact ⟨hnd, by simp, fun a ha b hb z => hxS (by rw [List.mem_singleton.mp hb] at z; exact z ▸ ha)⟩
      · rcases List.mem_append.mp hy with h | h
        · exact hSl y h
        · rw [List.mem_singleton.mp h]
          exact hx
      · rcases List.mem_append.mp hy with h | h
        · exact hLl y (List.mem_append_left _ h)
        · exact row_lt x y h
      · rcases hkin with h | h
        · exact .inl (List.mem_append_left _ h)
        · rcases List.mem_append.mp h with h | h
          · exact .inr (List.mem_append_left _ h)
          · rw [List.mem_singleton.mp h]
            exact .inl (by simp)
      · rcases List.mem_append.mp hu with h | h
        · rcases hcl u c h hc with h | h
          · exact .inl (List.mem_append_left _ h)
          · rcases List.mem_append.mp h with h | h
            · exact .inr (List.mem_append_left _ h)
            · rw [List.mem_singleton.mp h]
              exact .inl (by simp)
        · rw [List.mem_singleton.mp h] at hc
          exact .inr (List.mem_append_right _ hc)
      · have hT := hmin T h1 h2
        have hTx := hT.2 x (by simp)
        refine ⟨fun y hy => ?_, fun y hy => ?_⟩
        · rcases List.mem_append.mp hy with h | h
          · exact hT.1 y h
          · rw [List.mem_singleton.mp h]
            exact hTx
        · rcases List.mem_append.mp hy with h | h
          · exact hT.2 y (List.mem_append_left _ h)
          · exact h2 x y hTx h
      · rw [List.length_append]
        omega
  · have hne0 : left = [] := by simpa using hb
    subst hne0
    have hd4 := e4 _ _ hd3
    refine s_ret (v := .ref d) (ev_var rfl) fun H4 e5 => q d H4 S ⟨hnd, ?_, fun u c hu hc => ?_, fun T h1 h2 => (hmin T h1 h2).1, hSl⟩ hd ((e3.trans e4).trans e5) (e5 _ _ hd4)
    · rcases hkin with h | h
      · exact h
      · cases h
    · rcases hcl u c hu hc with h | h
      · exact h
      · cases h
end
end WR
set_option Elab.async false
set_option linter.all false
set_option maxRecDepth 100000
set_option maxHeartbeats 2000000
namespace WR
open PySem PySem.Spec PyProof.Rows L2 Evl

/-! ### comprehensions that choose among numbers -/
theorem given_nat {ks : List Nat} {g : Nat → Bool} : given ks.length (fun i => g (ks.getD i 0)) (fun i => nV (ks.getD i 0)) = nVs (ks.filter g) := by
  unfold given nVs
  have e : (List.range ks.length).map (fun i => ks.getD i 0) = ks := by
    refine List.ext_getElem? fun i => ?_
    rw [List.getElem?_map]
    by_cases h : i < ks.length
    · rw [List.getElem?_range h, List.getElem?_eq_getElem h, Option.map_some, List.getD_eq_getElem?_getD, List.getElem?_eq_getElem h]
      rfl
    · rw [List.getElem?_eq_none (by rw [List.length_range]; omega), List.getElem?_eq_none (by omega)]
      rfl
  have key : ∀ l : List Nat, (l.filter fun i => g (ks.getD i 0)).map (fun i => nV (ks.getD i 0)) = ((l.map fun i => ks.getD i 0).filter g).map nV := fun l => by
    induction l with
    | nil => rfl
    | cons x r ih =>
      rw [List.filter_cons, List.map_cons, List.filter_cons]
      cases h : g (ks.getD x 0) with
      | true =>
        rw [if_pos rfl, if_pos rfl, List.map_cons, List.map_cons, ih]
      | false =>
        rw [if_neg Bool.false_ne_true, if_neg Bool.false_ne_true, ih]
  rw [key, e]
section
variable {K : PySem.W.Frag} {σ : L2.St} {H H' : Hp} {ta tb te tl : TE} {t : TT}
theorem nVs_get {ks : List Nat} {i : Nat} {x : V} (h : (nVs ks)[i]? = some x) : ∃ k, ks[i]? = some k ∧ x = nV k ∧ ks.getD i 0 = k ∧ k ∈ ks := by
  unfold nVs at h
  rw [List.getElem?_map] at h
  obtain ⟨k, hk, rfl⟩ := Option.map_eq_some_iff.mp h
  exact ⟨k, hk, rfl, by rw [List.getD_eq_getElem?_getD, hk]; rfl, List.mem_of_getElem? hk⟩
theorem el_natLc {j : Nat} {vs : List Nat} {a : Addr} {ks : List Nat} (g : Nat → Bool) (h : Ev tl σ H (.ref a)) (hx : SqL K H a (nVs ks)) (hz : ks.length ≤ 40000) (hw : ∀ x, wipe ((wipe σ vs).set j (some x)) vs = wipe σ vs) (hj : j < (wipe σ vs).length)
    (ht : ∀ k H1, Ex H H1 → k ∈ ks → EvT t ((wipe σ vs).set j (some (nV k))) H1 (g k)) : EvL (tLc (iList K tl) (gName j) t (tVar j) vs) σ H (nVs (ks.filter g)) := by
  rw [← given_nat]
  have q := el_lcL (K := K) (xs := nVs ks) (σ := σ) (H := H) (t := t) (te := tVar j) (vs := vs) (j := j) (fun i => g (ks.getD i 0)) (fun i => nV (ks.getD i 0)) h hx (by unfold nVs; rw [List.length_map]; exact hz) hw (fun i x H1 e hi => by
    obtain ⟨k, _, rfl, h1, hm⟩ := nVs_get hi
    rw [h1]
    exact ht k H1 e hm) (fun i x H1 e hi _ => by
    obtain ⟨k, _, rfl, h1, hm⟩ := nVs_get hi
    rw [h1]
    exact ev_var (by rw [List.getElem?_set_self hj]))
  have e : (nVs ks).length = ks.length := by unfold nVs; rw [List.length_map]
  rw [e] at q
  exact q
theorem el_rngLc {ta : TA} {j n : Nat} {vs : List Nat} (g : Nat → Bool) (h : EvA ta σ H [.int (n : Int)]) (hn : n ≤ 40000) (hw : ∀ x, wipe ((wipe σ vs).set j (some x)) vs = wipe σ vs) (hj : j < (wipe σ vs).length)
    (ht : ∀ k H1, Ex H H1 → k < n → EvT t ((wipe σ vs).set j (some (nV k))) H1 (g k)) : EvL (tLc (iRng1 ta) (gName j) t (tVar j) vs) σ H (nVs ((List.range n).filter g)) := by
  have q := el_lcR1 (σ := σ) (H := H) (t := t) (te := tVar j) (vs := vs) (j := j) (n := (n : Int)) g nV h ⟨by omega, by omega⟩ hw (fun i H1 e hi => ht i H1 e (by omega)) (fun i H1 e hi _ => ev_var (by rw [List.getElem?_set_self hj]; rfl))
  rw [Int.toNat_natCast] at q
  exact q
/-- what a def hands back: a new list -/
theorem el_ups {E : XK} {tp tk : TE} {p : Addr} {rs : List Addr} {kk : List (List Nat)} {k : Nat} (hp : Ev tp σ H (.ref p)) (hk : Ev tk σ H (nV k)) (hK : KdAt H p rs kk) (hS : Sml kk) : EvL (tCall (spUps K) [] E (tCons tp (tCons tk tNil))) σ H (nVs (upsL kk k)) := fun H1 e Q q =>
  hp H1 e _ fun H2 e2 => hk H2 (e.trans e2) _ fun H3 e3 => ⟨p, rs, kk, k, rfl, hK.ex ((e.trans e2).trans e3), hS, fun l H4 hl e4 h4 => q l H4 (fresh_back (e2.trans e3) hl) ((e2.trans e3).trans e4) h4⟩
theorem ev_lenL {ks : List Nat} (h : EvL te σ H (nVs ks)) : Ev (tCB (rLenS K) (tCons te tNil)) σ H (nV ks.length) := ev_is (ev_lenN (K := K) h) (by unfold nVs nV; rw [List.length_map])
end

/-! ### rows and their numbers -/
theorem cnt_ups (kk : List (List Nat)) (k : Nat) : (upsL kk k).length = cnt (rowAt kk) k kk.length := by
  unfold upsL
  have key : ∀ n, ((List.range n).filter fun u => decide (k ∈ kk.getD u [])).length = cnt (rowAt kk) k n := fun n => by
    induction n with
    | zero => rfl
    | succ n ih =>
      rw [List.range_succ, List.filter_append, List.length_append, ih, List.filter_cons]
      show _ = cnt (rowAt kk) k n + (if k ∈ rowAt kk n then 1 else 0)
      by_cases z : k ∈ kk.getD n []
      · rw [decide_eq_true z, if_pos rfl, if_pos (show k ∈ rowAt kk n from z)]
        rfl
      · rw [decide_eq_false z, if_neg Bool.false_ne_true, if_neg (show ¬ k ∈ rowAt kk n from z)]
        rfl
  exact key _
theorem mem_ups {kk : List (List Nat)} {k u : Nat} : u ∈ upsL kk k ↔ u < kk.length ∧ k ∈ rowAt kk u := by
  unfold upsL
  rw [List.mem_filter, List.mem_range, decide_eq_true_eq]
  rfl
theorem rowAt_get {kk : List (List Nat)} {u : Nat} (h : u < kk.length) : kk[u]? = some (rowAt kk u) := by
  unfold rowAt
  rw [List.getD_eq_getElem?_getD, List.getElem?_eq_getElem h]
  rfl
theorem rowAt_set {kk : List (List Nat)} {u : Nat} {ks : List Nat} (h : u < kk.length) : rowAt (kk.set u ks) = setK (rowAt kk) u ks := by
  funext x
  show (kk.set u ks).getD x [] = if x = u then ks else kk.getD x []
  rw [List.getD_eq_getElem?_getD, List.getD_eq_getElem?_getD, List.getElem?_set]
  by_cases e : u = x
  · subst e
    rw [if_pos rfl, if_pos rfl, if_pos h]
    rfl
  · rw [if_neg e, if_neg (Ne.symm e)]
theorem rowAt_app {kk : List (List Nat)} {ks : List Nat} : rowAt (kk ++ [ks]) = setK (rowAt kk) kk.length ks := by
  funext x
  show (kk ++ [ks]).getD x [] = if x = kk.length then ks else kk.getD x []
  rw [List.getD_eq_getElem?_getD, List.getD_eq_getElem?_getD, List.getElem?_append]
  by_cases e : x = kk.length
  · subst e
    rw [if_neg (Nat.lt_irrefl _), if_pos rfl, Nat.sub_self]
    rfl
  · rw [if_neg e]
    by_cases h : x < kk.length
    · rw [if_pos h]
    · rw [if_neg h, List.getElem?_eq_none (show kk.length ≤ x by omega), List.getElem?_eq_none (by simp; omega)]

/-! ### the surroundings: B stands, but the deck in it; the rows are new -/
structure Bs (B H : Hp) (dk L : Addr) (ns : List Int) (N : Int) : Prop where
  ex : Ex (rem B dk) H
  deck : Dk H dk L ns N
  bdk : ∃ o, B dk = some o
  bL : ∃ o, B L = some o
structure Kds (B H : Hp) (p : Addr) (rs : List Addr) (kk : List (List Nat)) : Prop where
  kd : KdAt H p rs kk
  bp : B p = none
  br : ∀ r ∈ rs, B r = none
theorem Bs.more {B H H' : Hp} {dk L : Addr} {ns : List Int} {N : Int} (b : Bs B H dk L ns N) (e : Ex H H') : Bs B H' dk L ns N := ⟨b.ex.trans e, b.deck.ex e, b.bdk, b.bL⟩
theorem Kds.ex {B H H' : Hp} {p : Addr} {rs : List Addr} {kk : List (List Nat)} (k : Kds B H p rs kk) (e : Ex H H') : Kds B H' p rs kk := ⟨k.kd.ex e, k.bp, k.br⟩
theorem Bs.ne {B H : Hp} {dk L : Addr} {ns : List Int} {N : Int} (b : Bs B H dk L ns N) {r : Addr} (h : B r = none) : r ≠ dk := fun z => by
  obtain ⟨o, ho⟩ := b.bdk
  rw [z, ho] at h
  cases h
/-- a new thing in H is none of B's -/
theorem Bs.new {B H : Hp} {dk L : Addr} {ns : List Int} {N : Int} (b : Bs B H dk L ns N) {r : Addr} (h : H r = none) : B r = none := by
  cases e : B r with
  | none => rfl
  | some o =>
    have hne : r ≠ dk := fun z => by
      obtain ⟨_, _, _, d, _⟩ := b.deck
      rw [z, d.at_] at h
      cases h
    have q := b.ex r o (by rw [rem_ne hne]; exact e)
    rw [h] at q
    cases q
/-- a thing that is none of B's may change -/
theorem Bs.upd {B H : Hp} {dk L : Addr} {ns : List Int} {N : Int} {r : Addr} {o : HO} (b : Bs B H dk L ns N) (h : B r = none) : Bs B (upd H r o) dk L ns N := by
  have hne := b.ne h
  have hL : L ≠ r := fun z => by
    obtain ⟨o, ho⟩ := b.bL
    rw [z, h] at ho
    cases ho
  obtain ⟨x, y, n, d, hn⟩ := b.deck
  refine ⟨Ex.mut b.ex (by rw [rem_ne hne]; exact h), ⟨x, y, n, ⟨?_, ?_, d.a0, d.b0, d.n0, d.len⟩, hn⟩, b.bdk, b.bL⟩
  · rw [upd_ne (Ne.symm hne)]
    exact d.at_
  · rw [upd_ne hL]
    exact d.ls
theorem Bs.draw {B H H' : Hp} {dk L : Addr} {ns : List Int} {N M : Int} (b : Bs B H dk L ns N) (e : Ex (rem H dk) H') (d : Dk H' dk L ns M) : Bs B H' dk L ns M := ⟨rem_trans b.ex e, d, b.bdk, b.bL⟩
theorem Kds.draw {B H H' : Hp} {dk L : Addr} {ns : List Int} {N : Int} {p : Addr} {rs : List Addr} {kk : List (List Nat)} (k : Kds B H p rs kk) (b : Bs B H dk L ns N) (e : Ex (rem H dk) H') : Kds B H' p rs kk := by
  refine ⟨⟨e _ _ (by rw [rem_ne (b.ne k.bp)]; exact k.kd.at_), k.kd.len, k.kd.nd, k.kd.np, fun i r ks h1 h2 => ?_⟩, k.bp, k.br⟩
  exact e _ _ (by rw [rem_ne (b.ne (k.br r (List.mem_of_getElem? h1)))]; exact k.kd.row i r ks h1 h2)
/-- a row changes -/
theorem Kds.row {B H : Hp} {p r : Addr} {rs : List Addr} {kk : List (List Nat)} {u : Nat} {ks : List Nat} (k : Kds B H p rs kk) (hr : rs[u]? = some r) : Kds B (upd H r (.lst (nVs ks))) p rs (kk.set u ks) := by
  have hm := List.mem_of_getElem? hr
  have hpr : p ≠ r := fun z => k.kd.np (z ▸ hm)
  refine ⟨⟨by rw [upd_ne hpr]; exact k.kd.at_, by rw [List.length_set]; exact k.kd.len, k.kd.nd, k.kd.np, fun i r' ks' h1 h2 => ?_⟩, k.bp, k.br⟩
  by_cases e : i = u
  · subst e
    rw [hr] at h1
    cases h1
    have hl := (List.getElem?_eq_some_iff.mp h2).1
    rw [List.length_set] at hl
    rw [List.getElem?_set_self hl] at h2
    cases h2
    exact upd_same
  · rw [List.getElem?_set_ne (Ne.symm e)] at h2
    have hne : r' ≠ r := fun z => by
      subst z
      have h3 := List.getElem?_eq_some_iff.mp h1
      have h4 := List.getElem?_eq_some_iff.mp hr
      obtain ⟨a1, a2⟩ := h3
      obtain ⟨b1, b2⟩ := h4
      exact e ((List.getElem_inj k.kd.nd).mp (a2.trans b2.symm))
    rw [upd_ne hne]
    exact k.kd.row i r' ks' h1 h2
/-- a row more: r new -/
theorem Kds.app {B H : Hp} {p r : Addr} {rs : List Addr} {kk : List (List Nat)} {ks : List Nat} (k : Kds B H p rs kk) (hr : H r = some (.lst (nVs ks))) (hnew : r ∉ p :: rs) (hb : B r = none) : Kds B (upd H p (.lst ((rs ++ [r]).map V.ref))) p (rs ++ [r]) (kk ++ [ks]) := by
  rw [List.mem_cons, not_or] at hnew
  refine ⟨⟨upd_same, by rw [List.length_append, List.length_append, k.kd.len]; rfl, ?_, ?_, fun i r' ks' h1 h2 => ?_⟩, k.bp, fun x hx => ?_⟩
  · rw [List.nodup_append]
    exact ⟨k.kd.nd, by simp, fun a ha b hb' z => hnew.2 (by rw [List.mem_singleton.mp hb'] at z; exact z ▸ ha)⟩
  · intro z
    rcases List.mem_append.mp z with z | z
    · exact k.kd.np z
    · exact hnew.1 (List.mem_singleton.mp z).symm
  · rw [List.getElem?_append] at h1 h2
    rw [k.kd.len] at h1
    by_cases hi : i < kk.length
    · rw [if_pos hi] at h1 h2
      have hne : r' ≠ p := fun z => k.kd.np (z ▸ List.mem_of_getElem? h1)
      rw [upd_ne hne]
      exact k.kd.row i r' ks' h1 h2
    · rw [if_neg hi] at h1 h2
      have e0 : i - kk.length = 0 := by
        have := (List.getElem?_eq_some_iff.mp h1).1
        simp at this
        omega
      rw [e0] at h1 h2
      cases h1
      cases h2
      rw [upd_ne hnew.1]
      exact hr
  · rcases List.mem_append.mp hx with h | h
    · exact k.br x h
    · rw [List.mem_singleton.mp h]
      exact hb

theorem KdAt.fresh {H : Hp} {p x : Addr} {rs : List Addr} {kk : List (List Nat)} (k : KdAt H p rs kk) (h : H x = none) : x ∉ p :: rs := fun z => by
  rcases List.mem_cons.mp z with z | z
  · rw [z, k.at_] at h
    cases h
  · obtain ⟨i, hi, ei⟩ := List.mem_iff_getElem.mp z
    have := k.row i x _ (by rw [List.getElem?_eq_getElem hi, ei]) (rowAt_get (by rw [← k.len]; exact hi))
    rw [this] at h
    cases h
theorem Bs.wk {B H : Hp} {dk L : Addr} {ns : List Int} {N M : Int} (b : Bs B H dk L ns N) (h : N ≤ M) : Bs B H dk L ns M := by
  obtain ⟨x, y, n, d, hn⟩ := b.deck
  exact ⟨b.ex, ⟨x, y, n, d, Int.le_trans hn h⟩, b.bdk, b.bL⟩
theorem nodup_len : ∀ (n : Nat) (ks : List Nat), ks.Nodup → (∀ c ∈ ks, c < n) → ks.length ≤ n
  | 0, ks, _, h => by
    cases ks with
    | nil => exact Nat.le_refl _
    | cons x r => exact absurd (h x (List.mem_cons_self ..)) (by omega)
  | n + 1, ks, hd, h => by
    by_cases e : n ∈ ks
    · have q := nodup_len n (ks.erase n) (hd.erase n) fun c hc => by
        have q1 := (List.Nodup.mem_erase_iff hd).mp hc
        have := h c q1.2
        have := q1.1
        omega
      rw [List.length_erase_of_mem e] at q
      omega
    · have q := nodup_len n ks hd fun c hc => by
        have := h c hc
        have : c ≠ n := fun z => e (z ▸ hc)
        omega
      omega
theorem sml_of {L x : Nat} {kk : List (List Nat)} (g : GenX L kk.length (rowAt kk) x) (h : kk.length ≤ 40) : Sml kk := by
  refine ⟨h, fun ks hks => ?_⟩
  obtain ⟨i, hi, e⟩ := List.mem_iff_getElem.mp hks
  have q : rowAt kk i = ks := by
    unfold rowAt
    rw [List.getD_eq_getElem?_getD, List.getElem?_eq_getElem hi, e]
    rfl
  have := nodup_len kk.length ks (q ▸ g.nd i) fun c hc => g.lt i c (q ▸ hc)
  omega
/-- x is k or beneath it -/
def Rch (kk : List (List Nat)) (k x : Nat) : Prop := ∀ T : Nat → Prop, T k → (∀ u c, T u → c ∈ rowAt kk u → T c) → T x
theorem rch_self {kk : List (List Nat)} {k : Nat} : Rch kk k k := fun _ h _ => h
theorem rch_shut {kk : List (List Nat)} {k : Nat} : Shut (rowAt kk) (Rch kk k) := fun u c h hc T h1 h2 => h2 u c (h T h1 h2) hc
theorem beneath_iff {kk : List (List Nat)} {k x : Nat} {S : List Nat} (h : Beneath kk k S) : x ∈ S ↔ Rch kk k x :=
  ⟨fun hx T h1 h2 => h.least T h1 h2 x hx, fun hx => hx (· ∈ S) h.self h.shut⟩
theorem set_rep {a b : Nat} : ∀ {ks : List Nat} {j : Nat}, ks.Nodup → ks[j]? = some a → ks.set j b = rep a b ks
  | x :: r, 0, hd, h => by
    have e : x = a := by simpa using h
    subst e
    rw [List.nodup_cons] at hd
    show b :: r = (if x = x then b else x) :: rep x b r
    rw [if_pos rfl]
    have : rep x b r = r := by
      unfold rep
      refine (List.map_congr_left fun y hy => ?_).trans (List.map_id r)
      rw [if_neg (fun (w : y = x) => hd.1 (w ▸ hy))]
      rfl
    rw [this]
  | x :: r, j + 1, hd, h => by
    rw [List.nodup_cons] at hd
    have h : r[j]? = some a := by simpa using h
    have hx : x ≠ a := fun z => hd.1 (z ▸ List.mem_of_getElem? h)
    show x :: r.set j b = (if x = a then b else x) :: rep a b r
    rw [if_neg hx, set_rep hd.2 h]
section
variable {K : PySem.W.Frag} {σ : L2.St} {H H' : Hp} {ta tb te tl : TE} {t : TT} {D : Ends} {tz : TS}
theorem et_eqNilL {ks : List Nat} (h : EvL ta σ H (nVs ks)) : EvT (tTest (tOp (rEqD K) ta (tLst tNil))) σ H ks.isEmpty :=
  et_test (ev_opLL (ys := []) h (el_lst ea_nil (by simp)) fun p q H1 h1 h2 e1 H2 e2 Q q2 => by
    refine ⟨.list (natDs ks), .list [], .lst (sq_of (e2 _ _ h1)) (dpAll_nat ks), .lst (sq_of (e2 _ _ h2)) .nil, shaped_nats ks, shaped_ints [], ?_⟩
    rw [eqv_nats_nil]
    exact q2 H2 (Ex.refl H2))
/-- the place of an item that is there -/
theorem ev_index {l : Addr} {ks : List Nat} {j a : Nat} (ha : Ev ta σ H (.ref l)) (hb : Ev tb σ H (nV a)) (hl : H l = some (.lst (nVs ks))) (hj : ks[j]? = some a) (hd : ks.Nodup) :
    Ev (tBM K "list" (rIndex K) ta (tCons tb tNil)) σ H (nV j) := fun H1 e Q q =>
  ha H1 e _ fun H2 e2 => ⟨.inl ⟨rfl, _, sq_of ((e.trans e2) _ _ hl)⟩, hb H2 (e.trans e2) _ fun H3 e3 => by
    refine ⟨l, nVs ks, nV a, j, nV a, rfl, rfl, sq_of (((e.trans e2).trans e3) _ _ hl), rfl, flat_nVs ks, nVs_at hj, by show ((a : Int) == (a : Int)) = true; simp, fun m z hm hz => ?_, q H3 (e2.trans e3)⟩
    obtain ⟨k, hk, rfl, _, _⟩ := nVs_get hz
    show ((k : Int) == (a : Int)) = false
    refine beq_eq_false_iff_ne.mpr fun z => ?_
    have z : k = a := by omega
    subst z
    have h3 := List.getElem?_eq_some_iff.mp hk
    have h4 := List.getElem?_eq_some_iff.mp hj
    obtain ⟨a1, a2⟩ := h3
    obtain ⟨b1, b2⟩ := h4
    have := (List.getElem_inj hd).mp (a2.trans b2.symm)
    omega⟩
/-- a kind in what is beneath -/
theorem et_down {E : XK} {tp tk tx : TE} {p : Addr} {rs : List Addr} {kk : List (List Nat)} {k x : Nat} (hp : Ev tp σ H (.ref p)) (hk : Ev tk σ H (nV k)) (hx : Ev tx σ H (nV x)) (hK : KdAt H p rs kk) (hS : Sml kk) (hkn : k < kk.length) (hlt : ∀ ks ∈ kk, ∀ c ∈ ks, c < kk.length) :
    EvT (tB (tDIn tx (tCall (spDown K) [] E (tCons tp (tCons tk tNil))))) σ H (@decide (Rch kk k x) (Classical.propDecidable _)) := fun H1 e Q q =>
  hx H1 e _ fun H2 e2 => hp H2 (e.trans e2) _ fun H3 e3 => hk H3 ((e.trans e2).trans e3) _ fun H4 e4 => by
    have e14 := (e2.trans e3).trans e4
    refine ⟨p, rs, kk, k, rfl, hK.ex (e.trans e14), hS, hkn, hlt, fun d H5 S hS5 hd e5 h5 => ⟨d, _, rfl, DGet.k (k := Sum.inl (x : Int)) h5, _, rfl, ?_⟩⟩
    have eb : (valV (dKs S) (Sum.inl (x : Int))).isSome = @decide (Rch kk k x) (Classical.propDecidable _) := by
      rw [dKs_val]
      by_cases z : x ∈ S
      · rw [if_pos z]
        exact (@decide_eq_true _ (Classical.propDecidable _) ((beneath_iff hS5).mp z)).symm
      · rw [if_neg z]
        exact (@decide_eq_false _ (Classical.propDecidable _) (fun y => z ((beneath_iff hS5).mpr y))).symm
    rw [eb]
    exact q H5 (e14.trans e5)
/-- three draws at once -/
theorem q_three {dk li p L : Addr} {ns : List Int} {N : Int} {xs : List V} {ks : List Nat} {E E' E'' : XK} {i j l : Nat} (h0 : σ[0]? = some (some (.ref dk))) (h1 : σ[1]? = some (some (.ref p))) (h3 : σ[3]? = some (some (.ref li))) (hD : Dk H dk L ns N) (hN : N ≤ 999999990)
    (hp : H p = some (.lst xs)) (hx1 : 1 ≤ xs.length) (hx2 : xs.length ≤ 1000) (hli : H li = some (.lst (nVs ks))) (hk1 : ks ≠ []) (hk2 : ks.length ≤ 1000) (hne : li ≠ dk)
    (k : ∀ low c way H1, low < xs.length → c ∈ ks → way < 4 → Ex (rem H dk) H1 → Dk H1 dk L ns (N + 3) → tz D (((σ.set i (some (nV low))).set j (some (nV c))).set l (some (nV way))) H1) :
    tSeq (tAsg (tTup (tCons (tCall spDraw [] E (tCons (tVar 0) (tCons (tCB (fun xs H Q => ∃ p ys, xs = [.ref p] ∧ (SqL K H p ys ∨ SqT K H p ys) ∧ Q (.int ys.length) H) (tCons (tVar 1) tNil)) tNil))) (tCons (tCall (spOne K) [] E' (tCons (tVar 0) (tCons (tVar 3) tNil))) (tCons (tCall spDraw [] E'' (tCons (tVar 0) (tCons (tC (.int 4)) tNil))) tNil))))
      (gTup K 3 (gCons (gName i) (gCons (gName j) (gCons (gName l) gNil))))) tz D σ H := by
  refine ⟨.ref dk, h0, .ref p, h1, p, xs, rfl, .inl (sq_of hp), dk, L, ns, _, N, rfl, hD, by omega, by omega, by omega, fun r1 H1 a1 b1 e1 d1 => ?_⟩
  have hpos : 1 ≤ ks.length := by
    cases ks with
    | nil => exact absurd rfl hk1
    | cons _ _ => simp
  refine ⟨.ref dk, h0, .ref li, h3, dk, L, ns, N + 1, li, nVs ks, rfl, d1, by omega, e1 _ _ (by rw [rem_ne hne]; exact hli), hne, by unfold nVs; rw [List.length_map]; exact hpos, by unfold nVs; rw [List.length_map]; omega, fun x H2 hx e2 d2 => ?_⟩
  refine ⟨.ref dk, h0, dk, L, ns, 4, N + 1 + 1, rfl, d2, by omega, by decide, by decide, fun r3 H3 a3 b3 e3 d3 => ?_⟩
  refine ⟨by show 3 ≤ sizeLine; decide, fun T hT => ?_⟩
  obtain ⟨c, hc, rfl⟩ := List.mem_map.mp hx
  refine ⟨T, _, rfl, st_of upd_same, rfl, _, _, rfl, _, _, rfl, _, _, rfl, rfl, ?_⟩
  have q := k r1.toNat c r3.toNat (upd H3 T (.tup [.int r1, nV c, .int r3])) (by omega) hc (by omega) ((rem_trans (rem_trans e1 e2) e3).trans (Ex.new hT)) (by
    rw [show N + 3 = N + 1 + 1 + 1 by omega]
    exact d3.ex (Ex.new hT))
  have z1 : nV r1.toNat = .int r1 := by unfold nV; rw [Int.toNat_of_nonneg a1]
  have z3 : nV r3.toNat = .int r3 := by unfold nV; rw [Int.toNat_of_nonneg a3]
  rw [z1, z3] at q
  exact q
/-- x = one(deck, items) -/
theorem q_one {dk li L : Addr} {ns : List Int} {N : Int} {ks : List Nat} {E : XK} {i : Nat} {tp tl : TE} (h0 : Ev tp σ H (.ref dk)) (h1 : Ev tl σ H (.ref li)) (hD : Dk H dk L ns N) (hN : N ≤ 999999990) (hli : H li = some (.lst (nVs ks))) (hk1 : ks ≠ []) (hk2 : ks.length ≤ 1000) (hne : li ≠ dk)
    (k : ∀ c H1, c ∈ ks → Ex (rem H dk) H1 → Dk H1 dk L ns (N + 1) → tz D (σ.set i (some (nV c))) H1) : tSeq (tAsg (tCall (spOne K) [] E (tCons tp (tCons tl tNil))) (gName i)) tz D σ H :=
  h0 H (Ex.refl H) _ fun H1 e1 => h1 H1 e1 _ fun H2 e2 => by
    have hpos : 1 ≤ ks.length := by
      cases ks with
      | nil => exact absurd rfl hk1
      | cons _ _ => simp
    refine ⟨dk, L, ns, N, li, nVs ks, rfl, hD.ex (e1.trans e2), by omega, (e1.trans e2) _ _ hli, hne, by unfold nVs; rw [List.length_map]; exact hpos, by unfold nVs; rw [List.length_map]; omega, fun x H3 hx e3 d3 => ?_⟩
    obtain ⟨c, hc, rfl⟩ := List.mem_map.mp hx
    exact k c H3 hc ((rem_mono (e1.trans e2)).trans e3) d3
end
end WR
set_option Elab.async false
set_option linter.all false
set_option maxRecDepth 100000
set_option maxHeartbeats 2000000
namespace WR
open PySem PySem.Spec PyProof.Rows L2 Evl

def spMix (K : PySem.W.Frag) : Sp := fun vs H Q _ => ∃ dk p B L ns N rs kk Lv, vs = [.ref dk, .ref p] ∧ Bs B H dk L ns N ∧ N ≤ 900000000 ∧ Kds B H p rs kk ∧ Gen Lv kk.length (rowAt kk) ∧ Lv ≤ 8 ∧ kk.length ≤ Lv + 18 ∧
  ∀ H' rs' kk', Bs B H' dk L ns (N + 4) → Kds B H' p rs' kk' → Gen Lv kk'.length (rowAt kk') → kk'.length ≤ kk.length + 2 → Q .non H'
abbrev nMix : List Str := ["_law_deck_here", "_law_kids_here", "_law_plain", "_law_inner", "_law_low", "_law_high", "_law_way", "_law_ups_here", "_law_spots", "_law_one_here", "_law_over", "_law_kind"]
theorem scMix : FnScope nMix ["_law_deck_here", "_law_kids_here"] (defScope sLMix) := ⟨rfl, rfl, rfl, by decide +kernel, rfl, by decide +kernel, by decide +kernel⟩
section
variable {P : Program} {w : World} {K : PySem.W.Frag} {mg : Str → Option Value} {base : Heap}
theorem ok_mix {f fW fO fU fD : Addr} {fd fdW fdO fdU fdD : FuncData} (F : Fun K "_law_mix" "_law_mix" sLMix f fd)
    (FW : Fun K "_law_draw" "_law_draw" sDraw fW fdW) (bW : Binds K fdW ["_law_deck_here", "_law_many"] []) (gW : mg "_law_draw" = some (.ref fW))
    (FO : Fun K "_law_one" "_law_one" sOne fO fdO) (bO : Binds K fdO ["_law_deck_here", "_law_items"] []) (gO : mg "_law_one" = some (.ref fO))
    (FU : Fun K "_law_ups" "_law_ups" sUps fU fdU) (bU : Binds K fdU ["_law_kids_here", "_law_kind"] []) (gU : mg "_law_ups" = some (.ref fU))
    (FD : Fun K "_law_down" "_law_down" sDown fD fdD) (bD : Binds K fdD ["_law_kids_here", "_law_kind"] []) (gD : mg "_law_down" = some (.ref fD))
    (m1 : mg "range" = none) (m3 : mg "len" = none)
    (GW : FnOk P w K mg base CX0 1 fW fdW ["_law_deck_here", "_law_many"] spDraw)
    (GO : FnOk P w K mg base CX0 2 fO fdO ["_law_deck_here", "_law_items"] (spOne K))
    (GU : FnOk P w K mg base CX0 1 fU fdU ["_law_kids_here", "_law_kind"] (spUps K))
    (GD : FnOk P w K mg base CX0 1 fD fdD ["_law_kids_here", "_law_kind"] (spDown K)) :
    FnOk P w K mg base CX0 3 f fd ["_law_deck_here", "_law_kids_here"] (spMix K) := by
  refine F.ok scMix (fun vs H Q E h => ?_) (fun cdv A outer s H vs Q E hr h => ?_)
  · obtain ⟨dk, p, B, L, ns, N, rs, kk, Lv, rfl, _⟩ := h
    rfl
  obtain ⟨dk, p, B, L, ns, N, rs, kk, Lv, rfl, hB, hN, hK, hG, hLv, hn, q⟩ := h
  have r1 := hr.mono (show 1 ≤ 2 by decide)
  have hu := hr.units
  apply Exists.intro
  apply And.intro
  case left =>
    refine' pss_cons (ps_set (i := 2) scMix.nd rfl (.inr rfl) (pe_lc (own := [("_law_kind", 11)]) (g := gName 11) rfl scMix.nd
      (pi_range1 (by rfl) m1 (pa_cons (pe_callB call_len_seq (by rfl) m3 PySem.boot_len (pa_cons (pv 1) pa_nil)) pa_nil)) (blkOk_by (N := nMix) (sc := defScope sLMix) (by decide +kernel))
      (fun _ _ _ _ _ => pg_name (i := 11) scMix.nd rfl (Or.inl rfl)) (fun _ _ _ _ _ => pts_one (pt_cmpR op_lt (pe_callB (r := rLenS K) call_len_seq (by rfl) m3 PySem.boot_len (pa_cons (pe_call GU r1 (by rfl) gU FU.kp bU .nil pass0 (pa_cons (pv 1) (pa_cons (pv 11) pa_nil))) pa_nil)) pe_int (nomark _))) (fun _ _ _ _ _ => pv 11))) ?r0
    case' r0 => skip
    refine' pss_cons (ps_setLc (i := 3) (own := [("_law_kind", 11)]) (g := gName 11) rfl scMix.nd rfl rfl (sw_true rfl rfl rfl (by decide +kernel))
      (pi_list (pv 2)) (blkOk_by (N := nMix) (sc := defScope sLMix) (by decide +kernel))
      (fun _ _ _ _ _ => pg_name (i := 11) scMix.nd rfl (Or.inl rfl)) (fun _ _ _ _ _ => pts_one (pt_cmpR (r := rNeD K) (op_neD hu) (pe_ix (r := rIxL K) ix_list (pv 1) (pv 11) (fun _ _ => rfl)) (pe_lst pa_nil) (nomark _))) (fun _ _ _ _ _ => pv 11)) ?r1
    case' r1 => skip
    refine' pss_cons (ps_if (pt_cmpR (op_eqD hu) (pv 3) (pe_lst pa_nil) (nomark _)) (pss_one ps_retN) pss_nil) ?r2
    case' r2 => skip
    refine' pss_cons (ps_asg (pe_tup (pa_cons (pe_call GW r1 (by rfl) gW FW.kp bW .nil pass0 (pa_cons (pv 0) (pa_cons (pe_callB call_len_seq (by rfl) m3 PySem.boot_len (pa_cons (pv 1) pa_nil)) pa_nil)))
        (pa_cons (pe_call GO hr (by rfl) gO FO.kp bO .nil pass0 (pa_cons (pv 0) (pa_cons (pv 3) pa_nil)))
        (pa_cons (pe_call GW r1 (by rfl) gW FW.kp bW .nil pass0 (pa_cons (pv 0) (pa_cons pe_int pa_nil))) pa_nil))))
      (pg_tup rfl (pgs_cons (pg_name (i := 4) scMix.nd rfl (.inr rfl)) (pgs_cons (pg_name (i := 5) scMix.nd rfl (.inl rfl)) (pgs_cons (pg_name (i := 6) scMix.nd rfl (.inl rfl)) pgs_nil))))) ?r3
    case' r3 => skip
    refine' pss_cons (ps_set (i := 7) scMix.nd rfl (.inl rfl) (pe_call GU r1 (by rfl) gU FU.kp bU .nil pass0 (pa_cons (pv 1) (pa_cons (pv 4) pa_nil)))) ?r4
    case' r4 => skip
    refine' pss_cons (ps_if (pw_or (pt_cmpR (op_eqD hu) (pv 7) (pe_lst pa_nil) (nomark _)) (pw_or (pt_cmp (pc_din (hu_of hr) (pv 5) (pe_call GD r1 (by rfl) gD FD.kp bD .nil pass0 (pa_cons (pv 1) (pa_cons (pv 4) pa_nil)))))
        (pw_or1 (pw_and (pt_cmpR op_in_seq (pv 5) (pv 7) rfl) (pw_and1 (pw_or (pt_cmpR op_lt (pv 6) pe_int (nomark _)) (pw_or1 (pt_cmpR op_gt (pe_callB call_len_seq (by rfl) m3 PySem.boot_len (pa_cons (pv 7) pa_nil)) pe_int (nomark _)))).pt)).pt))).pt (pss_one ps_retN) pss_nil) ?r5
    case' r5 => skip
    refine' pss_cons (ps_if (pt_cmpR op_gt (pe_callB call_len_seq (by rfl) m3 PySem.boot_len (pa_cons (pv 7) pa_nil)) pe_int (nomark _))
      (pss_cons (ps_expr (pe_bm PySem.F.plainAttrs_list PySem.F.slot_list_append PySem.F.type_list_append mt_append (pe_ix ix_list (pv 1) (pv 5) (fun _ _ => rfl)) (pa_cons (pv 4) pa_nil))) (pss_one ps_retN)) pss_nil) ?r6
    case' r6 => skip
    refine' pss_cons (ps_if (pt_cmpR (op_eqD hu) (pe_lc (own := [("_law_one_here", 9)]) (g := gName 9) rfl scMix.nd (pi_list (pe_ix ix_list (pv 1) (pe_ix ix_list (pv 7) pe_int (fun _ _ => rfl)) (fun _ _ => rfl))) (blkOk_by (N := nMix) (sc := defScope sLMix) (by decide +kernel))
        (fun _ _ _ _ _ => pg_name (i := 9) scMix.nd rfl (Or.inl rfl)) (fun _ _ _ _ _ => pts_one (pw_and (pt_cmpR op_ne (pv 9) (pv 4) (nomark _)) (pw_and1 (pt_cmpR (r := rIn K false) op_in_seq (pv 9) (pv 2) rfl))).pt) (fun _ _ _ _ _ => pv 9)) (pe_lst pa_nil) (nomark _)) (pss_one ps_retN) pss_nil) ?r7
    case' r7 => skip
    refine' pss_cons (ps_expr (pe_bm PySem.F.plainAttrs_list PySem.F.slot_list_append PySem.F.type_list_append mt_append (pv 1) (pa_cons (pe_lst (pa_cons (pv 4) pa_nil)) pa_nil))) ?r8
    case' r8 => skip
    refine' pss_cons (ps_asg (pe_op op_sub (pe_callB call_len_seq (by rfl) m3 PySem.boot_len (pa_cons (pv 1) pa_nil)) pe_int)
      (pg_sub (pe_ix ix_list (pv 1) (pe_ix ix_list (pv 7) pe_int (fun _ _ => rfl)) (fun _ _ => rfl)) (pe_bm PySem.F.plainAttrs_list PySem.F.slot_list_index PySem.F.type_list_index mt_index (pe_ix ix_list (pv 1) (pe_ix ix_list (pv 7) pe_int (fun _ _ => rfl)) (fun _ _ => rfl)) (pa_cons (pv 4) pa_nil)) set_list)) ?r9
    case' r9 => skip
    refine' pss_cons (ps_setLc (i := 8) (own := [("_law_one_here", 9)]) (g := gName 9) rfl scMix.nd rfl rfl (sw_true rfl rfl rfl (by decide +kernel)) (pi_list (pe_ix ix_list (pv 1) (pv 5) (fun _ _ => rfl))) (blkOk_by (N := nMix) (sc := defScope sLMix) (by decide +kernel))
        (fun _ _ _ _ _ => pg_name (i := 9) scMix.nd rfl (Or.inl rfl)) (fun _ _ _ _ _ => pts_one (pt_cmpR (r := rIn K false) op_in_seq (pv 9) (pv 2) rfl)) (fun _ _ _ _ _ => pv 9)) ?r10
    case' r10 => skip
    refine' pss_cons (ps_if (pw_and (pt_cmpR op_eq (pv 6) pe_int (nomark _)) (pw_and1 (pt_cmpR (op_eqD hu) (pe_call GU r1 (by rfl) gU FU.kp bU .nil pass0 (pa_cons (pv 1) (pa_cons (pv 5) pa_nil))) (pe_lst pa_nil) (nomark _)))).pt
      (pss_one (ps_set (i := 8) scMix.nd rfl (.inl rfl) (pe_lst (pa_cons (pv 5) pa_nil))))
      (pss_one (ps_if (pt_cmpR op_lt (pv 6) pe_int (nomark _)) (pss_cons (ps_expr (pe_bm PySem.F.plainAttrs_list PySem.F.slot_list_append PySem.F.type_list_append mt_append (pe_ix ix_list (pv 1) (pv 5) (fun _ _ => rfl)) (pa_cons (pe_op op_sub (pe_callB call_len_seq (by rfl) m3 PySem.boot_len (pa_cons (pv 1) pa_nil)) pe_int) pa_nil))) (pss_one ps_retN)) pss_nil))) ?r11
    case' r11 => skip
    refine' pss_cons (ps_set (i := 9) scMix.nd rfl (.inl rfl) (pe_call GO hr (by rfl) gO FO.kp bO .nil pass0 (pa_cons (pv 0) (pa_cons (pv 8) pa_nil)))) ?r12
    case' r12 => skip
    refine' pss_cons (ps_set (i := 10) scMix.nd rfl (.inl rfl) (pe_call GU r1 (by rfl) gU FU.kp bU .nil pass0 (pa_cons (pv 1) (pa_cons (pv 9) pa_nil)))) ?r13
    case' r13 => skip
    refine' pss_cons (ps_expr (pe_bm PySem.F.plainAttrs_list PySem.F.slot_list_append PySem.F.type_list_append mt_append (pv 1) (pa_cons (pe_lst (pa_cons (pv 9) (pa_cons (pe_op op_sub (pe_callB call_len_seq (by rfl) m3 PySem.boot_len (pa_cons (pv 1) pa_nil)) pe_int) pa_nil))) pa_nil))) ?r14
    case' r14 => skip
    exact pss_one (ps_if (pt_cmpR (op_neD hu) (pv 10) (pe_lst pa_nil) (nomark _)) (pss_one (ps_asg (pe_op op_sub (pe_callB call_len_seq (by rfl) m3 PySem.boot_len (pa_cons (pv 1) pa_nil)) pe_int)
      (pg_sub (pe_ix ix_list (pv 1) (pe_ix ix_list (pv 10) pe_int (fun _ _ => rfl)) (fun _ _ => rfl)) (pe_bm PySem.F.plainAttrs_list PySem.F.slot_list_index PySem.F.type_list_index mt_index (pe_ix ix_list (pv 1) (pe_ix ix_list (pv 10) pe_int (fun _ _ => rfl)) (fun _ _ => rfl)) (pa_cons (pv 9) pa_nil)) set_list))) pss_nil)
  case right =>
    obtain ⟨Kf, eKf⟩ : ∃ Kf, Kf = rowAt kk := ⟨_, rfl⟩
    have hSm : Sml kk := sml_of hG (by omega)
    have hlt : ∀ ks ∈ kk, ∀ c ∈ ks, c < kk.length := fun ks hks c hc => by
      obtain ⟨i, hi, e⟩ := List.mem_iff_getElem.mp hks
      refine hG.lt i c ?_
      unfold rowAt
      rw [List.getD_eq_getElem?_getD, List.getElem?_eq_getElem hi, e]
      exact hc
    have hn1 : 1 ≤ kk.length := Nat.le_trans hG.l1 hG.ln
    let S (x2 x3 x4 x5 x6 x7 x8 x9 x10 : Option V) : L2.St := [some (.ref dk), some (.ref p), x2, x3, x4, x5, x6, x7, x8, x9, x10, none]
    have done : ∀ H', Ex (rem B dk) H' → Bs B H' dk L ns (N + 4) → ∀ rs, Kds B H' p rs kk → Q .non H' := fun H' _ b rs k => q H' rs kk b k hG (by omega)
    -- the plain kinds
    let g0 : Nat → Bool := fun k => decide (((upsL kk k).length : Int) < 2)
    show tSeq (tAsg _ _) _ _ (S none none none none none none none none none) H
    refine Evl.q_asgL (xs := nVs ((List.range kk.length).filter g0)) (el_rngLc (n := kk.length) g0 (ea_cons (ev_is (ev_len (K := K) (ev_var rfl) (sq_of hK.kd.at_)) (by rw [List.length_map, hK.kd.len])) ea_nil) (by omega) (fun _ => rfl) (show 11 < 12 by decide) fun k H1 e1 hk => ?_) fun lp H1 hlp e1 hp1 => ?_
    · exact et_test (ev_op (ev_lenL (K := K) (el_ups (ev_var rfl) (ev_var rfl) (hK.kd.ex e1) hSm)) ev_c rv_I0)
    have hplain : ∀ k, k ∈ (List.range kk.length).filter g0 ↔ k < kk.length ∧ cnt (rowAt kk) k kk.length ≤ 1 := fun k => by
      rw [List.mem_filter, List.mem_range]
      show _ ∧ decide (((upsL kk k).length : Int) < 2) = true ↔ _
      rw [decide_eq_true_eq, cnt_ups]
      omega
    have hpl : ((List.range kk.length).filter g0).length ≤ kk.length := Nat.le_trans (List.length_filter_le _ _) (by rw [List.length_range]; exact Nat.le_refl _)
    generalize (List.range kk.length).filter g0 = plain at hp1 hplain hpl
    have hB1 := hB.more e1
    have hK1 := hK.ex e1
    have hlpB : B lp = none := hB.new hlp
    have hlpN : lp ∉ p :: rs := hK.kd.fresh hlp
    -- the plain ones with children
    let g1 : Nat → Bool := fun k => !(rowAt kk k).isEmpty
    show tSeq (tAsg _ _) _ _ (S (some (.ref lp)) none none none none none none none none) H1
    refine Evl.q_asgL (xs := nVs (plain.filter g1)) (el_natLc (K := K) g1 (ev_var rfl) (sq_of hp1) (by omega) (fun _ => rfl) (show 11 < 12 by decide) fun k H2 e2 hk => ?_) fun li H2 hli e2 hp2 => ?_
    · obtain ⟨r, hr, hrow⟩ := (hK1.kd.ex e2).get (rowAt_get ((hplain k).mp hk).1)
      exact et_neNil (ev_row (hK1.kd.ex e2) hr (ev_var rfl) (ev_var rfl)) hrow
    have hinner : ∀ k, k ∈ plain.filter g1 ↔ (k < kk.length ∧ cnt (rowAt kk) k kk.length ≤ 1) ∧ rowAt kk k ≠ [] := fun k => by
      rw [List.mem_filter, hplain]
      show _ ∧ (!(rowAt kk k).isEmpty) = true ↔ _
      simp
    have hil : (plain.filter g1).length ≤ kk.length := Nat.le_trans (List.length_filter_le _ _) hpl
    generalize plain.filter g1 = inner at hp2 hinner hil
    have hB2 := hB1.more e2
    have hK2 := hK1.ex e2
    have hliB : B li = none := hB1.new hli
    replace hp1 := e2 _ _ hp1
    show tSeq (tIfS _ _ _) _ _ (S (some (.ref lp)) (some (.ref li)) none none none none none none none) H2
    refine q_when (b := inner.isEmpty) (et_eqNil (ev_var rfl) hp2) (fun hb H3 e3 => done H3 (hB2.more e3).ex ((hB2.more e3).wk (by omega)) rs (hK2.ex e3)) fun hb H3 e3 => ?_
    have hine : inner ≠ [] := by
      intro z
      rw [z] at hb
      cases hb
    have hB3 := hB2.more e3
    have hK3 := hK2.ex e3
    replace hp1 := e3 _ _ hp1
    replace hp2 := e3 _ _ hp2
    -- three draws
    refine q_three (K := K) (dk := dk) (li := li) (p := p) (L := L) (ns := ns) (N := N) (ks := inner) rfl rfl rfl hB3.deck (by omega) hK3.kd.at_ (by rw [List.length_map, hK3.kd.len]; exact hn1) (by rw [List.length_map, hK3.kd.len]; omega) hp2 hine (by omega) (hB3.ne hliB) fun low high way H4 hlow hhigh hway e4 d4 => ?_
    rw [List.length_map, hK3.kd.len] at hlow
    have hB4 := hB3.draw e4 d4
    have hK4 := hK3.draw hB3 e4
    replace hp1 := e4 lp _ (by rw [rem_ne (hB3.ne hlpB)]; exact hp1)
    obtain ⟨⟨hhn, hh1⟩, hhne⟩ := (hinner high).mp hhigh
    clear hp2 hine hil hinner hhigh d4
    have hhL : Lv ≤ high := by
      rcases Nat.lt_or_ge high Lv with z | z
      · exact absurd (hG.leaf high z) hhne
      · exact z
    show tSeq (tAsg _ _) _ _ (S (some (.ref lp)) (some (.ref li)) (some (nV low)) (some (nV high)) (some (nV way)) none none none none) H4
    refine Evl.q_asgL (xs := nVs (upsL kk low)) (el_ups (ev_var rfl) (ev_var rfl) hK4.kd hSm) fun lu H5 hlu e5 hp5 => ?_
    have hB5 := hB4.more e5
    have hK5 := hK4.ex e5
    replace hp1 := e5 _ _ hp1
    have hluB : B lu = none := hB4.new hlu
    have hluN : lu ∉ p :: rs := hK4.kd.fresh hlu
    show tSeq (tIfS _ _ _) _ _ (S (some (.ref lp)) (some (.ref li)) (some (nV low)) (some (nV high)) (some (nV way)) (some (.ref lu)) none none none) H5
    have hUlen : Ev (tCB (fun xs H Q => ∃ p ys, xs = [.ref p] ∧ (SqL K H p ys ∨ SqT K H p ys) ∧ Q (.int ys.length) H) (tCons (tVar 7) tNil)) (S (some (.ref lp)) (some (.ref li)) (some (nV low)) (some (nV high)) (some (nV way)) (some (.ref lu)) none none none) H5 (nV (upsL kk low).length) :=
      ev_is (ev_len (K := K) (ev_var rfl) (sq_of hp5)) (by unfold nVs nV; rw [List.length_map])
    refine q_when (b := (upsL kk low).isEmpty || (@decide (Rch kk low high) (Classical.propDecidable _) || (decide (high ∈ upsL kk low) && (decide ((way : Int) < 2) || decide (1 < ((upsL kk low).length : Int)))))) (et_or (et_eqNil (ev_var rfl) hp5) fun _ => et_or (et_down (ev_var rfl) (ev_var rfl) (ev_var rfl) hK5.kd hSm hlow hlt) fun _ =>
        et_and (et_test (ev_is (ev_op (x := nV high) (y := .ref lu) (ev_var rfl) (ev_var rfl) (rv_isL (K := K) (sq_of hp5) rfl (flat_nVs _))) (by rw [inV_nat]))) fun _ => et_or (et_test (ev_op (ev_var rfl) ev_c rv_I0)) fun _ => et_test (ev_op hUlen ev_c rv_I0))
      (fun hb H6 e6 => done H6 (hB5.more e6).ex ((hB5.more e6).wk (by omega)) rs (hK5.ex e6)) fun hb H6 e6 => ?_
    rw [Bool.or_eq_false_iff, Bool.or_eq_false_iff, Bool.and_eq_false_iff, Bool.or_eq_false_iff] at hb
    obtain ⟨hU0, hRb, hin⟩ := hb
    have hR : ¬ Rch kk low high := fun z => by
      rw [@decide_eq_true _ (Classical.propDecidable _) z] at hRb
      cases hRb
    have hUne : upsL kk low ≠ [] := fun z => by
      rw [z] at hU0
      cases hU0
    have hin : high ∈ upsL kk low → 2 ≤ way ∧ (upsL kk low).length ≤ 1 := fun z => by
      rcases hin with h | ⟨h1, h2⟩
      · exact absurd z (of_decide_eq_false h)
      · have h1 := of_decide_eq_false h1
        have h2 := of_decide_eq_false h2
        omega
    have hhl : high ≠ low := fun z => hR (z ▸ rch_self)
    have hB6 := hB5.more e6
    have hK6 := hK5.ex e6
    replace hp1 := e6 _ _ hp1
    replace hp5 := e6 _ _ hp5
    -- low is a mixing: one parent more
    show tSeq (tIfS _ _ _) _ _ (S (some (.ref lp)) (some (.ref li)) (some (nV low)) (some (nV high)) (some (nV way)) (some (.ref lu)) none none none) H6
    refine q_when (b := decide (1 < ((upsL kk low).length : Int))) (et_test (ev_op (hUlen.mono e6) ev_c rv_I0)) (fun hb H7 e7 => ?_) fun hb H7 e7 => ?_
    · have hb := of_decide_eq_true hb
      have hc2 : 2 ≤ cnt (rowAt kk) low kk.length := by
        rw [← cnt_ups]
        omega
      have hB7 := hB6.more e7
      have hK7 := hK6.ex e7
      obtain ⟨r, hr, hrow⟩ := hK7.kd.get (rowAt_get hhn)
      refine q_app (v := nV low) hrow (ev_row hK7.kd hr (ev_var rfl) (ev_var rfl)) (ev_var rfl) (by unfold nVs; rw [List.length_map]; have := nodup_len _ _ (hG.nd high) (fun c hc => hG.lt high c hc); omega) fun H8 e8 => ?_
      have hrB : B r = none := hK7.br r (List.mem_of_getElem? hr)
      have hlowL : Lv ≤ low := by
        rcases Nat.lt_or_ge low Lv with z | z
        · have := hG.lf1 low z
          omega
        · exact z
      have hnot : low ∉ rowAt kk high := fun z => by
        have := (hin (mem_ups.mpr ⟨hhn, z⟩)).2
        omega
      have hG' := gen_more (hG.at hc2) ⟨hlowL, hlow, hG.mix low hc2, by omega⟩ hhL hhn hh1 hhl hnot rch_shut rch_self hR
      have hK8 := (hK7.ex e8).row (ks := rowAt kk high ++ [low]) hr
      have hB8 : Bs B (upd H8 r (.lst (nVs (rowAt kk high ++ [low])))) dk L ns (N + 3) := (hB7.more e8).upd hrB
      have eR : nVs (rowAt kk high) ++ [nV low] = nVs (rowAt kk high ++ [low]) := by unfold nVs; rw [List.map_append]; rfl
      rw [eR]
      refine q _ rs (kk.set high (rowAt kk high ++ [low])) (hB8.wk (by omega)) hK8 ?_ (by rw [List.length_set]; omega)
      rw [rowAt_set hhn, List.length_set]
      exact hG'
    have hb := of_decide_eq_false hb
    have hU1 : (upsL kk low).length = 1 := by
      have : (upsL kk low).length ≠ 0 := fun z => hUne (List.length_eq_zero_iff.mp z)
      omega
    obtain ⟨up, hU⟩ : ∃ up, upsL kk low = [up] := by
      match h : upsL kk low, hU1 with
      | [up], _ => exact ⟨up, rfl⟩
    have hcl : cnt (rowAt kk) low kk.length = 1 := by rw [← cnt_ups, hU1]
    have hup : up < kk.length ∧ low ∈ rowAt kk up := mem_ups.mp (by rw [hU]; exact List.mem_singleton.mpr rfl)
    have hB7 := hB6.more e7
    have hK7 := hK6.ex e7
    replace hp1 := e7 _ _ hp1
    replace hp5 := e7 _ _ hp5
    rw [hU] at hp5
    clear hUlen hU0 hRb hUne hb
    let S7 (x8 x9 x10 : Option V) : L2.St := S (some (.ref lp)) (some (.ref li)) (some (nV low)) (some (nV high)) (some (nV way)) (some (.ref lu)) x8 x9 x10
    have evU0 : ∀ {x8 x9 x10 : Option V} {H' : Hp}, H' lu = some (.lst (nVs [up])) → Ev (tOp (rIxL K) (tVar 7) (tC (.int 0))) (S7 x8 x9 x10) H' (nV up) := fun h => ev_op (ev_var rfl) ev_c (rv_ixL (K := K) (sq_of h) (atI_nat (j := 0) rfl))
    -- there is another plain child
    obtain ⟨ru, hru, hrowu⟩ := hK7.kd.get (rowAt_get hup.1)
    have hupl : (rowAt kk up).length ≤ kk.length := nodup_len _ _ (hG.nd up) (fun c hc => hG.lt up c hc)
    let g2 : Nat → Bool := fun k => !decide (k = low) && decide (k ∈ plain)
    show tSeq (tIfS _ _ _) _ _ (S7 none none none) H7
    refine q_when (b := ((rowAt kk up).filter g2).isEmpty) (et_eqNilL (K := K) (el_natLc (K := K) (a := ru) g2 (ev_row hK7.kd hru (ev_var rfl) (evU0 hp5)) (sq_of hrowu) (by omega) (fun _ => rfl) (show 9 < 12 by decide) fun k H8 e8 hk => ?_)) (fun hb H8 e8 => done H8 (hB7.more e8).ex ((hB7.more e8).wk (by omega)) rs (hK7.ex e8)) fun hb H8 e8 => ?_
    · refine et_and (et_test (ev_is (ev_op (x := nV k) (y := nV low) (ev_var rfl) (ev_var rfl) (rv_ne rfl)) ?_)) fun _ => et_test (ev_is (ev_op (x := nV k) (y := .ref lp) (ev_var rfl) (ev_var rfl) (rv_isL (K := K) (sq_of (e8 _ _ hp1)) rfl (flat_nVs _))) (by rw [inV_nat]))
      show V.bl (!decide (V.int (k : Int) = V.int (low : Int))) = V.bl (!decide (k = low))
      rw [dec_int]
      congr 2
      by_cases z : k = low
      · subst z
        simp
      · rw [decide_eq_false z]
        exact beq_eq_false_iff_ne.mpr (by omega)
    obtain ⟨c0, hc0, hc0l, hc0p⟩ : ∃ c, c ∈ rowAt kk up ∧ c ≠ low ∧ cnt (rowAt kk) c kk.length ≤ 1 := by
      have hne : (rowAt kk up).filter g2 ≠ [] := fun z => by
        rw [z] at hb
        cases hb
      obtain ⟨c, hc⟩ := List.exists_mem_of_ne_nil _ hne
      rw [List.mem_filter] at hc
      have h2 : (!decide (c = low) && decide (c ∈ plain)) = true := hc.2
      simp only [Bool.and_eq_true, Bool.not_eq_true', decide_eq_false_iff_not, decide_eq_true_eq] at h2
      exact ⟨c, hc.1, h2.1, ((hplain c).mp h2.2).2⟩
    have hB8 := hB7.more e8
    have hK8 := hK7.ex e8
    replace hp1 := e8 _ _ hp1
    replace hp5 := e8 _ _ hp5
    clear hb hrowu
    -- the new mixing
    show tSeq (tDrop _) _ _ (S7 none none none) H8
    refine q_appL (ys := [nV low]) hK8.kd.at_ (ev_var rfl) (el_lst (ea_cons (ev_var rfl) ea_nil) (by simp)) (by rw [List.length_map, hK8.kd.len]; omega) fun rn H9 hrn e9 hnew => ?_
    have hrnB : B rn = none := hB8.new hrn
    have hrnN : rn ∉ p :: rs := hK8.kd.fresh hrn
    have hlprn : lp ≠ rn := ne_of_none hp1 hrn
    have hlurn : lu ≠ rn := ne_of_none hp5 hrn
    have hKa := (hK8.ex e9).app (ks := [low]) hnew hrnN hrnB
    have hBa : Bs B (upd H9 p (.lst ((rs ++ [rn]).map V.ref))) dk L ns (N + 3) := (hB8.more e9).upd hK8.bp
    have keep : ∀ {x : Addr} {o : HO}, H9 x = some o → x ≠ p → upd H9 p (.lst ((rs ++ [rn]).map V.ref)) x = some o := fun h n => by
      rw [upd_ne n]
      exact h
    have hlpp : lp ≠ p := fun z => hlpN (z ▸ List.mem_cons_self ..)
    have hlup : lu ≠ p := fun z => hluN (z ▸ List.mem_cons_self ..)
    have hlp1 : lp ∉ rs ++ [rn] := fun z => by
      rcases List.mem_append.mp z with z | z
      · exact hlpN (List.mem_cons_of_mem _ z)
      · exact hlprn (List.mem_singleton.mp z)
    have hp1a := keep (e9 _ _ hp1) hlpp
    have hp5a := keep (e9 _ _ hp5) hlup
    rw [show rs.map V.ref ++ [.ref rn] = (rs ++ [rn]).map V.ref by rw [List.map_append]; rfl]
    generalize upd H9 p (.lst ((rs ++ [rn]).map V.ref)) = Ha at hKa hBa hp1a hp5a ⊢
    clear keep hnew hp1 hp5 hK8 hB8 hrn hrnN
    generalize rs ++ [rn] = rs1 at hKa hlp1
    have hlen1 : (kk ++ [[low]]).length = kk.length + 1 := by simp
    have hrow1 : rowAt (kk ++ [[low]]) = setK (rowAt kk) kk.length [low] := rowAt_app
    have hup1 : rowAt (kk ++ [[low]]) up = rowAt kk up := by
      rw [hrow1, setK_ne (by omega)]
    -- up has it in low's place
    obtain ⟨ru1, hru1, hrowu1⟩ := hKa.kd.get (rowAt_get (show up < (kk ++ [[low]]).length by omega))
    rw [hup1] at hrowu1
    obtain ⟨ju, hju⟩ : ∃ j : Nat, (rowAt kk up)[j]? = some low := by
      obtain ⟨j, hj, e⟩ := List.mem_iff_getElem.mp hup.2
      exact ⟨j, by rw [List.getElem?_eq_getElem hj, e]⟩
    have hjl := (List.getElem?_eq_some_iff.mp hju).1
    have evLen : ∀ {x8 x9 x10 : Option V} {H' : Hp} {rs' : List Addr} {k' : List (List Nat)}, KdAt H' p rs' k' → Ev (tCB (fun xs H Q => ∃ p ys, xs = [.ref p] ∧ (SqL K H p ys ∨ SqT K H p ys) ∧ Q (.int ys.length) H) (tCons (tVar 1) tNil)) (S7 x8 x9 x10) H' (nV k'.length) := fun h =>
      ev_is (ev_len (K := K) (ev_var rfl) (sq_of h.at_)) (by unfold nV; rw [List.length_map, h.len])
    show tSeq (tAsg _ _) _ _ (S7 none none none) Ha
    refine q_setL (l := ru1) (j := ju) (v := nV kk.length) hrowu1 (ev_is (ev_op (evLen hKa.kd) ev_c rv_I0) (by rw [hlen1]; show V.int _ = V.int _; congr 1; omega)) (ev_row hKa.kd hru1 (ev_var rfl) (evU0 hp5a)) (ev_index (ev_row hKa.kd hru1 (ev_var rfl) (evU0 hp5a)) (ev_var rfl) hrowu1 hju (hG.nd up)) (by unfold nVs; rw [List.length_map]; exact hjl) fun H10 e10 => ?_
    have hruB : B ru1 = none := hKa.br ru1 (List.mem_of_getElem? hru1)
    have eset : (nVs (rowAt kk up)).set ju (nV kk.length) = nVs (rep low kk.length (rowAt kk up)) := by
      unfold nVs
      rw [← List.map_set, set_rep (hG.nd up) hju]
    rw [eset]
    have hKb := (hKa.ex e10).row (ks := rep low kk.length (rowAt kk up)) hru1
    have hBb : Bs B (upd H10 ru1 (.lst (nVs (rep low kk.length (rowAt kk up))))) dk L ns (N + 3) := (hBa.more e10).upd hruB
    have hp1b : upd H10 ru1 (.lst (nVs (rep low kk.length (rowAt kk up)))) lp = some (.lst (nVs plain)) := by
      rw [upd_ne (fun (z : lp = ru1) => hlp1 (by rw [z]; exact List.mem_of_getElem? hru1))]
      exact e10 _ _ hp1a
    generalize upd H10 ru1 (.lst (nVs (rep low kk.length (rowAt kk up)))) = Hb at hKb hBb hp1b ⊢
    clear eset hruB hrowu1 hju hjl hru1 hKa hBa hp1a hp5a
    obtain ⟨k2, hk2⟩ : ∃ k2, k2 = (kk ++ [[low]]).set up (rep low kk.length (rowAt kk up)) := ⟨_, rfl⟩
    rw [← hk2] at hKb
    have hlen2 : k2.length = kk.length + 1 := by rw [hk2, List.length_set, hlen1]
    have hrow2 : rowAt k2 = betweenK (rowAt kk) kk.length up low := by
      rw [hk2, rowAt_set (by omega), hrow1]
      funext x
      unfold betweenK setK
      by_cases a1 : x = up
      · subst a1
        rw [if_pos rfl, if_neg (by omega), if_pos rfl]
      · rw [if_neg a1]
        by_cases a2 : x = kk.length
        · rw [if_pos a2, if_pos a2]
        · rw [if_neg a2, if_neg a2, if_neg a1]
    obtain ⟨gX, lX, gc, gs⟩ := gen_between hG hup.1 hup.2 (by omega) ⟨c0, hc0, hc0l, hc0p⟩
    have gS := gs (Rch kk low) rch_shut rch_self
    have gH : ¬ (Rch kk low high ∨ high = kk.length) := by
      rintro (z | z)
      · exact hR z
      · omega
    rw [← hrow2] at gX lX gc gS
    rw [← hlen2] at gX lX gc
    have hSm2 : Sml k2 := sml_of gX (by omega)
    have hch : cnt (rowAt k2) high k2.length = cnt (rowAt kk) high kk.length := gc high (by omega)
    have hhn2 : high < k2.length := by omega
    obtain ⟨rh, hrh, hrowh⟩ := hKb.kd.get (rowAt_get hhn2)
    have hrhl : (rowAt k2 high).length ≤ 40 := hSm2.2 _ (List.mem_of_getElem? (rowAt_get hhn2))
    -- the spots
    let g3 : Nat → Bool := fun k => decide (k ∈ plain)
    show tSeq (tAsg _ _) _ _ (S7 none none none) Hb
    refine Evl.q_asgL (xs := nVs ((rowAt k2 high).filter g3)) (el_natLc (K := K) (a := rh) g3 (ev_row hKb.kd hrh (ev_var rfl) (ev_var rfl)) (sq_of hrowh) (by omega) (fun _ => rfl) (show 9 < 12 by decide) fun k H11 e11 hk => ?_) fun ls H11 hls e11 hpS => ?_
    · exact et_test (ev_is (ev_op (x := nV k) (y := .ref lp) (ev_var rfl) (ev_var rfl) (rv_isL (K := K) (sq_of (e11 _ _ hp1b)) rfl (flat_nVs _))) (by rw [inV_nat]))
    have hB11 := hBb.more e11
    have hK11 := hKb.ex e11
    have hlsB : B ls = none := hBb.new hls
    have hspot : ∀ s, s ∈ (rowAt k2 high).filter g3 → s ∈ rowAt k2 high ∧ s < kk.length ∧ cnt (rowAt k2) s k2.length ≤ 1 := fun s hs => by
      rw [List.mem_filter] at hs
      have h1 := (hplain s).mp (of_decide_eq_true hs.2)
      exact ⟨hs.1, h1.1, by rw [gc s (by omega)]; exact h1.2⟩
    have hspne : (rowAt k2 high).filter g3 ≠ [] := by
      have key : ∃ s, s ∈ rowAt k2 high ∧ s ∈ plain := by
        rw [hrow2]
        unfold betweenK
        rw [setK_ne (by omega)]
        by_cases z : high = up
        · subst z
          rw [setK_same]
          exact ⟨c0, (rep_mem hup.2).mpr (.inr ⟨hc0, hc0l⟩), (hplain c0).mpr ⟨hG.lt _ _ hc0, hc0p⟩⟩
        · rw [setK_ne z]
          obtain ⟨c, a1, a2, _⟩ := hG.bare high hhL hhn
          exact ⟨c, a1, (hplain c).mpr ⟨hG.lt _ _ a1, a2⟩⟩
      obtain ⟨s, h1, h2⟩ := key
      intro z
      have : s ∈ (rowAt k2 high).filter g3 := List.mem_filter.mpr ⟨h1, decide_eq_true h2⟩
      rw [z] at this
      cases this
    have hspl : ((rowAt k2 high).filter g3).length ≤ 40 := Nat.le_trans (List.length_filter_le _ _) hrhl
    generalize (rowAt k2 high).filter g3 = spots at hpS hspot hspne hspl
    clear hp1b hrowh hrh
    -- what follows the choice of spots
    have tail : ∀ (tz : TS) (D : Ends), D.nx = (fun (_ : L2.St) H' => Q .non H') →
        tz = tSeq (tAsg (tCall (spOne K) [] E0 (tCons (tVar 0) (tCons (tVar 8) tNil))) (gName 9))
          (tSeq (tAsg (tCall (spUps K) [] E0 (tCons (tVar 1) (tCons (tVar 9) tNil))) (gName 10))
          (tSeq (tDrop (tBM K "list" rAppend (tVar 1) (tCons (tLst (tCons (tVar 9) (tCons (tOp (rI0 fun i j => .int (i - j)) (tCB (fun xs H Q => ∃ p ys, xs = [.ref p] ∧ (SqL K H p ys ∨ SqT K H p ys) ∧ Q (.int ys.length) H) (tCons (tVar 1) tNil)) (tC (.int 1))) tNil))) tNil)))
          (tIfS (tTest (tOp (rNeD K) (tVar 10) (tLst tNil))) (tAsg (tOp (rI0 fun i j => .int (i - j)) (tCB (fun xs H Q => ∃ p ys, xs = [.ref p] ∧ (SqL K H p ys ∨ SqT K H p ys) ∧ Q (.int ys.length) H) (tCons (tVar 1) tNil)) (tC (.int 1)))
            (gSub (tOp (rIxL K) (tVar 1) (tOp (rIxL K) (tVar 10) (tC (.int 0)))) (tBM K "list" (rIndex K) (tOp (rIxL K) (tVar 1) (tOp (rIxL K) (tVar 10) (tC (.int 0)))) (tCons (tVar 9) tNil)) rSetL)) tNext))) →
        ∀ (sl : Addr) (sp : List Nat) (H' : Hp), Bs B H' dk L ns (N + 3) → Kds B H' p rs1 k2 → H' sl = some (.lst (nVs sp)) → B sl = none → sp ≠ [] → sp.length ≤ 40 →
        (∀ s ∈ sp, s < kk.length ∧ cnt (rowAt k2) s k2.length ≤ 1 ∧ ((s ∈ rowAt k2 high) ∨ (s = high ∧ cnt (rowAt k2) high k2.length = 0))) → tz D (S7 (some (.ref sl)) none none) H' := by
      intro tz D hD htz sl sp H' hB' hK' hsl hslB hspne hspl hsp
      subst htz
      refine q_one (ev_var rfl) (ev_var rfl) hB'.deck (by omega) hsl hspne (by omega) (hB'.ne hslB) fun s H12 hs e12 d12 => ?_
      obtain ⟨hsn, hs1, hs2⟩ := hsp s hs
      have hB12 := hB'.draw e12 d12
      have hK12 := hK'.draw hB' e12
      have eN : N + 3 + 1 = N + 4 := by omega
      rw [eN] at hB12
      show tSeq (tAsg _ _) _ _ (S7 (some (.ref sl)) (some (nV s)) none) H12
      refine Evl.q_asgL (xs := nVs (upsL k2 s)) (el_ups (ev_var rfl) (ev_var rfl) hK12.kd hSm2) fun lo H13 hlo e13 hpo => ?_
      have hB13 := hB12.more e13
      have hK13 := hK12.ex e13
      have hloN : lo ∉ p :: rs1 := hK12.kd.fresh hlo
      show tSeq (tDrop _) _ _ (S7 (some (.ref sl)) (some (nV s)) (some (.ref lo))) H13
      refine q_appL (ys := [nV s, nV kk.length]) hK13.kd.at_ (ev_var rfl) (el_lst (ea_cons (ev_var rfl) (ea_cons (ev_is (ev_op (evLen hK13.kd) ev_c rv_I0) (by rw [hlen2]; show V.int _ = V.int _; congr 1; omega)) ea_nil)) (by simp)) (by rw [List.length_map, hK13.kd.len]; omega) fun rq H14 hrq e14 hnew => ?_
      have hrqB : B rq = none := hB13.new hrq
      have hrqN : rq ∉ p :: rs1 := hK13.kd.fresh hrq
      have hlorq : lo ≠ rq := ne_of_none hpo hrq
      have hlop : lo ≠ p := fun z => hloN (by rw [z]; exact List.mem_cons_self ..)
      have hKc := (hK13.ex e14).app (ks := [s, kk.length]) hnew hrqN hrqB
      have hBc : Bs B (upd H14 p (.lst ((rs1 ++ [rq]).map V.ref))) dk L ns (N + 4) := (hB13.more e14).upd hK13.bp
      have hpoc : upd H14 p (.lst ((rs1 ++ [rq]).map V.ref)) lo = some (.lst (nVs (upsL k2 s))) := by
        rw [upd_ne hlop]
        exact e14 _ _ hpo
      rw [show rs1.map V.ref ++ [.ref rq] = (rs1 ++ [rq]).map V.ref by rw [List.map_append]; rfl]
      generalize upd H14 p (.lst ((rs1 ++ [rq]).map V.ref)) = Hc at hKc hBc hpoc ⊢
      generalize rs1 ++ [rq] = rs3 at hKc
      have hlen3 : (k2 ++ [[s, kk.length]]).length = kk.length + 2 := by rw [List.length_append, hlen2]; rfl
      have hrow3 : rowAt (k2 ++ [[s, kk.length]]) = setK (rowAt k2) k2.length [s, kk.length] := rowAt_app
      show tIfS _ _ _ _ (S7 (some (.ref sl)) (some (nV s)) (some (.ref lo))) Hc
      refine s_if (b := !(upsL k2 s).isEmpty) (et_neNil (ev_var rfl) hpoc) (fun hb H15 e15 => ?_) fun hb H15 e15 => ?_
      · have hne : upsL k2 s ≠ [] := fun z => by
          rw [z] at hb
          cases hb
        obtain ⟨v, o, hvo⟩ : ∃ v o, upsL k2 s = v :: o := by
          cases h : upsL k2 s with
          | nil => exact absurd h hne
          | cons v o => exact ⟨v, o, rfl⟩
        have hv := mem_ups.mp (show v ∈ upsL k2 s by rw [hvo]; exact List.mem_cons_self ..)
        have hvh : v = high := by
          rcases hs2 with h | ⟨h1, h2⟩
          · exact cnt_one hs1 hv.1 hhn2 hv.2 h
          · subst h1
            have := cnt_pos hv.1 hv.2
            omega
        subst hvh
        have hKd := hKc.ex e15
        have hBd := hBc.more e15
        have hpod := e15 _ _ hpoc
        rw [hvo] at hpod
        have evO : Ev (tOp (rIxL K) (tVar 10) (tC (.int 0))) (S7 (some (.ref sl)) (some (nV s)) (some (.ref lo))) H15 (nV v) := ev_op (ev_var rfl) ev_c (rv_ixL (K := K) (sq_of hpod) (atI_nat (j := 0) rfl))
        obtain ⟨rv, hrv, hrowv⟩ := hKd.kd.get (rowAt_get (show v < (k2 ++ [[s, kk.length]]).length by omega))
        have hrv3 : rowAt (k2 ++ [[s, kk.length]]) v = rowAt k2 v := by
          rw [hrow3, setK_ne (by omega)]
        rw [hrv3] at hrowv
        obtain ⟨jv, hjv⟩ : ∃ j : Nat, (rowAt k2 v)[j]? = some s := by
          obtain ⟨j, hj, e⟩ := List.mem_iff_getElem.mp hv.2
          exact ⟨j, by rw [List.getElem?_eq_getElem hj, e]⟩
        have hjl := (List.getElem?_eq_some_iff.mp hjv).1
        refine s_setL (l := rv) (j := jv) (v := nV (kk.length + 1)) hrowv (ev_is (ev_op (evLen hKd.kd) ev_c rv_I0) (by rw [hlen3]; show V.int _ = V.int _; congr 1; omega)) (ev_row hKd.kd hrv (ev_var rfl) evO) (ev_index (ev_row hKd.kd hrv (ev_var rfl) evO) (ev_var rfl) hrowv hjv (gX.nd v)) (by unfold nVs; rw [List.length_map]; exact hjl) fun H16 e16 => ?_
        have hrvB : B rv = none := hKd.br rv (List.mem_of_getElem? hrv)
        have eset : (nVs (rowAt k2 v)).set jv (nV (kk.length + 1)) = nVs (rep s (kk.length + 1) (rowAt k2 v)) := by
          unfold nVs
          rw [← List.map_set, set_rep (gX.nd v) hjv]
        rw [eset, hD]
        have hKe := (hKd.ex e16).row (ks := rep s (kk.length + 1) (rowAt k2 v)) hrv
        have hBe : Bs B (upd H16 rv (.lst (nVs (rep s (kk.length + 1) (rowAt k2 v))))) dk L ns (N + 4) := (hBd.more e16).upd hrvB
        refine q _ rs3 _ hBe hKe ?_ (by rw [List.length_set, hlen3]; exact Nat.le_refl _)
        rw [List.length_set, hlen3, rowAt_set (by omega), hrow3]
        have gA := gen_above gX lX hv.1 hv.2 hs1 (by omega) gS (.inr rfl) gH
        rw [hlen2] at gA ⊢
        have eK : setK (setK (rowAt k2) (kk.length + 1) [s, kk.length]) v (rep s (kk.length + 1) (rowAt k2 v)) = setK (setK (rowAt k2) v (rep s (kk.length + 1) (rowAt k2 v))) (kk.length + 1) [s, kk.length] := by
          funext x
          unfold setK
          by_cases a1 : x = v
          · subst a1
            rw [if_pos rfl, if_neg (by omega), if_pos rfl]
          · rw [if_neg a1]
            by_cases a2 : x = kk.length + 1
            · rw [if_pos a2, if_pos a2]
            · rw [if_neg a2, if_neg a2, if_neg a1]
        rw [eK]
        exact gA
      · have he : upsL k2 s = [] := by simpa using hb
        have h0 : cnt (rowAt k2) s k2.length = 0 := by rw [← cnt_ups, he]; rfl
        show D.nx _ H15
        rw [hD]
        refine q H15 rs3 _ (hBc.more e15) (hKc.ex e15) ?_ (by rw [hlen3]; exact Nat.le_refl _)
        have gT := gen_top gX lX (show s < k2.length by omega) h0
        rw [hlen3, hrow3]
        rw [hlen2] at gT ⊢
        exact gT
    -- the choice
    show tSeq (tIfS _ _ _) _ _ (S7 (some (.ref ls)) none none) H11
    have hEq0 : EvT (tTest (tOp (rEqD K) (tCall (spUps K) [] E0 (tCons (tVar 1) (tCons (tVar 5) tNil))) (tLst tNil))) (S7 (some (.ref ls)) none none) H11 (upsL k2 high).isEmpty := et_eqNilL (K := K) (el_ups (ev_var rfl) (ev_var rfl) hK11.kd hSm2)
    refine q_if (b := decide ((way : Int) = 3) && (upsL k2 high).isEmpty) (et_and (et_test (ev_is (ev_op (x := nV way) (y := .int 3) (ev_var rfl) ev_c (rv_eq rfl)) (by show V.bl (decide (V.int (way : Int) = V.int 3)) = _; rw [dec_int]; rfl))) fun _ => hEq0) (fun hb H12 e12 => ?_) fun hb H12 e12 => ?_
    · rw [Bool.and_eq_true] at hb
      have h0 : cnt (rowAt k2) high k2.length = 0 := by
        rw [← cnt_ups]
        rw [List.isEmpty_iff.mp hb.2]
        rfl
      refine s_asgL (xs := nVs [high]) (el_lst (ea_cons (ev_var rfl) ea_nil) (by show (1 : Nat) ≤ 100000; omega)) fun l2 H13 hl2 e13 hp13 => ?_
      refine tail _ _ rfl rfl l2 [high] H13 ((hB11.more e12).more e13) ((hK11.ex e12).ex e13) hp13 ((hB11.more e12).new hl2) (by simp) (by simp) fun s hs => ?_
      rw [List.mem_singleton.mp hs]
      exact ⟨hhn, by omega, .inr ⟨rfl, h0⟩⟩
    · refine s_when (b := decide ((way : Int) < 2)) (et_test (ev_op (ev_var rfl) ev_c rv_I0)) (fun hw H13 e13 => ?_) fun hw H13 e13 => ?_
      · have hw := of_decide_eq_true hw
        have hK13 := (hK11.ex e12).ex e13
        have hB13 := (hB11.more e12).more e13
        obtain ⟨rh, hrh, hrowh⟩ := hK13.kd.get (rowAt_get hhn2)
        have hup2 : high ≠ up := fun z => by
          have := (hin (by rw [hU, z]; exact List.mem_singleton.mpr rfl)).1
          omega
        have hKh : rowAt k2 high = rowAt kk high := by
          rw [hrow2]
          unfold betweenK
          rw [setK_ne (by omega), setK_ne hup2]
        have hnot : kk.length ∉ rowAt k2 high := fun z => by
          rw [hKh] at z
          have := hG.lt _ _ z
          omega
        refine q_app (v := nV kk.length) hrowh (ev_row hK13.kd hrh (ev_var rfl) (ev_var rfl)) (ev_is (ev_op (evLen hK13.kd) ev_c rv_I0) (by rw [hlen2]; show V.int _ = V.int _; congr 1; omega)) (by unfold nVs; rw [List.length_map]; omega) fun H14 e14 => ?_
        have hrB : B rh = none := hK13.br rh (List.mem_of_getElem? hrh)
        have eR : nVs (rowAt k2 high) ++ [nV kk.length] = nVs (rowAt k2 high ++ [kk.length]) := by unfold nVs; rw [List.map_append]; rfl
        rw [eR]
        have hKe := (hK13.ex e14).row (ks := rowAt k2 high ++ [kk.length]) hrh
        have hBe : Bs B (upd H14 rh (.lst (nVs (rowAt k2 high ++ [kk.length])))) dk L ns (N + 3) := (hB13.more e14).upd hrB
        have gM := gen_more gX lX hhL hhn2 (by omega) (by omega) hnot gS (.inr rfl) gH
        refine q _ rs1 _ (hBe.wk (by omega)) hKe ?_ (by rw [List.length_set]; omega)
        rw [List.length_set, rowAt_set hhn2]
        exact gM
      · refine tail _ _ rfl rfl ls spots H13 ((hB11.more e12).more e13) ((hK11.ex e12).ex e13) (e13 _ _ (e12 _ _ hpS)) hlsB hspne hspl fun s hs => ?_
        obtain ⟨a1, a2, a3⟩ := hspot s hs
        exact ⟨a2, a3, .inl a1⟩
end
end WR
set_option Elab.async false
set_option linter.all false
set_option maxRecDepth 100000
set_option maxHeartbeats 2000000
namespace WR
open PySem PySem.Spec PyProof.Rows L2 Evl

/-! ### _law_tree -/
/-- a tree as it grows: all kinds but the loose ones have one parent -/
structure TreeG (L n : Nat) (K : Nat → List Nat) (lo : List Nat) : Prop where
  l1 : 1 ≤ L
  ln : L ≤ n
  out : ∀ u, n ≤ u → K u = []
  leaf : ∀ u, u < L → K u = []
  lt : ∀ u c, c ∈ K u → c < u
  un : ∀ u c, c ∈ K u → u < n
  nd : ∀ u, (K u).Nodup
  two : ∀ u, L ≤ u → u < n → 2 ≤ (K u).length
  cn : ∀ k, k < n → cnt K k n = if k ∈ lo then 0 else 1
  lon : ∀ k, k ∈ lo → k < n
  lnd : lo.Nodup
theorem TreeG.gen {L n t : Nat} {K : Nat → List Nat} (g : TreeG L n K [t]) : Gen L n K := by
  have c1 : ∀ k, k < n → cnt K k n ≤ 1 := fun k hk => by
    rw [g.cn k hk]
    split <;> omega
  have hn : ∀ u c, c ∈ K u → c < n := fun u c h => by
    have := g.lt u c h
    by_cases z : n ≤ u
    · rw [g.out u z] at h
      cases h
    · omega
  refine ⟨g.l1, g.ln, g.out, g.leaf, hn, g.nd, ⟨id, g.lt⟩, fun u h1 h2 _ _ => g.two u h1 h2, fun u h => ?_, fun u h => c1 u (by have := g.ln; omega), fun u h1 h2 => ?_, t, g.lon t (List.mem_singleton.mpr rfl), fun k hk => ?_⟩
  · by_cases z : u < n
    · have := c1 u z
      omega
    · have : cnt K u n = 0 := cnt_out fun v hv hu => z (hn v u hu)
      omega
  · have h3 := g.two u h1 h2
    cases e : K u with
    | nil =>
      rw [e] at h3
      exact absurd h3 (by simp)
    | cons c r =>
      have hc := hn u c (by rw [e]; exact List.mem_cons_self ..)
      exact ⟨c, List.mem_cons_self .., c1 c hc, by omega⟩
  · rw [g.cn k hk]
    by_cases z : k = t
    · subst z
      rw [if_pos (List.mem_singleton.mpr rfl)]
      exact ⟨fun _ => rfl, fun _ => rfl⟩
    · rw [if_neg (fun y => z (List.mem_singleton.mp y))]
      exact ⟨fun y => (by omega), fun y => absurd y z⟩
/-- some loose kinds get a parent -/
theorem TreeG.step {L n : Nat} {K : Nat → List Nat} {lo got cur : List Nat} (g : TreeG L n K lo) (hp : (got ++ cur).Perm lo) (h2 : 2 ≤ got.length) : TreeG L (n + 1) (setK K n got) (cur ++ [n]) := by
  have hnd : (got ++ cur).Nodup := hp.nodup_iff.mpr g.lnd
  rw [List.nodup_append] at hnd
  obtain ⟨nd1, nd2, dis⟩ := hnd
  have hm : ∀ x, x ∈ lo ↔ x ∈ got ∨ x ∈ cur := fun x => by rw [← hp.mem_iff, List.mem_append]
  have hg : ∀ x ∈ got, x < n := fun x h => g.lon x ((hm x).mpr (.inl h))
  have hc : ∀ x ∈ cur, x < n := fun x h => g.lon x ((hm x).mpr (.inr h))
  have hln := g.ln
  refine ⟨g.l1, by omega, fun u hu => ?_, fun u hu => ?_, fun u c h => ?_, fun u c h => ?_, fun u => ?_, fun u h1 h3 => ?_, fun k hk => ?_, fun k hk => ?_, ?_⟩
  · rw [setK_ne (by omega)]
    exact g.out u (by omega)
  · rw [setK_ne (by omega)]
    exact g.leaf u hu
  · by_cases z : u = n
    · subst z
      rw [setK_same] at h
      exact hg c h
    · rw [setK_ne z] at h
      exact g.lt u c h
  · by_cases z : u = n
    · omega
    · rw [setK_ne z] at h
      by_cases y : n ≤ u
      · rw [g.out u y] at h
        cases h
      · omega
  · by_cases z : u = n
    · subst z
      rw [setK_same]
      exact nd1
    · rw [setK_ne z]
      exact g.nd u
  · by_cases z : u = n
    · subst z
      rw [setK_same]
      exact h2
    · rw [setK_ne z]
      exact g.two u h1 (by omega)
  · show cnt (setK K n got) k n + (if k ∈ setK K n got n then 1 else 0) = _
    rw [cnt_ge (Nat.le_refl _), setK_same]
    by_cases z : k = n
    · subst z
      rw [cnt_out fun u hu h => by have := g.lt u k h; omega, if_neg fun h => Nat.lt_irrefl _ (hg k h), if_pos (by simp)]
    · rw [g.cn k (by omega)]
      have e1 : (k ∈ cur ++ [n]) ↔ k ∈ cur := by simp [z]
      simp only [hm k, e1]
      by_cases a : k ∈ got
      · have : k ∉ cur := fun y => dis k a k y rfl
        simp [a, this]
      · simp [a]
  · rcases List.mem_append.mp hk with h | h
    · have := hc k h
      omega
    · rw [List.mem_singleton.mp h]
      omega
  · rw [List.nodup_append]
    exact ⟨nd2, by simp, fun a ha b hb z => by
      have := hc a ha
      have := List.mem_singleton.mp hb
      omega⟩
def spTree (K : PySem.W.Frag) : Sp := fun vs H Q _ => ∃ dk L ns N Lv, vs = [.ref dk, nV Lv] ∧ Dk H dk L ns N ∧ N ≤ 900000000 ∧ 1 ≤ Lv ∧ Lv ≤ 9 ∧
  ∀ H' p rs kk, Bs H H' dk L ns (N + 40) → Kds H H' p rs kk → Gen Lv kk.length (rowAt kk) → kk.length + 1 ≤ 2 * Lv → Q (.ref p) H'
abbrev nTree : List Str := ["_law_deck_here", "_law_leaves", "_law_found", "_law_loose", "_law_size", "_law_leaf", "_law_k"]
theorem scTree : FnScope nTree ["_law_deck_here", "_law_leaves"] (defScope sLTree) := ⟨rfl, rfl, rfl, by decide +kernel, rfl, by decide +kernel, by decide +kernel⟩
theorem perm_erase {x : Nat} : ∀ {cur : List Nat} {j : Nat}, cur[j]? = some x → (x :: cur.eraseIdx j).Perm cur
  | a :: r, 0, h => by
    have e : a = x := by simpa using h
    subst e
    exact List.Perm.refl _
  | a :: r, j + 1, h => by
    have h : r[j]? = some x := by simpa using h
    exact (List.Perm.swap a x _).trans ((perm_erase h).cons a)
theorem nVs_erase : ∀ {cur : List Nat} {j : Nat}, (nVs cur).eraseIdx j = nVs (cur.eraseIdx j)
  | [], _ => by simp [nVs]
  | a :: r, 0 => rfl
  | a :: r, j + 1 => by
    show nV a :: (nVs r).eraseIdx j = nV a :: nVs (r.eraseIdx j)
    rw [nVs_erase]
theorem rowAt_rep {n u : Nat} : rowAt (List.replicate n []) u = [] := by
  unfold rowAt
  rw [List.getD_eq_getElem?_getD, List.getElem?_replicate]
  split <;> rfl
theorem tree_start {L : Nat} (h : 1 ≤ L) : TreeG L L (rowAt (List.replicate L [])) (List.range L) := by
  refine ⟨h, Nat.le_refl _, fun u _ => rowAt_rep, fun u _ => rowAt_rep, fun u c hc => ?_, fun u c hc => ?_, fun u => ?_, fun u h1 h2 => by omega, fun k hk => ?_, fun k hk => List.mem_range.mp hk, List.nodup_range⟩
  · rw [rowAt_rep] at hc
    cases hc
  · rw [rowAt_rep] at hc
    cases hc
  · rw [rowAt_rep]
    exact List.nodup_nil
  · rw [if_pos (List.mem_range.mpr hk)]
    exact cnt_out fun u _ hc => by
      rw [rowAt_rep] at hc
      cases hc
theorem rgV_nat {n : Nat} : rgV 0 (n : Int) = nVs (List.range n) := by
  unfold rgV nVs
  rw [show ((n : Int) - 0).toNat = n by omega]
  refine List.map_congr_left fun i _ => ?_
  show V.int (0 + (i : Int)) = V.int (i : Int)
  congr 1
  omega
theorem yes_ {σ : L2.St} {H : Hp} {A C : Hp → Prop} (h : A H) : tYes σ H (fun b H3 => if b = true then A H3 else C H3) := by
  show (if true = true then A H else C H)
  rw [if_pos rfl]
  exact h
theorem seq_nat {i n : Nat} (h : i < n) : seqIndex? (i : Int) n = some i := by
  unfold seqIndex?
  have h1 : ¬ ((i : Int) < 0) := by omega
  simp only [h1, if_false]
  have h2 : (decide (0 ≤ (i : Int)) && decide ((i : Int) < (n : Int))) = true := by
    rw [Bool.and_eq_true, decide_eq_true_eq, decide_eq_true_eq]
    omega
  rw [h2]
  simp
section
variable {P : Program} {w : World} {K : PySem.W.Frag} {mg : Str → Option Value} {base : Heap}
theorem Kds.other {B H : Hp} {p r : Addr} {rs : List Addr} {kk : List (List Nat)} {o : HO} (k : Kds B H p rs kk) (hr : r ∉ p :: rs) : Kds B (upd H r o) p rs kk := by
  rw [List.mem_cons, not_or] at hr
  refine ⟨⟨by rw [upd_ne (Ne.symm hr.1)]; exact k.kd.at_, k.kd.len, k.kd.nd, k.kd.np, fun i r' ks h1 h2 => ?_⟩, k.bp, k.br⟩
  rw [upd_ne fun (z : r' = r) => hr.2 (z ▸ List.mem_of_getElem? h1)]
  exact k.kd.row i r' ks h1 h2
theorem ok_tree {f fW fO : Addr} {fd fdW fdO : FuncData} (F : Fun K "_law_tree" "_law_tree" sLTree f fd)
    (FW : Fun K "_law_draw" "_law_draw" sDraw fW fdW) (bW : Binds K fdW ["_law_deck_here", "_law_many"] []) (gW : mg "_law_draw" = some (.ref fW))
    (FO : Fun K "_law_one" "_law_one" sOne fO fdO) (bO : Binds K fdO ["_law_deck_here", "_law_items"] []) (gO : mg "_law_one" = some (.ref fO))
    (m1 : mg "range" = none) (m2 : mg "list" = none) (m3 : mg "len" = none) (m4 : mg "min" = none)
    (GW : FnOk P w K mg base CX0 1 fW fdW ["_law_deck_here", "_law_many"] spDraw)
    (GO : FnOk P w K mg base CX0 2 fO fdO ["_law_deck_here", "_law_items"] (spOne K)) :
    FnOk P w K mg base CX0 3 f fd ["_law_deck_here", "_law_leaves"] (spTree K) := by
  refine F.ok scTree (fun vs H Q E h => ?_) (fun cdv A outer s H vs Q E hr h => ?_)
  · obtain ⟨dk, L, ns, N, Lv, rfl, _⟩ := h
    rfl
  obtain ⟨dk, L, ns, N, Lv, rfl, hD, hN, hL1, hL9, q⟩ := h
  have r1 := hr.mono (show 1 ≤ 2 by decide)
  have hu := hr.units
  apply Exists.intro
  apply And.intro
  case left =>
    refine' pss_cons (ps_asg (pe_tup (pa_cons (pe_lc (own := [("_law_leaf", 5)]) (g := gName 5) rfl scTree.nd (pi_range1 (by rfl) m1 (pa_cons (pv 1) pa_nil)) (blkOk_by (N := nTree) (sc := defScope sLTree) (by decide +kernel))
        (fun _ _ _ _ _ => pg_name (i := 5) scTree.nd rfl (Or.inl rfl)) (fun _ _ _ _ _ => pts_nil) (fun _ _ _ _ _ => pe_lst pa_nil))
      (pa_cons (pe_listRg rfl (by rfl) m2 (prg_1 (by rfl) m1 (pv 1))) pa_nil)))
      (pg_tup rfl (pgs_cons (pg_name (i := 2) scTree.nd rfl (.inl rfl)) (pgs_cons (pg_name (i := 3) scTree.nd rfl (.inr rfl)) pgs_nil)))) ?r0
    case' r0 => skip
    refine' pss_cons (ps_while PassesOwn.never (pt_cmpR op_gt (pe_callB (r := rLenS K) call_len_seq (by rfl) m3 PySem.boot_len (pa_cons (pv 3) pa_nil)) pe_int (nomark _)) ?wb) ?r1
    case' wb =>
      refine' pss_cons (ps_set (i := 4) scTree.nd rfl (.inl rfl) (pe_callB (call_min2 rfl) (by rfl) m4 (by decide +kernel) (pa_cons (pe_callB (r := rLenS K) call_len_seq (by rfl) m3 PySem.boot_len (pa_cons (pv 3) pa_nil))
        (pa_cons (pe_call GO hr (by rfl) gO FO.kp bO .nil pass0 (pa_cons (pv 0) (pa_cons (pe_lst (pa_cons pe_int (pa_cons pe_int (pa_cons pe_int (pa_cons pe_int pa_nil))))) pa_nil))) pa_nil)))) ?w1
      case' w1 => skip
      refine' pss_cons (ps_expr (pe_bm PySem.F.plainAttrs_list PySem.F.slot_list_append PySem.F.type_list_append mt_append (pv 2) (pa_cons
        (pe_lc (own := [("_law_k", 6)]) (g := gName 6) (te := tBM K "list" rPopAt (tVar 3) (tCons (tCall spDraw [] _ (tCons (tVar 0) (tCons (tCB (rLenS K) (tCons (tVar 3) tNil)) tNil))) tNil)) rfl scTree.nd (pi_range1 (by rfl) m1 (pa_cons (pv 4) pa_nil)) (blkOk_by (N := nTree) (sc := defScope sLTree) (by decide +kernel))
          (fun _ _ _ _ _ => pg_name (i := 6) scTree.nd rfl (Or.inl rfl)) (fun _ _ _ _ _ => pts_nil)
          (fun _ _ _ _ _ => pe_bm PySem.F.plainAttrs_list PySem.F.slot_list_pop PySem.F.type_list_pop mt_popAt (pv 3) (pa_cons (pe_call GW r1 (by rfl) gW FW.kp bW .nil pass0 (pa_cons (pv 0) (pa_cons (pe_callB (r := rLenS K) call_len_seq (by rfl) m3 PySem.boot_len (pa_cons (pv 3) pa_nil)) pa_nil))) pa_nil))) pa_nil))) ?w2
      case' w2 => skip
      exact pss_one (ps_expr (pe_bm PySem.F.plainAttrs_list PySem.F.slot_list_append PySem.F.type_list_append mt_append (pv 3) (pa_cons (pe_op op_sub (pe_callB (r := rLenS K) call_len_seq (by rfl) m3 PySem.boot_len (pa_cons (pv 2) pa_nil)) pe_int) pa_nil)))
    case' r1 => skip
    exact pss_one (ps_ret (pv 2))
  case right =>
    have hB0 : Bs H H dk L ns N := ⟨rem_ex, hD, by obtain ⟨a, b, n, d, _⟩ := hD; exact ⟨_, d.at_⟩, by obtain ⟨a, b, n, d, _⟩ := hD; exact ⟨_, d.ls⟩⟩
    let S : Option V → Option V → Option V → L2.St := fun x2 x3 x4 => [some (.ref dk), some (nV Lv), x2, x3, x4, none, none]
    refine ⟨nV Lv, rfl, (Lv : Int), rfl, by omega, by omega, fun p hp => ?_⟩
    rw [Int.toNat_natCast]
    refine lc_range (fun i H' => ∃ rs, Ex H H' ∧ Kds H H' p rs (List.replicate i [])) ⟨[], Ex.new hp, ⟨upd_same, rfl, List.nodup_nil, List.not_mem_nil, fun i r ks h _ => by cases h⟩, hp, fun r h => by cases h⟩ (fun i H' hi hP => ?_) fun H' hP => ?_
    · obtain ⟨rs, e, k⟩ := hP
      refine ⟨rfl, ?_⟩
      refine yes_ ?_
      show tLst tNil _ _ _
      refine ⟨by show 0 ≤ sizeLine; decide, fun r hr => ?_⟩
      have k1 := k.ex (Ex.new (o := .lst []) hr)
      have hlr : rs.length = i := by rw [k.kd.len, List.length_replicate]
      refine ⟨rs.map V.ref, k1.kd.at_, sz_lt (by rw [List.length_map]; omega), rs ++ [r], Ex.mut (e.trans (Ex.new hr)) hp, ?_⟩
      rw [show rs.map V.ref ++ [V.ref r] = (rs ++ [r]).map V.ref by rw [List.map_append]; rfl, List.replicate_succ']
      exact k1.app upd_same (k.kd.fresh hr) (fresh_back e hr)
    obtain ⟨rs, e, k⟩ := hP
    refine ⟨nV Lv, rfl, (Lv : Int), rfl, RgOk.of_le (by omega) (by omega) (by omega) (by omega), fun lo hlo => ⟨by show 2 ≤ sizeLine; decide, fun T hT => ?_⟩⟩
    refine ⟨T, _, rfl, st_of upd_same, rfl, _, _, rfl, _, _, rfl, rfl, ?_⟩
    have e1 := Ex.new (o := .lst (rgV 0 (Lv : Int))) hlo
    have e2 := e1.trans (Ex.new (o := .tup [.ref p, .ref lo]) hT)
    have hlo2 : upd (upd H' lo (.lst (rgV 0 (Lv : Int)))) T (.tup [.ref p, .ref lo]) lo = some (.lst (nVs (List.range Lv))) := by
      rw [← rgV_nat]
      exact Ex.new hT _ _ upd_same
    have hloB : H lo = none := fresh_back e hlo
    have hlon : lo ∉ p :: rs := k.kd.fresh hlo
    show tSeq (tWhile _ _) _ _ (S (some (.ref p)) (some (.ref lo)) none) (upd (upd H' lo (.lst (rgV 0 (Lv : Int)))) T (.tup [.ref p, .ref lo]))
    have k2 := k.ex e2
    have e3 := e.trans e2
    generalize upd (upd H' lo (.lst (rgV 0 (Lv : Int)))) T (.tup [.ref p, .ref lo]) = H2 at k2 e3 hlo2 ⊢
    clear e1 e2 hT hlo k e
    let Inv (m : Nat) (σ' : L2.St) (H' : Hp) : Prop := ∃ (rs : List Addr) (kk : List (List Nat)) (loose : List Nat) (x4 : Option V) (M : Int), σ' = S (some (.ref p)) (some (.ref lo)) x4 ∧ Bs H H' dk L ns M ∧ M + 4 * m ≤ N + 40 ∧ Kds H H' p rs kk ∧
      H' lo = some (.lst (nVs loose)) ∧ lo ∉ p :: rs ∧ TreeG Lv kk.length (rowAt kk) loose ∧ kk.length + loose.length ≤ 2 * Lv ∧ 1 ≤ loose.length ∧ m = loose.length
    refine q_while Inv Lv ⟨rs, List.replicate Lv [], List.range Lv, none, N, rfl, hB0.more e3, by omega, k2, hlo2, hlon, ?_, ?_, ?_, ?_⟩ fun m σ' H' hI => ?_
    · rw [List.length_replicate]
      exact tree_start hL1
    · rw [List.length_replicate, List.length_range]
      omega
    · rw [List.length_range]
      exact hL1
    · rw [List.length_range]
    obtain ⟨rs, kk, loose, x4, M, rfl, hB, hM, hK, hl, hln, hG, hsz, h1, hm⟩ := hI
    have hnvl : (nVs loose).length = loose.length := by unfold nVs; rw [List.length_map]
    refine ⟨decide ((1 : Int) < (loose.length : Int)), et_test (ev_op (ev_is (ev_len (K := K) (ev_var rfl) (sq_of hl)) (by rw [hnvl])) ev_c rv_I0), fun hb H3 e4 => ?_, fun hb H3 e4 => ?_⟩
    rotate_left
    · have hb := of_decide_eq_false hb
      cases loose with
      | nil => exact absurd h1 (by simp)
      | cons t r =>
        cases r with
        | cons t2 r2 =>
          exact absurd hb (by simp only [List.length_cons]; omega)
        | nil =>
          refine s_ret (v := .ref p) (ev_var rfl) fun H4 e5 => ?_
          exact q H4 p rs kk (((hB.more e4).more e5).wk (by omega)) ((hK.ex e4).ex e5) hG.gen (by omega)
    have hb := of_decide_eq_true hb
    replace hB := hB.more e4
    replace hK := hK.ex e4
    replace hl := e4 _ _ hl
    refine ⟨fun σ2 H2 => ∃ m', m' < m ∧ Inv m' σ2 H2, fun σ2 H2 h => h, ?_⟩
    -- how many
    refine ⟨.ref lo, rfl, lo, nVs loose, rfl, .inl (sq_of hl), .ref dk, rfl, by show 4 ≤ sizeLine; decide, fun li hli => ?_⟩
    have b1 := hB.more (Ex.new (o := .lst [.int 2, .int 2, .int 2, .int 3]) hli)
    have hliB : H li = none := hB.new hli
    refine ⟨dk, L, ns, M, li, _, rfl, b1.deck, by omega, upd_same, hB.ne hliB, by decide, by decide, fun x H4 hx e5 d5 => ?_⟩
    have hl1 := Ex.new (o := .lst [.int 2, .int 2, .int 2, .int 3]) hli _ _ hl
    have hK1 := hK.ex (Ex.new (o := .lst [.int 2, .int 2, .int 2, .int 3]) hli)
    have hK4 := hK1.draw b1 e5
    have hl4 := e5 lo _ (by rw [rem_ne (b1.ne hloB)]; exact hl1)
    have b4 := b1.draw e5 d5
    obtain ⟨k, rfl, hk2, hk3⟩ : ∃ k : Nat, x = .int (k : Int) ∧ 2 ≤ k ∧ k ≤ 3 := by
      simp only [List.mem_cons, List.not_mem_nil, or_false] at hx
      rcases hx with rfl | rfl | rfl | rfl
      · exact ⟨2, rfl, by decide, by decide⟩
      · exact ⟨2, rfl, by decide, by decide⟩
      · exact ⟨2, rfl, by decide, by decide⟩
      · exact ⟨3, rfl, by decide, by decide⟩
    refine ⟨(nVs loose).length, (k : Int), rfl, ?_⟩
    rw [hnvl]
    obtain ⟨sz, hsz2, hsz3, hszl, hsze⟩ : ∃ sz : Nat, 2 ≤ sz ∧ sz ≤ 3 ∧ sz ≤ loose.length ∧ (if (k : Int) < (loose.length : Int) then (k : Int) else (loose.length : Int)) = (sz : Int) := by
      by_cases z : (k : Int) < (loose.length : Int)
      · exact ⟨k, hk2, hk3, by omega, if_pos z⟩
      · exact ⟨loose.length, by omega, by omega, Nat.le_refl _, if_neg z⟩
    rw [hsze]
    show tSeq _ _ _ (S (some (.ref p)) (some (.ref lo)) (some (nV sz))) H4
    clear hli b1 hliB e5 d5 hl1 hK1 hB hK hl hx
    -- the children
    refine ⟨.ref p, rfl, .inl ⟨rfl, _, sq_of hK4.kd.at_⟩, nV sz, rfl, (sz : Int), rfl, by omega, by omega, fun D hD0 => ?_⟩
    rw [Int.toNat_natCast]
    have hDB : H D = none := b4.new hD0
    have hDn : D ∉ p :: rs := hK4.kd.fresh hD0
    have hDl : D ≠ lo := fun z => by
      rw [z, hl4] at hD0
      cases hD0
    refine lc_range (fun i H' => ∃ got cur, got.length = i ∧ (got ++ cur).Perm loose ∧ Bs H H' dk L ns (M + 1 + i) ∧ Kds H H' p rs kk ∧ H' lo = some (.lst (nVs cur)) ∧ H' D = some (.lst (nVs got)))
      ⟨[], loose, rfl, List.Perm.refl _, (b4.more (Ex.new hD0)).wk (by omega), hK4.ex (Ex.new hD0), Ex.new hD0 _ _ hl4, upd_same⟩ (fun i H5 hi hP => ?_) fun H5 hP => ?_
    · obtain ⟨got, cur, hg, hp2, b5, k5, hl5, hd5⟩ := hP
      refine ⟨rfl, ?_⟩
      refine yes_ ?_
      show tBM K "list" rPopAt _ _ _ _ _
      have hlen := hp2.length_eq
      rw [List.length_append] at hlen
      have hcl : (nVs cur).length = cur.length := by unfold nVs; rw [List.length_map]
      refine ⟨.ref lo, rfl, .inl ⟨rfl, _, sq_of hl5⟩, .ref dk, rfl, .ref lo, rfl, lo, nVs cur, rfl, .inl (sq_of hl5), dk, L, ns, _, M + 1 + i, rfl, b5.deck, by omega, by omega, by omega, fun r H6 a1 a2 e6 d6 => ?_⟩
      obtain ⟨j, rfl⟩ : ∃ j : Nat, r = (j : Int) := ⟨r.toNat, (Int.toNat_of_nonneg a1).symm⟩
      have hj : j < cur.length := by omega
      have hl6 := e6 lo _ (by rw [rem_ne (b5.ne hloB)]; exact hl5)
      have hd6 := e6 D _ (by rw [rem_ne (b5.ne hDB)]; exact hd5)
      have k6 := k5.draw b5 e6
      have b6 := b5.draw e6 d6
      have hx : cur[j]? = some cur[j] := List.getElem?_eq_getElem hj
      refine ⟨lo, nVs cur, (j : Int), j, nV cur[j], rfl, rfl, hl6, by omega, by omega, by rw [hcl]; exact seq_nat hj, nVs_at hx, ?_⟩
      have hgl : (nVs got).length = got.length := by unfold nVs; rw [List.length_map]
      refine ⟨nVs got, by rw [upd_ne hDl]; exact hd6, sz_lt (by omega), got ++ [cur[j]], cur.eraseIdx j, by rw [List.length_append, hg]; rfl, ?_, ?_, ?_, ?_, ?_⟩
      · rw [List.append_assoc]
        exact ((perm_erase hx).append_left got).trans hp2
      · exact (((b6.upd hloB).upd hDB)).wk (by omega)
      · exact (k6.other hln).other hDn
      · rw [upd_ne (Ne.symm hDl), upd_same, nVs_erase]
      · rw [upd_same]
        unfold nVs
        rw [List.map_append]
        rfl
    obtain ⟨got, cur, hg, hp2, b5, k5, hl5, hd5⟩ := hP
    have hlen := hp2.length_eq
    rw [List.length_append] at hlen
    have hrl : rs.length = kk.length := k5.kd.len
    refine ⟨p, rs.map V.ref, .ref D, rfl, rfl, k5.kd.at_, sz_lt (by rw [List.length_map]; omega), ?_⟩
    have k6 := k5.app hd5 hDn hDB
    have b6 := b5.upd (o := .lst ((rs ++ [D]).map V.ref)) hK4.bp
    have hl6 : upd H5 p (.lst ((rs ++ [D]).map V.ref)) lo = some (.lst (nVs cur)) := by
      rw [upd_ne (fun z => hln (by rw [z]; exact List.mem_cons_self ..))]
      exact hl5
    rw [show rs.map V.ref ++ [V.ref D] = (rs ++ [D]).map V.ref by rw [List.map_append]; rfl]
    generalize upd H5 p (.lst ((rs ++ [D]).map V.ref)) = H6 at k6 b6 hl6 ⊢
    -- and they are loose no more
    have hcl : (nVs cur).length = cur.length := by unfold nVs; rw [List.length_map]
    refine s_app (v := nV kk.length) hl6 (ev_var rfl) (ev_is (ev_op (x := nV (kk ++ [got]).length) (ev_is (ev_len (K := K) (ev_var rfl) (sq_of k6.kd.at_)) (by rw [List.length_map, k6.kd.len]; rfl)) ev_c rv_I0) ?_) (by omega) fun H7 e7 => ?_
    · rw [List.length_append]
      show V.int _ = V.int _
      congr 1
      simp only [List.length_cons, List.length_nil]
      omega
    have hln2 : lo ∉ p :: (rs ++ [D]) := fun z => by
      rcases List.mem_cons.mp z with z | z
      · exact hln (by rw [z]; exact List.mem_cons_self ..)
      · rcases List.mem_append.mp z with z | z
        · exact hln (List.mem_cons_of_mem _ z)
        · exact hDl (List.mem_singleton.mp z).symm
    refine ⟨cur.length + 1, by omega, rs ++ [D], kk ++ [got], cur ++ [kk.length], _, M + 1 + sz, rfl, (b6.more e7).upd hloB, by omega, (k6.ex e7).other hln2, ?_, hln2, ?_, ?_, ?_, ?_⟩
    · rw [upd_same]
      unfold nVs
      rw [List.map_append]
      rfl
    · rw [List.length_append, rowAt_app]
      exact hG.step hp2 (by omega)
    · simp only [List.length_append, List.length_cons, List.length_nil]
      omega
    · rw [List.length_append]
      show 1 ≤ cur.length + 1
      omega
    · rw [List.length_append]
      rfl
end
end WR
set_option Elab.async false
set_option linter.all false
set_option maxRecDepth 100000
set_option maxHeartbeats 2000000
namespace WR
open PySem PySem.Spec PyProof.Rows L2 Evl

/-! ### _law_kids -/
def spLKids (K : PySem.W.Frag) : Sp := fun vs H Q _ => ∃ dk L ns N Lv mx, vs = [.ref dk, nV Lv, nV mx] ∧ Dk H dk L ns N ∧ N ≤ 800000000 ∧ 1 ≤ Lv ∧ Lv ≤ 8 ∧ mx ≤ 1000 ∧
  ∀ H' p rs kk, Bs H H' dk L ns (N + 41 + 4 * mx) → Kds H H' p rs kk → Gen Lv kk.length (rowAt kk) → kk.length ≤ Lv + 20 → Q (.ref p) H'
abbrev nLKids : List Str := ["_law_deck_here", "_law_leaves", "_law_mixes", "_law_kids_here", "_law_turn"]
theorem scLKids : FnScope nLKids ["_law_deck_here", "_law_leaves", "_law_mixes"] (defScope sLKids) := ⟨rfl, rfl, rfl, by decide +kernel, rfl, by decide +kernel, by decide +kernel⟩
section
variable {P : Program} {w : World} {K : PySem.W.Frag} {mg : Str → Option Value} {base : Heap}
theorem q_tree {σ : L2.St} {H : Hp} {E : XK} {D : Ends} {tz : TS} {i Lv : Nat} {tp tl : TE} {dk L : Addr} {ns : List Int} {N : Int} (h0 : Ev tp σ H (.ref dk)) (h1 : Ev tl σ H (nV Lv)) (hD : Dk H dk L ns N) (hN : N ≤ 900000000) (hL1 : 1 ≤ Lv) (hL9 : Lv ≤ 9)
    (k : ∀ H1 p rs kk, Bs H H1 dk L ns (N + 40) → Kds H H1 p rs kk → Gen Lv kk.length (rowAt kk) → kk.length + 1 ≤ 2 * Lv → tz D (σ.set i (some (.ref p))) H1) :
    tSeq (tAsg (tCall (spTree K) [] E (tCons tp (tCons tl tNil))) (gName i)) tz D σ H :=
  h0 H (Ex.refl H) _ fun H1 e1 => h1 H1 e1 _ fun H2 e2 => ⟨dk, L, ns, N, Lv, rfl, hD.ex (e1.trans e2), hN, hL1, hL9, fun H3 p rs kk b kd g n => by
    have e := e1.trans e2
    have hdk : ∃ o, H dk = some o := by obtain ⟨a, b, n, d, _⟩ := hD; exact ⟨_, d.at_⟩
    have hLs : ∃ o, H L = some o := by obtain ⟨a, b, n, d, _⟩ := hD; exact ⟨_, d.ls⟩
    have hsub : ∀ r, H2 r = none → H r = none := fun r h => fresh_back e h
    refine k H3 p rs kk ⟨fun a o h => ?_, b.deck, hdk, hLs⟩ ⟨kd.kd, hsub _ kd.bp, fun r hr => hsub _ (kd.br r hr)⟩ g n
    refine b.ex a o ?_
    by_cases z : a = dk
    · rw [z, rem_self] at h
      cases h
    · rw [rem_ne z] at h ⊢
      exact e _ _ h⟩
theorem ok_lkids {f fW fT fM : Addr} {fd fdW fdT fdM : FuncData} (F : Fun K "_law_kids" "_law_kids" sLKids f fd)
    (FW : Fun K "_law_draw" "_law_draw" sDraw fW fdW) (bW : Binds K fdW ["_law_deck_here", "_law_many"] []) (gW : mg "_law_draw" = some (.ref fW))
    (FT : Fun K "_law_tree" "_law_tree" sLTree fT fdT) (bT : Binds K fdT ["_law_deck_here", "_law_leaves"] []) (gT : mg "_law_tree" = some (.ref fT))
    (FM : Fun K "_law_mix" "_law_mix" sLMix fM fdM) (bM : Binds K fdM ["_law_deck_here", "_law_kids_here"] []) (gM : mg "_law_mix" = some (.ref fM))
    (m1 : mg "range" = none) (m3 : mg "len" = none)
    (GW : FnOk P w K mg base CX0 1 fW fdW ["_law_deck_here", "_law_many"] spDraw)
    (GT : FnOk P w K mg base CX0 3 fT fdT ["_law_deck_here", "_law_leaves"] (spTree K))
    (GM : FnOk P w K mg base CX0 3 fM fdM ["_law_deck_here", "_law_kids_here"] (spMix K)) :
    FnOk P w K mg base CX0 4 f fd ["_law_deck_here", "_law_leaves", "_law_mixes"] (spLKids K) := by
  refine F.ok scLKids (fun vs H Q E h => ?_) (fun cdv A outer s H vs Q E hr h => ?_)
  · obtain ⟨dk, L, ns, N, Lv, mx, rfl, _⟩ := h
    rfl
  obtain ⟨dk, L, ns, N, Lv, mx, rfl, hD, hN, hL1, hL8, hmx, q⟩ := h
  have r1 := hr.mono (show 1 ≤ 3 by decide)
  refine ⟨_, pss_cons (ps_set (i := 3) scLKids.nd rfl (.inl rfl) (pe_call GT hr (by rfl) gT FT.kp bT .nil pass0 (pa_cons (pv 0) (pa_cons (pv 1) pa_nil))))
    (pss_cons (ps_for PassesOwn.never rfl (pi_range1 (by rfl) m1 (pa_cons (pe_call GW r1 (by rfl) gW FW.kp bW .nil pass0 (pa_cons (pv 0) (pa_cons (pe_op op_add (pv 2) pe_int) pa_nil))) pa_nil)) (pg_name (i := 4) scLKids.nd rfl (.inl rfl))
      (pss_one (ps_if (pt_cmpR op_lt (pe_op op_sub (pe_callB (r := rLenS K) call_len_seq (by rfl) m3 PySem.boot_len (pa_cons (pv 3) pa_nil)) (pv 1)) pe_int (nomark _))
        (pss_one (ps_expr (pe_call GM hr (by rfl) gM FM.kp bM .nil pass0 (pa_cons (pv 0) (pa_cons (pv 3) pa_nil))))) pss_nil)))
    (pss_one (ps_ret (pv 3)))), ?_⟩
  let S : Option V → Option V → L2.St := fun x3 x4 => [some (.ref dk), some (nV Lv), some (nV mx), x3, x4]
  refine q_tree (ev_var rfl) (ev_var rfl) hD (by omega) hL1 (by omega) fun H1 p rs kk hB hK hG hn => ?_
  show tSeq (tFor _ _ _) _ _ (S (some (.ref p)) none) H1
  refine ⟨.ref dk, rfl, (ev_op (x := nV mx) (ev_var rfl) ev_c rv_I0 : Ev _ _ _ (.int ((mx : Int) + 1))) H1 (Ex.refl H1) _ fun H2 e2 => ?_⟩
  have b2 := hB.more e2
  refine ⟨dk, L, ns, _, N + 40, rfl, b2.deck, by omega, by omega, by omega, fun r H3 a1 a2 e3 d3 => ?_⟩
  refine ⟨r, rfl, by omega, by omega, for_range (lo := 0) (n := r.toNat) (fun i σ' H' => ∃ rs kk x4, σ' = S (some (.ref p)) x4 ∧ Bs H H' dk L ns (N + 41 + 4 * i) ∧ Kds H H' p rs kk ∧ Gen Lv kk.length (rowAt kk) ∧ kk.length ≤ Lv + 20)
    ⟨rs, kk, none, rfl, (b2.draw e3 d3).wk (by omega), (hK.ex e2).draw b2 e3, hG, by omega⟩ (fun i σ' H' hi hP => ?_) fun σ' H' hP => ?_⟩
  · obtain ⟨rs, kk, x4, rfl, hB, hK, hG, hn⟩ := hP
    refine s_if (b := decide (((kk.length : Int) - (Lv : Int)) < 18)) (et_test (ev_op (x := .int ((kk.length : Int) - (Lv : Int))) (ev_op (x := nV kk.length) (y := nV Lv) (ev_is (ev_len (K := K) (ev_var rfl) (sq_of hK.kd.at_)) (by rw [List.length_map, hK.kd.len]; rfl)) (ev_var rfl) rv_I0) ev_c rv_I0)) (fun hb H4 e4 => ?_) fun hb H4 e4 => ?_
    · have hb := of_decide_eq_true hb
      refine ⟨.ref dk, rfl, .ref p, rfl, dk, p, H, L, ns, _, rs, kk, Lv, rfl, hB.more e4, by omega, hK.ex e4, hG, hL8, by omega, fun H5 rs' kk' b5 k5 g5 n5 => ?_⟩
      exact ⟨rs', kk', _, rfl, b5.wk (by omega), k5, g5, by omega⟩
    · exact ⟨rs, kk, _, rfl, (hB.more e4).wk (by omega), hK.ex e4, hG, hn⟩
  · obtain ⟨rs, kk, x4, rfl, hB, hK, hG, hn⟩ := hP
    refine s_ret (v := .ref p) (ev_var rfl) fun H4 e4 => ?_
    exact q H4 p rs kk ((hB.more e4).wk (by omega)) (hK.ex e4) hG hn
end
end WR
set_option Elab.async false
set_option linter.all false
set_option maxRecDepth 100000
set_option maxHeartbeats 2000000
namespace WR
open PySem PySem.Spec PyProof.Rows L2 Evl

/-! ### _law_numbered -/
/-- the place of a kind in the order of numbers -/
def plc (k : Nat) : List Nat → Nat
  | [] => 0
  | x :: r => if x = k then 0 else plc k r + 1
theorem plc_lt {k : Nat} : ∀ {od : List Nat}, k ∈ od → plc k od < od.length
  | x :: r, h => by
    show (if x = k then 0 else plc k r + 1) < r.length + 1
    by_cases e : x = k
    · rw [if_pos e]
      omega
    · rw [if_neg e]
      have := plc_lt (k := k) (od := r) (by
        rcases List.mem_cons.mp h with z | z
        · exact absurd z.symm e
        · exact z)
      omega
theorem plc_app {k : Nat} {more : List Nat} : ∀ {od : List Nat}, k ∈ od → plc k (od ++ more) = plc k od
  | x :: r, h => by
    show (if x = k then 0 else plc k (r ++ more) + 1) = if x = k then 0 else plc k r + 1
    by_cases e : x = k
    · rw [if_pos e, if_pos e]
    · rw [if_neg e, if_neg e, plc_app (od := r) (by
        rcases List.mem_cons.mp h with z | z
        · exact absurd z.symm e
        · exact z)]
theorem plc_get {k : Nat} : ∀ {od : List Nat}, k ∈ od → od[plc k od]? = some k
  | x :: r, h => by
    show (x :: r)[if x = k then 0 else plc k r + 1]? = _
    by_cases e : x = k
    · rw [if_pos e, e]
      rfl
    · rw [if_neg e]
      exact plc_get (od := r) (by
        rcases List.mem_cons.mp h with z | z
        · exact absurd z.symm e
        · exact z)
theorem plc_at {k j : Nat} : ∀ {od : List Nat}, od.Nodup → od[j]? = some k → plc k od = j
  | od, hd, h => by
    have hm := List.mem_of_getElem? h
    have h3 := List.getElem?_eq_some_iff.mp (plc_get hm)
    have h4 := List.getElem?_eq_some_iff.mp h
    obtain ⟨a1, a2⟩ := h3
    obtain ⟨b1, b2⟩ := h4
    exact (List.getElem_inj hd).mp (a2.trans b2.symm)
def dNs : Nat → List Nat → List (Key × V)
  | _, [] => []
  | i, k :: r => (Sum.inl (k : Int), nV i) :: dNs (i + 1) r
theorem dNs_len : ∀ {i : Nat} {od : List Nat}, (dNs i od).length = od.length
  | _, [] => rfl
  | i, k :: r => by
    show (dNs (i + 1) r).length + 1 = r.length + 1
    rw [dNs_len]
theorem dNs_val {k : Nat} : ∀ {i : Nat} {od : List Nat}, valV (dNs i od) (Sum.inl (k : Int)) = if k ∈ od then some (nV (i + plc k od)) else none
  | _, [] => rfl
  | i, x :: r => by
    by_cases e : x = k
    · subst e
      rw [if_pos (List.mem_cons_self ..)]
      show valV ((Sum.inl (x : Int), nV i) :: dNs (i + 1) r) _ = some (nV (i + if x = x then 0 else _))
      rw [if_pos rfl]
      exact valV_pos rfl
    · have hn : ¬ ((Sum.inl (x : Int) : Key) = Sum.inl (k : Int)) := fun z => e (by
        have := Sum.inl.inj z
        omega)
      show valV ((Sum.inl (x : Int), nV i) :: dNs (i + 1) r) _ = if k ∈ x :: r then some (nV (i + if x = k then 0 else plc k r + 1)) else none
      rw [valV_neg hn, dNs_val, if_neg e]
      have : (k ∈ x :: r) ↔ k ∈ r := by simp [Ne.symm e]
      simp only [this]
      rw [show i + 1 + plc k r = i + (plc k r + 1) by omega]
theorem dNs_app {k : Nat} : ∀ {i : Nat} {od : List Nat}, dNs i (od ++ [k]) = dNs i od ++ [(Sum.inl (k : Int), nV (i + od.length))]
  | i, [] => rfl
  | i, x :: r => by
    show (Sum.inl (x : Int), nV i) :: dNs (i + 1) (r ++ [k]) = (Sum.inl (x : Int), nV i) :: (dNs (i + 1) r ++ [(Sum.inl (k : Int), nV (i + (r.length + 1)))])
    rw [dNs_app, show i + 1 + r.length = i + (r.length + 1) by omega]
theorem dNs_put {k : Nat} {od : List Nat} (h : k ∉ od) : putK (dNs 0 od) (Sum.inl (k : Int)) (nV od.length) = dNs 0 (od ++ [k]) := by
  rw [putK_new _ (by rw [dNs_val, if_neg h]), dNs_app, Nat.zero_add]
theorem merge_put : ∀ {more : List Nat} {od : List Nat}, (od ++ more).Nodup → mergeK (dNs 0 od) (dNs od.length more) = dNs 0 (od ++ more)
  | [], od, _ => by rw [List.append_nil]; rfl
  | k :: r, od, h => by
    have hk : k ∉ od := fun z => by
      rw [List.nodup_append] at h
      exact h.2.2 k z k (List.mem_cons_self ..) rfl
    show mergeK (putK (dNs 0 od) (Sum.inl (k : Int)) (nV od.length)) (dNs (od.length + 1) r) = _
    rw [dNs_put hk]
    have e : od.length + 1 = (od ++ [k]).length := by rw [List.length_append]; rfl
    have ea : od ++ k :: r = (od ++ [k]) ++ r := by rw [List.append_assoc]; rfl
    rw [e, ea, merge_put (by rw [← ea]; exact h)]
theorem merge_nil {od : List Nat} (h : od.Nodup) : mergeK [] (dNs 0 od) = dNs 0 od := merge_put (od := []) h
/-- the kinds in the order of their numbers, children first -/
structure Ord (L n : Nat) (K : Nat → List Nat) (od : List Nat) : Prop where
  nd : od.Nodup
  lt : ∀ k ∈ od, k < n
  lf : ∀ k, k < L → od[k]? = some k
  len : L ≤ od.length
  dn : ∀ u c, u ∈ od → c ∈ K u → c ∈ od ∧ plc c od < plc u od
theorem Ord.leaf {L n : Nat} {K : Nat → List Nat} {od : List Nat} (o : Ord L n K od) {k : Nat} (h : k < L) : k ∈ od := List.mem_of_getElem? (o.lf k h)
theorem Ord.more {L n x : Nat} {K : Nat → List Nat} {od : List Nat} (o : Ord L n K od) (hx : x ∉ od) (hn : x < n) (hc : ∀ c ∈ K x, c ∈ od) : Ord L n K (od ++ [x]) := by
  have hxp : plc x (od ++ [x]) = od.length := by
    refine plc_at ?_ ?_
    · rw [List.nodup_append]
      exact ⟨o.nd, by simp, fun a ha b hb z => hx (by rw [List.mem_singleton.mp hb] at z; exact z ▸ ha)⟩
    · rw [List.getElem?_append_right (Nat.le_refl _), Nat.sub_self]
      rfl
  refine ⟨?_, fun k hk => ?_, fun k hk => ?_, by rw [List.length_append]; have := o.len; omega, fun u c hu h => ?_⟩
  · rw [List.nodup_append]
    exact ⟨o.nd, by simp, fun a ha b hb z => hx (by rw [List.mem_singleton.mp hb] at z; exact z ▸ ha)⟩
  · rcases List.mem_append.mp hk with h | h
    · exact o.lt k h
    · rw [List.mem_singleton.mp h]
      exact hn
  · rw [List.getElem?_append_left (by have := o.len; omega)]
    exact o.lf k hk
  · rcases List.mem_append.mp hu with h1 | h1
    · obtain ⟨a, b⟩ := o.dn u c h1 h
      exact ⟨List.mem_append_left _ a, by rw [plc_app a, plc_app h1]; exact b⟩
    · rw [List.mem_singleton.mp h1] at h ⊢
      have a := hc c h
      exact ⟨List.mem_append_left _ a, by rw [plc_app a, hxp]; exact plc_lt a⟩
/-- while kinds are left, one of them is ready -/
theorem ready {L n : Nat} {K : Nat → List Nat} {x : Nat} (g : GenX L n K x) {od left : List Nat} (hne : left ≠ []) (hl : ∀ k, k < n → k ∈ od ∨ k ∈ left) : ∃ k ∈ left, ∀ c ∈ K k, c ∈ od := by
  obtain ⟨r, hr⟩ := g.rk
  have key : ∀ m, ∀ k ∈ left, r k < m → ∃ k ∈ left, ∀ c ∈ K k, c ∈ od := fun m => by
    induction m with
    | zero => exact fun k _ h => absurd h (Nat.not_lt_zero _)
    | succ m ih =>
      intro k hk hm
      by_cases z : ∀ c ∈ K k, c ∈ od
      · exact ⟨k, hk, z⟩
      · obtain ⟨c, hc⟩ := Classical.not_forall.mp z
        obtain ⟨h1, h2⟩ := Classical.not_imp.mp hc
        rcases hl c (g.lt k c h1) with h | h
        · exact absurd h h2
        · exact ih c h (by have := hr k c h1; omega)
  cases left with
  | nil => exact absurd rfl hne
  | cons k l => exact key (r k + 1) k (List.mem_cons_self ..) (Nat.lt_succ_self _)
/-- the items of the web that is told -/
def itemOf (K : Nat → List Nat) (od : List Nat) (u : Nat) : List Nat := (sortI ((K u).map fun c => ((plc c od : Nat) : Int))).map Int.toNat
/-- a web that is drawn -/
structure Drawn (L : Nat) (inner : List (List Nat)) : Prop where
  ex : ∃ kk od, Gen L kk.length (rowAt kk) ∧ kk.length ≤ L + 20 ∧ Ord L kk.length (rowAt kk) od ∧ od.length = kk.length ∧ inner = (od.drop L).map (itemOf (rowAt kk) od)
/-- the same, the children that were numbered told -/
def NumD (kk : List (List Nat)) (L : Nat) (inner : List (List Nat)) : Prop := ∃ od, Gen L kk.length (rowAt kk) ∧ kk.length ≤ L + 20 ∧ Ord L kk.length (rowAt kk) od ∧ od.length = kk.length ∧ inner = (od.drop L).map (itemOf (rowAt kk) od)
theorem NumD.drawn {kk : List (List Nat)} {L : Nat} {inner : List (List Nat)} (h : NumD kk L inner) : Drawn L inner := by
  obtain ⟨od, h⟩ := h
  exact ⟨kk, od, h⟩
def spNumb (K : PySem.W.Frag) : Sp := fun vs H Q _ => ∃ dk p B L ns N rs kk Lv, vs = [.ref dk, .ref p, nV Lv] ∧ Bs B H dk L ns N ∧ N ≤ 900000000 ∧ Kds B H p rs kk ∧ Gen Lv kk.length (rowAt kk) ∧ Lv ≤ 8 ∧ kk.length ≤ Lv + 20 ∧
  ∀ H' v inner, Bs B H' dk L ns (N + 20) → Kds B H' p rs kk → Dp K H' v (webD Lv inner) → NumD kk Lv inner → Q v H'
abbrev nNumb : List Str := ["_law_deck_here", "_law_kids_here", "_law_leaves", "_law_numbers", "_law_left", "_law_inner", "_law_kind", "_law_leaf", "_law_one_here", "_law_child"]
theorem scNumb : FnScope nNumb ["_law_deck_here", "_law_kids_here", "_law_leaves"] (defScope sNumb) := ⟨rfl, rfl, rfl, by decide +kernel, rfl, by decide +kernel, by decide +kernel⟩
theorem paired_imp {α β : Type} {F G : α → β → Prop} (h : ∀ a b, F a b → G a b) : ∀ {l₁ : List α} {l₂ : List β}, Paired F l₁ l₂ → Paired G l₁ l₂
  | _, _, .nil => .nil
  | _, _, .cons a t => .cons (h _ _ a) (paired_imp h t)
theorem rgV_lo {a b : Nat} (h : a ≤ b) : rgV (a : Int) (b : Int) = nVs ((List.range (b - a)).map (a + ·)) := by
  unfold rgV nVs
  rw [show ((b : Int) - (a : Int)).toNat = b - a by omega, List.map_map]
  refine List.map_congr_left fun i _ => ?_
  show V.int ((a : Int) + (i : Int)) = V.int ((a + i : Nat) : Int)
  congr 1
theorem nVs_int {ks : List Nat} : nVs ks = (ks.map fun (k : Nat) => (k : Int)).map V.int := by
  unfold nVs
  rw [List.map_map]
  rfl
theorem ints_erase : ∀ {l : List Nat} {j : Nat}, ((l.map fun (k : Nat) => (k : Int)).eraseIdx j).map V.int = nVs (l.eraseIdx j)
  | [], _ => by simp [nVs]
  | a :: r, 0 => by
    show (r.map fun (k : Nat) => (k : Int)).map V.int = nVs r
    rw [← nVs_int]
  | a :: r, j + 1 => by
    show V.int (a : Int) :: ((r.map fun (k : Nat) => (k : Int)).eraseIdx j).map V.int = nV a :: nVs (r.eraseIdx j)
    rw [ints_erase]
    rfl
theorem nat_ints : ∀ {l : List Int}, (∀ i ∈ l, 0 ≤ i) → (l.map Int.toNat).map natD = l.map PyData.int
  | [], _ => rfl
  | i :: l, h => by
    show PyData.int ((i.toNat : Nat) : Int) :: _ = PyData.int i :: _
    rw [Int.toNat_of_nonneg (h i (List.mem_cons_self ..)), nat_ints fun j hj => h j (List.mem_cons_of_mem _ hj)]
theorem itemOf_app {K : Nat → List Nat} {od more : List Nat} {u : Nat} (h : ∀ c ∈ K u, c ∈ od) : itemOf K (od ++ more) u = itemOf K od u := by
  unfold itemOf
  rw [List.map_congr_left (g := fun c => ((plc c od : Nat) : Int)) fun c hc => by rw [plc_app (h c hc)]]
theorem itemsD {K : Nat → List Nat} {od : List Nat} {u : Nat} : kidsD (itemOf K od u) = .tuple ((sortI ((K u).map fun c => ((plc c od : Nat) : Int))).map PyData.int) := by
  unfold kidsD itemOf
  rw [nat_ints fun i hi => ?_]
  have h := (sortI_perm _).mem_iff.mp hi
  obtain ⟨c, _, rfl⟩ := List.mem_map.mp h
  omega
theorem Bs.rem {B H : Hp} {dk L r : Addr} {ns : List Int} {N : Int} (b : Bs B H dk L ns N) (h : B r = none) : Bs B (rem H r) dk L ns N := by
  have hne := b.ne h
  have hL : L ≠ r := fun z => by
    obtain ⟨o, ho⟩ := b.bL
    rw [z, h] at ho
    cases ho
  obtain ⟨x, y, n, d, hn⟩ := b.deck
  refine ⟨fun a o ha => ?_, ⟨x, y, n, ⟨?_, ?_, d.a0, d.b0, d.n0, d.len⟩, hn⟩, b.bdk, b.bL⟩
  · have har : a ≠ r := fun z => by
      rw [z, rem_ne hne, h] at ha
      cases ha
    rw [rem_ne har]
    exact b.ex a o ha
  · rw [rem_ne (Ne.symm hne)]
    exact d.at_
  · rw [rem_ne hL]
    exact d.ls
theorem Kds.rem {B H : Hp} {p r : Addr} {rs : List Addr} {kk : List (List Nat)} (k : Kds B H p rs kk) (hr : r ∉ p :: rs) : Kds B (rem H r) p rs kk := by
  rw [List.mem_cons, not_or] at hr
  refine ⟨⟨by rw [rem_ne (Ne.symm hr.1)]; exact k.kd.at_, k.kd.len, k.kd.nd, k.kd.np, fun i r' ks h1 h2 => ?_⟩, k.bp, k.br⟩
  rw [rem_ne fun (z : r' = r) => hr.2 (z ▸ List.mem_of_getElem? h1)]
  exact k.kd.row i r' ks h1 h2
section
variable {K : PySem.W.Frag} {σ : L2.St} {H H' : Hp} {ta tb te tl td ty : TE} {t : TT}
theorem ex_tK {a l : Addr} {xs : List V} {ys zs : List (Key × V)} (hl : H l = some (.dK ys)) (h : SqT K H a xs) : SqT K (upd H l (.dK zs)) a xs := by
  rcases h with (h | ⟨o, h⟩) | h
  · exact .inl (.inl (by rw [upd_ne (ne_of h hl (by intro z; cases z))]; exact h))
  · exact .inl (.inr ⟨o, by rw [upd_ne (ne_of h hl (by intro z; cases z))]; exact h⟩)
  · exact .inr h
mutual
/-- a dict that changes changes no such datum -/
theorem dp_updK {K : PySem.W.Frag} {H : Hp} {l : Addr} {ys zs : List (Key × V)} (hl : H l = some (.dK ys)) : ∀ {v : V} (d : PyData), nl d = true → Dp K H v d → Dp K (upd H l (.dK zs)) v d
  | _, .none, _, h => by cases h; exact .non
  | _, .bool _, _, h => by cases h; exact .bl _
  | _, .int _, _, h => by cases h; exact .int _
  | _, .str _, _, h => by cases h; exact .str _
  | _, .list ds, n, h => by cases n
  | _, .tuple ds, n, h => by
    cases h with
    | tup a b => exact .tup (ex_tK hl a) (dpAll_updK hl ds n b)
  | _, .dict _, _, h => by cases h
theorem dpAll_updK {K : PySem.W.Frag} {H : Hp} {l : Addr} {ys zs : List (Key × V)} (hl : H l = some (.dK ys)) : ∀ {vs : List V} (ds : List PyData), nlAll ds = true → DpAll K H vs ds → DpAll K (upd H l (.dK zs)) vs ds
  | _, [], _, h => by cases h; exact .nil
  | _, d :: ds, n, h => by
    have n' : (nl d && nlAll ds) = true := n
    rw [Bool.and_eq_true] at n'
    cases h with
    | cons a b => exact .cons (dp_updK hl d n'.1 a) (dpAll_updK hl ds n'.2 b)
end
/-- what a draw leaves as it is -/
theorem dp_draw {v : V} {dk L : Addr} {ns : List Int} {N M : Int} {d : PyData} (hD : Dk H dk L ns N) (hD' : Dk H' dk L ns M) (e : Ex (rem H dk) H') (n : nl d = true) (h : Dp K H v d) : Dp K H' v d := by
  obtain ⟨a, b, c, g, _⟩ := hD
  obtain ⟨a', b', c', g', _⟩ := hD'
  have q := dp_updL (zs := [.ref L, .int a', .int b', .int c']) g.at_ d n h
  refine dp_ex (fun x o hx => ?_) d q
  by_cases z : x = dk
  · subst z
    rw [upd_same] at hx
    rw [← hx]
    exact g'.at_
  · rw [upd_ne z] at hx
    exact e x o (by rw [rem_ne z]; exact hx)
theorem dpAll_draw {vs : List V} {dk L : Addr} {ns : List Int} {N M : Int} {ds : List PyData} (hD : Dk H dk L ns N) (hD' : Dk H' dk L ns M) (e : Ex (rem H dk) H') (n : nlAll ds = true) (h : DpAll K H vs ds) : DpAll K H' vs ds := by
  obtain ⟨a, b, c, g, _⟩ := hD
  obtain ⟨a', b', c', g', _⟩ := hD'
  have q := dpAll_updL (zs := [.ref L, .int a', .int b', .int c']) g.at_ ds n h
  refine dpAll_ex (fun x o hx => ?_) ds q
  by_cases z : x = dk
  · subst z
    rw [upd_same] at hx
    rw [← hx]
    exact g'.at_
  · rw [upd_ne z] at hx
    exact e x o (by rw [rem_ne z]; exact hx)
theorem nl_kidsD (ks : List Nat) : nl (kidsD ks) = true := by
  show nlAll (ks.map natD) = true
  exact nlAll_mem fun d hd => by
    obtain ⟨k, _, rfl⟩ := List.mem_map.mp hd
    rfl
theorem nl_kidsDs (l : List (List Nat)) : nlAll (l.map kidsD) = true := nlAll_mem fun d hd => by
  obtain ⟨k, _, rfl⟩ := List.mem_map.mp hd
  exact nl_kidsD k
theorem fm_nats {f : PyData → Option PyData} {g : Nat → Int} : ∀ {ks : List Nat}, (∀ c ∈ ks, f (natD c) = some (.int (g c))) → (natDs ks).filterMap f = (ks.map g).map PyData.int
  | [], _ => rfl
  | c :: r, h => by
    show (natD c :: natDs r).filterMap f = .int (g c) :: (r.map g).map PyData.int
    rw [List.filterMap_cons, h c (List.mem_cons_self ..), fm_nats fun x hx => h x (List.mem_cons_of_mem _ hx)]
theorem el_natLcC {j : Nat} {vs : List Nat} {a : Addr} {ks : List Nat} (g : Nat → Bool) (h : Ev tl σ H (.ref a)) (hx : SqL K H a (nVs ks)) (hz : ks.length ≤ 40000) (hw : ∀ x, wipe ((wipe σ vs).set j (some x)) vs = wipe σ vs) (hj : j < (wipe σ vs).length)
    (ht : ∀ k H1, Ex H H1 → k ∈ ks → EvT t ((wipe σ vs).set j (some (nV k))) H1 (g k)) : EvL (tLc (iList K tl) (gName j) t (tC (.int 1)) vs) σ H (nVs ((ks.filter g).map fun _ => 1)) := by
  have q := el_lcL (K := K) (xs := nVs ks) (σ := σ) (H := H) (t := t) (te := tC (.int 1)) (vs := vs) (j := j) (fun i => g (ks.getD i 0)) (fun _ => .int 1) h hx (by unfold nVs; rw [List.length_map]; exact hz) hw (fun i x H1 e hi => by
    obtain ⟨k, _, rfl, h1, hm⟩ := nVs_get hi
    rw [h1]
    exact ht k H1 e hm) (fun i x H1 e hi _ => ev_c)
  have e : (nVs ks).length = ks.length := by unfold nVs; rw [List.length_map]
  rw [e] at q
  have e2 : given ks.length (fun i => g (ks.getD i 0)) (fun _ => V.int 1) = nVs ((ks.filter g).map fun _ => 1) := by
    have e3 : given ks.length (fun i => g (ks.getD i 0)) (fun _ => V.int 1) = (given ks.length (fun i => g (ks.getD i 0)) (fun i => nV (ks.getD i 0))).map fun _ => V.int 1 := by
      unfold given
      rw [List.map_map]
      rfl
    rw [e3, given_nat]
    unfold nVs
    rw [List.map_map, List.map_map]
    rfl
  rw [e2] at q
  exact q
theorem ev_dgetK {d : Addr} {kvs : List (Key × V)} {k : Int} {v : V} (hd : Ev td σ H (.ref d)) (hk : Ev ty σ H (.int k)) (h : H d = some (.dK kvs)) (hv : valV kvs (Sum.inl k) = some v) : Ev (tDGet td ty) σ H v := fun H1 e Q q =>
  hd H1 e _ fun H2 e2 => hk H2 (e.trans e2) _ fun H3 e3 => ⟨d, v, rfl, by rw [← hv]; exact DGet.k (k := Sum.inl k) (((e.trans e2).trans e3) _ _ h), q H3 (e2.trans e3)⟩
end
section
variable {P : Program} {w : World} {K : PySem.W.Frag} {mg : Str → Option Value} {base : Heap}
abbrev scIn : Scope := { kind := ScopeKind.function, names := [(Str.ofString ".0", NameKind.local), (Str.ofString "_law_one_here", NameKind.local), (Str.ofString "_law_kids_here", NameKind.cell), (Str.ofString "_law_numbers", NameKind.cell)], isGenerator := false, isCoroutine := false, more := [] }
abbrev tPairs : TE := tLc (iRng1 (tCons (tVar 2) tNil)) (gName 7) tYes (tTup (tCons (tVar 7) (tCons (tVar 7) tNil))) [7]
abbrev tWait (K : PySem.W.Frag) : TE := tLc (iList K (tOp (rIxL K) (tVar 1) (tVar 8))) (gName 9) (tB (tDNotIn (tVar 9) (tVar 3))) (tC (.int 1)) [9]
abbrev tReady (K : PySem.W.Frag) : TE := tLc (iList K (tVar 4)) (gName 8) (tTest (tOp (rEqD K) (tWait K) (tLst tNil))) (tVar 8) [8]
abbrev tItem (K : PySem.W.Frag) : TE := tLc (iList K (tOp (rIxL K) (tVar 1) (tVar 6))) (gName 9) tYes (tDGet (tVar 3) (tVar 9)) [9]
theorem ok_numb {f fO : Addr} {fd fdO : FuncData} (F : Fun K "_law_numbered" "_law_numbered" sNumb f fd)
    (FO : Fun K "_law_one" "_law_one" sOne fO fdO) (bO : Binds K fdO ["_law_deck_here", "_law_items"] []) (gO : mg "_law_one" = some (.ref fO))
    (m1 : mg "range" = none) (m2 : mg "list" = none) (m3 : mg "len" = none) (m4 : mg "dict" = none) (m5 : mg "tuple" = none) (m6 : mg "sorted" = none)
    (GO : FnOk P w K mg base CX0 2 fO fdO ["_law_deck_here", "_law_items"] (spOne K)) :
    FnOk P w K mg base CX0 3 f fd ["_law_deck_here", "_law_kids_here", "_law_leaves"] (spNumb K) := by
  refine F.ok scNumb (fun vs H Q E h => ?_) (fun cdv A outer s H vs Q E hr h => ?_)
  · obtain ⟨dk, p, B, L, ns, N, rs, kk, Lv, rfl, _⟩ := h
    rfl
  obtain ⟨dk, p, B, L, ns, N, rs, kk, Lv, rfl, hB, hN, hK, hG, hLv, hn, q⟩ := h
  have hu := hr.units
  apply Exists.intro
  apply And.intro
  case left =>
    refine' pss_cons (ps_asg (pe_tup (pa_cons (pe_callTy (call_dictP rfl) (by rfl) m4 (by decide +kernel) (pa_cons (pe_lc (own := [("_law_leaf", 7)]) (g := gName 7) (tt := tYes) (te := tTup (tCons (tVar 7) (tCons (tVar 7) tNil))) rfl scNumb.nd (pi_range1 (by rfl) m1 (pa_cons (pv 2) pa_nil)) (blkOk_by (N := nNumb) (sc := defScope sNumb) (by decide +kernel))
        (fun _ _ _ _ _ => pg_name (i := 7) scNumb.nd rfl (Or.inl rfl)) (fun _ _ _ _ _ => pts_nil) (fun _ _ _ _ _ => pe_tup (pa_cons (pv 7) (pa_cons (pv 7) pa_nil)))) pa_nil))
      (pa_cons (pe_listRg rfl (by rfl) m2 (prg_2 (by rfl) m1 (pv 2) (pe_callB (r := rLenS K) call_len_seq (by rfl) m3 PySem.boot_len (pa_cons (pv 1) pa_nil)))) (pa_cons (pe_lst pa_nil) pa_nil))))
      (pg_tup rfl (pgs_cons (pg_name (i := 3) scNumb.nd rfl (.inr rfl)) (pgs_cons (pg_name (i := 4) scNumb.nd rfl (.inl rfl)) (pgs_cons (pg_name (i := 5) scNumb.nd rfl (.inl rfl)) pgs_nil))))) ?r0
    case' r0 => skip
    refine' pss_cons (ps_while PassesOwn.never (pt_cmpR (op_neD hu) (pv 4) (pe_lst pa_nil) (nomark _)) ?wb) ?r1
    case' wb =>
      refine' pss_cons (ps_set (i := 6) scNumb.nd rfl (.inl rfl) (pe_call GO hr (by rfl) gO FO.kp bO .nil pass0 (pa_cons (pv 0) (pa_cons
        (pe_lc (own := [("_law_one_here", 8)]) (g := gName 8) (tt := tTest (tOp (rEqD K) (tWait K) (tLst tNil))) (te := tVar 8) rfl scNumb.nd (pi_list (pv 4)) (blkOk_by (N := nNumb) (sc := defScope sNumb) (by decide +kernel))
          (fun _ _ _ _ _ => pg_name (i := 8) scNumb.nd rfl (Or.inl rfl)) (fun _ _ _ _ _ => pts_one (pt_cmpR (op_eqD hu)
            (pe_lc (own := [("_law_child", 9)]) (g := gName 9) (tt := tB (tDNotIn (tVar 9) (tVar 3))) (te := tC (.int 1)) rfl scNumb.nd (pi_list (pe_ix (r := rIxL K) ix_list (pv 1) (pv 8) (fun _ _ => rfl))) (blkOk_by (N := nNumb) (sc := scIn) (by decide +kernel))
              (fun _ _ _ _ _ => pg_name (i := 9) scNumb.nd rfl (Or.inl rfl)) (fun _ _ _ _ _ => pts_one (pt_cmp (pc_dnotin (hu_of hr) (pv 9) (pv 3)))) (fun _ _ _ _ _ => pe_int)) (pe_lst pa_nil) (nomark _))) (fun _ _ _ _ _ => pv 8)) pa_nil)))) ?w1
      case' w1 => skip
      refine' pss_cons (ps_expr (pe_bm PySem.F.plainAttrs_list PySem.F.slot_list_remove PySem.F.type_list_remove mt_remove (pv 4) (pa_cons (pv 6) pa_nil))) ?w2
      case' w2 => skip
      refine' pss_cons (ps_dput (hu_of hr) (pv 3) (pv 6) (pe_op op_add (pv 2) (pe_callB (r := rLenS K) call_len_seq (by rfl) m3 PySem.boot_len (pa_cons (pv 5) pa_nil))) rfl) ?w3
      case' w3 => skip
      exact pss_one (ps_expr (pe_bm PySem.F.plainAttrs_list PySem.F.slot_list_append PySem.F.type_list_append mt_append (pv 5) (pa_cons (pe_callTy call_tuple_of (by rfl) m5 (by decide +kernel) (pa_cons (pe_callB cr_sortedA (by rfl) m6 (by decide +kernel) (pa_cons
        (pe_lc (own := [("_law_child", 9)]) (g := gName 9) (tt := tYes) (te := tDGet (tVar 3) (tVar 9)) rfl scNumb.nd (pi_list (pe_ix (r := rIxL K) ix_list (pv 1) (pv 6) (fun _ _ => rfl))) (blkOk_by (N := nNumb) (sc := defScope sNumb) (by decide +kernel))
          (fun _ _ _ _ _ => pg_name (i := 9) scNumb.nd rfl (Or.inl rfl)) (fun _ _ _ _ _ => pts_nil) (fun _ _ _ _ _ => pe_dget (hu_of hr) (pv 3) (pv 9) (fun _ _ => rfl))) pa_nil)) pa_nil)) pa_nil)))
    case' r1 => skip
    exact pss_one (ps_ret (pe_tup (pa_cons (pv 2) (pa_cons (pe_callTy call_tuple_of (by rfl) m5 (by decide +kernel) (pa_cons (pv 5) pa_nil)) pa_nil))))
  case right =>
    let S : Option V → Option V → Option V → Option V → L2.St := fun x3 x4 x5 x6 => [some (.ref dk), some (.ref p), some (nV Lv), x3, x4, x5, x6, none, none, none]
    have hln := hG.ln
    refine ⟨nV Lv, rfl, (Lv : Int), rfl, by omega, by omega, fun D hD0 => ?_⟩
    rw [Int.toNat_natCast]
    refine lc_range (fun i H' => Ex H H' ∧ ∃ ps : List Addr, ps.length = i ∧ H' D = some (.lst (ps.map V.ref)) ∧ Paired (fun (x : Addr) (kv : Key × V) => H' x = some (.tup [kV kv.1, kv.2])) ps (dNs 0 (List.range i)))
      ⟨Ex.new hD0, [], rfl, upd_same, .nil⟩ (fun i H' hi hP => ?_) fun H' hP => ?_
    · obtain ⟨e, ps, hlen, hps, hpr⟩ := hP
      rw [Int.zero_add]
      refine ⟨rfl, ?_⟩
      refine yes_ ?_
      refine ⟨nV i, rfl, nV i, rfl, by show 2 ≤ sizeLine; decide, fun T hT => ?_⟩
      have hTD : D ≠ T := ne_of_none hps hT
      refine ⟨ps.map V.ref, Ex.new hT _ _ hps, sz_lt (by rw [List.length_map]; omega), Ex.mut (e.trans (Ex.new hT)) hD0, ps ++ [T], by rw [List.length_append, hlen]; rfl, by rw [upd_same, List.map_append]; rfl, ?_⟩
      rw [List.range_succ, dNs_app, List.length_range, Nat.zero_add]
      refine (paired_imp (fun a kv h => ?_) hpr).snoc ?_
      · have h1 : a ≠ D := fun z => by
          rw [z, hps] at h
          cases h
        rw [upd_ne h1]
        exact Ex.new hT _ _ h
      · rw [upd_ne (Ne.symm hTD), upd_same]
        rfl
    obtain ⟨e, ps, hlen, hps, hpr⟩ := hP
    refine ⟨D, ps, dNs 0 (List.range Lv), rfl, sq_of hps, paired_imp (fun a kv h => st_of h) hpr, fun d hd => ?_⟩
    rw [merge_nil List.nodup_range]
    have e1 := e.trans (Ex.new (o := .dK (dNs 0 (List.range Lv))) hd)
    refine ⟨nV Lv, rfl, (ev_is (ev_len (K := K) (ev_var rfl) (sq_of (hK.kd.ex e1).at_)) (by rw [List.length_map, hK.kd.len]) : Ev _ _ _ (.int (kk.length : Int))) _ (Ex.refl _) _ fun H3 e3 => ?_⟩
    refine ⟨(Lv : Int), (kk.length : Int), rfl, rfl, RgOk.of_le (by omega) (by omega) (by omega) (by omega), fun lf hlf => ⟨by show 0 ≤ sizeLine; decide, fun li hli => ⟨by show 3 ≤ sizeLine; decide, fun T hT => ?_⟩⟩⟩
    refine ⟨T, _, rfl, st_of upd_same, rfl, _, _, rfl, _, _, rfl, _, _, rfl, rfl, ?_⟩
    rw [rgV_lo hln] at hli hT ⊢
    have hdH : H d = none := fresh_back e hd
    have e13 := e1.trans e3
    have hlfH : H lf = none := fresh_back e13 hlf
    have e4 := e13.trans (Ex.new (o := .lst (nVs ((List.range (kk.length - Lv)).map (Lv + ·)))) hlf)
    have hliH : H li = none := fresh_back e4 hli
    have e5 := e4.trans (Ex.new (o := .lst []) hli)
    have e6 := e5.trans (Ex.new (o := .tup [.ref d, .ref lf, .ref li]) hT)
    have h3d := e3 _ _ (show upd H' d (.dK (dNs 0 (List.range Lv))) d = some (.dK (dNs 0 (List.range Lv))) from upd_same)
    have h4d := Ex.new (o := .lst (nVs ((List.range (kk.length - Lv)).map (Lv + ·)))) hlf _ _ h3d
    have h4l : upd H3 lf (.lst (nVs ((List.range (kk.length - Lv)).map (Lv + ·)))) lf = some (.lst (nVs ((List.range (kk.length - Lv)).map (Lv + ·)))) := upd_same
    have hdl : d ≠ lf := ne_of_none h3d hlf
    have hdi : d ≠ li := ne_of_none h4d hli
    have hli' : lf ≠ li := ne_of_none h4l hli
    have h6d := Ex.new (o := .tup [.ref d, .ref lf, .ref li]) hT _ _ (Ex.new (o := .lst []) hli _ _ h4d)
    have h6l := Ex.new (o := .tup [.ref d, .ref lf, .ref li]) hT _ _ (Ex.new (o := .lst []) hli _ _ h4l)
    have h6i := Ex.new (o := .tup [.ref d, .ref lf, .ref li]) hT _ _ (show upd (upd H3 lf (.lst (nVs ((List.range (kk.length - Lv)).map (Lv + ·))))) li (.lst []) li = some (.lst []) from upd_same)
    show tSeq (tWhile _ _) _ _ (S (some (.ref d)) (some (.ref lf)) (some (.ref li)) none) _
    generalize upd (upd (upd H3 lf (.lst (nVs ((List.range (kk.length - Lv)).map (Lv + ·))))) li (.lst [])) T (.tup [.ref d, .ref lf, .ref li]) = H6 at e6 h6d h6l h6i ⊢
    have hdn := hK.kd.fresh hdH
    have hlfn := hK.kd.fresh hlfH
    have hlin := hK.kd.fresh hliH
    have hdB := hB.new hdH
    have hlfB := hB.new hlfH
    have hliB := hB.new hliH
    have hB6 := hB.more e6
    have hK6 := hK.ex e6
    clear hps hpr hd e1 h3d e3 hlf hli hT e13 e4 e5 e6 h4d h4l hlen e hD0
    let Inv (m : Nat) (σ' : L2.St) (H' : Hp) : Prop := ∃ (od left : List Nat) (x6 : Option V) (M : Int), σ' = S (some (.ref d)) (some (.ref lf)) (some (.ref li)) x6 ∧ Bs B H' dk L ns M ∧ M + m ≤ N + 20 ∧ Kds B H' p rs kk ∧
      H' d = some (.dK (dNs 0 od)) ∧ H' lf = some (.lst (nVs left)) ∧ LD K H' li (((od.drop Lv).map (itemOf (rowAt kk) od)).map kidsD) ∧ Ord Lv kk.length (rowAt kk) od ∧ left.Nodup ∧ (∀ k, k < kk.length → k ∈ od ∨ k ∈ left) ∧ (∀ k ∈ left, k ∉ od ∧ k < kk.length) ∧
      od.length + left.length = kk.length ∧ m = left.length
    refine q_while Inv (kk.length - Lv) ⟨List.range Lv, (List.range (kk.length - Lv)).map (Lv + ·), none, N, rfl, hB6, by omega, hK6, h6d, h6l, ⟨[], h6i, ?_⟩, ?_, ?_, ?_, ?_, ?_, ?_⟩ fun m σ' H' hI => ?_
    · rw [List.drop_of_length_le (by rw [List.length_range]; omega)]
      exact .nil
    · refine ⟨List.nodup_range, fun k hk => ?_, fun k hk => ?_, by rw [List.length_range]; omega, fun u c hu hc => ?_⟩
      · have := List.mem_range.mp hk
        omega
      · rw [List.getElem?_range hk]
      · rw [hG.leaf u (List.mem_range.mp hu)] at hc
        cases hc
    · refine List.Pairwise.map _ (fun a b h => ?_) List.nodup_range
      show Lv + a ≠ Lv + b
      intro z
      exact h (by omega)
    · intro k hk
      by_cases z : k < Lv
      · exact .inl (List.mem_range.mpr z)
      · refine .inr (List.mem_map.mpr ⟨k - Lv, List.mem_range.mpr (by omega), by omega⟩)
    · intro k hk
      obtain ⟨i, hi, rfl⟩ := List.mem_map.mp hk
      have := List.mem_range.mp hi
      refine ⟨fun z => ?_, by omega⟩
      have := List.mem_range.mp z
      omega
    · rw [List.length_map, List.length_range, List.length_range]
      omega
    · rw [List.length_map, List.length_range]
    obtain ⟨od, left, x6, M, rfl, hB, hM, hK, hd, hl, hL, hO, hnd, hall, hleft, hlen, hm⟩ := hI
    have hOl := hO.len
    refine ⟨!left.isEmpty, et_neNil (ev_var rfl) hl, fun hb H1 e1 => ?_, fun hb H1 e1 => ?_⟩
    rotate_left
    · have he : left = [] := by
        cases left with
        | nil => rfl
        | cons _ _ => cases hb
      subst he
      refine s_retD (d := webD Lv ((od.drop Lv).map (itemOf (rowAt kk) od))) (ed_tup (eda_cons (ed_i (ev_var rfl)) (eda_cons (ed_tupL (ed_var rfl (hL.ex e1).dp)) eda_nil)) (by simp)) fun v H2 e2 hv => ?_
      exact q H2 v _ (((hB.more e1).more e2).wk (by omega)) ((hK.ex e1).ex e2) hv ⟨od, hG, hn, hO, by simpa using hlen, rfl⟩
    have hne : left ≠ [] := fun z => by
      rw [z] at hb
      cases hb
    replace hB := hB.more e1
    replace hK := hK.ex e1
    replace hd := e1 _ _ hd
    replace hl := e1 _ _ hl
    replace hL := hL.ex e1
    clear e1
    refine ⟨fun σ2 H2 => ∃ m', m' < m ∧ Inv m' σ2 H2, fun σ2 H2 h => h, ?_⟩
    have hnvl : (nVs left).length = left.length := by unfold nVs; rw [List.length_map]
    -- a kind that is ready
    have hR : EvL (tReady K) (S (some (.ref d)) (some (.ref lf)) (some (.ref li)) x6) H1 (nVs (left.filter fun k => (rowAt kk k).all fun c => decide (c ∈ od))) := by
      refine el_natLc _ (ev_var rfl) (sq_of hl) (by omega) (fun _ => rfl) (by show 8 < 10; decide) fun k H2 e2 hk => ?_
      have hkn := (hleft k hk).2
      obtain ⟨r, hr, hrow⟩ := (hK.ex e2).kd.get (rowAt_get hkn)
      have hz := nodup_len _ _ (hG.nd k) (fun c hc => hG.lt k c hc)
      have hW := el_natLcC (K := K) (σ := (wipe (S (some (.ref d)) (some (.ref lf)) (some (.ref li)) x6) [8]).set 8 (some (nV k))) (H := H2) (j := 9) (vs := [9]) (t := tB (tDNotIn (tVar 9) (tVar 3))) (fun c => decide (c ∉ od))
        (ev_row (K := K) (ta := tVar 1) (tb := tVar 8) (hK.ex e2).kd hr (ev_var rfl) (ev_var rfl)) (sq_of hrow) (by omega) (fun _ => rfl) (by show 9 < 10; decide) fun c H3 e3 hc => by
          have q1 := et_dnotin (σ := (wipe ((wipe (S (some (.ref d)) (some (.ref lf)) (some (.ref li)) x6) [8]).set 8 (some (nV k))) [9]).set 9 (some (nV c))) (H := H3) (td := tVar 3) (ty := tVar 9) (k := (c : Int)) (ev_var rfl) (ev_var rfl) (e3 _ _ (e2 _ _ hd))
          refine et_is q1 ?_
          rw [dNs_val]
          by_cases z : c ∈ od
          · rw [if_pos z, decide_eq_false (fun y => y z)]
            rfl
          · rw [if_neg z, decide_eq_true z]
            rfl
      refine et_is (et_eqNilL (K := K) hW) ?_
      generalize rowAt kk k = ks
      induction ks with
      | nil => rfl
      | cons c r ih =>
        rw [List.filter_cons, List.all_cons]
        by_cases z : c ∈ od
        · rw [decide_eq_false (fun y => y z), decide_eq_true z, if_neg Bool.false_ne_true, Bool.true_and]
          exact ih
        · rw [decide_eq_true z, decide_eq_false z, if_pos rfl, Bool.false_and]
          rfl
    refine ⟨.ref dk, rfl, hR H1 (Ex.refl H1) _ fun lr H2 hlr e2 hp2 => ?_⟩
    have b2 := hB.more e2
    obtain ⟨k0, hk0, hk0c⟩ := ready hG hne hall
    have hmem0 : k0 ∈ left.filter fun k => (rowAt kk k).all fun c => decide (c ∈ od) := by
      refine List.mem_filter.mpr ⟨hk0, ?_⟩
      rw [List.all_eq_true]
      exact fun c hc => decide_eq_true (hk0c c hc)
    have hpos := List.length_pos_of_mem hmem0
    have hfl := List.length_filter_le (fun k => (rowAt kk k).all fun c => decide (c ∈ od)) left
    have hnv2 : (nVs (left.filter fun k => (rowAt kk k).all fun c => decide (c ∈ od))).length = (left.filter fun k => (rowAt kk k).all fun c => decide (c ∈ od)).length := by unfold nVs; rw [List.length_map]
    refine ⟨dk, L, ns, M, lr, _, rfl, b2.deck, by omega, hp2, hB.ne (hB.new hlr), by omega, by omega, fun x H3 hx e3 d3 => ?_⟩
    obtain ⟨k, hk, rfl⟩ := List.mem_map.mp hx
    obtain ⟨hkl, hkc⟩ := List.mem_filter.mp hk
    rw [List.all_eq_true] at hkc
    have hkc : ∀ c ∈ rowAt kk k, c ∈ od := fun c hc => of_decide_eq_true (hkc c hc)
    obtain ⟨hkod, hkn⟩ := hleft k hkl
    have b3 := b2.draw e3 d3
    have k3 := (hK.ex e2).draw b2 e3
    have keep : ∀ {r : Addr} {o : HO}, B r = none → H1 r = some o → H3 r = some o := fun {r o} h1 h2 => e3 _ _ (by rw [rem_ne (b2.ne h1)]; exact e2 _ _ h2)
    have hd3 := keep hdB hd
    have hl3 := keep hlfB hl
    have hL3 : LD K H3 li (((od.drop Lv).map (itemOf (rowAt kk) od)).map kidsD) := by
      obtain ⟨xs, h1, h2⟩ := hL
      exact ⟨xs, keep hliB h1, dpAll_draw b2.deck d3 e3 (nl_kidsDs _) (dpAll_ex e2 _ h2)⟩
    have hkn0 := hkn
    unfold gName
    dsimp only
    show tSeq (tDrop _) _ _ (S (some (.ref d)) (some (.ref lf)) (some (.ref li)) (some (nV k))) H3
    clear hR hp2 hlr e2 b2 e3 d3 hB hK hd hl hL hx keep hnvl hnv2 hpos hfl hmem0
    -- it is left no more
    have hpl := plc_get hkl
    refine ⟨.ref lf, rfl, .inl ⟨rfl, _, sq_of hl3⟩, nV k, rfl, lf, left.map fun (k : Nat) => (k : Int), (k : Int), plc k left, rfl, rfl, by rw [← nVs_int]; exact hl3, by rw [List.getElem?_map, hpl]; rfl, fun j hj z => ?_, ?_⟩
    · rw [List.getElem?_map] at z
      obtain ⟨k', hk', e'⟩ := Option.map_eq_some_iff.mp z
      have e' : k' = k := by omega
      subst e'
      have := plc_at hnd hk'
      omega
    rw [ints_erase]
    have hperm := perm_erase hpl
    generalize hle : left.eraseIdx (plc k left) = left' at hperm ⊢
    have b4 := b3.upd (o := .lst (nVs left')) hlfB
    have k4 := k3.other (o := .lst (nVs left')) hlfn
    have hd4 : upd H3 lf (.lst (nVs left')) d = some (.dK (dNs 0 od)) := by
      rw [upd_ne hdl]
      exact hd3
    have hl4 : upd H3 lf (.lst (nVs left')) lf = some (.lst (nVs left')) := upd_same
    have hL4 : LD K (upd H3 lf (.lst (nVs left'))) li (((od.drop Lv).map (itemOf (rowAt kk) od)).map kidsD) := by
      obtain ⟨xs, h1, h2⟩ := hL3
      exact ⟨xs, by rw [upd_ne (Ne.symm hli')]; exact h1, dpAll_updL hl3 _ (nl_kidsDs _) h2⟩
    dsimp only
    show tSeq (sDPut _ _ _) _ _ (S (some (.ref d)) (some (.ref lf)) (some (.ref li)) (some (nV k))) (upd H3 lf (.lst (nVs left')))
    generalize upd H3 lf (.lst (nVs left')) = H4 at b4 k4 hd4 hl4 hL4 ⊢
    clear b3 k3 hd3 hl3 hL3
    -- its number
    have hdsl : (((od.drop Lv).map (itemOf (rowAt kk) od)).map kidsD).length = od.length - Lv := by rw [List.length_map, List.length_map, List.length_drop]
    refine q_dput (σ := S (some (.ref d)) (some (.ref lf)) (some (.ref li)) (some (nV k))) (td := tVar 3) (ty := tVar 6) (k := (k : Int)) (d := d) (v := nV od.length) ?_ (ev_var rfl) (ev_var rfl) hd4 (by rw [dNs_len]; omega) fun H5 e5 => ?_
    · obtain ⟨xs, h1, h2⟩ := hL4
      have hxl := dpAll_len h2
      refine ev_is (ev_op (x := nV Lv) (y := .int (xs.length : Int)) (ev_var rfl) (ev_len (K := K) (ev_var rfl) (sq_of h1)) rv_I0) ?_
      show V.int _ = V.int _
      congr 1
      omega
    rw [dNs_put hkod]
    have hd5 : H5 d = some (.dK (dNs 0 od)) := e5 _ _ hd4
    have b6 := (b4.more e5).upd (o := .dK (dNs 0 (od ++ [k]))) hdB
    have k6 := (k4.ex e5).other (o := .dK (dNs 0 (od ++ [k]))) hdn
    have hd6 : upd H5 d (.dK (dNs 0 (od ++ [k]))) d = some (.dK (dNs 0 (od ++ [k]))) := upd_same
    have hl6 : upd H5 d (.dK (dNs 0 (od ++ [k]))) lf = some (.lst (nVs left')) := by
      rw [upd_ne (Ne.symm hdl)]
      exact e5 _ _ hl4
    have hL6 : LD K (upd H5 d (.dK (dNs 0 (od ++ [k])))) li (((od.drop Lv).map (itemOf (rowAt kk) od)).map kidsD) := by
      obtain ⟨xs, h1, h2⟩ := hL4.ex e5
      exact ⟨xs, by rw [upd_ne (Ne.symm hdi)]; exact h1, dpAll_updK hd5 _ (nl_kidsDs _) h2⟩
    generalize upd H5 d (.dK (dNs 0 (od ++ [k]))) = H6 at b6 k6 hd6 hl6 hL6 ⊢
    clear b4 k4 hd4 hl4 hL4 hd5
    -- its item
    have hO' := hO.more hkod hkn hkc
    obtain ⟨r, hr6, hrow⟩ := k6.kd.get (rowAt_get hkn)
    have hz := nodup_len _ _ (hG.nd k) (fun c hc => hG.lt k c hc)
    have hI : EvN K (tItem K) (S (some (.ref d)) (some (.ref lf)) (some (.ref li)) (some (nV k))) H6 ((((rowAt kk k).map fun c => ((plc c (od ++ [k]) : Nat) : Int))).map PyData.int) := by
      have q1 := en_lc (K := K) (wi := iList K (tOp (rIxL K) (tVar 1) (tVar 6))) (t := tYes) (te := tDGet (tVar 3) (tVar 9)) (j := 9) (vs := [9]) (σ := S (some (.ref d)) (some (.ref lf)) (some (.ref li)) (some (nV k))) (H := H6) (ds := natDs (rowAt kk k))
        (fun x => match x with | .int i => some (.int ((plc i.toNat (od ++ [k]) : Nat) : Int)) | _ => none)
        (src_L (ed_ev (ev_row k6.kd hr6 (ev_var rfl) (ev_var rfl)) (.lst (sq_of hrow) (dpAll_nat _)))) (by unfold natDs; rw [List.length_map]; omega) (fun _ => rfl)
        (fun x v H7 e7 hx hv => by
          obtain ⟨c, hc, rfl⟩ := List.mem_map.mp hx
          exact fun H8 _ _ q => q H8 (Ex.refl H8))
        (fun x r' v H7 e7 hx hv hr' => by
          obtain ⟨c, hc, rfl⟩ := List.mem_map.mp hx
          have hr' : some (PyData.int ((plc ((c : Int)).toNat (od ++ [k]) : Nat) : Int)) = some r' := hr'
          rw [Int.toNat_natCast] at hr'
          cases hr'
          cases dp_int hv
          refine ed_i (ev_dgetK (d := d) (k := (c : Int)) (kvs := dNs 0 (od ++ [k])) (ev_var rfl) (ev_var rfl) (e7 _ _ hd6) ?_)
          rw [dNs_val, if_pos (List.mem_append_left _ (hkc c hc)), Nat.zero_add]
          rfl)
        (fun x r' hx hr' => by
          obtain ⟨c, hc, rfl⟩ := List.mem_map.mp hx
          cases hr'
          rfl)
      rw [fm_nats (g := fun c => ((plc c (od ++ [k]) : Nat) : Int)) fun c _ => rfl] at q1
      exact q1
    have hT : EvD K _ (S (some (.ref d)) (some (.ref lf)) (some (.ref li)) (some (nV k))) H6 _ := ed_tupN (en_sortedL (ed_n hI) (by rw [List.length_map]; omega))
    rw [← itemsD] at hT
    refine s_appD hL6 (ev_var rfl) hT (by omega) (nl_kidsDs _) (nl_kidsD _) fun H7 e7 hL7 => ?_
    have eR : Ex (rem H6 li) H7 := e7 _ rem_ex rem_self
    have b7 := (b6.rem hliB).more eR
    have k7 := (k6.rem hlin).ex eR
    have hd7 := eR d _ (by rw [rem_ne hdi]; exact hd6)
    have hl7 := eR lf _ (by rw [rem_ne hli']; exact hl6)
    have hpl' := hperm.length_eq
    rw [List.length_cons] at hpl'
    have hndp : (k :: left').Nodup := hperm.nodup_iff.mpr hnd
    rw [List.nodup_cons] at hndp
    refine ⟨left'.length, by omega, od ++ [k], left', _, M + 1, rfl, b7, by omega, k7, hd7, hl7, ?_, hO', hndp.2, fun x hx => ?_, fun x hx => ?_, ?_, rfl⟩
    · have eI : ((od ++ [k]).drop Lv).map (itemOf (rowAt kk) (od ++ [k])) = (od.drop Lv).map (itemOf (rowAt kk) od) ++ [itemOf (rowAt kk) (od ++ [k]) k] := by
        rw [List.drop_append_of_le_length hOl, List.map_append]
        congr 1
        refine List.map_congr_left fun u hu => itemOf_app fun c hc => (hO.dn u c (List.mem_of_mem_drop hu) hc).1
      rw [eI, List.map_append]
      exact hL7
    · rcases hall x hx with h | h
      · exact .inl (List.mem_append_left _ h)
      · rcases List.mem_cons.mp (hperm.mem_iff.mpr h) with z | z
        · exact .inl (List.mem_append_right _ (List.mem_singleton.mpr z))
        · exact .inr z
    · obtain ⟨a1, a2⟩ := hleft x (hperm.mem_iff.mp (List.mem_cons_of_mem _ hx))
      refine ⟨fun z => ?_, a2⟩
      rcases List.mem_append.mp z with z | z
      · exact a1 z
      · rw [List.mem_singleton.mp z] at hx
        exact hndp.1 hx
    · rw [List.length_append]
      show od.length + 1 + left'.length = _
      omega
end
end WR
set_option Elab.async false
set_option linter.all false
set_option maxRecDepth 100000
set_option maxHeartbeats 2000000
namespace WR
open PySem PySem.Spec PyProof.Rows L2 Evl

/-! ### _law_web -/
def spLWeb (K : PySem.W.Frag) : Sp := fun vs H Q _ => ∃ dk L ns N mo mx, vs = [.ref dk, nV mo, nV mx] ∧ Dk H dk L ns N ∧ N ≤ 700000000 ∧ 1 ≤ mo ∧ mo ≤ 8 ∧ mx ≤ 1000 ∧
  ∀ H' v Lv inner, Bs H H' dk L ns (N + 100 + 4 * mx) → 1 ≤ Lv → Lv ≤ mo → Dp K H' v (webD Lv inner) → Drawn Lv inner → Q v H'
abbrev nLWeb : List Str := ["_law_deck_here", "_law_most", "_law_mixes", "_law_leaves"]
theorem scLWeb : FnScope nLWeb ["_law_deck_here", "_law_most", "_law_mixes"] (defScope sLWeb) := ⟨rfl, rfl, rfl, by decide +kernel, rfl, by decide +kernel, by decide +kernel⟩
section
variable {P : Program} {w : World} {K : PySem.W.Frag} {mg : Str → Option Value} {base : Heap}
theorem ok_lweb {f fW fC fN : Addr} {fd fdW fdC fdN : FuncData} (F : Fun K "_law_web" "_law_web" sLWeb f fd)
    (FW : Fun K "_law_draw" "_law_draw" sDraw fW fdW) (bW : Binds K fdW ["_law_deck_here", "_law_many"] []) (gW : mg "_law_draw" = some (.ref fW))
    (FC : Fun K "_law_kids" "_law_kids" sLKids fC fdC) (bC : Binds K fdC ["_law_deck_here", "_law_leaves", "_law_mixes"] []) (gC : mg "_law_kids" = some (.ref fC))
    (FN : Fun K "_law_numbered" "_law_numbered" sNumb fN fdN) (bN : Binds K fdN ["_law_deck_here", "_law_kids_here", "_law_leaves"] []) (gN : mg "_law_numbered" = some (.ref fN))
    (GW : FnOk P w K mg base CX0 1 fW fdW ["_law_deck_here", "_law_many"] spDraw)
    (GC : FnOk P w K mg base CX0 4 fC fdC ["_law_deck_here", "_law_leaves", "_law_mixes"] (spLKids K))
    (GN : FnOk P w K mg base CX0 3 fN fdN ["_law_deck_here", "_law_kids_here", "_law_leaves"] (spNumb K)) :
    FnOk P w K mg base CX0 5 f fd ["_law_deck_here", "_law_most", "_law_mixes"] (spLWeb K) := by
  refine F.ok scLWeb (fun vs H Q E h => ?_) (fun cdv A outer s H vs Q E hr h => ?_)
  · obtain ⟨dk, L, ns, N, mo, mx, rfl, _⟩ := h
    rfl
  obtain ⟨dk, L, ns, N, mo, mx, rfl, hD, hN, hm1, hm8, hmx, q⟩ := h
  refine ⟨_, pss_cons (ps_set (i := 3) scLWeb.nd rfl (.inl rfl) (pe_op op_add pe_int (pe_call GW (hr.mono (by decide)) (by rfl) gW FW.kp bW .nil pass0 (pa_cons (pv 0) (pa_cons (pv 1) pa_nil)))))
    (pss_one (ps_ret (pe_call GN (hr.mono (by decide)) (by rfl) gN FN.kp bN .nil pass0 (pa_cons (pv 0) (pa_cons (pe_call GC (hr.mono (by decide)) (by rfl) gC FC.kp bC .nil pass0 (pa_cons (pv 0) (pa_cons (pv 3) (pa_cons (pv 2) pa_nil)))) (pa_cons (pv 3) pa_nil)))))), ?_⟩
  have hdk : ∃ o, H dk = some o := by obtain ⟨a, b, n, d, _⟩ := hD; exact ⟨_, d.at_⟩
  have hLs : ∃ o, H L = some o := by obtain ⟨a, b, n, d, _⟩ := hD; exact ⟨_, d.ls⟩
  refine q_draw (c := 1) (m := (mo : Int)) (ev_var rfl) (ev_var rfl) hD (by omega) (by omega) (by omega) fun r H1 r0 r1 e1 d1 => ?_
  obtain ⟨j, rfl⟩ : ∃ j : Nat, r = (j : Int) := ⟨r.toNat, (Int.toNat_of_nonneg r0).symm⟩
  have ej : V.int (1 + (j : Int)) = nV (j + 1) := by
    show V.int _ = V.int _
    congr 1
    omega
  rw [ej]
  refine ⟨.ref dk, rfl, .ref dk, rfl, nV (j + 1), rfl, nV mx, rfl, dk, L, ns, N + 1, j + 1, mx, rfl, d1, by omega, by omega, by omega, hmx, fun H2 p rs kk b2 k2 g2 n2 => ?_⟩
  refine ⟨nV (j + 1), rfl, dk, p, H1, L, ns, _, rs, kk, j + 1, rfl, b2, by omega, k2, g2, by omega, n2, fun H3 v inner b3 _ hv hw => ?_⟩
  exact q H3 v (j + 1) inner ⟨rem_trans e1 b3.ex, (b3.wk (by omega)).deck, hdk, hLs⟩ (by omega) (by omega) hv hw.drawn
/-- what is drawn is a raw web -/
theorem Drawn.raw {L : Nat} {inner : List (List Nat)} (h : Drawn L inner) (h1 : 1 ≤ L) (h8 : L ≤ 8) : Raw L inner := by
  obtain ⟨kk, od, hG, hn, hO, hlen, rfl⟩ := h.ex
  have hll := hO.len
  have hil : ∀ u, (itemOf (rowAt kk) od u).length ≤ 30 := fun u => by
    unfold itemOf
    rw [List.length_map, (sortI_perm _).length_eq, List.length_map]
    have := nodup_len _ _ (hG.nd u) (fun c hc => hG.lt u c hc)
    omega
  refine ⟨h1, h8, by rw [List.length_map, List.length_drop]; omega, fun j ks hj k hk => ?_, fun ks hks => ?_⟩
  · rw [List.getElem?_map] at hj
    obtain ⟨u, hu, rfl⟩ := Option.map_eq_some_iff.mp hj
    rw [List.getElem?_drop] at hu
    unfold itemOf at hk
    obtain ⟨i, hi, rfl⟩ := List.mem_map.mp hk
    obtain ⟨c, hc, rfl⟩ := List.mem_map.mp ((sortI_perm _).mem_iff.mp hi)
    rw [Int.toNat_natCast]
    have := (hO.dn u c (List.mem_of_getElem? hu) hc).2
    rw [plc_at hO.nd hu] at this
    exact this
  · obtain ⟨u, _, rfl⟩ := List.mem_map.mp hks
    exact hil u
end
end WR
set_option Elab.async false
set_option linter.all false
set_option maxRecDepth 100000
set_option maxHeartbeats 1000000
namespace WR
open PySem PySem.Spec PyProof.Rows L2 Evl

/-! ### _law_lists -/
def spLists (K : PySem.W.Frag) : Sp := fun vs H Q _ => ∃ v l inner, vs = [v] ∧ Dp K H v (webD l inner) ∧ Raw l inner ∧
  ∀ p rs H', Ex H H' → H p = none → KdAt H' p rs (List.replicate l [] ++ inner) → Q (.ref p) H'
theorem KdAt.cat {B H : Hp} {p D1 D2 : Addr} {rs1 rs2 : List Addr} {k1 k2 : List (List Nat)} (a : KdAt B D1 rs1 k1) (e : Ex B H) (b : Kds B H D2 rs2 k2) (hp : H p = none) : KdAt (upd H p (.lst (rs1.map V.ref ++ rs2.map V.ref))) p (rs1 ++ rs2) (k1 ++ k2) := by
  have en := Ex.new (o := .lst (rs1.map V.ref ++ rs2.map V.ref)) hp
  have a2 := a.ex e
  refine ⟨by rw [upd_same, List.map_append], by rw [List.length_append, List.length_append, a.len, b.kd.len], ?_, fun z => ?_, fun i r ks h1 h2 => ?_⟩
  · rw [List.nodup_append]
    refine ⟨a.nd, b.kd.nd, fun x hx y hy z => ?_⟩
    subst z
    have h0 := b.br x hy
    obtain ⟨i, hi, ei⟩ := List.mem_iff_getElem.mp hx
    have := a.row i x _ (by rw [List.getElem?_eq_getElem hi, ei]) (rowAt_get (by rw [← a.len]; exact hi))
    rw [h0] at this
    cases this
  · rcases List.mem_append.mp z with z | z
    · exact a2.fresh hp (List.mem_cons_of_mem _ z)
    · exact b.kd.fresh hp (List.mem_cons_of_mem _ z)
  · rw [List.getElem?_append] at h1 h2
    rw [a.len] at h1
    by_cases hi : i < k1.length
    · rw [if_pos hi] at h1 h2
      exact en _ _ (a2.row i r ks h1 h2)
    · rw [if_neg hi] at h1 h2
      exact en _ _ (b.kd.row _ r ks h1 h2)
end WR
set_option Elab.async false
set_option linter.all false
set_option maxRecDepth 100000
set_option maxHeartbeats 1000000
namespace WR
open PySem PySem.Spec PyProof.Rows L2 Evl
/-! ### parents, mixings, is_mixing, is_tree -/
section
variable {K : PySem.W.Frag} {σ : L2.St} {H : Hp} {ta te : TE} {t : TT} {wi : TI}
theorem et_inK {k : Nat} {ks : List Nat} (hk : Ev ta σ H (nV k)) (h : EvD K te σ H (kidsD ks)) : EvT (tTest (tOp (rIn K false) ta te)) σ H (decide (k ∈ ks)) := by
  refine et_test fun H1 e Q q => hk H1 e _ fun H2 e2 => h H2 (e.trans e2) _ fun v H3 e3 hv => ?_
  obtain ⟨a, xs, rfl, hs, hd⟩ := dp_tup hv
  have hd : DpAll K H3 xs (natDs ks) := hd
  rw [nats_of hd] at hs
  refine rv_isT (K := K) (x := nV k) hs rfl (flat_nVs ks) H3 (Ex.refl H3) Q fun H4 e4 => ?_
  rw [inV_nat]
  exact q H4 ((e2.trans e3).trans e4)
theorem fm_pick {n : Nat} {b : Nat → Bool} {f : PyData → Option PyData} (h : ∀ k : Nat, f (.int ((0 : Int) + (k : Int))) = if b k = true then some (natD k) else none) : (rngD 0 n).filterMap f = natDs ((List.range n).filter b) := by
  unfold rngD natDs
  rw [List.filterMap_map]
  generalize List.range n = l
  induction l with
  | nil => rfl
  | cons x r ih =>
    have hx : (f ∘ fun (k : Nat) => PyData.int ((0 : Int) + (k : Int))) x = if b x = true then some (natD x) else none := h x
    rw [List.filterMap_cons, List.filter_cons, hx, ih]
    cases b x with
    | true => rfl
    | false => rfl
/-- the numbers below n that .. -/
theorem en_pick {n j : Nat} {vs : List Nat} (b : Nat → Bool) (h : SrcS K wi σ H (rngD 0 n)) (hn : n ≤ 40000) (hw : ∀ x, wipe ((wipe σ vs).set j (some x)) vs = wipe σ vs) (hj : j < (wipe σ vs).length)
    (ht : ∀ k H1, Ex H H1 → k < n → EvT t ((wipe σ vs).set j (some (nV k))) H1 (b k)) : EvN K (tLc wi (gName j) t (tVar j) vs) σ H (natDs ((List.range n).filter b)) := by
  let f : PyData → Option PyData := fun d => match d with | .int i => if b i.toNat = true then some (.int i) else none | _ => none
  have hf : ∀ k : Nat, f (.int ((0 : Int) + (k : Int))) = if b k = true then some (natD k) else none := fun k => by
    show (if b ((0 : Int) + (k : Int)).toNat = true then some (PyData.int ((0 : Int) + (k : Int))) else none) = _
    rw [show ((0 : Int) + (k : Int)).toNat = k by omega, show (0 : Int) + (k : Int) = (k : Int) by omega]
    rfl
  have q := en_lc (K := K) (t := t) (te := tVar j) (j := j) (vs := vs) (ds := rngD 0 n) f h.src (by rw [rngD_len]; exact hn) hw (fun d v H1 e hd hv => by
      obtain ⟨i, hi, rfl⟩ := List.mem_map.mp hd
      rw [hf]
      rw [show (0 : Int) + (i : Int) = (i : Int) by omega] at hv
      cases dp_int hv
      refine et_is (ht i H1 e (List.mem_range.mp hi)) ?_
      cases b i with
      | true => rfl
      | false => rfl) (fun d r v H1 e hd hv hr => by
      obtain ⟨i, hi, rfl⟩ := List.mem_map.mp hd
      rw [hf] at hr
      split at hr
      · cases hr
        rw [show (0 : Int) + (i : Int) = (i : Int) by omega] at hv
        cases dp_int hv
        exact ed_i (ev_var (by rw [List.getElem?_set_self hj]))
      · cases hr) fun d r hd hr => by
      obtain ⟨i, hi, rfl⟩ := List.mem_map.mp hd
      rw [hf] at hr
      split at hr
      · cases hr
        rfl
      · cases hr
  rw [fm_pick hf] at q
  exact q
end
def parsAt (l : Nat) (inner : List (List Nat)) (k : Nat) : List Nat := (List.range (l + inner.length)).filter fun u => decide (k ∈ kidsAt l inner u)
def cK (l : Nat) (inner : List (List Nat)) (k : Nat) : Int := (cnts l inner).getD k 0
def mixL (l : Nat) (inner : List (List Nat)) : List Nat := (List.range (l + inner.length)).filter fun k => decide (1 < cK l inner k)
theorem cK_at {l : Nat} {inner : List (List Nat)} {k : Nat} (h : k < l + inner.length) : ((cnts l inner).map PyData.int)[k]? = some (.int (cK l inner k)) := by
  have hl : (cnts l inner).length = l + inner.length := cntF_len _ _
  unfold cK
  rw [List.getElem?_map, List.getD_eq_getElem?_getD, List.getElem?_eq_getElem (by omega)]
  rfl
end WR
set_option Elab.async false
set_option linter.all false
set_option maxRecDepth 100000
set_option maxHeartbeats 1000000
namespace WR
open PySem PySem.Spec PyProof.Rows L2 Evl
/-! ### the law's lists and the web -/
def kkOf (l : Nat) (inner : List (List Nat)) : List (List Nat) := List.replicate l [] ++ inner
theorem kkOf_len {l : Nat} {inner : List (List Nat)} : (kkOf l inner).length = l + inner.length := by
  unfold kkOf
  rw [List.length_append, List.length_replicate]
theorem rowAt_kk {l u : Nat} {inner : List (List Nat)} : rowAt (kkOf l inner) u = kidsAt l inner u := by
  unfold rowAt kkOf kidsAt
  rw [List.getD_eq_getElem?_getD, List.getElem?_append, List.length_replicate]
  by_cases h : u < l
  · rw [if_pos h, if_pos h, List.getElem?_replicate, if_pos h]
    rfl
  · rw [if_neg h, if_neg h, List.getD_eq_getElem?_getD]
theorem ups_kk {l k : Nat} {inner : List (List Nat)} : upsL (kkOf l inner) k = parsAt l inner k := by
  unfold upsL parsAt
  rw [kkOf_len]
  congr 1
  funext u
  have h : (kkOf l inner).getD u [] = kidsAt l inner u := rowAt_kk
  rw [h]
theorem bump_at {cs : List Int} {c k : Nat} (hk : k < cs.length) : (bump cs c).getD k 0 = cs.getD k 0 + (if c = k then 1 else 0) := by
  unfold bump
  rw [List.getD_eq_getElem?_getD, List.getElem?_set]
  by_cases e : c = k
  · subst e
    rw [if_pos rfl, if_pos rfl, if_pos hk]
    rfl
  · rw [if_neg e, if_neg e, List.getD_eq_getElem?_getD]
    omega
theorem bumpAll_at {k : Nat} : ∀ {ks : List Nat} {cs : List Int}, ks.Nodup → k < cs.length → (bumpAll cs ks).getD k 0 = cs.getD k 0 + (if k ∈ ks then 1 else 0)
  | [], cs, _, _ => by
    rw [if_neg (List.not_mem_nil)]
    show cs.getD k 0 = _
    omega
  | c :: r, cs, hd, hk => by
    rw [List.nodup_cons] at hd
    show (bumpAll (bump cs c) r).getD k 0 = _
    rw [bumpAll_at hd.2 (by rw [bump_len]; exact hk), bump_at hk]
    by_cases e : c = k
    · subst e
      rw [if_pos rfl, if_neg hd.1, if_pos (List.mem_cons_self ..)]
      omega
    · have : (k ∈ c :: r) ↔ k ∈ r := by simp [Ne.symm e]
      rw [if_neg e]
      simp only [this]
      omega
theorem cnts_cnt {l k : Nat} {inner : List (List Nat)} (hnd : ∀ ks ∈ inner, ks.Nodup) (hk : k < l + inner.length) : ∀ i, i ≤ inner.length → (cntF (l + inner.length) (inner.take i)).getD k 0 = ((cnt (kidsAt l inner) k (l + i) : Nat) : Int)
  | 0, _ => by
    have h0 : cnt (kidsAt l inner) k (l + 0) = 0 := cnt_out fun u hu h => by
      unfold kidsAt at h
      rw [if_pos (by omega)] at h
      cases h
    rw [h0, List.take_zero]
    show (List.replicate (l + inner.length) (0 : Int)).getD k 0 = 0
    rw [List.getD_eq_getElem?_getD, List.getElem?_replicate]
    split <;> rfl
  | i + 1, hi => by
    have hil : i < inner.length := by omega
    have hg : inner[i]? = some inner[i] := List.getElem?_eq_getElem hil
    have hk2 : kidsAt l inner (l + i) = inner[i] := by
      unfold kidsAt
      rw [if_neg (by omega), show l + i - l = i by omega, List.getD_eq_getElem?_getD, hg]
      rfl
    rw [cntF_take hg, bumpAll_at (hnd _ (List.getElem_mem hil)) (by rw [cntF_len]; exact hk), cnts_cnt hnd hk i (by omega)]
    show _ = ((cnt (kidsAt l inner) k (l + i) + (if k ∈ kidsAt l inner (l + i) then 1 else 0) : Nat) : Int)
    rw [hk2]
    split <;> simp
theorem cK_pars {l k : Nat} {inner : List (List Nat)} (hnd : ∀ ks ∈ inner, ks.Nodup) (hk : k < l + inner.length) : cK l inner k = ((parsAt l inner k).length : Int) := by
  have h := cnts_cnt hnd hk inner.length (Nat.le_refl _)
  rw [List.take_length] at h
  unfold cK cnts
  rw [h, ← ups_kk, cnt_ups, kkOf_len]
  have e : rowAt (kkOf l inner) = kidsAt l inner := funext fun u => rowAt_kk
  rw [e]
/-- no item of a drawn web has a kind twice -/
theorem plc_inj {a b : Nat} {od : List Nat} (ha : a ∈ od) (hb : b ∈ od) (h : plc a od = plc b od) : a = b := by
  have h1 := plc_get ha
  have h2 := plc_get hb
  rw [h, h2] at h1
  exact (Option.some.inj h1).symm
theorem Drawn.nd {L : Nat} {inner : List (List Nat)} (h : Drawn L inner) : ∀ ks ∈ inner, ks.Nodup := by
  obtain ⟨kk, od, hG, hn, hO, hlen, rfl⟩ := h.ex
  intro ks hks
  obtain ⟨u, hu, rfl⟩ := List.mem_map.mp hks
  have hum := List.mem_of_mem_drop hu
  unfold itemOf
  have h1 : ((rowAt kk u).map fun c => ((plc c od : Nat) : Int)).Nodup := by
    refine List.pairwise_map.mpr ((hG.nd u).imp_of_mem fun {a b} ha hb hab z => hab ?_)
    exact plc_inj (hO.dn u a hum ha).1 (hO.dn u b hum hb).1 (by omega)
  have h2 := ((sortI_perm ((rowAt kk u).map fun c => ((plc c od : Nat) : Int))).nodup_iff).mpr h1
  refine List.pairwise_map.mpr (h2.imp_of_mem fun {a b} ha hb hab z => hab ?_)
  obtain ⟨x, _, rfl⟩ := List.mem_map.mp ((sortI_perm _).mem_iff.mp ha)
  obtain ⟨y, _, rfl⟩ := List.mem_map.mp ((sortI_perm _).mem_iff.mp hb)
  rw [Int.toNat_natCast, Int.toNat_natCast] at z
  omega
theorem mixL_eq {l : Nat} {inner : List (List Nat)} (hnd : ∀ ks ∈ inner, ks.Nodup) : mixL l inner = (List.range (l + inner.length)).filter fun k => decide ((1 : Int) < ((parsAt l inner k).length : Int)) := by
  unfold mixL
  refine List.filter_congr fun k hk => ?_
  rw [cK_pars hnd (List.mem_range.mp hk)]
end WR
set_option Elab.async false
set_option linter.all false
set_option maxRecDepth 100000
set_option maxHeartbeats 1000000
namespace WR
open PySem PySem.Spec PyProof.Rows L2 Evl
/-! ### links -/
def prD (u c : Nat) : PyData := .tuple [natD u, natD c]
def linksTo (l : Nat) (inner : List (List Nat)) (n : Nat) : List PyData := (List.range n).flatMap fun u => (kidsAt l inner u).map (prD u)
theorem linksTo_succ {l n : Nat} {inner : List (List Nat)} : linksTo l inner (n + 1) = linksTo l inner n ++ (kidsAt l inner n).map (prD n) := by
  unfold linksTo
  rw [List.range_succ, List.flatMap_append]
  simp
theorem kl30 {l : Nat} {inner : List (List Nat)} {k : Nat} (hw : Raw l inner) : (kidsAt l inner k).length ≤ 30 := by
  unfold kidsAt
  by_cases h : k < l
  · rw [if_pos h]
    exact Nat.zero_le _
  · rw [if_neg h, List.getD_eq_getElem?_getD]
    cases e : inner[k - l]? with
    | none => exact Nat.zero_le _
    | some ks => exact hw.len ks (List.mem_of_getElem? e)
theorem linksTo_len {l : Nat} {inner : List (List Nat)} (hw : Raw l inner) : ∀ n, (linksTo l inner n).length ≤ 30 * n
  | 0 => Nat.le_refl _
  | n + 1 => by
    rw [linksTo_succ, List.length_append, List.length_map]
    have := linksTo_len hw n
    have := kl30 (k := n) hw
    omega
theorem nl_prs (u : Nat) (ks : List Nat) : nlAll (ks.map (prD u)) = true := nlAll_mem fun d hd => by
  obtain ⟨c, _, rfl⟩ := List.mem_map.mp hd
  rfl
theorem nl_links {l : Nat} {inner : List (List Nat)} {n : Nat} : nlAll (linksTo l inner n) = true := nlAll_mem fun d hd => by
  unfold linksTo at hd
  obtain ⟨u, _, h⟩ := List.mem_flatMap.mp hd
  obtain ⟨c, _, rfl⟩ := List.mem_map.mp h
  rfl
theorem nlAll_app {a b : List PyData} (ha : nlAll a = true) (hb : nlAll b = true) : nlAll (a ++ b) = true := nlAll_mem fun d hd => by
  rcases List.mem_append.mp hd with h | h
  · exact nlAll_of ha d h
  · exact nlAll_of hb d h
end WR
set_option Elab.async false
set_option linter.all false
set_option maxRecDepth 100000
set_option maxHeartbeats 1000000
namespace WR
open PySem PySem.Spec PyProof.Rows L2 Evl

/-! ### data small enough to be shown -/
structure Sm (w dp : Nat) (d : PyData) : Prop where
  sh : d.showable = true
  nd : d.hasDict = false
  ls : d.leavesShort 60 = true
  wt : d.weight ≤ w
  dp : d.depth ≤ dp
structure SmL (w dp : Nat) (ds : List PyData) : Prop where
  sh : PyData.showableAll ds = true
  nd : PyData.hasDictAll ds = false
  ls : PyData.leavesShortAll 60 ds = true
  wt : PyData.weightAll ds ≤ w
  dp : PyData.depthAll ds ≤ dp
theorem Sm.ok {w dp : Nat} {d : PyData} (h : Sm w dp d) (hw : w ≤ 250000) (hd : dp ≤ 40) : okR d = true := by
  have h1 := PyData.shown_le 60 (by decide) d h.ls
  have h3 := h.wt
  have h4 : d.shown.length ≤ sizeLine := by
    show d.shown.length ≤ 2 ^ 24
    have e : (2 : Nat) ^ 24 = 16777216 := by decide
    omega
  have h2 := h.dp
  unfold okR
  rw [h.sh, h.nd, decide_eq_true h4, decide_eq_true (show d.depth ≤ 40 by omega)]
  rfl
theorem Sm.up {w dp w' dp' : Nat} {d : PyData} (h : Sm w dp d) (hw : w ≤ w') (hd : dp ≤ dp') : Sm w' dp' d :=
  ⟨h.sh, h.nd, h.ls, Nat.le_trans h.wt hw, Nat.le_trans h.dp hd⟩
theorem log_lt {n k : Nat} (h : n < 2 ^ k) (hk : 0 < k) : n.log2 < k := by
  by_cases z : n = 0
  · rw [z]
    exact hk
  · exact (Nat.log2_lt z).mpr h
theorem sm_intB {i : Int} {b : Nat} (h : i.natAbs < 10 ^ 45) (hb : i.natAbs < 2 ^ b) (h0 : 0 < b) (h9 : b ≤ 1000) : Sm b 0 (.int i) := by
  have hl := log_lt hb h0
  refine ⟨?_, ?_, ?_, ?_, ?_⟩
  · simp only [PyData.showable]
    exact decide_eq_true (by omega)
  · simp only [PyData.hasDict]
  · simp only [PyData.leavesShort]
    have e := int_text_length_le10 (k := 45) (by decide) h
    have e2 : (PyData.shown (.int i)).length = (toString i).length := PySem.ofString_length _
    exact decide_eq_true (by omega)
  · simp only [PyData.weight]
    split <;> omega
  · simp only [PyData.depth]
    exact Nat.le_refl 0
theorem sm_int {i : Int} (h : i.natAbs < 1000000000000) : Sm 41 0 (.int i) :=
  sm_intB (Nat.lt_of_lt_of_le h (by decide)) (Nat.lt_of_lt_of_le h (by decide)) (by decide) (by decide)
theorem sm_big {i : Int} (h : i.natAbs < 10 ^ 45) : Sm 150 0 (.int i) := sm_intB h (Nat.lt_of_lt_of_le h (by decide)) (by decide) (by decide)
theorem sm_nat {k : Nat} (h : k < 1000000000000) : Sm 41 0 (natD k) := sm_int (by show (k : Int).natAbs < _; omega)
theorem sm_bool {b : Bool} : Sm 0 0 (.bool b) := by
  refine ⟨?_, ?_, ?_, ?_, ?_⟩ <;> simp only [PyData.showable, PyData.hasDict, PyData.leavesShort, PyData.weight, PyData.depth, Nat.le_refl]
theorem sm_none : Sm 0 0 .none := by
  refine ⟨?_, ?_, ?_, ?_, ?_⟩ <;> simp only [PyData.showable, PyData.hasDict, PyData.leavesShort, PyData.weight, PyData.depth, Nat.le_refl]
theorem smL_nil {dp : Nat} : SmL 0 dp [] := by
  refine ⟨?_, ?_, ?_, ?_, ?_⟩ <;> simp [PyData.showableAll, PyData.hasDictAll, PyData.leavesShortAll, PyData.weightAll, PyData.depthAll]
theorem smL_cons {w w' dp dp' : Nat} {d : PyData} {ds : List PyData} (q : Sm w dp' d) (hp : dp' ≤ dp) (h : SmL w' dp ds) : SmL (w + 1 + w') dp (d :: ds) := by
  obtain ⟨a, b, c, e, f⟩ := h
  have q1 := q.wt
  have q2 := q.dp
  refine ⟨?_, ?_, ?_, ?_, ?_⟩
  · simp only [PyData.showableAll, q.sh, a, Bool.and_self]
  · simp only [PyData.hasDictAll, q.nd, b, Bool.or_self]
  · simp only [PyData.leavesShortAll, q.ls, c, Bool.and_self]
  · simp only [PyData.weightAll]
    omega
  · simp only [PyData.depthAll]
    omega
theorem SmL.up {w w' dp dp' : Nat} {ds : List PyData} (h : SmL w dp ds) (hw : w ≤ w') (hd : dp ≤ dp') : SmL w' dp' ds :=
  ⟨h.sh, h.nd, h.ls, Nat.le_trans h.wt hw, Nat.le_trans h.dp hd⟩
theorem sm_all {w dp : Nat} : ∀ {ds : List PyData}, (∀ d ∈ ds, Sm w dp d) → SmL (ds.length * (w + 1)) dp ds
  | [], _ => by
    rw [List.length_nil, Nat.zero_mul]
    exact smL_nil
  | d :: ds, h => by
    refine (smL_cons (h d (List.mem_cons_self ..)) (Nat.le_refl dp) (sm_all (ds := ds) fun x hx => h x (List.mem_cons_of_mem _ hx))).up ?_ (Nat.le_refl dp)
    rw [List.length_cons, Nat.add_mul, Nat.one_mul]
    omega
theorem SmL.tup {w dp : Nat} {ds : List PyData} (h : SmL w dp ds) : Sm w (dp + 1) (.tuple ds) := by
  obtain ⟨a, b, c, e, f⟩ := h
  refine ⟨?_, ?_, ?_, ?_, ?_⟩
  · simp only [PyData.showable, a]
  · simp only [PyData.hasDict, b]
  · simp only [PyData.leavesShort, c]
  · simp only [PyData.weight]
    omega
  · simp only [PyData.depth]
    omega
theorem SmL.lst {w dp : Nat} {ds : List PyData} (h : SmL w dp ds) : Sm w (dp + 1) (.list ds) := by
  obtain ⟨a, b, c, e, f⟩ := h
  refine ⟨?_, ?_, ?_, ?_, ?_⟩
  · simp only [PyData.showable, a]
  · simp only [PyData.hasDict, b]
  · simp only [PyData.leavesShort, c]
  · simp only [PyData.weight]
    omega
  · simp only [PyData.depth]
    omega
theorem sm_tup {w dp n : Nat} {ds : List PyData} (h : ∀ d ∈ ds, Sm w dp d) (hn : ds.length ≤ n) : Sm (n * (w + 1)) (dp + 1) (.tuple ds) :=
  ((sm_all h).up (Nat.mul_le_mul_right _ hn) (Nat.le_refl _)).tup
theorem sm_lst {w dp n : Nat} {ds : List PyData} (h : ∀ d ∈ ds, Sm w dp d) (hn : ds.length ≤ n) : Sm (n * (w + 1)) (dp + 1) (.list ds) :=
  ((sm_all h).up (Nat.mul_le_mul_right _ hn) (Nat.le_refl _)).lst
theorem sm_nats {n m : Nat} {ks : List Nat} (h : ∀ k ∈ ks, k < m) (hm : m ≤ 1000000000000) (hn : ks.length ≤ n) : Sm (n * 42) 1 (kidsD ks) :=
  sm_tup (w := 41) (dp := 0) (fun d hd => by
    obtain ⟨k, hk, rfl⟩ := List.mem_map.mp hd
    exact sm_nat (by have := h k hk; omega)) (by rw [List.length_map]; exact hn)
theorem raw_lt {l : Nat} {inner : List (List Nat)} (hw : Raw l inner) {ks : List Nat} (h : ks ∈ inner) : ∀ k ∈ ks, k < l + inner.length := fun k hk => by
  obtain ⟨j, hj, e⟩ := List.mem_iff_getElem.mp h
  have := hw.lt j ks (by rw [List.getElem?_eq_getElem hj, e]) k hk
  omega
theorem kidsAt_lt {l : Nat} {inner : List (List Nat)} (hw : Raw l inner) {u k : Nat} (h : k ∈ kidsAt l inner u) : k < l + inner.length ∧ k < u := by
  unfold kidsAt at h
  by_cases z : u < l
  · rw [if_pos z] at h
    cases h
  · rw [if_neg z, List.getD_eq_getElem?_getD] at h
    cases e : inner[u - l]? with
    | none =>
      rw [e] at h
      cases h
    | some ks =>
      rw [e] at h
      have hk : k ∈ ks := h
      have := hw.lt _ _ e k hk
      have := (List.getElem?_eq_some_iff.mp e).1
      omega
theorem sm_web {l : Nat} {inner : List (List Nat)} (hw : Raw l inner) : Sm 60000 3 (webD l inner) := by
  have h8 := hw.l8
  have h20 := hw.n20
  have h1 : Sm 25220 2 (.tuple (inner.map kidsD)) := sm_tup (n := 20) (w := 1260) (dp := 1) (fun d hd => by
    obtain ⟨ks, hks, rfl⟩ := List.mem_map.mp hd
    exact sm_nats (n := 30) (m := 28) (fun k hk => by have := raw_lt hw hks k hk; omega) (by decide) (hw.len ks hks)) (by rw [List.length_map]; exact h20)
  exact (sm_tup (ds := [natD l, .tuple (inner.map kidsD)]) (n := 2) (w := 25220) (dp := 2) (fun d hd => by
    rcases List.mem_cons.mp hd with rfl | hd
    · exact (sm_nat (by omega)).up (by omega) (by omega)
    · rw [List.mem_singleton.mp hd]
      exact h1) (by simp)).up (by decide) (by decide)
theorem sml_kk {l : Nat} {inner : List (List Nat)} (hw : Raw l inner) : Sml (kkOf l inner) := by
  have h8 := hw.l8
  have h20 := hw.n20
  refine ⟨by rw [kkOf_len]; omega, fun ks hks => ?_⟩
  unfold kkOf at hks
  rcases List.mem_append.mp hks with h | h
  · rw [List.eq_of_mem_replicate h]
    exact Nat.zero_le _
  · have := hw.len ks h
    omega

/-! ### words for the laws -/
section
variable {K : PySem.W.Frag} {σ : L2.St} {H H' : Hp} {ta tb te tx t1 t2 t3 : TE} {D : Ends} {tz tu : TS} {d : PyData} {ds es : List PyData} {p : Addr} {rs : List Addr} {kk : List (List Nat)} {k l : Nat} {ks : List Nat} {inner : List (List Nat)} {v : V}
theorem ed_el (h : EvL te σ H (nVs ks)) : EvD K te σ H (.list (natDs ks)) := fun H1 e Q q => h H1 e _ fun p H2 _ e2 hx => q _ H2 e2 (.lst (sq_of hx) (dpAll_nat ks))
theorem ed_row (h : KdAt H p rs kk) (hk : k < kk.length) (ha : Ev ta σ H (.ref p)) (hb : Ev tb σ H (nV k)) : EvD K (tOp (rIxL K) ta tb) σ H (.list (natDs (rowAt kk k))) := by
  obtain ⟨r, h1, h2⟩ := h.get (rowAt_get hk)
  exact ed_ev (ev_row h h1 ha hb) (.lst (sq_of h2) (dpAll_nat _))
theorem ev_inK (hk : Ev ta σ H (nV k)) (h : EvD K te σ H (kidsD ks)) : Ev (tOp (rIn K false) ta te) σ H (.bl (decide (k ∈ ks))) := fun H1 e Q q => hk H1 e _ fun H2 e2 => h H2 (e.trans e2) _ fun v H3 e3 hv => by
  obtain ⟨a, xs, rfl, hs, hd⟩ := dp_tup hv
  have hd : DpAll K H3 xs (natDs ks) := hd
  rw [nats_of hd] at hs
  refine rv_isT (K := K) (x := nV k) hs rfl (flat_nVs ks) H3 (Ex.refl H3) Q fun H4 e4 => ?_
  rw [inV_nat]
  exact q H4 ((e2.trans e3).trans e4)
/-- web = _law_web(deck, ..) -/
theorem q_lweb {E : XK} {i mo : Nat} {dk L : Addr} {ns : List Int} {N : Int} (h1 : Ev t1 σ H (.ref dk)) (h2 : Ev t2 σ H (nV mo)) (hD : Dk H dk L ns N) (hN : N ≤ 600000000) (m1 : 1 ≤ mo) (m8 : mo ≤ 8)
    (h3 : ∀ H1, Ex H H1 → ∀ Q : VK, (∀ (mx : Nat) H2, mx ≤ 9 → Ex (rem H1 dk) H2 → Dk H2 dk L ns (N + 1) → Q (nV mx) H2) → t3 σ H1 Q)
    (k : ∀ H' v Lv inner, Bs H H' dk L ns (N + 137) → 1 ≤ Lv → Lv ≤ mo → Dp K H' v (webD Lv inner) → Drawn Lv inner → tz D (σ.set i (some v)) H') :
    tSeq (tAsg (tCall (spLWeb K) [] E (tCons t1 (tCons t2 (tCons t3 tNil)))) (gName i)) tz D σ H :=
  h1 H (Ex.refl H) _ fun H1 e1 => h2 H1 e1 _ fun H2 e2 => h3 H2 (e1.trans e2) _ fun mx H3 hm e3 d3 => ⟨dk, L, ns, _, mo, mx, rfl, d3, by omega, m1, m8, by omega, fun H4 v Lv inner b l1 l2 hv hw => by
    have hdk : ∃ o, H dk = some o := by obtain ⟨a, b, n, d, _⟩ := hD; exact ⟨_, d.at_⟩
    have hLs : ∃ o, H L = some o := by obtain ⟨a, b, n, d, _⟩ := hD; exact ⟨_, d.ls⟩
    exact k H4 v Lv inner ⟨rem_trans ((rem_mono (e1.trans e2)).trans e3) b.ex, (b.wk (show _ ≤ N + 137 by omega)).deck, hdk, hLs⟩ l1 l2 hv hw⟩
/-- the last argument is _law_one(deck, [..]) -/
theorem lweb_one {E : XK} {ta' : TA} {dk L : Addr} {ns : List Int} {N : Int} {cs : List Nat} (h1 : Ev t1 σ H (.ref dk)) (hD : Dk H dk L ns N) (hN : N ≤ 600000000) (hc : EvA ta' σ H (nVs cs)) (c0 : cs ≠ []) (c1 : cs.length ≤ 1000) (c9 : ∀ c ∈ cs, c ≤ 9) :
    ∀ H1, Ex H H1 → ∀ Q : VK, (∀ (mx : Nat) H2, mx ≤ 9 → Ex (rem H1 dk) H2 → Dk H2 dk L ns (N + 1) → Q (nV mx) H2) → tCall (spOne K) [] E (tCons t1 (tCons (tLst ta') tNil)) σ H1 Q := fun H1 e1 Q q =>
  h1 H1 e1 _ fun H2 e2 => hc H2 (e1.trans e2) _ fun H3 e3 => ⟨sz_of (by unfold nVs; rw [List.length_map]; omega), fun li hli => by
    have d3 := (hD.ex (e1.trans e2)).ex e3
    have d4 := d3.ex (Ex.new (o := .lst (nVs cs)) hli)
    have hne : li ≠ dk := fun z => by
      obtain ⟨a, b, n, d, _⟩ := d3
      rw [z, d.at_] at hli
      cases hli
    refine ⟨dk, L, ns, N, li, nVs cs, rfl, d4, by omega, upd_same, hne, ?_, by unfold nVs; rw [List.length_map]; omega, fun x H5 hx e5 d5 => ?_⟩
    · unfold nVs
      rw [List.length_map]
      cases cs with
      | nil => exact absurd rfl c0
      | cons _ _ => simp
    · obtain ⟨c, hc', rfl⟩ := List.mem_map.mp hx
      exact q c H5 (c9 c hc') ((rem_mono ((e2.trans e3).trans (Ex.new (o := .lst (nVs cs)) hli))).trans e5) d5⟩
theorem lweb_c {dk L : Addr} {ns : List Int} {N : Int} {mx : Nat} (hD : Dk H dk L ns N) (hm : mx ≤ 9) :
    ∀ H1, Ex H H1 → ∀ Q : VK, (∀ (mx : Nat) H2, mx ≤ 9 → Ex (rem H1 dk) H2 → Dk H2 dk L ns (N + 1) → Q (nV mx) H2) → tC (nV mx) σ H1 Q := fun H1 e1 Q q =>
  q mx H1 hm rem_ex (by
    obtain ⟨a, b, n, d, hn⟩ := hD
    exact ⟨a, b, n, d.ex e1, by omega⟩)
/-- kids, held = _law_lists(web), repr(web) -/
theorem q_lists {E : XK} {w i j : Nat} (h : σ[w]? = some (some v)) (hv : Dp K H v (webD l inner)) (hw : Raw l inner)
    (c : ∀ p rs H1, H p = none → Ex H H1 → KdAt H1 p rs (kkOf l inner) → tz D ((σ.set i (some (.ref p))).set j (some (.str (webD l inner).shown))) H1) :
    tSeq (tAsg (tTup (tCons (tCall (spLists K) [] E (tCons (tVar w) tNil)) (tCons (tCB (rReprA K) (tCons (tVar w) tNil)) tNil))) (gTup K 2 (gCons (gName i) (gCons (gName j) gNil)))) tz D σ H :=
  ⟨v, h, v, l, inner, rfl, hv, hw, fun p rs H1 e1 hp kd => (ev_repr (K := K) (ed_var h (dp_ex e1 _ hv)) ((sm_web hw).ok (by decide) (by decide)) : Ev _ σ H1 _) H1 (Ex.refl H1) _ fun H2 e2 =>
    ⟨by show 2 ≤ sizeLine; decide, fun t ht => ⟨t, _, rfl, st_of upd_same, rfl, _, _, rfl, _, _, rfl, rfl, c p rs _ hp ((e1.trans e2).trans (Ex.new ht)) ((kd.ex e2).ex (Ex.new ht))⟩⟩⟩
/-- xs.extend(a new list of data) -/
theorem q_extD {q : Addr} (hl : LD K H q ds) (ha : Ev ta σ H (.ref q)) (h : EvN K te σ H es) (hz : ds.length + es.length ≤ 100000) (hn : nlAll ds = true) (hd : nlAll es = true)
    (k : ∀ H1, (∀ B : Hp, Ex B H → B q = none → Ex B H1) → LD K H1 q (ds ++ es) → tz D σ H1) :
    tSeq (tDrop (tBM K "list" rExtend ta (tCons te tNil))) tz D σ H := ha H (Ex.refl H) _ fun H1 e1 => by
  obtain ⟨xs, h1, h2⟩ := hl
  refine ⟨.inl ⟨rfl, xs, sq_of (e1 q _ h1)⟩, h H1 e1 _ fun b ys H2 hb e2 hb2 hy => ?_⟩
  have h3 := e2 q _ (e1 q _ h1)
  refine ⟨q, b, xs, ys, rfl, rfl, h3, hb2, sz_of (by rw [dpAll_len h2, dpAll_len hy]; exact hz), k _ (fun B eb hb => Ex.mut ((eb.trans e1).trans e2) hb) ⟨_, upd_same, ?_⟩⟩
  exact dpAll_app (dpAll_updL h3 _ hn (dpAll_ex (e1.trans e2) _ h2)) (dpAll_updL h3 _ hd hy)
/-- due[1:3] -/
theorem en_sl13 {d0 d1 d2 : PyData} (h : EvD K te σ H (.list (d0 :: d1 :: d2 :: ds))) : EvN K (tSl (rSlL K) te (tPart (tC (.int 1))) (tPart (tC (.int 3)))) σ H [d1, d2] := fun H1 e Q q =>
  h H1 e _ fun v H2 e2 hv => by
    obtain ⟨a, xs, rfl, hs, hd⟩ := dp_lst hv
    obtain ⟨x0, x1, x2, xr, rfl, a1, a2⟩ : ∃ x0 x1 x2 xr, xs = x0 :: x1 :: x2 :: xr ∧ Dp K H2 x1 d1 ∧ Dp K H2 x2 d2 := by
      cases hd with
      | cons a0 hd =>
        cases hd with
        | cons a1 hd =>
          cases hd with
          | cons a2 hd => exact ⟨_, _, _, _, rfl, a1, a2⟩
    refine ⟨1, rfl, 3, rfl, a, _, rfl, hs, fun c nc => ?_⟩
    have hc : cutV (x0 :: x1 :: x2 :: xr) (some 1) (some 3) = [x1, x2] := by
      unfold cutV
      rw [show HT.sIx (x0 :: x1 :: x2 :: xr).length 0 (some 1) = min 1 (x0 :: x1 :: x2 :: xr).length from HT.sIx_nat _ _ 1, show HT.sIx (x0 :: x1 :: x2 :: xr).length (x0 :: x1 :: x2 :: xr).length (some 3) = min 3 (x0 :: x1 :: x2 :: xr).length from HT.sIx_nat _ _ 3]
      rw [Nat.min_eq_left (by simp), Nat.min_eq_left (by simp)]
      rfl
    rw [hc]
    exact q c _ _ (fresh_back e2 nc) (e2.trans (Ex.new nc)) upd_same (.cons (dp_ex (Ex.new nc) _ a1) (.cons (dp_ex (Ex.new nc) _ a2) .nil))
end
theorem eqvT_nil : ∀ ks : List Nat, PyData.eqv (.tuple (natDs ks)) (.tuple []) = ks.isEmpty
  | [] => by simp [natDs, PyData.eqv, PyData.eqvAll]
  | _ :: _ => by simp [natDs, PyData.eqv, PyData.eqvAll]
theorem shapedT_nats (ks : List Nat) : SeqAt.shaped (.tuple (natDs ks)) = true := by
  have e : natDs ks = (ks.map fun (k : Nat) => (k : Int)).map PyData.int := by
    unfold natDs
    rw [List.map_map]
    rfl
  rw [e]
  have q := lay_ints (ks.map fun (k : Nat) => (k : Int))
  show (PyData.canLay0 _ && decide (PyData.depth _ ≤ 64)) = true
  simp only [PyData.canLay0, PyData.depth, q.1, q.2]
  decide
/-- a tuple of kinds == () -/
theorem ev_eqNilT {K : PySem.W.Frag} {σ : L2.St} {H : Hp} {ta : TE} {ks : List Nat} (h : EvD K ta σ H (kidsD ks)) : Ev (tOp (rEqD K) ta (tTup tNil)) σ H (.bl ks.isEmpty) := fun H1 e Q q =>
  h H1 e _ fun v H2 e2 hv => ⟨by show 0 ≤ sizeLine; decide, fun p hp => ⟨.tuple (natDs ks), .tuple [], dp_ex (Ex.new hp) (kidsD ks) hv, .tup (st_of upd_same) .nil, shapedT_nats ks, shapedT_nats [], by
    rw [eqvT_nil]
    exact q _ (e2.trans (Ex.new hp))⟩⟩
end WR
set_option Elab.async false
set_option linter.all false
set_option maxRecDepth 100000
set_option maxHeartbeats 1000000
namespace WR
open PySem PySem.Spec PyProof.Rows L2 Evl
/-! ### beneath -/
noncomputable def rchB (kk : List (List Nat)) (k x : Nat) : Bool := @decide (Rch kk k x) (Classical.propDecidable _)
theorem rchB_iff {kk : List (List Nat)} {k x : Nat} : rchB kk k x = true ↔ Rch kk k x := by
  unfold rchB
  exact @decide_eq_true_iff _ (Classical.propDecidable _)
theorem rch_le {kk : List (List Nat)} (hd : ∀ u c, c ∈ rowAt kk u → c < u) {k x : Nat} (h : Rch kk k x) : x ≤ k :=
  h (fun y => y ≤ k) (Nat.le_refl k) fun u c hu hc => by have := hd u c hc; omega
noncomputable def benL (l : Nat) (inner : List (List Nat)) (k : Nat) : List Nat := (List.range k).filter (rchB (kkOf l inner) k)
/-- the marks, kinds from j on are done -/
structure Mk (kk : List (List Nat)) (k j : Nat) (bs : List Bool) : Prop where
  len : bs.length = k + 1
  top : bs[k]? = some true
  snd : ∀ x, bs[x]? = some true → Rch kk k x
  shut : ∀ w, j ≤ w → w ≤ k → bs[w]? = some true → ∀ c ∈ rowAt kk w, bs[c]? = some true
def markAll (bs : List Bool) (ks : List Nat) : List Bool := ks.foldl (fun b c => b.set c true) bs
theorem markAll_len : ∀ (ks : List Nat) (bs : List Bool), (markAll bs ks).length = bs.length
  | [], _ => rfl
  | c :: r, bs => by
    show (markAll (bs.set c true) r).length = _
    rw [markAll_len r, List.length_set]
theorem markAll_at {x : Nat} : ∀ {ks : List Nat} {bs : List Bool}, (markAll bs ks)[x]? = if x ∈ ks ∧ x < bs.length then some true else bs[x]?
  | [], bs => by
    rw [if_neg (fun z => by cases z.1)]
    rfl
  | c :: r, bs => by
    show (markAll (bs.set c true) r)[x]? = _
    rw [markAll_at, List.length_set]
    by_cases h : x ∈ r ∧ x < bs.length
    · rw [if_pos h, if_pos ⟨List.mem_cons_of_mem _ h.1, h.2⟩]
    · rw [if_neg h, List.getElem?_set]
      by_cases e : c = x
      · subst e
        rw [if_pos rfl]
        by_cases z : c < bs.length
        · rw [if_pos z, if_pos ⟨List.mem_cons_self .., z⟩]
        · rw [if_neg z, if_neg fun y => z y.2]
          exact (List.getElem?_eq_none (by omega)).symm
      · rw [if_neg e, if_neg]
        rintro ⟨y, z⟩
        rcases List.mem_cons.mp y with y | y
        · exact e y.symm
        · exact h ⟨y, z⟩
theorem markAll_take {ks : List Nat} {bs : List Bool} {j c : Nat} (h : ks[j]? = some c) : markAll bs (ks.take (j + 1)) = (markAll bs (ks.take j)).set c true := by
  unfold markAll
  rw [List.take_add_one, h, List.foldl_append]
  rfl
theorem Mk.skip {kk : List (List Nat)} {k j : Nat} {bs : List Bool} (m : Mk kk k (j + 1) bs) (h : bs[j]? ≠ some true) : Mk kk k j bs :=
  ⟨m.len, m.top, m.snd, fun w h1 h2 h3 => by
    by_cases e : w = j
    · subst e
      exact absurd h3 h
    · exact m.shut w (by omega) h2 h3⟩
theorem Mk.step {kk : List (List Nat)} {k j : Nat} {bs : List Bool} (m : Mk kk k (j + 1) bs) (hj : j ≤ k) (hlt : ∀ c ∈ rowAt kk j, c < j) (hb : bs[j]? = some true) : Mk kk k j (markAll bs (rowAt kk j)) := by
  have keep : ∀ x, bs[x]? = some true → (markAll bs (rowAt kk j))[x]? = some true := fun x hx => by
    rw [markAll_at]
    split
    · rfl
    · exact hx
  refine ⟨by rw [markAll_len]; exact m.len, keep k m.top, fun x hx => ?_, fun w h1 h2 h3 c hc => ?_⟩
  · rw [markAll_at] at hx
    by_cases z : x ∈ rowAt kk j ∧ x < bs.length
    · exact rch_shut j x (m.snd j hb) z.1
    · rw [if_neg z] at hx
      exact m.snd x hx
  · by_cases e : w = j
    · subst e
      rw [markAll_at, if_pos ⟨hc, by have := hlt c hc; have := m.len; omega⟩]
    · have hw : bs[w]? = some true := by
        rw [markAll_at] at h3
        by_cases z : w ∈ rowAt kk j ∧ w < bs.length
        · have := hlt w z.1
          omega
        · rw [if_neg z] at h3
          exact h3
      exact keep c (m.shut w (by omega) h2 hw c hc)
theorem Mk.iff {kk : List (List Nat)} {k : Nat} {bs : List Bool} (m : Mk kk k 0 bs) (x : Nat) : bs[x]? = some true ↔ Rch kk k x := by
  refine ⟨m.snd x, fun h => h (fun x => bs[x]? = some true) m.top fun u c hu hc => m.shut u (Nat.zero_le _) ?_ hu c hc⟩
  have := (List.getElem?_eq_some_iff.mp hu).1
  have := m.len
  omega
theorem mk_start {kk : List (List Nat)} {k : Nat} : Mk kk k (k + 1) ((List.range (k + 1)).map fun i => decide (i = k)) := by
  have hat : ∀ x, ((List.range (k + 1)).map fun i => decide (i = k))[x]? = some true → x = k := fun x h => by
    rw [List.getElem?_map] at h
    obtain ⟨i, hi, e⟩ := Option.map_eq_some_iff.mp h
    have := (List.getElem?_eq_some_iff.mp hi).2
    rw [List.getElem_range] at this
    have e := of_decide_eq_true e
    omega
  refine ⟨by rw [List.length_map, List.length_range], ?_, fun x h => ?_, fun w h1 h2 _ => by omega⟩
  · rw [List.getElem?_map, List.getElem?_range (Nat.lt_succ_self k)]
    show some (decide (k = k)) = _
    rw [decide_eq_true rfl]
  · rw [hat x h]
    exact rch_self
/-- the three of a web, a kind and a kind -/
def spWKK (K : PySem.W.Frag) (g : Nat → List (List Nat) → Nat → Nat → PyData) : Sp := fun vs H Q _ =>
  ∃ v l inner k t, vs = [v, .int ((k : Nat) : Int), .int ((t : Nat) : Int)] ∧ Dp K H v (webD l inner) ∧ Raw l inner ∧ k < l + inner.length ∧ t < l + inner.length ∧ ∀ r H', Ex H H' → Dp K H' r (g l inner k t) → Q r H'
theorem spWKK_len {K : PySem.W.Frag} {g : Nat → List (List Nat) → Nat → Nat → PyData} {vs : List V} {H : Hp} {Q : VK} {E : XK} (h : spWKK K g vs H Q E) : vs.length = 3 := by
  obtain ⟨v, l, inner, k, t, rfl, _⟩ := h
  rfl
theorem ed_callWKK {K : PySem.W.Frag} {σ : L2.St} {H : Hp} {te tx ty : TE} {l k t : Nat} {inner : List (List Nat)} {g : Nat → List (List Nat) → Nat → Nat → PyData} {E : XK} (h : EvD K te σ H (webD l inner)) (hk : EvD K tx σ H (natD k)) (ht : EvD K ty σ H (natD t)) (hw : Raw l inner) (hlt : k < l + inner.length) (htt : t < l + inner.length) :
    EvD K (tCall (spWKK K g) [] E (tCons te (tCons tx (tCons ty tNil)))) σ H (g l inner k t) := fun H1 e Q q =>
  h H1 e _ fun v H2 e2 hv => hk H2 (e.trans e2) _ fun w H3 e3 hw' => ht H3 ((e.trans e2).trans e3) _ fun x H4 e4 hx => by
    cases dp_int hw'
    cases dp_int hx
    exact ⟨v, l, inner, k, t, rfl, dp_ex (e3.trans e4) _ hv, hw, hlt, htt, fun r H5 e5 hr => q r H5 (((e2.trans e3).trans e4).trans e5) hr⟩
/-- for i in range(n - 1, -1, -1) -/
theorem q_forR3 {σ : L2.St} {H : Hp} {D : Ends} {tu tz : TS} {ta : TA} {j : Nat} {lo : Int} {n : Nat} (h : EvA ta σ H [.int lo, .int (-1), .int (-1)]) (hn : lo + 1 = (n : Int)) (h1 : n ≤ 100000) (Pv : Nat → L2.St → Hp → Prop) (h0 : ∀ H1, Ex H H1 → Pv 0 σ H1)
    (hs : ∀ (i : Nat) σ' H', i < n → Pv i σ' H' → tu { D with nx := Pv (i + 1), ct := Pv (i + 1), bk := tz D } (σ'.set j (some (.int (lo + (i : Nat) * (-1))))) H') (hd : ∀ σ' H', Pv n σ' H' → tz D σ' H') : tSeq (tFor (iRng3 ta) (gName j) tu) tz D σ H :=
  h H (Ex.refl H) _ fun H1 e => ⟨lo, -1, -1, n, rfl, by
    have q := RgC.neg (i := lo) (j := -1) (by omega) (by omega) (by omega) (by omega)
    rw [show (lo - -1).toNat = n by omega] at q
    exact q, for_rangeC (D := { D with nx := tz D }) Pv (h0 H1 e) (fun i σ' H' hi p => hs i σ' H' hi p) hd⟩
end WR
set_option Elab.async false
set_option linter.all false
set_option maxRecDepth 100000
set_option maxHeartbeats 1000000
namespace WR
open PySem PySem.Spec PyProof.Rows L2 Evl

/-! ### how many ways: the mathematics -/
def wayL (kf : Nat → List Nat) (to : Nat) : Nat → List Int
  | 0 => []
  | n + 1 => wayL kf to n ++ [((kf n).map fun c => (wayL kf to n).getD c 0).sum + (if n = to then 1 else 0)]
def way (kf : Nat → List Nat) (to k : Nat) : Int := (wayL kf to (k + 1)).getD k 0
theorem wayL_len {kf : Nat → List Nat} {to : Nat} : ∀ n, (wayL kf to n).length = n
  | 0 => rfl
  | n + 1 => by
    show (wayL kf to n ++ [_]).length = _
    rw [List.length_append, wayL_len n]
    rfl
theorem wayL_at {kf : Nat → List Nat} {to k : Nat} : ∀ {n : Nat}, k < n → (wayL kf to n).getD k 0 = way kf to k
  | n + 1, h => by
    by_cases e : k = n
    · subst e
      rfl
    · show (wayL kf to n ++ [_]).getD k 0 = _
      rw [List.getD_eq_getElem?_getD, List.getElem?_append_left (by rw [wayL_len]; omega), ← List.getD_eq_getElem?_getD]
      exact wayL_at (by omega)
theorem wayL_eq {kf : Nat → List Nat} {to : Nat} (n : Nat) : wayL kf to n = (List.range n).map (way kf to) := by
  refine List.ext_getElem? fun k => ?_
  by_cases h : k < n
  · rw [List.getElem?_map, List.getElem?_range h]
    have := wayL_at (kf := kf) (to := to) h
    rw [List.getD_eq_getElem?_getD, List.getElem?_eq_getElem (by rw [wayL_len]; exact h)] at this
    rw [List.getElem?_eq_getElem (by rw [wayL_len]; exact h)]
    exact congrArg some this
  · rw [List.getElem?_eq_none (by rw [wayL_len]; omega), List.getElem?_eq_none (by rw [List.length_map, List.length_range]; omega)]
theorem way_rec {kf : Nat → List Nat} {to k : Nat} (h : ∀ c ∈ kf k, c < k) : way kf to k = ((kf k).map (way kf to)).sum + (if k = to then 1 else 0) := by
  unfold way
  show (wayL kf to k ++ [_]).getD k 0 = _
  rw [List.getD_eq_getElem?_getD, List.getElem?_append_right (by rw [wayL_len]; exact Nat.le_refl _), wayL_len, Nat.sub_self]
  show ((kf k).map fun c => (wayL kf to k).getD c 0).sum + _ = _
  congr 2
  exact List.map_congr_left fun c hc => wayL_at (h c hc)
theorem sum_nn : ∀ {ns : List Int}, (∀ n ∈ ns, 0 ≤ n) → 0 ≤ ns.sum
  | [], _ => Int.le_refl 0
  | n :: r, h => by
    rw [List.sum_cons]
    have := h n (List.mem_cons_self ..)
    have := sum_nn (ns := r) fun m hm => h m (List.mem_cons_of_mem _ hm)
    omega
theorem sum_ge : ∀ {ns : List Int} {n : Int}, (∀ n ∈ ns, 0 ≤ n) → n ∈ ns → n ≤ ns.sum
  | m :: r, n, h, hn => by
    rw [List.sum_cons]
    have := h m (List.mem_cons_self ..)
    have := sum_nn (ns := r) fun m hm => h m (List.mem_cons_of_mem _ hm)
    rcases List.mem_cons.mp hn with rfl | hn
    · omega
    · have := sum_ge (ns := r) (fun m hm => h m (List.mem_cons_of_mem _ hm)) hn
      omega
theorem sum_pos : ∀ {ns : List Int}, 0 < ns.sum → ∃ n ∈ ns, 0 < n
  | [], h => absurd h (by simp)
  | n :: r, h => by
    rw [List.sum_cons] at h
    by_cases z : 0 < n
    · exact ⟨n, List.mem_cons_self .., z⟩
    · obtain ⟨m, a, b⟩ := sum_pos (ns := r) (by omega)
      exact ⟨m, List.mem_cons_of_mem _ a, b⟩
theorem sum_le_mul : ∀ {ns : List Int} {B : Int}, (∀ n ∈ ns, n ≤ B) → ns.sum ≤ ns.length * B
  | [], B, _ => by simp
  | n :: r, B, h => by
    rw [List.sum_cons, List.length_cons]
    have := h n (List.mem_cons_self ..)
    have := sum_le_mul (ns := r) fun m hm => h m (List.mem_cons_of_mem _ hm)
    rw [Int.natCast_add, Int.add_mul]
    omega
section
variable {kf : Nat → List Nat} {to : Nat} (hd : ∀ u c, c ∈ kf u → c < u)
include hd
theorem way_nn : ∀ k, 0 ≤ way kf to k := fun k => by
  induction k using Nat.strongRecOn with
  | ind k ih =>
    rw [way_rec (hd k)]
    have : 0 ≤ ((kf k).map (way kf to)).sum := sum_nn fun n hn => by
      obtain ⟨c, hc, rfl⟩ := List.mem_map.mp hn
      exact ih c (hd k c hc)
    split <;> omega
theorem way_self : 1 ≤ way kf to to := by
  rw [way_rec (hd to), if_pos rfl]
  have : 0 ≤ ((kf to).map (way kf to)).sum := sum_nn fun n hn => by
    obtain ⟨c, hc, rfl⟩ := List.mem_map.mp hn
    exact way_nn hd c
  omega
theorem way_ge {u c : Nat} (h : c ∈ kf u) : way kf to c ≤ way kf to u := by
  rw [way_rec (hd u)]
  have := sum_ge (ns := (kf u).map (way kf to)) (fun n hn => by
    obtain ⟨c, hc, rfl⟩ := List.mem_map.mp hn
    exact way_nn hd c) (List.mem_map_of_mem h)
  split <;> omega
theorem way_le {B : Nat} (hB : ∀ u, (kf u).length ≤ B) : ∀ k, way kf to k ≤ ((B + 1) ^ k : Nat) := fun k => by
  induction k using Nat.strongRecOn with
  | ind k ih =>
    rw [way_rec (hd k)]
    cases k with
    | zero =>
      have : kf 0 = [] := List.eq_nil_iff_forall_not_mem.mpr fun c hc => by have := hd 0 c hc; omega
      rw [this]
      show (0 : Int) + _ ≤ ((1 : Nat) : Int)
      split <;> omega
    | succ m =>
      have hs : ((kf (m + 1)).map (way kf to)).sum ≤ ((kf (m + 1)).map (way kf to)).length * (((B + 1) ^ m : Nat) : Int) := sum_le_mul fun n hn => by
        obtain ⟨c, hc, rfl⟩ := List.mem_map.mp hn
        have h1 := ih c (hd _ c hc)
        have h2 : (B + 1) ^ c ≤ (B + 1) ^ m := Nat.pow_le_pow_right (by omega) (by have := hd _ c hc; omega)
        omega
      rw [List.length_map] at hs
      have h3 : (kf (m + 1)).length * (B + 1) ^ m ≤ B * (B + 1) ^ m := Nat.mul_le_mul_right _ (hB _)
      have h4 : (B + 1) ^ (m + 1) = B * (B + 1) ^ m + (B + 1) ^ m := by rw [Nat.pow_succ, Nat.mul_comm, Nat.add_mul, Nat.one_mul]
      have h5 : 1 ≤ (B + 1) ^ m := Nat.pos_of_ne_zero (by have := Nat.pow_pos (n := m) (show 0 < B + 1 by omega); omega)
      have h6 : (((kf (m + 1)).length : Int)) * (((B + 1) ^ m : Nat) : Int) = (((kf (m + 1)).length * (B + 1) ^ m : Nat) : Int) := (Int.natCast_mul ..).symm
      rw [h6] at hs
      split <;> omega
end
theorem way_rch {kk : List (List Nat)} (hd : ∀ u c, c ∈ rowAt kk u → c < u) {to : Nat} (k : Nat) : 0 < way (rowAt kk) to k ↔ Rch kk k to := by
  constructor
  · induction k using Nat.strongRecOn with
    | ind k ih =>
      intro h
      by_cases e : k = to
      · subst e
        exact rch_self
      · rw [way_rec (hd k), if_neg e, Int.add_zero] at h
        obtain ⟨n, hn, hp⟩ := sum_pos h
        obtain ⟨c, hc, rfl⟩ := List.mem_map.mp hn
        have := ih c (hd k c hc) hp
        intro T hT hS
        exact this T (hS k c hT hc) hS
  · intro h
    by_cases z : 0 < way (rowAt kk) to k
    · exact z
    · have hk : way (rowAt kk) to k = 0 := by have := way_nn (to := to) hd k; omega
      have := h (fun y => way (rowAt kk) to y = 0) hk fun u c hu hc => by
        have h1 := way_ge (to := to) hd hc
        have h2 := way_nn (to := to) hd c
        have hu : way (rowAt kk) to u = 0 := hu
        show way (rowAt kk) to c = 0
        omega
      have h3 := way_self (to := to) hd
      have h4 : way (rowAt kk) to to = 0 := this
      omega
theorem way_small {l : Nat} {inner : List (List Nat)} (hw : Raw l inner) {to k : Nat} (hk : k < l + inner.length) : Sm 150 0 (.int (way (kidsAt l inner) to k)) := by
  have h8 := hw.l8
  have h20 := hw.n20
  have hd : ∀ u c, c ∈ kidsAt l inner u → c < u := fun u c h => (kidsAt_lt hw h).2
  have h1 := way_nn (to := to) hd k
  have h2 := way_le (to := to) hd (B := 30) (fun u => kl30 hw) k
  have h3 : (30 + 1) ^ k ≤ (30 + 1) ^ 28 := Nat.pow_le_pow_right (by decide) (by omega)
  have h4 : (30 + 1) ^ 28 < 10 ^ 45 := by decide
  refine sm_big ?_
  generalize (30 + 1) ^ k = a at h2 h3
  generalize (30 + 1) ^ 28 = b at h3 h4
  generalize 10 ^ 45 = c at h4 ⊢
  omega
theorem rowAt_kkE {l : Nat} {inner : List (List Nat)} : rowAt (kkOf l inner) = kidsAt l inner := funext fun u => rowAt_kk
section
variable {K : PySem.W.Frag} {σ : L2.St} {H H' : Hp} {te : TE} {D : Ends} {tz : TS} {l : Nat} {inner : List (List Nat)} {v : V}
/-- kids = _law_lists(web) -/
theorem q_lists1 {E : XK} {i : Nat} (h : Ev te σ H v) (hv : Dp K H v (webD l inner)) (hw : Raw l inner)
    (c : ∀ p rs H1, H p = none → Ex H H1 → KdAt H1 p rs (kkOf l inner) → tz D (σ.set i (some (.ref p))) H1) :
    tSeq (tAsg (tCall (spLists K) [] E (tCons te tNil)) (gName i)) tz D σ H :=
  h H (Ex.refl H) _ fun H1 e1 => ⟨v, l, inner, rfl, dp_ex e1 _ hv, hw, fun p rs H2 e2 hp kd => c p rs H2 (fresh_back e1 hp) (e1.trans e2) kd⟩
theorem q_lists2 {E : XK} {w i j : Nat} (h : σ[w]? = some (some v)) (hv : Dp K H v (webD l inner)) (hw : Raw l inner)
    (c : ∀ p rs H1, H p = none → Ex H H1 → KdAt H1 p rs (kkOf l inner) → tz D ((σ.set i (some (.ref p))).set j (some (.str (webD l inner).shown))) H1) :
    tSeq (tPar i j (tCons (tCall (spLists K) [] E (tCons (tVar w) tNil)) (tCons (tCB (rReprA K) (tCons (tVar w) tNil)) tNil))) tz D σ H :=
  ⟨v, h, v, l, inner, rfl, hv, hw, fun p rs H1 e1 hp kd => (ev_repr (K := K) (ed_var h (dp_ex e1 _ hv)) ((sm_web hw).ok (by decide) (by decide)) : Ev _ σ H1 _) H1 (Ex.refl H1) _ fun H2 e2 =>
    ⟨_, _, rfl, c p rs H2 hp (e1.trans e2) (kd.ex e2)⟩⟩
end
end WR
set_option Elab.async false
set_option linter.all false
set_option maxRecDepth 100000
set_option maxHeartbeats 1000000
namespace WR
open PySem PySem.Spec PyProof.Rows L2 Evl

/-! ### rows -/
theorem ev_sumI {K : PySem.W.Frag} {σ : L2.St} {H : Hp} {te : TE} {ns : List Int} (h : EvN K te σ H (ns.map PyData.int)) : Ev (tCB (rSum K) (tCons te tNil)) σ H (.int ns.sum) := fun H1 e Q q =>
  h H1 e _ fun p xs H2 hp e2 hx hd => by
    rw [ints_of hd] at hx
    exact ⟨p, ns, rfl, sq_of hx, q H2 e2⟩
theorem fm_natsJ {f : PyData → Option PyData} {g : Nat → Int} {ks : List Nat} (h : ∀ c ∈ ks, f (natD c) = some (.int (g c))) : (natDs ks).filterMap f = (ks.map g).map PyData.int := by
  unfold natDs
  rw [List.filterMap_map, List.map_map]
  exact fm_map fun c hc => h c hc
def rowI (l : Nat) (inner : List (List Nat)) (k : Nat) : List Int := (List.range l).map fun x => way (kidsAt l inner) x k
def rowD (l : Nat) (inner : List (List Nat)) (k : Nat) : PyData := tupI (rowI l inner k)
def rowsD (l : Nat) (inner : List (List Nat)) (n : Nat) : List PyData := (List.range n).map (rowD l inner)
theorem rowsD_succ {l n : Nat} {inner : List (List Nat)} : rowsD l inner (n + 1) = rowsD l inner n ++ [rowD l inner n] := by
  unfold rowsD
  rw [List.range_succ, List.map_append]
  rfl
theorem rowsD_at {l n k : Nat} {inner : List (List Nat)} (h : k < n) : (rowsD l inner n)[k]? = some (rowD l inner k) := by
  unfold rowsD
  rw [List.getElem?_map, List.getElem?_range h]
  rfl
theorem nl_rowsD {l n : Nat} {inner : List (List Nat)} : nlAll (rowsD l inner n) = true := nlAll_mem fun d hd => by
  obtain ⟨k, _, rfl⟩ := List.mem_map.mp hd
  exact nl_tupI _
theorem rowI_at {l k x : Nat} {inner : List (List Nat)} (h : x < l) : ((rowI l inner k).map PyData.int)[x]? = some (.int (way (kidsAt l inner) x k)) := by
  unfold rowI
  rw [List.getElem?_map, List.getElem?_map, List.getElem?_range h]
  rfl
theorem way_leaf {l k x : Nat} {inner : List (List Nat)} (h : k < l) : way (kidsAt l inner) x k = if x = k then 1 else 0 := by
  rw [way_rec (fun c hc => by rw [show kidsAt l inner k = [] from if_pos h] at hc; cases hc), show kidsAt l inner k = [] from if_pos h]
  by_cases z : k = x
  · rw [if_pos z, if_pos z.symm]
    rfl
  · rw [if_neg z, if_neg (Ne.symm z)]
    rfl
/-- the row of a leaf -/
def spLeafRow (K : PySem.W.Frag) : Sp := fun vs H Q _ => ∃ l x : Nat, vs = [nV l, nV x] ∧ l ≤ 1000 ∧ ∀ r H', Ex H H' → Dp K H' r (tupI ((List.range l).map fun a => if a = x then 1 else 0)) → Q r H'
end WR
set_option Elab.async false
set_option linter.all false
set_option maxRecDepth 100000
set_option maxHeartbeats 1000000
namespace WR
open PySem PySem.Spec PyProof.Rows L2 Evl

/-! ### the law's walks: the mathematics -/
def totL (kf : Nat → List Nat) : Nat → List Nat
  | 0 => []
  | n + 1 => totL kf n ++ [((kf n).map fun c => (totL kf n).getD c 0).sum + 1]
def tot (kf : Nat → List Nat) (k : Nat) : Nat := (totL kf (k + 1)).getD k 0
theorem totL_len {kf : Nat → List Nat} : ∀ n, (totL kf n).length = n
  | 0 => rfl
  | n + 1 => by
    show (totL kf n ++ [_]).length = _
    rw [List.length_append, totL_len n]
    rfl
theorem totL_at {kf : Nat → List Nat} {k : Nat} : ∀ {n : Nat}, k < n → (totL kf n).getD k 0 = tot kf k
  | n + 1, h => by
    by_cases e : k = n
    · subst e
      rfl
    · show (totL kf n ++ [_]).getD k 0 = _
      rw [List.getD_eq_getElem?_getD, List.getElem?_append_left (by rw [totL_len]; omega), ← List.getD_eq_getElem?_getD]
      exact totL_at (by omega)
theorem tot_rec {kf : Nat → List Nat} {k : Nat} (h : ∀ c ∈ kf k, c < k) : tot kf k = ((kf k).map (tot kf)).sum + 1 := by
  unfold tot
  show (totL kf k ++ [_]).getD k 0 = _
  rw [List.getD_eq_getElem?_getD, List.getElem?_append_right (by rw [totL_len]; exact Nat.le_refl _), totL_len, Nat.sub_self]
  show ((kf k).map fun c => (totL kf k).getD c 0).sum + 1 = _
  congr 2
  exact List.map_congr_left fun c hc => totL_at (h c hc)
/-- the stack: groups of at most 30, each below a bound that falls -/
inductive Stk (n : Nat) : Nat → List Nat → Prop
  | nil : Stk n n []
  | grp {b b' : Nat} {rest g : List Nat} (h : Stk n b' rest) (hb : b < b') (hl : g.length ≤ 30) (hg : ∀ x ∈ g, x < b) : Stk n b (rest ++ g)
theorem Stk.le {n b : Nat} {left : List Nat} (h : Stk n b left) : b ≤ n := by
  induction h with
  | nil => exact Nat.le_refl _
  | grp _ hb _ _ ih => omega
theorem Stk.len {n b : Nat} {left : List Nat} (h : Stk n b left) : left.length ≤ 30 * (n - b) := by
  induction h with
  | nil => exact Nat.zero_le _
  | grp h hb hl _ ih =>
    rw [List.length_append]
    have := h.le
    omega
theorem Stk.pop {n b : Nat} {left l : List Nat} {x : Nat} (h : Stk n b left) (e : left = l ++ [x]) : ∃ b', x < b' ∧ Stk n b' l := by
  induction h generalizing l x with
  | nil => exact absurd e (by simp)
  | grp h hb hl hg ih =>
    rename_i b b' rest g
    rcases List.eq_nil_or_concat g with rfl | ⟨g', y, rfl⟩
    · rw [List.append_nil] at e
      exact ih e
    · rw [List.concat_eq_append, ← List.append_assoc] at e
      obtain ⟨e1, e2⟩ := List.append_inj' e rfl
      have e2 : y = x := by simpa using e2
      subst e2
      subst e1
      refine ⟨b, hg y (by simp), .grp h hb ?_ fun z hz => hg z (by simp [hz])⟩
      rw [List.concat_eq_append, List.length_append] at hl
      omega
structure Wk (kf : Nat → List Nat) (n k : Nat) (fs : List Int) (left : List Nat) : Prop where
  len : fs.length = n
  bal : ∀ x, x < n → fs.getD x 0 + (left.map (way kf x)).sum = way kf x k
  lt : ∀ y ∈ left, y < n
  stk : ∃ b, Stk (n + 1) b left
theorem Wk.step {kf : Nat → List Nat} {n k y : Nat} {fs : List Int} {l : List Nat} (hd : ∀ u c, c ∈ kf u → c < u) (hl : ∀ u, (kf u).length ≤ 30) (w : Wk kf n k fs (l ++ [y])) : Wk kf n k (bump fs y) (l ++ kf y) := by
  have hy : y < n := w.lt y (by simp)
  refine ⟨by rw [bump_len]; exact w.len, fun x hx => ?_, fun z hz => ?_, ?_⟩
  · have := w.bal x hx
    rw [List.map_append, List.sum_append] at this ⊢
    rw [bump_at (by rw [w.len]; exact hx)]
    have h2 := way_rec (to := x) (fun c hc => hd y c hc)
    have h3 : ([y].map (way kf x)).sum = way kf x y := by simp
    rw [h3, h2] at this
    omega
  · rcases List.mem_append.mp hz with h | h
    · exact w.lt z (List.mem_append_left _ h)
    · have := hd y z h
      omega
  · obtain ⟨b, hb⟩ := w.stk
    obtain ⟨b', h1, h2⟩ := hb.pop rfl
    exact ⟨y, .grp h2 h1 (hl y) fun z hz => hd y z hz⟩
theorem Wk.fall {kf : Nat → List Nat} {y : Nat} {l : List Nat} (hd : ∀ u c, c ∈ kf u → c < u) : ((l ++ kf y).map (tot kf)).sum < ((l ++ [y]).map (tot kf)).sum := by
  rw [List.map_append, List.sum_append, List.map_append, List.sum_append]
  have h2 := tot_rec (fun c hc => hd y c hc)
  have h3 : ([y].map (tot kf)).sum = tot kf y := by simp
  omega
theorem Wk.start {kf : Nat → List Nat} {n k : Nat} (hk : k < n) : Wk kf n k (List.replicate n 0) [k] := by
  refine ⟨List.length_replicate, fun x hx => ?_, fun y hy => by rw [List.mem_singleton.mp hy]; exact hk, n, ?_⟩
  · rw [List.getD_eq_getElem?_getD, List.getElem?_replicate, if_pos hx]
    simp
  · exact .grp (rest := []) .nil (Nat.lt_succ_self n) (by simp) (fun x hx => by rw [List.mem_singleton.mp hx]; exact hk)
theorem Wk.done {kf : Nat → List Nat} {n k : Nat} {fs : List Int} (w : Wk kf n k fs []) : fs = (List.range n).map fun x => way kf x k := by
  refine List.ext_getElem? fun x => ?_
  by_cases z : x < n
  · have := w.bal x z
    rw [List.map_nil, List.sum_nil, Int.add_zero, List.getD_eq_getElem?_getD, List.getElem?_eq_getElem (by rw [w.len]; exact z)] at this
    rw [List.getElem?_map, List.getElem?_range z, List.getElem?_eq_getElem (by rw [w.len]; exact z)]
    exact congrArg some this
  · rw [List.getElem?_eq_none (by rw [w.len]; omega), List.getElem?_eq_none (by rw [List.length_map, List.length_range]; omega)]
theorem q_par2 {σ : L2.St} {H : Hp} {D : Ends} {tz : TS} {i j : Nat} {r : R2} {ta tb tc : TE} (h : ta σ H fun x H1 => tb σ H1 fun y H2 => r x y H2 fun v H3 => tc σ H3 fun w H4 => ∃ v' w', [v, w] = [v', w'] ∧ tz D ((σ.set i (some v')).set j (some w')) H4) : tSeq (tPar i j (tCons (tOp r ta tb) (tCons tc tNil))) tz D σ H := h
def spWalks (K : PySem.W.Frag) : Sp := fun vs H Q _ => ∃ p rs l inner k, vs = [.ref p, nV k] ∧ KdAt H p rs (kkOf l inner) ∧ Raw l inner ∧ k < l + inner.length ∧
  ∀ r H', Ex H H' → Dp K H' (.ref r) (.list (((List.range (l + inner.length)).map fun x => way (kidsAt l inner) x k).map PyData.int)) → Q (.ref r) H'
end WR
set_option Elab.async false
set_option linter.all false
set_option maxRecDepth 100000
set_option maxHeartbeats 1000000
namespace WR
open PySem PySem.Spec PyProof.Rows L2 Evl

/-! ### ways by their numbers: the mathematics -/
structure Asc (l : Nat) (inner : List (List Nat)) : Prop where
  raw : Raw l inner
  up : ∀ ks ∈ inner, ks.Pairwise (· < ·)
theorem Asc.at {l : Nat} {inner : List (List Nat)} (A : Asc l inner) (u : Nat) : (kidsAt l inner u).Pairwise (· < ·) := by
  unfold kidsAt
  by_cases z : u < l
  · rw [if_pos z]
    exact List.Pairwise.nil
  · rw [if_neg z, List.getD_eq_getElem?_getD]
    cases e : inner[u - l]? with
    | none => exact List.Pairwise.nil
    | some ks => exact A.up ks (List.mem_of_getElem? e)
def chooseW (f : Nat → Int) : List Nat → Int → Nat × Int
  | [], p => (0, p)
  | c :: r, p => if p < f c then (c, p) else chooseW f r (p - f c)
/-- what is ahead of a child -/
def aheadW (f : Nat → Int) (ks : List Nat) (c : Nat) : Int := ((ks.filter fun x => decide (x < c)).map f).sum
theorem aheadW_cons {f : Nat → Int} {k : Nat} {r : List Nat} {c : Nat} : aheadW f (k :: r) c = (if k < c then f k else 0) + aheadW f r c := by
  unfold aheadW
  rw [List.filter_cons]
  by_cases z : k < c
  · rw [if_pos (decide_eq_true z), if_pos z, List.map_cons, List.sum_cons]
  · rw [if_neg (by simpa using z), if_neg z, Int.zero_add]
theorem aheadW_zero {f : Nat → Int} {ks : List Nat} {c : Nat} (h : ∀ x ∈ ks, c ≤ x) : aheadW f ks c = 0 := by
  unfold aheadW
  rw [List.filter_eq_nil_iff.mpr fun x hx => by have := h x hx; simp; omega]
  rfl
theorem aheadW_nn {f : Nat → Int} (h0 : ∀ k, 0 ≤ f k) {ks : List Nat} {c : Nat} : 0 ≤ aheadW f ks c := sum_nn fun n hn => by
  obtain ⟨y, _, rfl⟩ := List.mem_map.mp hn
  exact h0 y
theorem chooseW_ok {f : Nat → Int} (h0 : ∀ k, 0 ≤ f k) : ∀ {ks : List Nat} {p : Int}, ks.Pairwise (· < ·) → 0 ≤ p → p < (ks.map f).sum →
    (chooseW f ks p).1 ∈ ks ∧ 0 ≤ (chooseW f ks p).2 ∧ (chooseW f ks p).2 < f (chooseW f ks p).1 ∧ p = aheadW f ks (chooseW f ks p).1 + (chooseW f ks p).2
  | [], p, _, hp, hs => by
    rw [List.map_nil, List.sum_nil] at hs
    omega
  | c :: r, p, ha, hp, hs => by
    rw [List.pairwise_cons] at ha
    rw [List.map_cons, List.sum_cons] at hs
    unfold chooseW
    by_cases z : p < f c
    · rw [if_pos z]
      refine ⟨List.mem_cons_self .., hp, z, ?_⟩
      show p = aheadW f (c :: r) c + p
      rw [aheadW_zero fun x hx => ?_]
      · omega
      · rcases List.mem_cons.mp hx with rfl | hx
        · exact Nat.le_refl _
        · exact Nat.le_of_lt (ha.1 x hx)
    · rw [if_neg z]
      obtain ⟨h1, h2, h3, h4⟩ := chooseW_ok h0 (ks := r) (p := p - f c) ha.2 (by omega) (by omega)
      refine ⟨List.mem_cons_of_mem _ h1, h2, h3, ?_⟩
      rw [aheadW_cons, if_pos (ha.1 _ h1)]
      omega
theorem ahead_add {f : Nat → Int} (h0 : ∀ k, 0 ≤ f k) : ∀ {ks : List Nat} {c d : Nat}, ks.Pairwise (· < ·) → c ∈ ks → c < d → aheadW f ks c + f c ≤ aheadW f ks d
  | k :: r, c, d, ha, hc, hd => by
    rw [List.pairwise_cons] at ha
    rw [aheadW_cons, aheadW_cons]
    rcases List.mem_cons.mp hc with e | hc
    · subst e
      rw [if_neg (Nat.lt_irrefl _), if_pos hd, aheadW_zero fun x hx => Nat.le_of_lt (ha.1 x hx)]
      have := aheadW_nn h0 (ks := r) (c := d)
      omega
    · have := ahead_add h0 ha.2 hc hd
      have h1 := ha.1 c hc
      rw [if_pos h1, if_pos (show k < d by omega)]
      omega
theorem ahead_sum {f : Nat → Int} (h0 : ∀ k, 0 ≤ f k) : ∀ {ks : List Nat} {c : Nat}, ks.Pairwise (· < ·) → c ∈ ks → aheadW f ks c + f c ≤ (ks.map f).sum
  | k :: r, c, ha, hc => by
    rw [List.pairwise_cons] at ha
    rw [aheadW_cons, List.map_cons, List.sum_cons]
    rcases List.mem_cons.mp hc with e | hc
    · subst e
      rw [if_neg (Nat.lt_irrefl _), aheadW_zero fun x hx => Nat.le_of_lt (ha.1 x hx)]
      have := sum_nn (ns := r.map f) fun n hn => by
        obtain ⟨y, _, rfl⟩ := List.mem_map.mp hn
        exact h0 y
      omega
    · have := ahead_sum h0 ha.2 hc
      rw [if_pos (ha.1 c hc)]
      omega
def wayN (kf : Nat → List Nat) (to : Nat) : Nat → Nat → Int → List Nat
  | 0, k, _ => [k]
  | n + 1, k, p => if k = to then [k] else k :: wayN kf to n (chooseW (way kf to) (kf k) p).1 (chooseW (way kf to) (kf k) p).2
def wayAt (kf : Nat → List Nat) (to k : Nat) (p : Int) : List Nat := wayN kf to k k p
def isWayL (kf : Nat → List Nat) : List Nat → Prop
  | [] => False
  | [_] => True
  | a :: b :: r => b ∈ kf a ∧ isWayL kf (b :: r)
def placeL (kf : Nat → List Nat) (to : Nat) : List Nat → Int
  | a :: b :: r => aheadW (way kf to) (kf a) b + placeL kf to (b :: r)
  | _ => 0
section
variable {kf : Nat → List Nat} (hd : ∀ u c, c ∈ kf u → c < u) (ha : ∀ u, (kf u).Pairwise (· < ·))
include hd ha
theorem way_above {to k : Nat} (h : k < to) : way kf to k = 0 := by
  induction k using Nat.strongRecOn with
  | ind k ih =>
    rw [way_rec (hd k), if_neg (by omega), Int.add_zero]
    have : ∀ c ∈ kf k, way kf to c = 0 := fun c hc => ih c (hd k c hc) (by have := hd k c hc; omega)
    rw [List.map_congr_left this]
    generalize kf k = ks
    induction ks with
    | nil => rfl
    | cons _ r ih2 =>
      rw [List.map_cons, List.sum_cons]
      simpa using ih2
theorem way_to {to : Nat} : way kf to to = 1 := by
  rw [way_rec (hd to), if_pos rfl]
  have : ∀ c ∈ kf to, way kf to c = 0 := fun c hc => way_above hd ha (hd to c hc)
  rw [List.map_congr_left this]
  have e : ∀ ks : List Nat, (ks.map fun _ => (0 : Int)).sum = 0 := fun ks => by
    induction ks with
    | nil => rfl
    | cons _ r ih2 =>
      rw [List.map_cons, List.sum_cons, ih2]
      rfl
  rw [e]
  rfl
theorem wayN_cons {to n k : Nat} {p : Int} : ∃ r, wayN kf to n k p = k :: r := by
  cases n with
  | zero => exact ⟨[], rfl⟩
  | succ n =>
    unfold wayN
    split
    · exact ⟨[], rfl⟩
    · exact ⟨_, rfl⟩
theorem choose_kid {to k : Nat} {p : Int} (hn : k ≠ to) (h0 : 0 ≤ p) (h1 : p < way kf to k) :
    (chooseW (way kf to) (kf k) p).1 ∈ kf k ∧ 0 ≤ (chooseW (way kf to) (kf k) p).2 ∧ (chooseW (way kf to) (kf k) p).2 < way kf to (chooseW (way kf to) (kf k) p).1 ∧ p = aheadW (way kf to) (kf k) (chooseW (way kf to) (kf k) p).1 + (chooseW (way kf to) (kf k) p).2 := by
  rw [way_rec (hd k), if_neg hn, Int.add_zero] at h1
  exact chooseW_ok (fun k => way_nn hd k) (ha k) h0 h1
theorem wayN_ok {to : Nat} : ∀ {n k : Nat} {p : Int}, k ≤ n → 0 ≤ p → p < way kf to k → isWayL kf (wayN kf to n k p) ∧ (wayN kf to n k p).getLast? = some to ∧ placeL kf to (wayN kf to n k p) = p
  | 0, k, p, hk, h0, h1 => by
    have e : k = 0 := by omega
    subst e
    by_cases z : 0 = to
    · subst z
      rw [way_to hd ha] at h1
      exact ⟨trivial, rfl, by show (0 : Int) = p; omega⟩
    · rw [way_above hd ha (by omega)] at h1
      omega
  | n + 1, k, p, hk, h0, h1 => by
    unfold wayN
    by_cases z : k = to
    · subst z
      rw [if_pos rfl]
      rw [way_to hd ha] at h1
      exact ⟨trivial, rfl, by show (0 : Int) = p; omega⟩
    · rw [if_neg z]
      obtain ⟨c1, c2, c3, c4⟩ := choose_kid hd ha z h0 h1
      generalize chooseW (way kf to) (kf k) p = cp at c1 c2 c3 c4
      obtain ⟨c, q⟩ := cp
      have hck := hd k c c1
      obtain ⟨i1, i2, i3⟩ := wayN_ok (n := n) (k := c) (p := q) (by omega) c2 c3
      obtain ⟨r, er⟩ := wayN_cons hd ha (to := to) (n := n) (k := c) (p := q)
      show isWayL kf (k :: wayN kf to n c q) ∧ (k :: wayN kf to n c q).getLast? = some to ∧ placeL kf to (k :: wayN kf to n c q) = p
      rw [er] at i1 i2 i3 ⊢
      refine ⟨⟨c1, i1⟩, by rw [List.getLast?_cons_cons]; exact i2, ?_⟩
      show aheadW (way kf to) (kf k) c + placeL kf to (c :: r) = p
      rw [i3]
      exact c4.symm
theorem wayN_lt {to : Nat} : ∀ {n k : Nat} {p q : Int}, k ≤ n → 0 ≤ p → p < q → q < way kf to k → HT.lexLt ((wayN kf to n k p).map fun (x : Nat) => (x : Int)) ((wayN kf to n k q).map fun (x : Nat) => (x : Int)) = true
  | 0, k, p, q, hk, h0, h1, h2 => by
    have e : k = 0 := by omega
    subst e
    by_cases z : 0 = to
    · subst z
      rw [way_to hd ha] at h2
      omega
    · rw [way_above hd ha (by omega)] at h2
      omega
  | n + 1, k, p, q, hk, h0, h1, h2 => by
    have z : k ≠ to := by
      rintro rfl
      rw [way_to hd ha] at h2
      omega
    unfold wayN
    rw [if_neg z, if_neg z]
    obtain ⟨c1, c2, c3, c4⟩ := choose_kid hd ha z h0 (show p < way kf to k by omega)
    obtain ⟨d1, d2, d3, d4⟩ := choose_kid hd ha z (show 0 ≤ q by omega) h2
    generalize chooseW (way kf to) (kf k) p = cp at c1 c2 c3 c4
    generalize chooseW (way kf to) (kf k) q = cq at d1 d2 d3 d4
    obtain ⟨c, p'⟩ := cp
    obtain ⟨d, q'⟩ := cq
    have c1 : c ∈ kf k := c1
    have d1 : d ∈ kf k := d1
    have c3 : p' < way kf to c := c3
    have d2 : 0 ≤ q' := d2
    have c2 : 0 ≤ p' := c2
    have d3 : q' < way kf to d := d3
    have c4 : p = aheadW (way kf to) (kf k) c + p' := c4
    have d4 : q = aheadW (way kf to) (kf k) d + q' := d4
    show HT.lexLt (((k :: wayN kf to n c p')).map fun (x : Nat) => (x : Int)) ((k :: wayN kf to n d q').map fun (x : Nat) => (x : Int)) = true
    rw [List.map_cons, List.map_cons, HT.lexLt_cons, if_pos rfl]
    have hck := hd k c c1
    rcases Nat.lt_trichotomy c d with y | y | y
    · obtain ⟨r, er⟩ := wayN_cons hd ha (to := to) (n := n) (k := c) (p := p')
      obtain ⟨r2, er2⟩ := wayN_cons hd ha (to := to) (n := n) (k := d) (p := q')
      rw [er, er2, List.map_cons, List.map_cons, HT.lexLt_cons, if_neg (by omega)]
      exact decide_eq_true (by omega)
    · subst y
      exact wayN_lt (n := n) (by omega) c2 (by omega) d3
    · have := ahead_add (f := way kf to) (fun k => way_nn hd k) (ha k) d1 y
      omega
theorem placeL_lt {to : Nat} : ∀ {w : List Nat} {k : Nat}, isWayL kf (k :: w) → (k :: w).getLast? = some to → 0 ≤ placeL kf to (k :: w) ∧ placeL kf to (k :: w) < way kf to k
  | [], k, _, h => by
    have e : k = to := by simpa using h
    subst e
    rw [way_to hd ha]
    exact ⟨Int.le_refl 0, by show (0 : Int) < 1; decide⟩
  | b :: r, k, h, hl => by
    rw [List.getLast?_cons_cons] at hl
    obtain ⟨i1, i2⟩ := placeL_lt (w := r) (k := b) h.2 hl
    have h1 := aheadW_nn (f := way kf to) (fun k => way_nn hd k) (ks := kf k) (c := b)
    have h2 := ahead_sum (f := way kf to) (fun k => way_nn hd k) (ha k) h.1
    have h3 := way_rec (to := to) (hd k)
    show 0 ≤ aheadW (way kf to) (kf k) b + placeL kf to (b :: r) ∧ aheadW (way kf to) (kf k) b + placeL kf to (b :: r) < way kf to k
    refine ⟨by omega, ?_⟩
    rw [h3]
    split <;> omega
end
/-- to a leaf there are at most so many ways -/
theorem way_leaf_le {l : Nat} {inner : List (List Nat)} (A : Asc l inner) {x : Nat} (hx : x < l) : ∀ j, way (kidsAt l inner) x (l + j) ≤ ((2 ^ j : Nat) : Int) := by
  have hd : ∀ u c, c ∈ kidsAt l inner u → c < u := fun u c h => (kidsAt_lt A.raw h).2
  have hn : ∀ k, 0 ≤ way (kidsAt l inner) x k := fun k => way_nn hd k
  have hlf : ∀ k, k < l → way (kidsAt l inner) x k = if k = x then 1 else 0 := fun k hk => by
    rw [way_rec (hd k), show kidsAt l inner k = [] from if_pos hk]
    simp
  -- the sum over all kinds below
  have hsub : ∀ (n : Nat) (ks : List Nat), ks.Pairwise (· < ·) → (∀ c ∈ ks, c < n) → (ks.map (way (kidsAt l inner) x)).sum ≤ ((List.range n).map (way (kidsAt l inner) x)).sum := fun n => by
    induction n with
    | zero =>
      intro ks _ h
      cases ks with
      | nil => exact Int.le_refl _
      | cons c r => exact absurd (h c (List.mem_cons_self ..)) (by omega)
    | succ n ih =>
      intro ks hp h
      rw [List.range_succ, List.map_append, List.sum_append]
      have h9 : ([n].map (way (kidsAt l inner) x)).sum = way (kidsAt l inner) x n := by simp
      rw [h9]
      rcases List.eq_nil_or_concat ks with rfl | ⟨r, c, rfl⟩
      · have := ih [] List.Pairwise.nil (fun c hc => by cases hc)
        have := hn n
        simp only [List.map_nil, List.sum_nil] at *
        omega
      · rw [List.concat_eq_append] at hp h ⊢
        obtain ⟨p1, _, p3⟩ := List.pairwise_append.mp hp
        by_cases z : c = n
        · subst z
          rw [List.map_append, List.sum_append]
          have h8 : ([c].map (way (kidsAt l inner) x)).sum = way (kidsAt l inner) x c := by simp
          rw [h8]
          have := ih r p1 fun a ha => p3 a ha c (by simp)
          omega
        · have := ih (r ++ [c]) hp fun a ha => by
            have h1 := h a ha
            rcases List.mem_append.mp ha with ha | ha
            · have := p3 a ha c (by simp)
              have := h c (by simp)
              omega
            · have := List.mem_singleton.mp ha
              subst this
              omega
          have := hn n
          omega
  have hls : ∀ n, n ≤ l → ((List.range n).map (way (kidsAt l inner) x)).sum ≤ 1 ∧ (n ≤ x → ((List.range n).map (way (kidsAt l inner) x)).sum = 0) := fun n => by
    induction n with
    | zero => exact fun _ => ⟨by simp, fun _ => rfl⟩
    | succ n ih =>
      intro hn'
      obtain ⟨i1, i2⟩ := ih (by omega)
      rw [List.range_succ, List.map_append, List.sum_append]
      have h9 : ([n].map (way (kidsAt l inner) x)).sum = way (kidsAt l inner) x n := by simp
      rw [h9, hlf n (by omega)]
      by_cases z : n = x
      · rw [if_pos z]
        have := i2 (by omega)
        exact ⟨by omega, fun y => by omega⟩
      · rw [if_neg z]
        exact ⟨by omega, fun y => by have := i2 (by omega); omega⟩
  have hall : ∀ j, ((List.range (l + j)).map (way (kidsAt l inner) x)).sum ≤ ((2 ^ j : Nat) : Int) := fun j => by
    induction j with
    | zero => exact (hls l (Nat.le_refl l)).1
    | succ j ih =>
      rw [show l + (j + 1) = (l + j) + 1 by omega, List.range_succ, List.map_append, List.sum_append]
      have h9 : ([l + j].map (way (kidsAt l inner) x)).sum = way (kidsAt l inner) x (l + j) := by simp
      rw [h9]
      have h1 := hsub (l + j) (kidsAt l inner (l + j)) (A.at _) fun c hc => hd _ c hc
      have h2 : way (kidsAt l inner) x (l + j) = ((kidsAt l inner (l + j)).map (way (kidsAt l inner) x)).sum := by
        rw [way_rec (hd _), if_neg (by omega), Int.add_zero]
      have h3 : (2 ^ (j + 1) : Nat) = 2 ^ j + 2 ^ j := by rw [Nat.pow_succ]; omega
      omega
  intro j
  have h1 := hsub (l + j) (kidsAt l inner (l + j)) (A.at _) fun c hc => hd _ c hc
  have h2 : way (kidsAt l inner) x (l + j) = ((kidsAt l inner (l + j)).map (way (kidsAt l inner) x)).sum := by
    rw [way_rec (hd _), if_neg (by omega), Int.add_zero]
  have := hall j
  omega
theorem way_leaf_mil {l : Nat} {inner : List (List Nat)} (A : Asc l inner) {x k : Nat} (hx : x < l) (hk : k < l + inner.length) : way (kidsAt l inner) x k ≤ 1000000 := by
  have h20 := A.raw.n20
  by_cases z : k < l
  · rw [way_rec (fun c hc => (kidsAt_lt A.raw hc).2), show kidsAt l inner k = [] from if_pos z]
    split <;> simp
  · have := way_leaf_le A hx (k - l)
    rw [show l + (k - l) = k by omega] at this
    have h3 : 2 ^ (k - l) ≤ 2 ^ 19 := Nat.pow_le_pow_right (by decide) (by omega)
    have h4 : (2 : Nat) ^ 19 ≤ 1000000 := by decide
    generalize (2 : Nat) ^ (k - l) = a at this h3
    omega
end WR
set_option Elab.async false
set_option linter.all false
set_option maxRecDepth 100000
set_option maxHeartbeats 1000000
namespace WR
open PySem PySem.Spec PyProof.Rows L2 Evl

/-! ### _law_without -/
/-- reached from the root without g -/
def RchG (kk : List (List Nat)) (g x : Nat) : Prop := ∀ T : Nat → Prop, (∀ r, r + 1 = kk.length → r ≠ g → T r) → (∀ u c, T u → c ∈ rowAt kk u → c ≠ g → T c) → T x
structure Wo (kk : List (List Nat)) (g : Nat) (S : List Nat) : Prop where
  lt : ∀ x ∈ S, x < kk.length
  iff : ∀ x, x ∈ S ↔ RchG kk g x
def spWithout (K : PySem.W.Frag) : Sp := fun vs H Q _ => ∃ p rs kk k, vs = [.ref p, nV k] ∧ KdAt H p rs kk ∧ Sml kk ∧ 0 < kk.length ∧ (∀ ks ∈ kk, ∀ c ∈ ks, c < kk.length) ∧
  ∀ d H' S, Wo kk k S → H d = none → Ex H H' → H' d = some (.dK (dKs S)) → Q (.ref d) H'
end WR
set_option Elab.async false
set_option linter.all false
set_option maxRecDepth 100000
set_option maxHeartbeats 1000000
namespace WR
open PySem PySem.Spec PyProof.Rows L2 Evl

/-! ### ways by a kind, ways round it -/
def avoid (kf : Nat → List Nat) (g : Nat) : Nat → List Nat := fun u => (kf u).filter fun c => decide (c ≠ g)
theorem way_up {kf : Nat → List Nat} (hd : ∀ u c, c ∈ kf u → c < u) {to k : Nat} (h : k < to) : way kf to k = 0 := by
  induction k using Nat.strongRecOn with
  | ind k ih =>
    rw [way_rec (hd k), if_neg (by omega), Int.add_zero]
    have : (kf k).map (way kf to) = (kf k).map fun _ => 0 := List.map_congr_left fun c hc => ih c (hd k c hc) (by have := hd k c hc; omega)
    rw [this]
    generalize kf k = l
    induction l with
    | nil => rfl
    | cons _ _ ih => rw [List.map_cons, List.sum_cons, ih]; rfl
theorem way_one {kf : Nat → List Nat} (hd : ∀ u c, c ∈ kf u → c < u) {k : Nat} : way kf k k = 1 := by
  rw [way_rec (hd k), if_pos rfl]
  have : (kf k).map (way kf k) = (kf k).map fun _ => 0 := List.map_congr_left fun c hc => way_up hd (hd k c hc)
  rw [this]
  have e : ∀ l : List Nat, (l.map fun _ => (0 : Int)).sum = 0 := fun l => by
    induction l with
    | nil => rfl
    | cons _ _ ih => rw [List.map_cons, List.sum_cons, ih]; rfl
  rw [e]
  rfl
theorem avoid_lt {kf : Nat → List Nat} (hd : ∀ u c, c ∈ kf u → c < u) (g : Nat) : ∀ u c, c ∈ avoid kf g u → c < u := fun u c h => hd u c (List.mem_filter.mp h).1
theorem split_sum {kf : Nat → List Nat} {g to : Nat} {C : Int} {A B D : Nat → Int} (hg : A g = C) (hB : B g = 1) : ∀ {l : List Nat}, (∀ c ∈ l, c ≠ g → A c = B c * C + D c) → (l.map A).sum = (l.map B).sum * C + ((l.filter fun c => decide (c ≠ g)).map D).sum
  | [], _ => by simp
  | c :: r, h => by
    have ih := split_sum (kf := kf) (to := to) hg hB (l := r) fun x hx => h x (List.mem_cons_of_mem _ hx)
    rw [List.map_cons, List.sum_cons, List.map_cons, List.sum_cons, List.filter_cons, ih, Int.add_mul]
    by_cases z : c = g
    · rw [if_neg (by simp [z]), z, hg, hB, Int.one_mul]
      omega
    · rw [if_pos (by simp [z]), List.map_cons, List.sum_cons, h c (List.mem_cons_self ..) z]
      omega
theorem way_split {kf : Nat → List Nat} (hd : ∀ u c, c ∈ kf u → c < u) {g to : Nat} : ∀ {k : Nat}, k ≠ g → way kf to k = way kf g k * way kf to g + way (avoid kf g) to k := fun {k} => by
  induction k using Nat.strongRecOn with
  | ind k ih =>
    intro hk
    have h1 := split_sum (kf := kf) (to := to) (g := g) (C := way kf to g) (A := way kf to) (B := way kf g) (D := way (avoid kf g) to) rfl (way_one hd) (l := kf k) fun c hc hcg => ih c (hd k c hc) hcg
    rw [way_rec (hd k), way_rec (kf := avoid kf g) (avoid_lt hd g k), way_rec (kf := kf) (to := g) (hd k), if_neg hk, Int.add_zero, h1]
    have h2 : avoid kf g k = (kf k).filter fun c => decide (c ≠ g) := rfl
    rw [h2]
    omega
theorem rowAt_map {kk : List (List Nat)} {g : Nat} : rowAt (kk.map fun ks => ks.filter fun c => decide (c ≠ g)) = avoid (rowAt kk) g := by
  funext u
  unfold rowAt avoid
  show _ = (kk.getD u []).filter _
  rw [List.getD_eq_getElem?_getD, List.getElem?_map, List.getD_eq_getElem?_getD]
  cases kk[u]? <;> rfl
theorem avoid_rch {kk : List (List Nat)} (hd : ∀ u c, c ∈ rowAt kk u → c < u) {g r x : Nat} (hr : r + 1 = kk.length) (hg : r ≠ g) : 0 < way (avoid (rowAt kk) g) x r ↔ RchG kk g x := by
  have h1 := way_rch (kk := kk.map fun ks => ks.filter fun c => decide (c ≠ g)) (by rw [rowAt_map]; exact avoid_lt hd g) (to := x) r
  rw [rowAt_map] at h1
  rw [h1]
  unfold Rch
  rw [rowAt_map]
  constructor
  · intro h T hT hS
    exact h T (hT r hr hg) fun u c hu hc => by
      obtain ⟨a, b⟩ := List.mem_filter.mp hc
      exact hS u c hu a (of_decide_eq_true b)
  · intro h T hT hS
    exact h T (fun r' hr' _ => by rw [show r' = r by omega]; exact hT) fun u c hu hc hcg => hS u c hu (List.mem_filter.mpr ⟨hc, decide_eq_true hcg⟩)
def holdB (l : Nat) (inner : List (List Nat)) (g x : Nat) : Bool := decide (way (kidsAt l inner) g (topN l inner) * way (kidsAt l inner) x g = way (kidsAt l inner) x (topN l inner))
theorem hold_iff {l : Nat} {inner : List (List Nat)} (hw : Raw l inner) {g x : Nat} : holdB l inner g x = true ↔ ¬ RchG (kkOf l inner) g x := by
  have h1 := hw.l1
  have hd : ∀ u c, c ∈ kidsAt l inner u → c < u := fun u c h => (kidsAt_lt hw h).2
  have hdk : ∀ u c, c ∈ rowAt (kkOf l inner) u → c < u := by rw [rowAt_kkE]; exact hd
  have hr : topN l inner + 1 = (kkOf l inner).length := by
    rw [kkOf_len]
    unfold topN
    omega
  unfold holdB
  rw [decide_eq_true_iff]
  by_cases z : topN l inner = g
  · rw [z, way_one hd, Int.one_mul]
    refine ⟨fun _ h => ?_, fun _ => rfl⟩
    exact h (fun _ => False) (fun r' hr' hne => by
      have : r' = g := by omega
      exact hne this) fun _ _ h _ _ => h
  · have h2 := way_split hd (to := x) z
    have h3 := avoid_rch hdk (x := x) hr z
    rw [rowAt_kkE] at h3
    have h4 := way_nn (to := x) (avoid_lt hd g) (topN l inner)
    rw [← h3]
    constructor
    · intro h y
      omega
    · intro h
      omega
theorem way_bits {l : Nat} {inner : List (List Nat)} (hw : Raw l inner) {to k : Nat} (hk : k < l + inner.length) : (way (kidsAt l inner) to k).natAbs < 2 ^ 150 := by
  have h8 := hw.l8
  have h20 := hw.n20
  have hd : ∀ u c, c ∈ kidsAt l inner u → c < u := fun u c h => (kidsAt_lt hw h).2
  have h1 := way_nn (to := to) hd k
  have h2 := way_le (to := to) hd (B := 30) (fun u => kl30 hw) k
  have h3 : (30 + 1) ^ k ≤ (30 + 1) ^ 28 := Nat.pow_le_pow_right (by decide) (by omega)
  have h4 : (30 + 1) ^ 28 < 2 ^ 150 := by decide
  generalize (30 + 1) ^ k = a at h2 h3
  generalize (30 + 1) ^ 28 = b at h3 h4
  generalize 2 ^ 150 = c at h4 ⊢
  omega
end WR
set_option Elab.async false
set_option linter.all false
set_option maxRecDepth 100000
set_option maxHeartbeats 1000000
namespace WR
open PySem PySem.Spec PyProof.Rows L2 Evl

/-! ### ways by a kind, counted one by one: the mathematics -/
def valW (kf : Nat → List Nat) (x : Nat) (W : List Nat) (g : Nat) : Int := if g ∈ W then way kf x (W.getLastD 0) else way kf g (W.getLastD 0) * way kf x g
theorem lastD_snoc {W : List Nat} {c : Nat} : (W ++ [c]).getLastD 0 = c := by
  rw [List.getLastD_eq_getLast?, List.getLast?_append]
  rfl
theorem lastD_mem {W : List Nat} (h : W ≠ []) : W.getLastD 0 ∈ W := by
  rw [List.getLastD_eq_getLast?, List.getLast?_eq_some_getLast h]
  exact List.getLast_mem h
theorem sum_mulR {f : Nat → Int} {C : Int} : ∀ ks : List Nat, (ks.map fun c => f c * C).sum = (ks.map f).sum * C
  | [] => by simp
  | k :: r => by
    rw [List.map_cons, List.sum_cons, List.map_cons, List.sum_cons, sum_mulR r, Int.add_mul]
structure WOk (n : Nat) (W : List Nat) : Prop where
  ne : W ≠ []
  nd : W.Nodup
  lt : ∀ c ∈ W, c < n
  le : ∀ c ∈ W, W.getLastD 0 ≤ c
theorem WOk.len {n : Nat} {W : List Nat} (h : WOk n W) : W.length ≤ n := nodup_len n W h.nd h.lt
theorem WOk.snoc {n : Nat} {W : List Nat} {c : Nat} (h : WOk n W) (hc : c < W.getLastD 0) : WOk n (W ++ [c]) := by
  refine ⟨by simp, ?_, fun a ha => ?_, fun a ha => ?_⟩
  · rw [List.nodup_append]
    refine ⟨h.nd, (by simp), fun a ha b hb z => ?_⟩
    rw [List.mem_singleton.mp hb] at z
    have := h.le a ha
    omega
  · rcases List.mem_append.mp ha with ha | ha
    · exact h.lt a ha
    · rw [List.mem_singleton.mp ha]
      have := h.lt _ (lastD_mem h.ne)
      omega
  · rw [lastD_snoc]
    rcases List.mem_append.mp ha with ha | ha
    · have := h.le a ha
      omega
    · rw [List.mem_singleton.mp ha]
      exact Nat.le_refl _
theorem valW_step {kf : Nat → List Nat} (hd : ∀ u c, c ∈ kf u → c < u) {x : Nat} {W : List Nat} {g : Nat} (h : W ≠ []) :
    valW kf x W g = (if W.getLastD 0 = x ∧ g ∈ W then 1 else 0) + ((kf (W.getLastD 0)).map fun c => valW kf x (W ++ [c]) g).sum := by
  obtain ⟨u, hu⟩ : ∃ u, u = W.getLastD 0 := ⟨_, rfl⟩
  rw [← hu]
  unfold valW
  rw [← hu]
  by_cases z : g ∈ W
  · rw [if_pos z, way_rec (hd u)]
    have e : ((kf u).map fun c => if g ∈ W ++ [c] then way kf x ((W ++ [c]).getLastD 0) else way kf g ((W ++ [c]).getLastD 0) * way kf x g) = (kf u).map (way kf x) := List.map_congr_left fun c _ => by
      rw [if_pos (List.mem_append_left _ z), lastD_snoc]
    rw [e]
    by_cases y : u = x
    · rw [if_pos y, if_pos ⟨y, z⟩]
      omega
    · rw [if_neg y, if_neg fun w => y w.1]
      omega
  · have hgu : u ≠ g := fun y => z (y ▸ hu ▸ lastD_mem h)
    rw [if_neg z, if_neg fun w => z w.2, Int.zero_add, way_rec (hd u), if_neg hgu, Int.add_zero, ← sum_mulR]
    congr 1
    refine List.map_congr_left fun c _ => ?_
    rw [lastD_snoc]
    by_cases y : g = c
    · subst y
      rw [if_pos (by simp), way_one hd, Int.one_mul]
    · rw [if_neg (by simp [z, y])]
structure Ht (kf : Nat → List Nat) (n r x : Nat) (fs : List Int) (e : Int) (ws : List (List Nat)) : Prop where
  len : fs.length = n
  bal : ∀ g, g < n → fs.getD g 0 + (ws.map fun W => valW kf x W g).sum = way kf g r * way kf x g
  all : e + (ws.map fun W => way kf x (W.getLastD 0)).sum = way kf x r
  ok : ∀ W ∈ ws, WOk n W
  stk : ∃ b, Stk (n + 1) b (ws.map fun W => W.getLastD 0)
def bumpIf (fs : List Int) (W : List Nat) (b : Bool) : List Int := if b = true then bumpAll fs W else fs
theorem Ht.step {kf : Nat → List Nat} {n r x : Nat} {fs : List Int} {e : Int} {ws : List (List Nat)} {W : List Nat} (hd : ∀ u c, c ∈ kf u → c < u) (hl : ∀ u, (kf u).length ≤ 30) (h : Ht kf n r x fs e (ws ++ [W])) :
    Ht kf n r x (bumpIf fs W (decide (W.getLastD 0 = x))) (e + if W.getLastD 0 = x then 1 else 0) (ws ++ (kf (W.getLastD 0)).map fun c => W ++ [c]) := by
  have hW := h.ok W (by simp)
  have hlen : (bumpIf fs W (decide (W.getLastD 0 = x))).length = n := by
    unfold bumpIf
    split
    · rw [bumpAll_len]
      exact h.len
    · exact h.len
  refine ⟨hlen, fun g hg => ?_, ?_, fun V hV => ?_, ?_⟩
  · have hb := h.bal g hg
    rw [List.map_append, List.sum_append] at hb ⊢
    have h1 : (([W] : List (List Nat)).map fun W => valW kf x W g).sum = valW kf x W g := by simp
    rw [h1, valW_step hd hW.ne] at hb
    rw [List.map_map]
    have e2 : ((fun W => valW kf x W g) ∘ fun c => W ++ [c]) = fun c => valW kf x (W ++ [c]) g := rfl
    rw [e2]
    unfold bumpIf
    by_cases z : W.getLastD 0 = x
    · rw [if_pos (decide_eq_true z), bumpAll_at hW.nd (by rw [h.len]; exact hg)]
      by_cases y : g ∈ W
      · rw [if_pos ⟨z, y⟩] at hb
        rw [if_pos y]
        omega
      · rw [if_neg fun w => y w.2] at hb
        rw [if_neg y]
        omega
    · rw [if_neg (by simpa using z)]
      rw [if_neg fun w => z w.1] at hb
      omega
  · have hb := h.all
    rw [List.map_append, List.sum_append] at hb ⊢
    have h1 : (([W] : List (List Nat)).map fun W => way kf x (W.getLastD 0)).sum = way kf x (W.getLastD 0) := by simp
    rw [h1, way_rec (hd _)] at hb
    rw [List.map_map]
    have e2 : ((kf (W.getLastD 0)).map ((fun W => way kf x (W.getLastD 0)) ∘ fun c => W ++ [c])) = (kf (W.getLastD 0)).map (way kf x) := List.map_congr_left fun c _ => by
      show way kf x ((W ++ [c]).getLastD 0) = _
      rw [lastD_snoc]
    rw [e2]
    omega
  · rcases List.mem_append.mp hV with hV | hV
    · exact h.ok V (List.mem_append_left _ hV)
    · obtain ⟨c, hc, rfl⟩ := List.mem_map.mp hV
      exact hW.snoc (hd _ c hc)
  · obtain ⟨b, hb⟩ := h.stk
    rw [List.map_append] at hb
    obtain ⟨b', h1, h2⟩ := hb.pop (x := W.getLastD 0) (l := ws.map fun W => W.getLastD 0) rfl
    refine ⟨W.getLastD 0, ?_⟩
    rw [List.map_append]
    have e2 : (((kf (W.getLastD 0)).map fun c => W ++ [c]).map fun W => W.getLastD 0) = kf (W.getLastD 0) := by
      rw [List.map_map]
      conv => rhs; rw [← List.map_id (kf (W.getLastD 0))]
      exact List.map_congr_left fun c _ => lastD_snoc
    rw [e2]
    exact .grp h2 h1 (hl _) fun z hz => hd _ z hz
theorem Ht.fall {kf : Nat → List Nat} {ws : List (List Nat)} {W : List Nat} (hd : ∀ u c, c ∈ kf u → c < u) : ((ws ++ (kf (W.getLastD 0)).map fun c => W ++ [c]).map fun W => tot kf (W.getLastD 0)).sum < ((ws ++ [W]).map fun W => tot kf (W.getLastD 0)).sum := by
  rw [List.map_append, List.sum_append, List.map_append, List.sum_append, List.map_map]
  have h2 := tot_rec (kf := kf) (fun c hc => hd (W.getLastD 0) c hc)
  have h3 : (([W] : List (List Nat)).map fun W => tot kf (W.getLastD 0)).sum = tot kf (W.getLastD 0) := by simp
  have e2 : ((kf (W.getLastD 0)).map ((fun W => tot kf (W.getLastD 0)) ∘ fun c => W ++ [c])) = (kf (W.getLastD 0)).map (tot kf) := List.map_congr_left fun c _ => by
    show tot kf ((W ++ [c]).getLastD 0) = _
    rw [lastD_snoc]
  rw [e2]
  omega
theorem Ht.start {kf : Nat → List Nat} (hd : ∀ u c, c ∈ kf u → c < u) {n r x : Nat} (hr : r < n) : Ht kf n r x (List.replicate n 0) 0 [[r]] := by
  refine ⟨List.length_replicate, fun g hg => ?_, ?_, fun W hW => ?_, n, ?_⟩
  · rw [List.getD_eq_getElem?_getD, List.getElem?_replicate, if_pos hg]
    have e : (([[r]] : List (List Nat)).map fun W => valW kf x W g).sum = valW kf x [r] g := by simp
    rw [e]
    unfold valW
    show (0 : Int) + (if g ∈ [r] then way kf x r else way kf g r * way kf x g) = _
    by_cases z : g = r
    · subst z
      rw [if_pos (by simp), way_one hd]
      omega
    · rw [if_neg (by simpa using z)]
      omega
  · show (0 : Int) + (way kf x r + 0) = way kf x r
    omega
  · rw [List.mem_singleton.mp hW]
    refine ⟨by simp, (by simp), fun c hc => by rw [List.mem_singleton.mp hc]; exact hr, fun c hc => ?_⟩
    rw [List.mem_singleton.mp hc]
    exact Nat.le_refl r
  · exact .grp (rest := []) .nil (Nat.lt_succ_self n) (by simp) (fun y hy => by rw [List.mem_singleton.mp hy]; exact hr)
theorem Ht.done {kf : Nat → List Nat} {n r x : Nat} {fs : List Int} {e : Int} (h : Ht kf n r x fs e []) : fs = ((List.range n).map fun g => way kf g r * way kf x g) ∧ e = way kf x r := by
  refine ⟨List.ext_getElem? fun g => ?_, by have := h.all; simpa using this⟩
  by_cases z : g < n
  · have := h.bal g z
    rw [List.map_nil, List.sum_nil, Int.add_zero, List.getD_eq_getElem?_getD, List.getElem?_eq_getElem (by rw [h.len]; exact z)] at this
    rw [List.getElem?_map, List.getElem?_range z, List.getElem?_eq_getElem (by rw [h.len]; exact z)]
    exact congrArg some this
  · rw [List.getElem?_eq_none (by rw [h.len]; omega), List.getElem?_eq_none (by rw [List.length_map, List.length_range]; omega)]
end WR
set_option Elab.async false
set_option linter.all false
set_option maxRecDepth 100000
set_option maxHeartbeats 1000000
namespace WR
open PySem PySem.Spec PyProof.Rows L2 Evl

/-! ### comprehensions over numbers, tuples of numbers compared, zip -/
section
variable {K : PySem.W.Frag} {σ : L2.St} {H : Hp} {ta tb te : TE} {t : TT} {wi : TI} {j : Nat} {vs : List Nat}
theorem et_yes : EvT tYes σ H true := fun H1 _ _ q => q H1 (Ex.refl H1)
theorem fm_fil {ks : List Nat} {b : Nat → Bool} {g : Nat → PyData} {f : PyData → Option PyData} (h : ∀ k ∈ ks, f (natD k) = if b k = true then some (g k) else none) : (natDs ks).filterMap f = (ks.filter b).map g := by
  induction ks with
  | nil => rfl
  | cons k r ih =>
    show ((natD k) :: natDs r).filterMap f = _
    rw [List.filterMap_cons, h k (List.mem_cons_self ..), List.filter_cons]
    have := ih fun x hx => h x (List.mem_cons_of_mem _ hx)
    cases e : b k with
    | true => simp [this]
    | false => simp [this]
theorem en_natFil {ks : List Nat} (b : Nat → Bool) (g : Nat → PyData) (h : Src K wi σ H (natDs ks)) (hl : ks.length ≤ 40000) (hw : ∀ x, wipe ((wipe σ vs).set j (some x)) vs = wipe σ vs)
    (ht : ∀ k H1, Ex H H1 → k ∈ ks → EvT t ((wipe σ vs).set j (some (nV k))) H1 (b k))
    (hv : ∀ k H1, Ex H H1 → k ∈ ks → b k = true → EvD K te ((wipe σ vs).set j (some (nV k))) H1 (g k))
    (hg : ∀ k ∈ ks, b k = true → nl (g k) = true) : EvN K (tLc wi (gName j) t te vs) σ H ((ks.filter b).map g) := by
  let f : PyData → Option PyData := fun d => match d with | .int i => if b i.toNat = true then some (g i.toNat) else none | _ => none
  have hf : ∀ k : Nat, f (natD k) = if b k = true then some (g k) else none := fun k => by
    show (if b ((k : Int)).toNat = true then some (g ((k : Int)).toNat) else none) = _
    rw [Int.toNat_natCast]
  have q := en_lc (K := K) (t := t) (te := te) (j := j) (vs := vs) f h (by unfold natDs; rw [List.length_map]; exact hl) hw (fun d v H1 e hd hv => by
      obtain ⟨i, hi, rfl⟩ := List.mem_map.mp hd
      rw [hf]
      cases dp_int hv
      refine et_is (ht i H1 e hi) ?_
      cases b i with
      | true => rfl
      | false => rfl) (fun d r v H1 e hd hv2 hr => by
      obtain ⟨i, hi, rfl⟩ := List.mem_map.mp hd
      rw [hf] at hr
      split at hr
      · rename_i hb
        cases hr
        cases dp_int hv2
        exact hv i H1 e hi hb
      · cases hr) fun d r hd hr => by
      obtain ⟨i, hi, rfl⟩ := List.mem_map.mp hd
      rw [hf] at hr
      split at hr
      · rename_i hb
        cases hr
        exact hg i hi hb
      · cases hr
  rw [fm_fil (b := b) (g := g) fun k _ => hf k] at q
  exact q
theorem en_natMap {ks : List Nat} (g : Nat → PyData) (h : Src K wi σ H (natDs ks)) (hl : ks.length ≤ 40000) (hw : ∀ x, wipe ((wipe σ vs).set j (some x)) vs = wipe σ vs)
    (hv : ∀ k H1, Ex H H1 → k ∈ ks → EvD K te ((wipe σ vs).set j (some (nV k))) H1 (g k))
    (hg : ∀ k ∈ ks, nl (g k) = true) : EvN K (tLc wi (gName j) tYes te vs) σ H (ks.map g) := by
  have q := en_natFil (K := K) (t := tYes) (te := te) (fun _ => true) g h hl hw (fun _ _ _ _ => et_yes) (fun k H1 e hk _ => hv k H1 e hk) (fun k hk _ => hg k hk)
  rw [List.filter_eq_self.mpr fun _ _ => rfl] at q
  exact q
theorem rng_nats {n : Nat} : rngD 0 n = natDs (List.range n) := by
  unfold rngD natDs
  refine List.map_congr_left fun k _ => ?_
  show PyData.int ((0 : Int) + (k : Int)) = .int (k : Int)
  rw [Int.zero_add]
theorem rng_natsLo {lo n : Nat} : rngD (lo : Int) n = natDs ((List.range n).map fun k => lo + k) := by
  unfold rngD natDs
  rw [List.map_map]
  refine List.map_congr_left fun k _ => ?_
  show PyData.int ((lo : Int) + (k : Int)) = .int ((lo + k : Nat) : Int)
  rw [Int.natCast_add]
/-- range(n) -/
theorem src_rng {ta : TA} {n : Nat} (h : EvA ta σ H [.int (n : Int)]) (h1 : n ≤ 40000) : Src K (iRng1 ta) σ H (natDs (List.range n)) := by
  have q := srcS_R1 (K := K) (σ := σ) (H := H) (n := (n : Int)) h (by omega)
  rw [Int.toNat_natCast, rng_nats] at q
  exact q.src
theorem srcS_rng {ta : TA} {n : Nat} (h : EvA ta σ H [.int (n : Int)]) (h1 : n ≤ 40000) : SrcS K (iRng1 ta) σ H (rngD 0 n) := by
  have q := srcS_R1 (K := K) (σ := σ) (H := H) (n := (n : Int)) h (by omega)
  rw [Int.toNat_natCast] at q
  exact q
theorem natDs_mem {d : PyData} {ks : List Nat} (h : d ∈ natDs ks) : ∃ k ∈ ks, d = natD k := by
  obtain ⟨k, hk, rfl⟩ := List.mem_map.mp h
  exact ⟨k, hk, rfl⟩
theorem natDs_at {i : Nat} {d : PyData} {ks : List Nat} (h : (natDs ks)[i]? = some d) : ∃ k, ks[i]? = some k ∧ d = natD k := by
  unfold natDs at h
  rw [List.getElem?_map] at h
  obtain ⟨k, hk, rfl⟩ := Option.map_eq_some_iff.mp h
  exact ⟨k, hk, rfl⟩
/-! tuples of integers compared -/
theorem eqvAll_ints : ∀ a b : List Int, PyData.eqvAll (a.map PyData.int) (b.map PyData.int) = decide (a = b)
  | [], [] => by simp [PyData.eqvAll]
  | [], _ :: _ => by simp [PyData.eqvAll]
  | _ :: _, [] => by simp [PyData.eqvAll]
  | x :: a, y :: b => by
    have := eqvAll_ints a b
    simp only [List.map_cons, PyData.eqvAll, PyData.eqv, this, List.cons.injEq]
    by_cases h1 : x = y <;> by_cases h2 : a = b <;> simp [h1, h2]
theorem eqv_tupI (a b : List Int) : PyData.eqv (tupI a) (tupI b) = decide (a = b) := by
  show PyData.eqv (.tuple _) (.tuple _) = _
  simp only [PyData.eqv]
  exact eqvAll_ints a b
theorem shaped_tupI (a : List Int) : SeqAt.shaped (tupI a) = true := by
  have q := lay_ints a
  show (PyData.canLay0 _ && decide (PyData.depth _ ≤ 64)) = true
  unfold tupI
  simp only [PyData.canLay0, PyData.depth, q.1, q.2]
  decide
theorem kidsD_tupI (ks : List Nat) : kidsD ks = tupI (ks.map fun (k : Nat) => (k : Int)) := by
  unfold tupI
  rw [List.map_map]
  rfl
theorem ev_eqTI {a b : List Int} (h1 : EvD K ta σ H (tupI a)) (h2 : EvD K tb σ H (tupI b)) : Ev (tOp (rEqD K) ta tb) σ H (.bl (decide (a = b))) := fun H1 e Q q =>
  h1 H1 e _ fun v H2 e2 hv => h2 H2 (e.trans e2) _ fun w H3 e3 hw => ⟨tupI a, tupI b, dp_ex e3 _ hv, hw, shaped_tupI a, shaped_tupI b, by
    rw [eqv_tupI]
    exact q _ (e2.trans e3)⟩
theorem ev_neTI {a b : List Int} (h1 : EvD K ta σ H (tupI a)) (h2 : EvD K tb σ H (tupI b)) : Ev (tOp (rNeD K) ta tb) σ H (.bl (!decide (a = b))) := fun H1 e Q q =>
  h1 H1 e _ fun v H2 e2 hv => h2 H2 (e.trans e2) _ fun w H3 e3 hw => ⟨tupI a, tupI b, dp_ex e3 _ hv, hw, shaped_tupI a, shaped_tupI b, by
    rw [eqv_tupI]
    exact q _ (e2.trans e3)⟩
theorem ints_nats {a b : List Nat} : (a.map fun (k : Nat) => (k : Int)) = (b.map fun (k : Nat) => (k : Int)) ↔ a = b := by
  constructor
  · intro h
    have := congrArg (List.map Int.toNat) h
    simp only [List.map_map] at this
    have e : ∀ l : List Nat, l.map (Int.toNat ∘ fun (k : Nat) => (k : Int)) = l := fun l => by
      conv => rhs; rw [← List.map_id l]
      exact List.map_congr_left fun k _ => Int.toNat_natCast k
    rw [e, e] at this
    exact this
  · exact fun h => by rw [h]
theorem ev_eqK {a b : List Nat} (h1 : EvD K ta σ H (kidsD a)) (h2 : EvD K tb σ H (kidsD b)) : Ev (tOp (rEqD K) ta tb) σ H (.bl (decide (a = b))) := by
  rw [kidsD_tupI] at h1 h2
  refine ev_is (ev_eqTI h1 h2) ?_
  congr 1
  exact decide_eq_decide.mpr ints_nats
theorem ev_neK {a b : List Nat} (h1 : EvD K ta σ H (kidsD a)) (h2 : EvD K tb σ H (kidsD b)) : Ev (tOp (rNeD K) ta tb) σ H (.bl (!decide (a = b))) := by
  rw [kidsD_tupI] at h1 h2
  refine ev_is (ev_neTI h1 h2) ?_
  congr 2
  exact decide_eq_decide.mpr ints_nats
/-! [1 for a, b in zip(x, y) if ..] over tuples of integers -/
theorem walk_zipTh {K : PySem.W.Frag} {a b : Addr} {xs ys : List V} {n : Nat} (hn : n = min xs.length ys.length) : Walk (RZ.ItzT K a b) n (fun H => SqT K H a xs ∧ SqT K H b ys) (YPair (fun i => xs[i]?) (fun i => ys[i]?)) := by
  subst hn
  refine ⟨fun i _ hi q => ?_, fun _ q => ⟨xs, ys, q.1, q.2, by omega⟩, fun i H v H' _ q y => ?_⟩
  · have h1 : i < xs.length := by omega
    have h2 : i < ys.length := by omega
    exact ⟨xs, ys, xs[i], ys[i], q.1, q.2, by simp [h1], by simp [h2]⟩
  · obtain ⟨T, x, z, h1, h2, h3, h4, h5⟩ := y
    exact ⟨T, x, z, h1, h2, h3, h4 xs q.1, h5 ys q.2⟩
def zipOk (b : Int → Int → Bool) (xs ys : List Int) : Bool := (xs.zip ys).all fun p => !b p.1 p.2
theorem zipOk_iff {b : Int → Int → Bool} {xs ys : List Int} : zipOk b xs ys = true ↔ ∀ (i : Nat) (x y : Int), xs[i]? = some x → ys[i]? = some y → b x y = false := by
  unfold zipOk
  rw [List.all_eq_true]
  constructor
  · intro h i x y hx hy
    have := h (x, y) (List.mem_of_getElem? (i := i) (List.getElem?_zip_eq_some.mpr ⟨hx, hy⟩))
    simpa using this
  · intro h p hp
    obtain ⟨i, hi, e⟩ := List.mem_iff_getElem.mp hp
    have e2 : (xs.zip ys)[i]? = some (p.1, p.2) := by rw [List.getElem?_eq_getElem hi, e]
    obtain ⟨h1, h2⟩ := List.getElem?_zip_eq_some.mp e2
    rw [h i _ _ h1 h2]
    rfl
theorem et_zipNone {i j : Nat} {vs : List Nat} {xs ys : List Int} (b : Int → Int → Bool) (h1 : EvD K ta σ H (tupI xs)) (h2 : EvD K tb σ H (tupI ys)) (hn : xs.length ≤ 40000) (hw : ∀ x y, wipe (((wipe σ vs).set i (some x)).set j (some y)) vs = wipe σ vs)
    (ht : ∀ (a c : Int) H1, Ex H H1 → EvT t (((wipe σ vs).set i (some (.int a))).set j (some (.int c))) H1 (b a c)) :
    Ev (tOp (rEqD K) (tLc (RZ.iZipA K (tCons ta (tCons tb tNil))) (gTup K 2 (gCons (gName i) (gCons (gName j) gNil))) t (tC (.int 1)) vs) (tLst tNil)) σ H (.bl (zipOk b xs ys)) := fun H1 e Q q =>
  h1 H1 e _ fun v H2 e2 hv => h2 H2 (e.trans e2) _ fun w H3 e3 hw' => by
    obtain ⟨a, xa, rfl, hsx, hdx⟩ := dp_tup (dp_ex e3 _ hv)
    obtain ⟨c, yb, rfl, hsy, hdy⟩ := dp_tup hw'
    have hdx : DpAll K H3 xa (xs.map PyData.int) := hdx
    have hdy : DpAll K H3 yb (ys.map PyData.int) := hdy
    rw [ints_of hdx] at hsx
    rw [ints_of hdy] at hsy
    refine ⟨a, c, xs.map V.int, ys.map V.int, rfl, .inr ⟨hsx, hsy, fun Dl hD => ?_⟩⟩
    refine lc_it (walk_zipTh (K := K) (a := a) (b := c) (xs := xs.map V.int) (ys := ys.map V.int) rfl) (fun m H' => Ex H3 H' ∧ ∃ k : Nat, H' Dl = some (.lst (List.replicate k (V.int 1))) ∧ k ≤ m ∧ (k = 0 ↔ ∀ i : Nat, i < m → ∀ x y : Int, xs[i]? = some x → ys[i]? = some y → b x y = false)) ⟨Ex.new hD, 0, upd_same, Nat.le_refl 0, by simp⟩ (fun m H' _ p => ⟨ex_t p.1 hsx, ex_t p.1 hsy⟩) (fun m x H' H'' hm p hy => ?_) (fun H' p => ?_)
    · obtain ⟨T, x1, y1, rfl, hT, rfl, hx1, hy1⟩ := hy
      simp only [List.getElem?_map] at hx1 hy1
      obtain ⟨x0, hx0, rfl⟩ := Option.map_eq_some_iff.mp hx1
      obtain ⟨y0, hy0, rfl⟩ := Option.map_eq_some_iff.mp hy1
      have hml := (List.getElem?_eq_some_iff.mp hx0).1
      have en := Ex.new (o := .tup [V.int x0, V.int y0]) hT
      obtain ⟨p1, k, pk, pkm, pki⟩ := p
      refine ⟨T, _, rfl, st_of upd_same, rfl, _, _, rfl, _, _, rfl, rfl, hw _ _, ?_⟩
      refine ht x0 y0 _ (((e.trans e2).trans e3).trans (p1.trans en)) _ (Ex.refl _) _ fun H5 e5 => ?_
      have p5 := p1.trans (en.trans e5)
      have pk5 := (en.trans e5) _ _ pk
      cases hb : b x0 y0 with
      | false =>
        refine ⟨p5, k, pk5, by omega, pki.trans ⟨fun h i hi x y hx hy => ?_, fun h i hi => h i (by omega)⟩⟩
        by_cases z : i = m
        · subst z
          rw [hx0] at hx
          rw [hy0] at hy
          cases hx
          cases hy
          exact hb
        · exact h i (by omega) x y hx hy
      | true =>
        refine ⟨_, pk5, sz_lt (by rw [List.length_replicate]; omega), Ex.mut p5 hD, k + 1, by rw [upd_same, List.replicate_succ'], by omega, ⟨fun z => absurd z (by omega), fun h => ?_⟩⟩
        have := h m (by omega) x0 y0 hx0 hy0
        rw [hb] at this
        cases this
    · obtain ⟨p1, k, pk, pkm, pki⟩ := p
      have er : List.replicate k (V.int 1) = nVs (List.replicate k 1) := by
        unfold nVs
        rw [List.map_replicate]
        rfl
      rw [er] at pk
      refine ⟨by show 0 ≤ sizeLine; decide, fun l hl => ⟨.list (natDs (List.replicate k 1)), .list [], .lst (sq_of (Ex.new hl _ _ pk)) (dpAll_nat _), .lst (sq_of upd_same) .nil, shaped_nats _, shaped_nats [], ?_⟩⟩
      rw [eqv_nats_nil, show (List.replicate k 1).isEmpty = zipOk b xs ys from ?_]
      · exact q _ ((e2.trans e3).trans (p1.trans (Ex.new hl)))
      · rw [Bool.eq_iff_iff, List.isEmpty_iff, zipOk_iff, ← List.length_eq_zero_iff, List.length_replicate, pki]
        constructor
        · intro h i x y hx hy
          refine h i ?_ x y hx hy
          have h1 := (List.getElem?_eq_some_iff.mp hx).1
          have h2 := (List.getElem?_eq_some_iff.mp hy).1
          rw [List.length_map, List.length_map]
          omega
        · exact fun h i _ x y hx hy => h i x y hx hy
theorem nl_webA (l : Nat) (inner : List (List Nat)) : nl (webD l inner) = true := by
  show (true && (nlAll (inner.map kidsD) && true)) = true
  rw [nl_kidsDs]
  rfl
/-- for x in data: .. -/
theorem s_forD {D : Ends} {tu : TS} {ds : List PyData} (h : Src K wi σ H ds) (Pv : Hp → Nat → L2.St → Hp → Prop) (h0 : ∀ H1, Ex H H1 → Pv H1 0 σ H1) (hG : ∀ H2 i σ' H', Pv H2 i σ' H' → Ex H2 H')
    (hs : ∀ H2 i d x σ' H', Ex H H2 → ds[i]? = some d → Dp K H' x d → Pv H2 i σ' H' → tu { D with nx := Pv H2 (i + 1), ct := Pv H2 (i + 1), bk := D.nx } (σ'.set j (some x)) H') (hd : ∀ H2 σ' H', Ex H H2 → Pv H2 ds.length σ' H' → D.nx σ' H') :
    tFor wi (gName j) tu D σ H := h H (Ex.refl H) _ fun J H2 G e2 hg w =>
  for_it w (D := D) (Pv H2) (h0 H2 e2) (fun i σ' H' _ p => hg H' (hG H2 i σ' H' p)) (fun i x σ' Hc H' hi p hy => by
    obtain ⟨rfl, d, h1, h2⟩ := hy
    exact hs H2 i d x σ' H' e2 h1 h2 p) fun σ' H' p => hd H2 σ' H' e2 p
/-! a draw: what stands stays -/
theorem Bs.rfl {dk L : Addr} {ns : List Int} {N : Int} (h : Dk H dk L ns N) : Bs H H dk L ns N := by
  obtain ⟨a, b, n, d, hn⟩ := h
  exact ⟨rem_ex, ⟨a, b, n, d, hn⟩, ⟨_, d.at_⟩, ⟨_, d.ls⟩⟩
theorem Bs.tr {H1 H2 H3 : Hp} {dk L : Addr} {ns : List Int} {N M : Int} (a : Bs H1 H2 dk L ns N) (b : Bs H2 H3 dk L ns M) : Bs H1 H3 dk L ns M := ⟨rem_trans a.ex b.ex, b.deck, a.bdk, a.bL⟩
theorem Bs.at {H1 H2 : Hp} {dk L : Addr} {ns : List Int} {N M : Int} (hD : Dk H1 dk L ns N) (b : Bs H1 H2 dk L ns M) {v : V} {d : PyData} (n : nl d = true) (h : Dp K H1 v d) : Dp K H2 v d := by
  obtain ⟨x, y, z, dd, _⟩ := hD
  exact dp_ex b.ex _ (dp_rem dd.at_ _ n h)
theorem Bs.ld {H1 H2 : Hp} {dk L p : Addr} {ns : List Int} {N M : Int} (hD : Dk H1 dk L ns N) (b : Bs H1 H2 dk L ns M) (hp : p ≠ dk) {ds : List PyData} (n : nlAll ds = true) (h : LD K H1 p ds) : LD K H2 p ds := by
  obtain ⟨xs, h1, h2⟩ := h
  obtain ⟨x, y, z, dd, _⟩ := hD
  exact ⟨xs, b.ex _ _ (by rw [rem_ne hp]; exact h1), dpAll_ex b.ex _ (dpAll_rem dd.at_ _ n h2)⟩
theorem Dk.ne {dk L p : Addr} {ns : List Int} {N : Int} (h : Dk H dk L ns N) (hp : H p = none) : p ≠ dk := fun z => by
  obtain ⟨a, b, n, d, _⟩ := h
  rw [z, d.at_] at hp
  cases hp
/-- draw(deck, m) as a value -/
def EvR (te : TE) (σ : L2.St) (H : Hp) (p L : Addr) (ns : List Int) (N : Int) (m : Nat) : Prop := ∀ H1, Ex H H1 → ∀ Q : VK, (∀ (r : Nat) H2, r < m → Bs H1 H2 p L ns (N + 1) → Q (nV r) H2) → te σ H1 Q
theorem ev_draw {p L : Addr} {ns : List Int} {m : Nat} {N : Int} {E : XK} (h : Ev ta σ H (.ref p)) (hm : Ev tb σ H (nV m)) (hD : Dk H p L ns N) (hN : N ≤ 1000000000) (h1 : 1 ≤ m) (h2 : m ≤ 1000000000) :
    EvR (tCall spDraw [] E (tCons ta (tCons tb tNil))) σ H p L ns N m := fun H0 e0 Q q =>
  h H0 e0 _ fun H1 e1 => hm H1 (e0.trans e1) _ fun H2 e2 => ⟨p, L, ns, m, N, Eq.refl _, hD.ex (e0.trans (e1.trans e2)), hN, by omega, by omega, fun r H3 hr0 hr1 e3 hD3 => by
    obtain ⟨r, rfl⟩ : ∃ k : Nat, r = (k : Int) := ⟨r.toNat, by omega⟩
    have b : Bs H2 H3 p L ns (N + 1) := by
      obtain ⟨a, b, n, d, _⟩ := hD.ex (e0.trans (e1.trans e2))
      exact ⟨e3, hD3, ⟨_, d.at_⟩, ⟨_, d.ls⟩⟩
    have b0 := ((Bs.rfl (hD.ex e0)).more (e1.trans e2)).tr b
    exact q r H3 (by omega) b0⟩
theorem q_drawV {D : Ends} {tz : TS} {i : Nat} {p L : Addr} {ns : List Int} {m : Nat} {N : Int} (h : EvR te σ H p L ns N m)
    (k : ∀ (r : Nat) H1, r < m → Bs H H1 p L ns (N + 1) → tz D (σ.set i (some (nV r))) H1) : tSeq (tAsg te (gName i)) tz D σ H := h H (Ex.refl H) _ k
end
end WR
set_option Elab.async false
set_option linter.all false
set_option maxRecDepth 100000
set_option maxHeartbeats 2000000
namespace WR
open PySem PySem.Spec PyProof.Rows L2 Evl

/-! ### lists of tuples that grow and shrink -/
theorem eqv_listNil : ∀ ds : List PyData, PyData.eqv (.list ds) (.list []) = ds.isEmpty
  | [] => by simp [PyData.eqv, PyData.eqvAll]
  | _ :: _ => by simp [PyData.eqv, PyData.eqvAll]
theorem lay_kids : ∀ ws : List (List Nat), PyData.canLayAll0 (ws.map kidsD) = true ∧ PyData.depthAll (ws.map kidsD) ≤ 1
  | [] => by simp [PyData.canLayAll0, PyData.depthAll]
  | w :: ws => by
    have ih := lay_kids ws
    have q := lay_ints (w.map fun (k : Nat) => (k : Int))
    rw [List.map_cons, kidsD_tupI]
    unfold tupI
    simp only [PyData.canLayAll0, PyData.canLay0, PyData.depthAll, PyData.depth, q.1, q.2, ih.1]
    exact ⟨rfl, by omega⟩
theorem shaped_kids (ws : List (List Nat)) : SeqAt.shaped (.list (ws.map kidsD)) = true := by
  have q := lay_kids ws
  show (PyData.canLay0 _ && decide (PyData.depth _ ≤ 64)) = true
  simp only [PyData.canLay0, PyData.depth, q.1]
  rw [Bool.true_and]
  exact decide_eq_true (by omega)
theorem et_neNilD {K : PySem.W.Frag} {σ : L2.St} {H : Hp} {ta : TE} {l : Addr} {ws : List (List Nat)} (ha : Ev ta σ H (.ref l)) (hl : LD K H l (ws.map kidsD)) : EvT (tTest (tOp (rNeD K) ta (tLst tNil))) σ H (!ws.isEmpty) :=
  et_test (ev_opL (x := .ref l) (xs := []) ha (el_lst ea_nil (by simp)) fun q H1 h1 e1 H2 e2 Q q2 => by
    refine ⟨.list (ws.map kidsD), .list [], (hl.ex (e1.trans e2)).dp, .lst (sq_of (e2 _ _ h1)) .nil, shaped_kids ws, shaped_ints [], ?_⟩
    rw [eqv_listNil, show (ws.map kidsD).isEmpty = ws.isEmpty by cases ws <;> rfl]
    exact q2 H2 (Ex.refl H2))
theorem dpAll_split {K : PySem.W.Frag} {H : Hp} {xs : List V} {ds : List PyData} {d : PyData} (h : DpAll K H xs (ds ++ [d])) : ∃ ys x, xs = ys ++ [x] ∧ DpAll K H ys ds ∧ Dp K H x d := by
  have hl := dpAll_len h
  rw [List.length_append] at hl
  have hl : xs.length = ds.length + 1 := hl
  obtain ⟨x, h1, h2⟩ := dpAll_at' (i := ds.length) (d := d) h (by simp)
  refine ⟨xs.take ds.length, x, ?_, ?_, h2⟩
  · have q1 := List.take_append_drop ds.length xs
    have q2 : xs.drop ds.length = [x] := by
      rw [List.drop_eq_getElem_cons (by omega)]
      have q3 := (List.getElem?_eq_some_iff.mp h1).2
      rw [q3, List.drop_of_length_le (by omega)]
    rw [q2] at q1
    exact q1.symm
  · have q1 := dpAll_take ds.length h
    rw [List.take_left] at q1
    exact q1
theorem flat0 : ∀ n, (List.replicate n [V.int 0]).flatten = (List.replicate n (0 : Int)).map V.int
  | 0 => rfl
  | n + 1 => by rw [List.replicate_succ, List.flatten_cons, flat0 n]; rfl
theorem s_extD {K : PySem.W.Frag} {σ : L2.St} {H : Hp} {D : Ends} {ta tb : TE} {l : Addr} {ds es : List PyData} (hl : LD K H l ds) (ha : Ev ta σ H (.ref l)) (h : EvN K tb σ H es) (hz : ds.length + es.length ≤ 100000) (hn : nlAll (ds ++ es) = true)
    (k : ∀ H1, (∀ B : Hp, Ex B H → B l = none → Ex B H1) → LD K H1 l (ds ++ es) → D.nx σ H1) :
    tDrop (tBM K "list" rExtend ta (tCons tb tNil)) D σ H := ha H (Ex.refl H) _ fun H1 e1 => by
  obtain ⟨xs, h1, h2⟩ := hl
  refine ⟨.inl ⟨rfl, xs, sq_of (e1 l _ h1)⟩, h H1 e1 _ fun b ys H2 _ e2 hb hd => ?_⟩
  have h3 := e2 l _ (e1 l _ h1)
  refine ⟨l, b, xs, ys, rfl, rfl, h3, hb, sz_of (by rw [dpAll_len h2, dpAll_len hd]; exact hz), k _ (fun B eb hb => Ex.mut ((eb.trans e1).trans e2) hb) ⟨_, upd_same, ?_⟩⟩
  exact dpAll_updL h3 _ hn (dpAll_app (dpAll_ex (e1.trans e2) _ h2) hd)
section
variable {K : PySem.W.Frag} {σ : L2.St} {H : Hp} {ta tb tc : TE}
theorem el_rep0 {n : Nat} (h : Ev tb σ H (.int (n : Int))) (hn : n ≤ 1000) : EvL (tOp rRep (tLst (tCons (tC (.int 0)) tNil)) tb) σ H ((List.replicate n (0 : Int)).map V.int) := fun H1 e Q q => by
  have e0 : EvL (tLst (tCons (tC (.int 0)) tNil)) σ H [.int 0] := el_lst (ea_cons ev_c ea_nil) (by simp)
  refine e0 H1 e _ fun z H2 hz e2 hz2 => h H2 (e.trans e2) _ fun H3 e3 => ⟨z, (n : Int), _, rfl, rfl, e3 _ _ hz2, by omega, by omega, ?_, fun p hp => ?_⟩
  · rw [Int.toNat_natCast]
    show 1 * n ≤ sizeLine
    exact sz_of (by omega)
  · have hf0 : (List.replicate (n : Int).toNat [V.int 0]).flatten = (List.replicate n (0 : Int)).map V.int := by
      rw [Int.toNat_natCast]
      exact flat0 n
    rw [hf0]
    exact q p _ (fresh_back (e2.trans e3) hp) ((e2.trans e3).trans (Ex.new hp)) upd_same
theorem q_par3R {D : Ends} {tz : TS} {i j l : Nat} {v : V} {xs : List V} {ds : List PyData} (h1 : EvL ta σ H xs) (h2 : ∀ H1, Ex H H1 → Ev tb σ H1 v) (h3 : ∀ H1, Ex H H1 → EvN K tc σ H1 ds)
    (k : ∀ p q H1, H p = none → H q = none → p ≠ q → Ex H H1 → H1 p = some (.lst xs) → LD K H1 q ds → tz D (((σ.set i (some (.ref p))).set j (some v)).set l (some (.ref q))) H1) : tSeq (tPar3 i j l (tCons ta (tCons tb (tCons tc tNil)))) tz D σ H :=
  h1 H (Ex.refl H) _ fun p H1 hp e1 hH1 => h2 H1 e1 H1 (Ex.refl _) _ fun H2 e2 => h3 H2 (e1.trans e2) H2 (Ex.refl _) _ fun q ys H3 hq e3 hq3 hd3 => ⟨_, _, _, rfl, k p q H3 hp (fresh_back (e1.trans e2) hq) (fun z => by
    rw [← z, e2 _ _ hH1] at hq
    cases hq) ((e1.trans e2).trans e3) (e3 _ _ (e2 _ _ hH1)) ⟨ys, hq3, hd3⟩⟩
end
end WR
set_option Elab.async false
set_option linter.all false
set_option maxRecDepth 100000
set_option maxHeartbeats 1000000
namespace WR
open PySem PySem.Spec PyProof.Rows L2 Evl
theorem ev_intB {σ : L2.St} {H : Hp} {te : TE} {b : Bool} (h : Ev te σ H (.bl b)) : Ev (tCB (fun xs H Q => (∃ i, xs = [.int i] ∧ Q (.int i) H) ∨ ∃ k, xs = [.bl k] ∧ Q (.int (if k then 1 else 0)) H) (tCons te tNil)) σ H (.int (if b then 1 else 0)) :=
  ev_cb (ea_cons h ea_nil) fun H1 _ Q q => .inr ⟨b, rfl, q H1 (Ex.refl H1)⟩
end WR
set_option Elab.async false
set_option linter.all false
set_option maxRecDepth 100000
set_option maxHeartbeats 1000000
namespace WR
open PySem PySem.Spec PyProof.Rows L2 Evl

/-! ### sorted of rows -/
theorem code_inj {B : Int} : ∀ {a b : List Int}, a.length = b.length → TS.Bd B a → TS.Bd B b → TS.code B a = TS.code B b → a = b
  | [], [], _, _, _, _ => rfl
  | [], _ :: _, h, _, _, _ => by cases h
  | _ :: _, [], h, _, _, _ => by cases h
  | x :: a, y :: b, hl, h1, h2, he => by
    have hl' : a.length = b.length := by simpa using hl
    rcases Int.lt_trichotomy x y with z | z | z
    · have := TS.code_lt hl' h1.tail h2.tail z
      omega
    · subst z
      have e : TS.code B a = TS.code B b := by
        rcases Int.lt_trichotomy (TS.code B a) (TS.code B b) with y | y | y
        · have := (TS.code_same (B := B) (d := x) hl').mpr y
          omega
        · exact y
        · have := (TS.code_same (B := B) (d := x) hl'.symm).mpr y
          omega
      rw [code_inj hl' h1.tail h2.tail e]
    · have := TS.code_lt hl'.symm h2.tail h1.tail z
      omega
def bigB : Int := 1000000000000000000000000000000000000000000000
def keyR (r : List Int) : Int := TS.code bigB r
def insR (x : List Int) : List (List Int) → List (List Int)
  | [] => [x]
  | y :: r => if keyR x ≤ keyR y then x :: y :: r else y :: insR x r
def srtR : List (List Int) → List (List Int)
  | [] => []
  | x :: r => insR x (srtR r)
theorem insR_perm (x : List Int) : ∀ l, (insR x l).Perm (x :: l)
  | [] => List.Perm.refl _
  | y :: r => by
    unfold insR
    split
    · exact List.Perm.refl _
    · exact ((insR_perm x r).cons y).trans (List.Perm.swap x y r)
theorem srtR_perm : ∀ l, (srtR l).Perm l
  | [] => List.Perm.refl _
  | x :: r => (insR_perm x _).trans ((srtR_perm r).cons x)
theorem insR_sorted (x : List Int) : ∀ l : List (List Int), l.Pairwise (fun a b => keyR a ≤ keyR b) → (insR x l).Pairwise fun a b => keyR a ≤ keyR b
  | [], _ => by simp [insR]
  | y :: r, h => by
    rw [List.pairwise_cons] at h
    unfold insR
    split
    · rename_i hxy
      refine List.pairwise_cons.mpr ⟨fun a ha => ?_, List.pairwise_cons.mpr h⟩
      rcases List.mem_cons.mp ha with rfl | ha
      · exact hxy
      · have := h.1 a ha
        omega
    · rename_i hxy
      refine List.pairwise_cons.mpr ⟨fun a ha => ?_, insR_sorted x r h.2⟩
      rcases List.mem_cons.mp ((insR_perm x r).mem_iff.mp ha) with rfl | ha
      · omega
      · exact h.1 a ha
theorem srtR_sorted : ∀ l, (srtR l).Pairwise fun a b => keyR a ≤ keyR b
  | [] => List.Pairwise.nil
  | x :: r => insR_sorted x _ (srtR_sorted r)
theorem map_inj_on {α β : Type} {f : α → β} {p : α → Prop} (hf : ∀ a b, p a → p b → f a = f b → a = b) : ∀ {l m : List α}, (∀ a ∈ l, p a) → (∀ a ∈ m, p a) → l.map f = m.map f → l = m
  | [], [], _, _, _ => rfl
  | [], _ :: _, _, _, h => by cases h
  | _ :: _, [], _, _, h => by cases h
  | a :: l, b :: m, h1, h2, h => by
    rw [List.map_cons, List.map_cons] at h
    injection h with ha hr
    rw [hf a b (h1 a (List.mem_cons_self ..)) (h2 b (List.mem_cons_self ..)) ha, map_inj_on hf (fun x hx => h1 x (List.mem_cons_of_mem _ hx)) (fun x hx => h2 x (List.mem_cons_of_mem _ hx)) hr]
/-- rows of one length, their numbers not below 0 and not too great -/
def RowOk (d : Nat) (r : List Int) : Prop := r.length = d ∧ TS.Bd bigB r
theorem srt_one {d : Nat} {a b : List (List Int)} (hp : a.Perm b) (ha : a.Pairwise fun x y => keyR x ≤ keyR y) (hb : b.Pairwise fun x y => keyR x ≤ keyR y) (hok : ∀ r ∈ b, RowOk d r) : a = b := by
  refine map_inj_on (f := keyR) (p := RowOk d) (fun x y h1 h2 h => code_inj (by rw [h1.1, h2.1]) h1.2 h2.2 h) (fun r hr => hok r (hp.mem_iff.mp hr)) hok ?_
  exact sorted_one (hp.map _) (List.pairwise_map.mpr ha) (List.pairwise_map.mpr hb)
theorem srtR_of_perm {d : Nat} {a b : List (List Int)} (hp : a.Perm b) (hok : ∀ r ∈ b, RowOk d r) : srtR a = srtR b :=
  srt_one (((srtR_perm a).trans hp).trans (srtR_perm b).symm) (srtR_sorted a) (srtR_sorted b) fun r hr => hok r ((srtR_perm b).mem_iff.mp hr)
theorem dpAll_perm {K : PySem.W.Frag} {H : Hp} {xs ys : List V} (hp : ys.Perm xs) : ∀ {rows : List (List Int)}, DpAll K H xs (rows.map tupI) → ∃ rows' : List (List Int), rows'.Perm rows ∧ DpAll K H ys (rows'.map tupI) := by
  induction hp with
  | nil => exact fun {rows} h => ⟨rows, List.Perm.refl _, h⟩
  | cons x _ ih =>
    intro rows h
    cases rows with
    | nil => cases h
    | cons r rs =>
      cases h with
      | cons a b =>
        obtain ⟨rs', h1, h2⟩ := ih b
        exact ⟨r :: rs', h1.cons r, .cons a h2⟩
  | swap x y l =>
    intro rows h
    cases rows with
    | nil => cases h
    | cons r rs =>
      cases h with
      | cons a b =>
        cases rs with
        | nil => cases b
        | cons q qs =>
          cases b with
          | cons c d => exact ⟨q :: r :: qs, List.Perm.swap r q qs, .cons c (.cons a d)⟩
  | trans _ _ ih1 ih2 =>
    intro rows h
    obtain ⟨r1, h1, h2⟩ := ih2 h
    obtain ⟨r2, h3, h4⟩ := ih1 h2
    exact ⟨r2, h3.trans h1, h4⟩
theorem tupI_of {K : PySem.W.Frag} {H : Hp} {v : V} {r : List Int} (h : Dp K H v (tupI r)) : TupI K H v r := by
  obtain ⟨a, xs, rfl, hs, hd⟩ := dp_tup h
  rw [ints_of hd] at hs
  exact ⟨a, rfl, hs⟩
theorem pw_rows {K : PySem.W.Frag} {H : Hp} : ∀ {ys : List V} {rows : List (List Int)}, DpAll K H ys (rows.map tupI) → ys.Pairwise (fun x y => ∀ n m, TupI K H x n → TupI K H y m → TS.code bigB n ≤ TS.code bigB m) → rows.Pairwise fun a b => keyR a ≤ keyR b
  | _, [], h, _ => List.Pairwise.nil
  | _, r :: rs, h, hp => by
    cases h with
    | cons a b =>
      rw [List.pairwise_cons] at hp
      refine List.pairwise_cons.mpr ⟨fun q hq => ?_, pw_rows b hp.2⟩
      obtain ⟨i, hi⟩ := List.mem_iff_getElem?.mp (List.mem_map_of_mem (f := tupI) hq)
      obtain ⟨v, hv, hd⟩ := dpAll_at' b hi
      exact hp.1 v (List.mem_of_getElem? hv) r q (tupI_of a) (tupI_of hd)
def rSortE (K : PySem.W.Frag) : List V → Hp → VK → Prop := fun vs H Q => ∃ d B, 1 ≤ d ∧ rSortU K d B vs H Q
theorem cr_sortE {X : Cx} : CallR X (.builtin "sorted") (rSortE X.K) := by
  intro pins s σ H vs us Q I r h
  obtain ⟨d, B, hd, h⟩ := h
  exact cr_sortT hd pins s σ H vs us Q I r h
theorem en_sortR {K : PySem.W.Frag} {σ : L2.St} {H : Hp} {te : TE} {rows : List (List Int)} {d : Nat} (h : EvD K te σ H (.list (rows.map tupI))) (h64 : rows.length < 64) (hd : 1 ≤ d) (hok : ∀ r ∈ rows, RowOk d r) :
    EvN K (tCB (rSortE K) (tCons te tNil)) σ H ((srtR rows).map tupI) := fun H1 e Q q =>
  h H1 e _ fun v H2 e2 hv => by
    obtain ⟨a, xs, rfl, hs, hdd⟩ := dp_lst hv
    refine ⟨d, bigB, hd, a, xs, rfl, hs, by rw [dpAll_len hdd, List.length_map]; exact h64, fun x hx => ?_, fun ys p hperm hsort hp => ?_⟩
    · obtain ⟨i, hi⟩ := List.mem_iff_getElem?.mp hx
      obtain ⟨d', hd', hdx⟩ := dpAll_at hdd hi
      rw [List.getElem?_map] at hd'
      obtain ⟨r, hr, rfl⟩ := Option.map_eq_some_iff.mp hd'
      have := hok r (List.mem_of_getElem? hr)
      exact ⟨r, tupI_of hdx, this.1, this.2⟩
    · obtain ⟨rows', h1, h2⟩ := dpAll_perm hperm hdd
      have h3 := pw_rows h2 hsort
      have e3 : rows' = srtR rows := srt_one (h1.trans (srtR_perm rows).symm) h3 (srtR_sorted rows) fun r hr => hok r ((srtR_perm rows).mem_iff.mp hr)
      rw [e3] at h2
      exact q p ys _ (fresh_back e2 hp) (e2.trans (Ex.new hp)) upd_same (dpAll_ex (Ex.new hp) _ h2)
/-! lots -/
def rowsI (l : Nat) (inner : List (List Nat)) : List (List Int) := (List.range (l + inner.length)).map (rowI l inner)
theorem rowsD_eq {l : Nat} {inner : List (List Nat)} : rowsD l inner (l + inner.length) = (rowsI l inner).map tupI := by
  unfold rowsD rowsI
  rw [List.map_map]
  rfl
theorem rowI_ok {l : Nat} {inner : List (List Nat)} (hw : Raw l inner) {k : Nat} (hk : k < l + inner.length) : RowOk l (rowI l inner k) := by
  refine ⟨by unfold rowI; rw [List.length_map, List.length_range], fun m hm => ?_⟩
  unfold rowI at hm
  obtain ⟨x, _, rfl⟩ := List.mem_map.mp hm
  have h8 := hw.l8
  have h20 := hw.n20
  have hd : ∀ u c, c ∈ kidsAt l inner u → c < u := fun u c h => (kidsAt_lt hw h).2
  refine ⟨way_nn hd k, ?_⟩
  have h2 := way_le (to := x) hd (B := 30) (fun u => kl30 hw) k
  have h3 : (30 + 1) ^ k ≤ (30 + 1) ^ 28 := Nat.pow_le_pow_right (by decide) (by omega)
  have h4 : (30 + 1) ^ 28 < 1000000000000000000000000000000000000000000000 := by decide
  show way (kidsAt l inner) x k < 1000000000000000000000000000000000000000000000
  generalize (30 + 1) ^ k = a at h2 h3
  generalize (30 + 1) ^ 28 = b at h3 h4
  omega
theorem rowsI_ok {l : Nat} {inner : List (List Nat)} (hw : Raw l inner) : ∀ r ∈ rowsI l inner, RowOk l r := fun r hr => by
  obtain ⟨k, hk, rfl⟩ := List.mem_map.mp hr
  exact rowI_ok hw (List.mem_range.mp hk)
def lotD (l : Nat) (inner : List (List Nat)) : PyData := .tuple ((srtR (rowsI l inner)).map tupI)
theorem sm_rowI {l k : Nat} {inner : List (List Nat)} (hw : Raw l inner) (hk : k < l + inner.length) : Sm 1300 1 (tupI (rowI l inner k)) := by
  have h8 := hw.l8
  unfold tupI rowI
  refine (sm_tup (w := 150) (dp := 0) (n := 8) (fun d hd => ?_) (by rw [List.length_map, List.length_map, List.length_range]; exact h8)).up (by decide) (by decide)
  rw [List.map_map] at hd
  obtain ⟨x, _, rfl⟩ := List.mem_map.mp hd
  exact way_small hw hk
theorem srtR_len (l : List (List Int)) : (srtR l).length = l.length := (srtR_perm l).length_eq
theorem sm_lot {l : Nat} {inner : List (List Nat)} (hw : Raw l inner) : Sm 36428 2 (lotD l inner) := by
  have h8 := hw.l8
  have h20 := hw.n20
  refine (sm_tup (w := 1300) (dp := 1) (n := 28) (fun d hd => ?_) (by rw [List.length_map, srtR_len]; unfold rowsI; rw [List.length_map, List.length_range]; omega)).up (by decide) (by decide)
  obtain ⟨r, hr, rfl⟩ := List.mem_map.mp hd
  obtain ⟨k, hk, rfl⟩ := List.mem_map.mp ((srtR_perm _).mem_iff.mp hr)
  exact sm_rowI hw (List.mem_range.mp hk)
end WR
set_option Elab.async false
set_option linter.all false
set_option maxRecDepth 100000
set_option maxHeartbeats 1000000
namespace WR
open PySem PySem.Spec PyProof.Rows L2 Evl

/-! ### the law's rows: all tuples new -/
/-- tuples of ints, as they were made -/
def KR (H : Hp) (ks : List (Addr × List Int)) : Prop := ∀ p ∈ ks, H p.1 = some (.tup (p.2.map V.int))
theorem KR.ex {H H' : Hp} {ks : List (Addr × List Int)} (h : KR H ks) (e : Ex H H') : KR H' ks := fun p hp => e _ _ (h p hp)
theorem KR.upd {H : Hp} {ks : List (Addr × List Int)} {l : Addr} {o o' : HO} (h : KR H ks) (hl : H l = some o) (hn : ∀ xs, o ≠ .tup xs) : KR (upd H l o') ks := fun p hp => by
  have h1 := h p hp
  have hne : p.1 ≠ l := fun z => by
    rw [z, hl] at h1
    exact hn _ (Option.some.inj h1)
  rw [upd_ne hne]
  exact h1
theorem KR.snoc {H : Hp} {ks : List (Addr × List Int)} {q : Addr × List Int} (h : KR H ks) (hq : H q.1 = some (.tup (q.2.map V.int))) : KR H (ks ++ [q]) := fun p hp => by
  rcases List.mem_append.mp hp with hp | hp
  · exact h p hp
  · rw [List.mem_singleton.mp hp]
    exact hq
abbrev refsK (ks : List (Addr × List Int)) : List V := ks.map fun p => V.ref p.1
theorem KR.dp {K : PySem.W.Frag} {H : Hp} : ∀ {ks : List (Addr × List Int)}, KR H ks → DpAll K H (refsK ks) ((ks.map (·.2)).map tupI)
  | [], _ => .nil
  | p :: ks, h => .cons (.tup (st_of (h p (List.mem_cons_self ..))) (dpAll_ints _)) (KR.dp fun q hq => h q (List.mem_cons_of_mem _ hq))
/-- a new list of new tuples -/
def EvKR (te : TE) (σ : L2.St) (H : Hp) (rows : List (List Int)) : Prop := ∀ H1, Ex H H1 → ∀ Q : VK, (∀ p ks H2, H1 p = none → Ex H1 H2 → H2 p = some (.lst (refsK ks)) → KR H2 ks → ks.map (·.2) = rows → Q (.ref p) H2) → te σ H1 Q
def spRowsX (K : PySem.W.Frag) : Sp := fun vs H Q _ => ∃ v l inner, vs = [v] ∧ Dp K H v (webD l inner) ∧ Raw l inner ∧ ∀ p ks H', H p = none → Ex H H' → H' p = some (.lst (refsK ks)) → KR H' ks → ks.map (·.2) = rowsI l inner → Q (.ref p) H'
section
variable {K : PySem.W.Frag} {σ : L2.St} {H : Hp} {te : TE} {wi : TI} {vs : List Nat} {j : Nat}
theorem ekr_call {l : Nat} {inner : List (List Nat)} {E : XK} (h : EvD K te σ H (webD l inner)) (W : Raw l inner) : EvKR (tCall (spRowsX K) [] E (tCons te tNil)) σ H (rowsI l inner) := fun H1 e Q q =>
  h H1 e _ fun v H2 e2 hv => ⟨v, l, inner, rfl, hv, W, fun p ks H3 hp e3 hx hk hr => q p ks H3 (fresh_back e2 hp) (e2.trans e3) hx hk hr⟩
theorem eu_tupL {ns : List Int} (h : EvN K te σ H (ns.map PyData.int)) : EvU (tCB (fun xs H Q => ∃ p ys, xs = [.ref p] ∧ ((SqL K H p ys ∧ ∀ l, H l = none → Q (.ref l) (upd H l (.tup ys))) ∨ (SqT K H p ys ∧ Q (.ref p) H))) (tCons te tNil)) σ H (ns.map V.int) := fun H1 e Q q =>
  h H1 e _ fun p xs H2 hp e2 hx hd => by
    rw [ints_of hd] at hx
    exact ⟨p, _, rfl, .inl ⟨sq_of hx, fun l hl => q l _ (fresh_back e2 hl) (e2.trans (Ex.new hl)) upd_same⟩⟩
theorem q_asgKR {i : Nat} {rows : List (List Int)} {D : Ends} {tz : TS} (h : EvKR te σ H rows) (k : ∀ p ks H1, H p = none → Ex H H1 → H1 p = some (.lst (refsK ks)) → KR H1 ks → ks.map (·.2) = rows → tz D (σ.set i (some (.ref p))) H1) : tSeq (tAsg te (gName i)) tz D σ H := h H (Ex.refl H) _ k
/-- [tuple(..) for k in ..] -/
theorem ekr_lc {ks : List Nat} (g : Nat → List Int) (h : Src K wi σ H (natDs ks)) (hl : ks.length ≤ 40000) (hw : ∀ x, wipe ((wipe σ vs).set j (some x)) vs = wipe σ vs)
    (hv : ∀ k H1, Ex H H1 → k ∈ ks → EvU te ((wipe σ vs).set j (some (nV k))) H1 ((g k).map V.int)) : EvKR (tLc wi (gName j) tYes te vs) σ H (ks.map g) := fun H1 e Q q => h H1 e _ fun J H2 G e2 hg' w Dl hD => by
  refine lc_it w (fun n H' => Ex H2 H' ∧ ∃ acc, H' Dl = some (.lst (refsK acc)) ∧ KR H' acc ∧ acc.map (·.2) = (ks.take n).map g) ⟨Ex.new hD, [], upd_same, fun p hp => (by cases hp), by simp⟩ (fun n H' _ p => hg' H' p.1) (fun n x H' H'' hm p hy => ?_) (fun H' p => ?_)
  · obtain ⟨rfl, d, hd, hx⟩ := hy
    obtain ⟨p1, acc, p2, p3, p4⟩ := p
    obtain ⟨k, hk, rfl⟩ := natDs_at hd
    cases dp_int hx
    have hml := (List.getElem?_eq_some_iff.mp hk).1
    have e3 : Ex H _ := (e.trans e2).trans p1
    refine ⟨hw _, yes_ ?_⟩
    refine hv k _ e3 (List.mem_of_getElem? hk) _ (Ex.refl _) _ fun b H4 hb e4 hbt => ⟨refsK acc, e4 _ _ p2, sz_lt ?_, Ex.mut (p1.trans e4) hD, acc ++ [(b, g k)], ?_, ?_, ?_⟩
    · have := congrArg List.length p4
      rw [List.length_map, List.length_map, List.length_take] at this
      rw [List.length_map]
      omega
    · rw [upd_same]
      unfold refsK
      rw [List.map_append]
      rfl
    · refine KR.snoc ((p3.ex e4).upd (e4 _ _ p2) fun xs z => by cases z) ?_
      have hne : b ≠ Dl := fun z => by
        rw [z] at hb
        rw [p2] at hb
        cases hb
      show upd H4 Dl _ b = _
      rw [upd_ne hne]
      exact hbt
    · rw [List.map_append, p4, List.take_add_one, hk, List.map_append]
      rfl
  · obtain ⟨p1, acc, p2, p3, p4⟩ := p
    have hn : (natDs ks).length = ks.length := by unfold natDs; rw [List.length_map]
    rw [hn, List.take_length] at p4
    exact q Dl acc H' (fresh_back e2 hD) (e2.trans p1) p2 p3 p4
end
abbrev nLR : List Str := ["_law_web_here", "_law_found", "_law_some", "_law_leaf", "_law_other", "_law_child"]
theorem scLR : FnScope nLR ["_law_web_here"] (defScope sLRows) := ⟨rfl, rfl, rfl, by decide +kernel, rfl, by decide +kernel, by decide +kernel⟩
abbrev scR1 : Scope := { kind := ScopeKind.function, names := [(Str.ofString ".0", NameKind.local), (Str.ofString "_law_leaf", NameKind.cell), (Str.ofString "tuple", NameKind.globalImplicit), (Str.ofString "range", NameKind.globalImplicit), (Str.ofString "_law_web_here", NameKind.cell)], isGenerator := false, isCoroutine := false, more := [] }
abbrev scR2 : Scope := { kind := ScopeKind.function, names := [(Str.ofString ".0", NameKind.local), (Str.ofString "_law_leaf", NameKind.cell), (Str.ofString "sum", NameKind.globalImplicit), (Str.ofString "_law_found", NameKind.cell), (Str.ofString "_law_some", NameKind.cell)], isGenerator := false, isCoroutine := false, more := [] }
def rInt1 : List V → Hp → VK → Prop := fun xs H Q => (∃ i, xs = [.int i] ∧ Q (.int i) H) ∨ ∃ k, xs = [.bl k] ∧ Q (.int (if k then 1 else 0)) H
section
variable {P : Program} {w : World} {K : PySem.W.Frag} {mg : Str → Option Value} {base : Heap}
theorem ok_lrowsX {f : Addr} {fd : FuncData} (F : Fun K "_law_rows" "_law_rows" sLRows f fd)
    (m1 : mg "range" = none) (m2 : mg "tuple" = none) (m3 : mg "sum" = none) (m8 : mg "int" = none) :
    FnOk P w K mg base CX0 1 f fd ["_law_web_here"] (spRowsX K) := by
  refine F.ok scLR (fun vs H Q E h => by obtain ⟨v, l, inner, rfl, _⟩ := h; rfl) (fun cdv A outer s H vs Q E hr h => ?_)
  obtain ⟨v, l, inner, rfl, hv, hw, q⟩ := h
  refine ⟨_, pss_cons (ps_set (i := 1) scLR.nd rfl (.inr rfl) (pe_lc (own := [("_law_leaf", 3)]) (g := gName 3) (tt := tYes)
        (te := tCB (fun xs H Q => ∃ p ys, xs = [.ref p] ∧ ((SqL K H p ys ∧ ∀ l, H l = none → Q (.ref l) (upd H l (.tup ys))) ∨ (SqT K H p ys ∧ Q (.ref p) H))) (tCons (tLc (iRng1 (tCons (tOp (rIxT K) (tVar 0) (tC (.int 0))) tNil)) (gName 4) tYes (tCB rInt1 (tCons (tOp rEq (tVar 3) (tVar 4)) tNil)) [4]) tNil)) rfl scLR.nd
      (pi_range1 (by rfl) m1 (pa_cons (pe_ix (r := rIxT K) ix_tup (pv 0) pe_int (fun _ _ => rfl)) pa_nil)) (blkOk_by (N := nLR) (sc := defScope sLRows) (by decide +kernel))
      (fun _ _ _ _ _ => pg_name (i := 3) scLR.nd rfl (Or.inr rfl)) (fun _ _ _ _ _ => pts_nil) (fun _ _ _ _ _ => pe_callTy call_tuple_of (by rfl) m2 (by decide +kernel) (pa_cons
        (pe_lc (own := [("_law_other", 4)]) (g := gName 4) (tt := tYes) (te := tCB rInt1 (tCons (tOp rEq (tVar 3) (tVar 4)) tNil)) rfl scLR.nd
          (pi_range1 (by rfl) m1 (pa_cons (pe_ix (r := rIxT K) ix_tup (pv 0) pe_int (fun _ _ => rfl)) pa_nil)) (blkOk_by (N := nLR) (sc := scR1) (by decide +kernel))
          (fun _ _ _ _ _ => pg_name (i := 4) scLR.nd rfl (Or.inl rfl)) (fun _ _ _ _ _ => pts_nil) (fun _ _ _ _ _ => pe_callTy (r := rInt1) call_int1 (by rfl) m8 (by decide +kernel) (pa_cons (pe_cmpR op_eq (pv 3) (pv 4) (nomark _)) pa_nil))) pa_nil))))
    (pss_cons (ps_for PassesOwn.never rfl (pi_tup (pe_ix (r := rIxT K) ix_tup (pv 0) pe_int (fun _ _ => rfl))) (pg_name (i := 2) scLR.nd rfl (.inr rfl))
      (pss_one (ps_expr (pe_bm PySem.F.plainAttrs_list PySem.F.slot_list_append PySem.F.type_list_append mt_append (pv 1) (pa_cons (pe_callTy call_tuple_of (by rfl) m2 (by decide +kernel) (pa_cons
        (pe_lc (own := [("_law_leaf", 3)]) (g := gName 3) (tt := tYes) (te := tCB (rSum K) (tCons (tLc (iTup K (tVar 2)) (gName 5) tYes (tOp (rIxT K) (tOp (rIxL K) (tVar 1) (tVar 5)) (tVar 3)) [5]) tNil)) rfl scLR.nd
          (pi_range1 (by rfl) m1 (pa_cons (pe_ix (r := rIxT K) ix_tup (pv 0) pe_int (fun _ _ => rfl)) pa_nil)) (blkOk_by (N := nLR) (sc := defScope sLRows) (by decide +kernel))
          (fun _ _ _ _ _ => pg_name (i := 3) scLR.nd rfl (Or.inr rfl)) (fun _ _ _ _ _ => pts_nil) (fun _ _ _ _ _ => pe_callB (cr_sum rfl) (by rfl) m3 (by decide +kernel) (pa_cons
            (pe_lc (own := [("_law_child", 5)]) (g := gName 5) (tt := tYes) (te := tOp (rIxT K) (tOp (rIxL K) (tVar 1) (tVar 5)) (tVar 3)) rfl scLR.nd
              (pi_tup (pv 2)) (blkOk_by (N := nLR) (sc := scR2) (by decide +kernel))
              (fun _ _ _ _ _ => pg_name (i := 5) scLR.nd rfl (Or.inl rfl)) (fun _ _ _ _ _ => pts_nil) (fun _ _ _ _ _ => pe_ix (r := rIxT K) ix_tup (pe_ix (r := rIxL K) ix_list (pv 1) (pv 5) (fun _ _ => rfl)) (pv 3) (fun _ _ => rfl))) pa_nil))) pa_nil)) pa_nil)))))
    (pss_one (ps_ret (pv 1)))), ?_⟩
  have h1 := hw.l1
  have h8 := hw.l8
  have h20 := hw.n20
  have hdn : ∀ u c, c ∈ kidsAt l inner u → c < u := fun u c h => (kidsAt_lt hw h).2
  let S (x1 x2 x3 : Option V) : L2.St := [some v, x1, x2, x3, none, none]
  have hS1 : ∀ {x1 x2 x3 : Option V} {H' : Hp}, Ex H H' → SrcS K (iRng1 (tCons (tOp (rIxT K) (tVar 0) (tC (.int 0))) tNil)) (S x1 x2 x3) H' (rngD 0 l) := fun {x1 x2 x3 H'} e => by
    have q1 := srcS_R1 (K := K) (σ := S x1 x2 x3) (H := H') (n := (l : Int)) (ta := tCons (tOp (rIxT K) (tVar 0) (tC (.int 0))) tNil) (ea_cons (ev_i (K := K) (ed_ixT (n := 0) (d := natD l) (ed_var rfl (dp_ex e _ hv)) (ed_i ev_c) rfl rfl)) ea_nil) (by omega)
    rw [Int.toNat_natCast] at q1
    exact q1
  show tSeq _ _ _ (S none none none) H
  have hrow0 : EvKR (tLc (iRng1 (tCons (tOp (rIxT K) (tVar 0) (tC (.int 0))) tNil)) (gName 3) tYes (tCB (fun xs H Q => ∃ p ys, xs = [.ref p] ∧ ((SqL K H p ys ∧ ∀ l, H l = none → Q (.ref l) (upd H l (.tup ys))) ∨ (SqT K H p ys ∧ Q (.ref p) H))) (tCons (tLc (iRng1 (tCons (tOp (rIxT K) (tVar 0) (tC (.int 0))) tNil)) (gName 4) tYes (tCB rInt1 (tCons (tOp rEq (tVar 3) (tVar 4)) tNil)) [4]) tNil)) [3]) (S none none none) H ((List.range l).map (rowI l inner)) := by
    refine ekr_lc (K := K) (rowI l inner) (by rw [← rng_nats]; exact (hS1 (Ex.refl _)).src) (by rw [List.length_range]; omega) (fun _ => rfl) (fun c H8 e8 hc => ?_)
    have hc := List.mem_range.mp hc
    have er : rowI l inner c = (List.range l).map fun a => if a = c then 1 else 0 := by
      unfold rowI
      exact List.map_congr_left fun a _ => way_leaf hc
    rw [er]
    refine eu_tupL (K := K) ?_
    have q2 := en_natMap (K := K) (σ := S none none (some (nV c))) (H := H8) (wi := iRng1 (tCons (tOp (rIxT K) (tVar 0) (tC (.int 0))) tNil)) (ks := List.range l) (j := 4) (vs := [4]) (te := tCB rInt1 (tCons (tOp rEq (tVar 3) (tVar 4)) tNil))
        (fun a => .int (if a = c then 1 else 0)) (by rw [← rng_nats]; exact (hS1 e8).src) (by rw [List.length_range]; omega) (fun _ => rfl) (fun a H9 e9 ha => ?_) fun _ _ => rfl
    · rw [List.map_map]
      exact q2
    · refine ed_i (ev_is (ev_intB (b := decide ((c : Int) = (a : Int))) (ev_is (ev_op (ev_var rfl) (ev_var rfl) (rv_eq rfl)) ?_)) ?_)
      · show V.bl (decide (V.int (c : Int) = V.int (a : Int))) = _
        rw [dec_int]
        rfl
      · by_cases z : (c : Int) = (a : Int)
        · rw [decide_eq_true z, if_pos (show a = c by omega)]
          rfl
        · rw [decide_eq_false z, if_neg (show ¬ a = c by omega)]
          rfl
  refine q_asgKR hrow0 fun p ks0 H2 hp e2 hL hK0 hr0 => ?_
  have hpH : H p = none := hp
  obtain ⟨av, ys, rfl, hs, hy⟩ := dp_tup hv
  cases hy with
  | cons y0 hy =>
  cases hy with
  | cons y1 hy =>
  cases hy
  rename_i u0 u1
  show tSeq (tFor _ _ _) _ _ (S (some (.ref p)) none none) H2
  refine q_forS (H0 := H) (ds := inner.map kidsD) e2 (srcS_T (v := u1) (ev_op (x := .ref av) (y := .int 1) (ev_var rfl) ev_c (rv_ixT hs rfl)) y1) (fun i σ' H' => Ex H H' ∧ (∃ x2, σ' = S (some (.ref p)) x2 none) ∧ ∃ ks, H' p = some (.lst (refsK ks)) ∧ KR H' ks ∧ ks.map (·.2) = (List.range (l + i)).map (rowI l inner)) (fun H3 e3 => ⟨e2.trans e3, ⟨_, rfl⟩, ks0, e3 _ _ hL, hK0.ex e3, hr0⟩) (fun i σ' H' p => p.1) (fun i d x σ' H' hi hx hP => ?_) fun σ' H' hP => ?_
  · obtain ⟨e3, ⟨x4, rfl⟩, ks3, hL3, hK3, hr3⟩ := hP
    rw [List.getElem?_map] at hi
    obtain ⟨ks, hks, rfl⟩ := Option.map_eq_some_iff.mp hi
    have hil := (List.getElem?_eq_some_iff.mp hks).1
    have hka : kidsAt l inner (l + i) = ks := by
      unfold kidsAt
      rw [if_neg (by omega), show l + i - l = i by omega, List.getD_eq_getElem?_getD, hks]
      rfl
    have hn3 : ks3.length = l + i := by
      have := congrArg List.length hr3
      rw [List.length_map, List.length_map, List.length_range] at this
      exact this
    have hdp : ∀ {H' : Hp}, Ex H' H' → H' p = some (.lst (refsK ks3)) → KR H' ks3 → Dp K H' (.ref p) (.list (rowsD l inner (l + i))) := fun {H'} _ h1 h2 => by
      have h3 := KR.dp (K := K) h2
      rw [hr3, List.map_map] at h3
      exact .lst (sq_of h1) h3
    show tDrop _ _ (S (some (.ref p)) (some x) none) H'
    refine s_appU (K := K) (xs := refsK ks3) (ys := (rowI l inner (l + i)).map V.int) hL3 (ev_var rfl) (eu_tupL (K := K) ?_) (by rw [List.length_map]; omega) fun b H4 hb e4 hbt => ⟨Ex.mut (e3.trans e4) hpH, ⟨_, rfl⟩, ks3 ++ [(b, rowI l inner (l + i))], ?_, ?_, ?_⟩
    · have q1 := en_natMap (K := K) (σ := S (some (.ref p)) (some x) none) (H := H') (wi := iRng1 (tCons (tOp (rIxT K) (tVar 0) (tC (.int 0))) tNil)) (ks := List.range l) (j := 3) (vs := [3]) (te := tCB (rSum K) (tCons (tLc (iTup K (tVar 2)) (gName 5) tYes (tOp (rIxT K) (tOp (rIxL K) (tVar 1) (tVar 5)) (tVar 3)) [5]) tNil))
        (fun c => .int (way (kidsAt l inner) c (l + i))) (by rw [← rng_nats]; exact (hS1 e3).src) (by rw [List.length_range]; omega) (fun _ => rfl) (fun c H8 e8 hc => ?_) fun _ _ => rfl
      · unfold rowI
        rw [List.map_map]
        exact q1
      · have hc := List.mem_range.mp hc
        have ew : way (kidsAt l inner) c (l + i) = (ks.map (way (kidsAt l inner) c)).sum := by
          rw [way_rec (hdn _), hka, if_neg (by omega), Int.add_zero]
        rw [ew]
        refine ed_i (ev_sumI (K := K) ?_)
        have hx8 := dp_ex (e3.trans e8) _ hx
        have q2 := en_natMap (K := K) (σ := S (some (.ref p)) (some x) (some (nV c))) (H := H8) (wi := iTup K (tVar 2)) (ks := ks) (j := 5) (vs := [5]) (te := tOp (rIxT K) (tOp (rIxL K) (tVar 1) (tVar 5)) (tVar 3))
          (fun u => .int (way (kidsAt l inner) c u)) (src_T (tl := tVar 2) (ds := natDs ks) (ed_var rfl hx8)) (by have := hw.len ks (List.mem_of_getElem? hks); omega) (fun _ => rfl) (fun u H9 e9 hu => ?_) fun _ _ => rfl
        · rw [List.map_map]
          exact q2
        · have hul : u < l + i := hw.lt i ks hks u hu
          exact ed_ixT (n := c) (ds := (rowI l inner u).map PyData.int) (ed_ixL (n := u) (ds := rowsD l inner (l + i)) (ed_var rfl (hdp (Ex.refl _) ((e8.trans e9) _ _ hL3) (hK3.ex (e8.trans e9)))) (ed_i (ev_var rfl)) rfl (rowsD_at hul)) (ed_i (ev_var rfl)) rfl (rowI_at hc)
    · rw [upd_same]
      unfold refsK
      rw [List.map_append]
      rfl
    · refine KR.snoc ((hK3.ex e4).upd (e4 _ _ hL3) fun xs z => by cases z) ?_
      have hne : b ≠ p := fun z => by
        rw [z, hL3] at hb
        cases hb
      show upd H4 p _ b = _
      rw [upd_ne hne]
      exact hbt
    · rw [List.map_append, hr3, show l + (i + 1) = (l + i) + 1 by omega, List.range_succ, List.map_append]
      rfl
  · obtain ⟨e3, ⟨x4, rfl⟩, ks3, hL3, hK3, hr3⟩ := hP
    rw [List.length_map] at hr3
    exact s_ret (v := .ref p) (ev_var rfl) fun H4 e4 => q p ks3 H4 hpH (e3.trans e4) (e4 _ _ hL3) (hK3.ex e4) hr3
end
end WR
set_option Elab.async false
set_option linter.all false
set_option maxRecDepth 100000
set_option maxHeartbeats 2000000
namespace WR
open PySem PySem.Spec PyProof.Rows L2 Evl

/-! ### dicts from rows to how often they stand -/
def keyI (r : List Int) : List L2.Key := r.map Sum.inl
theorem keyI_kV : ∀ r : List Int, (keyI r).map kV = r.map V.int
  | [] => rfl
  | i :: r => by
    show kV (Sum.inl i) :: (keyI r).map kV = _
    rw [keyI_kV r]
    rfl
theorem keyI_inj : ∀ {a b : List Int}, keyI a = keyI b → a = b
  | [], [], _ => rfl
  | [], _ :: _, h => by cases h
  | _ :: _, [], h => by cases h
  | x :: a, y :: b, h => by
    injection h with h1 h2
    rw [Sum.inl.inj h1, keyI_inj h2]
def cntL (rows : List (List Int)) (r : List Int) : Nat := rows.countP fun x => decide (x = r)
structure Cnts (kvs : List (List L2.Key × V)) (rows : List (List Int)) : Prop where
  get : ∀ r ∈ rows, valV kvs (keyI r) = some (nV (cntL rows r))
  own : ∀ k v, valV kvs k = some v → ∃ r ∈ rows, k = keyI r
  few : kvs.length ≤ rows.length
theorem cntL_none {rows : List (List Int)} {r : List Int} (h : r ∉ rows) : cntL rows r = 0 := by
  unfold cntL
  rw [List.countP_eq_zero]
  intro x hx z
  rw [of_decide_eq_true z] at hx
  exact h hx
theorem Cnts.nil : Cnts [] [] := ⟨fun r h => (by cases h), fun k v h => (by cases h), Nat.le_refl _⟩
theorem Cnts.val {kvs : List (List L2.Key × V)} {rows : List (List Int)} (h : Cnts kvs rows) (r : List Int) : (valV kvs (keyI r)).getD (nV 0) = nV (cntL rows r) := by
  by_cases z : r ∈ rows
  · rw [h.get r z]
    rfl
  · cases e : valV kvs (keyI r) with
    | none =>
      rw [cntL_none z]
      rfl
    | some v =>
      obtain ⟨r', hr', he⟩ := h.own _ _ e
      rw [keyI_inj he] at z
      exact absurd hr' z
theorem Cnts.put {kvs : List (List L2.Key × V)} {rows : List (List Int)} (h : Cnts kvs rows) (r : List Int) : Cnts (putK kvs (keyI r) (nV (cntL rows r + 1))) (rows ++ [r]) := by
  have hc : ∀ x, cntL (rows ++ [r]) x = cntL rows x + if r = x then 1 else 0 := fun x => by
    unfold cntL
    rw [List.countP_append, List.countP_cons, List.countP_nil, Nat.zero_add]
    by_cases z : r = x
    · rw [if_pos z, if_pos (decide_eq_true z)]
    · rw [if_neg z, if_neg (by rw [decide_eq_false z]; decide)]
  refine ⟨fun x hx => ?_, fun k v hk => ?_, ?_⟩
  · rw [valV_put, hc]
    by_cases z : x = r
    · subst z
      rw [if_pos rfl, if_pos rfl]
    · rw [if_neg fun y => z (keyI_inj y), if_neg (Ne.symm z), Nat.add_zero]
      rcases List.mem_append.mp hx with hx | hx
      · exact h.get x hx
      · exact absurd (List.mem_singleton.mp hx) z
  · rw [valV_put] at hk
    by_cases z : k = keyI r
    · exact ⟨r, List.mem_append.mpr (.inr (List.mem_singleton.mpr rfl)), z⟩
    · rw [if_neg z] at hk
      obtain ⟨x, hx, e⟩ := h.own k v hk
      exact ⟨x, List.mem_append.mpr (.inl hx), e⟩
  · have h1 := length_putK kvs (keyI r) (nV (cntL rows r + 1))
    have h2 := h.few
    rw [List.length_append, List.length_singleton]
    omega
/-- the keys as they are listed -/
theorem keys_of {H : Hp} {rows : List (List Int)} : ∀ {kvs : List (List L2.Key × V)} {bs : List Addr}, IsKeys H kvs bs → (∀ k ∈ kvs.map (·.1), ∃ r ∈ rows, k = keyI r) → ∃ ks : List (Addr × List Int), bs.map V.ref = refsK ks ∧ KR H ks ∧ ks.length = kvs.length ∧ ks.map (fun p => keyI p.2) = kvs.map (·.1) ∧ ∀ p ∈ ks, p.2 ∈ rows
  | _, _, .nil, _ => ⟨[], rfl, fun p hp => (by cases hp), rfl, rfl, fun p hp => (by cases hp)⟩
  | _, _, .cons (a := p) (b := b) (l₁ := kvs) (l₂ := bs) h t, hk => by
    obtain ⟨ks, h1, h2, h3, h4, h5⟩ := keys_of t fun k hm => hk k (List.mem_cons_of_mem _ hm)
    obtain ⟨r, hr, e⟩ := hk p.1 (List.mem_cons_self ..)
    have h : H b = some (.tup (p.1.map kV)) := h
    rw [e, keyI_kV] at h
    refine ⟨(b, r) :: ks, ?_, fun q hq => ?_, ?_, ?_, fun q hq => ?_⟩
    · rw [List.map_cons, h1]
      rfl
    · rcases List.mem_cons.mp hq with rfl | hq
      · exact h
      · exact h2 q hq
    · rw [List.length_cons, List.length_cons, h3]
    · rw [List.map_cons, List.map_cons, h4, e]
    · rcases List.mem_cons.mp hq with rfl | hq
      · exact hr
      · exact h5 q hq
theorem Cnts.keys {H : Hp} {kvs : List (List L2.Key × V)} {rows : List (List Int)} {bs : List Addr} (h : Cnts kvs rows) (hb : IsKeys H kvs bs) : ∃ ks : List (Addr × List Int), bs.map V.ref = refsK ks ∧ KR H ks ∧ ks.length ≤ rows.length ∧ ∀ r, r ∈ ks.map (·.2) ↔ r ∈ rows := by
  obtain ⟨ks, h1, h2, h3, h4, h5⟩ := keys_of (rows := rows) hb fun k hk => by
    cases e : valV kvs k with
    | none => exact absurd hk (valV_not e)
    | some v => exact h.own k v e
  refine ⟨ks, h1, h2, by rw [h3]; exact h.few, fun r => ⟨fun hr => ?_, fun hr => ?_⟩⟩
  · obtain ⟨p, hp, rfl⟩ := List.mem_map.mp hr
    exact h5 p hp
  · have hm := valV_in (h.get r hr)
    rw [← h4] at hm
    obtain ⟨p, hp, e⟩ := List.mem_map.mp hm
    exact List.mem_map.mpr ⟨p, hp, keyI_inj e⟩
def spCnts (K : PySem.W.Frag) : Sp := fun vs H Q _ => ∃ v l inner, vs = [v] ∧ Dp K H v (webD l inner) ∧ Raw l inner ∧ ∀ d kvs H', H d = none → Ex H H' → H' d = some (.dT kvs) → Cnts kvs (rowsI l inner) → Q (.ref d) H'
section
variable {K : PySem.W.Frag} {σ : L2.St} {H : Hp} {td ty tx tv : TE} {D : Ends} {tz tu : TS}
theorem ev_dgetT {d b : Addr} {kvs : List (List L2.Key × V)} {r : List Int} {z : V} (hd : Ev td σ H (.ref d)) (hy : Ev ty σ H (.ref b)) (hx : Ev tx σ H z) (h1 : H d = some (.dT kvs)) (h2 : H b = some (.tup (r.map V.int))) : Ev (tDGet2 td ty tx) σ H ((valV kvs (keyI r)).getD z) := fun H1 e Q q =>
  hd H1 e _ fun H2 e2 => ⟨d, rfl, .inr ⟨kvs, .inl ((e.trans e2) _ _ h1)⟩, hy H2 (e.trans e2) _ fun H3 e3 => hx H3 ((e.trans e2).trans e3) _ fun H4 e4 => by
    have e14 := ((e.trans e2).trans e3).trans e4
    exact ⟨_, DGet.t (k := keyI r) (e14 _ _ h1) (by rw [keyI_kV]; exact e14 _ _ h2), q H4 ((e2.trans e3).trans e4)⟩⟩
theorem s_dputT {d b : Addr} {kvs : List (List L2.Key × V)} {r : List Int} {v : V} (hv : Ev tv σ H v) (hd : Ev td σ H (.ref d)) (hy : Ev ty σ H (.ref b)) (h1 : H d = some (.dT kvs)) (h2 : H b = some (.tup (r.map V.int))) (hz : kvs.length < 100000)
    (k : ∀ H1, Ex H H1 → D.nx σ (upd H1 d (.dT (putK kvs (keyI r) v)))) : sDPut td ty tv D σ H :=
  hv H (Ex.refl H) _ fun H1 e1 => hd H1 e1 _ fun H2 e2 => hy H2 (e1.trans e2) _ fun H3 e3 => by
    have e13 := (e1.trans e2).trans e3
    exact ⟨d, _, rfl, DPut.t (k := keyI r) (e13 _ _ h1) (by rw [keyI_kV]; exact e13 _ _ h2) (sz_lt hz), k H3 e13⟩
/-- for row in a new list of new tuples -/
theorem q_forKR {j : Nat} {te : TE} {rows : List (List Int)} (h : EvKR te σ H rows) (k : ∀ p ks H1, H p = none → Ex H H1 → H1 p = some (.lst (refsK ks)) → KR H1 ks → ks.map (·.2) = rows → ∃ Pv : Nat → L2.St → Hp → Prop, Pv 0 σ H1 ∧ (∀ i σ' H', Pv i σ' H' → H' p = some (.lst (refsK ks))) ∧
    (∀ i q σ' H', ks[i]? = some q → Pv i σ' H' → tu { D with nx := Pv (i + 1), ct := Pv (i + 1), bk := tz D } (σ'.set j (some (.ref q.1))) H') ∧ ∀ σ' H', Pv ks.length σ' H' → tz D σ' H') :
    tSeq (tFor (iList K te) (gName j) tu) tz D σ H := h H (Ex.refl H) _ fun p ks H1 hp e1 hx hk hr => by
  obtain ⟨Pv, p0, pl, ps, pd⟩ := k p ks H1 hp e1 hx hk hr
  have hn : (refsK ks).length = ks.length := List.length_map ..
  refine ⟨p, rfl, ⟨_, sq_of hx⟩, for_it (walk_list (K := K) (a := p) (xs := refsK ks)) (D := { D with nx := tz D }) Pv p0 (fun i σ' H' _ q => sq_of (pl i σ' H' q)) (fun i x σ' Hc H' hi q hy => ?_) fun σ' H' q => pd σ' H' (by rw [← hn]; exact q)⟩
  obtain ⟨rfl, hy⟩ := hy
  rw [List.getElem?_map] at hy
  obtain ⟨w, hw, rfl⟩ := Option.map_eq_some_iff.mp hy
  exact ps i w σ' _ hw q
end
abbrev nCt : List Str := ["_law_web_here", "_law_found", "_law_here"]
section
variable {P : Program} {w : World} {K : PySem.W.Frag} {mg : Str → Option Value} {base : Heap}
end
end WR
-- auto
set_option Elab.async false
set_option linter.all false
set_option maxRecDepth 100000
set_option maxHeartbeats 2000000
namespace WR
open PySem PySem.Spec PyProof.Rows L2 Evl

/-! ### dict comprehensions whose keys are tuples -/
section
variable {P : Program} {w : World} {K : PySem.W.Frag} {κ : Type} [DecidableEq κ] (T : TK P w K κ)
/-- {k: v for target in iter if ..}: D the new dict; W by the turn and a measure, Nx what a turn is to reach -/
def tDz (wi : TI) (g : TG) (tt : TT) (tk tv : TE) (vs : List Nat) : TE := fun σ H Q => wi σ H fun J Ha => ∀ D, Ha D = none → ∃ W : Nat → Nat → Hp → Prop,
  (∃ m, W 0 m (upd Ha D (DzO T.kind D []))) ∧ ∀ i m Hb, W i m Hb → (J.stop i Hb ∧ Q (.ref D) Hb) ∨ (J.go i Hb ∧ ∃ Nx : Hp → Prop, (∀ Hc, Nx Hc → ∃ m', m' < m ∧ W (i + 1) m' Hc) ∧
    ∀ x Hc, J.yld i Hb x Hc → g x (wipe σ vs) Hc fun σ2 Hd => wipe σ2 vs = wipe σ vs ∧ tt σ2 Hd fun yes He =>
      if yes = true then tk σ2 He fun y Hf => tv σ2 Hf fun z Hg => ∃ es k b, y = .ref b ∧ DZ T Hg D es ∧ T.cell Hg k b ∧ es.length < sizeLine ∧ Nx (upd Hg D (DzO T.kind D (putZ es k b z))) else Nx He)
end
section
variable {X : Cx} {κ : Type} [DecidableEq κ] (T : TK X.prog X.w X.K κ)
abbrev BlkAll (X : Cx) (scope : Scope) (F : Cx → Prop) : Prop := ∀ (sb : Shared) (Hb : Hp) (C : Addr) (cl : List (Str × Addr)) (fp : List Addr), F (X.blk sb Hb scope (compEnvC scope cl C X.env) fp)
theorem dz_core {pins : List (Addr × Obj)} {s : Shared} {σ : L2.St} {H : Hp} {Q : VK} {ke ve tg iter : Expr} {ifs : List Expr} {scope : Scope} {own : List (Str × Nat)} {pos ppos : Pos} {wi : TI} {g : TG} {tt : TT} {tk tv : TE} {use : Option (Value → Sem Unit)} {Qf : Value → Shared → Prop}
    (calm : X.calm = true) (nd : X.N.Nodup) (inv : Inv X pins σ H s) (walk : PI X tg iter wi) (blk : BlkOk X.N X.env.scope scope own)
    (pgs : BlkAll X scope fun Y => PG Y tg g) (pts : BlkAll X scope fun Y => PTs Y ifs tt) (pks : BlkAll X scope fun Y => PE Y ke tk) (pvs : BlkAll X scope fun Y => PE Y ve tv) (fold : ∀ x, foldedSetIterable iter X.env x = pure x) (hu : X.A.units + T.sl < cLine)
    (want : tDz T wi g tt tk tv (own.map (·.2)) σ H Q)
    (back : ∀ D C se m He, Inv X pins σ He se → Q (.ref D) He → se.heap.Ns C m → FpOk X pins He C → compPost (model X.prog X.w) X.A X.xe use Qf (.ref D) C (.ok .next) se) :
    wpAny (model X.prog X.w) X.A (comprehension (.DictComp ke ve [⟨tg, iter, ifs, 0⟩] scope pos) scope X.env ppos newDict false (eval iter X.env) use) Qf X.xe s := by
  have captured : ∀ y ∈ scope.names, y.2 = .free → ∃ c, X.env.cells.lookup y.1 = some c := by
    intro y hy e
    exact (blk.free y hy e).elim (fun k => inv.ok.has _ (.inl k)) fun k => inv.ok.has _ (.inr k)
  have start := walk.run pins s σ H _ inv want
  refine wpAny_comprehension_free (use := use) rfl fold (closure_ok captured) blk.kind (fun y hy e => by rw [blk.uniq y hy, e]) (thn start fun xv sa ha => thn ha fun itv sb hb => ?_)
  obtain ⟨it, fp, tn, J, Ha, rfl, invA, prot, at0, fpA, mk⟩ := hb
  refine wpAny_newObj_type (newEnv_comp ?_)
  obtain ⟨D, eD⟩ : ∃ D, sb.heap.objs.size = D := ⟨_, rfl⟩
  have newD : Ha D = none := invA.hok.fresh (Nat.le_of_eq eD)
  obtain ⟨W, ⟨m0, w0⟩, turn⟩ := mk D newD
  -- the new dict stands
  obtain ⟨sc, esc⟩ : ∃ sc : Shared, ({ sb with heap := sb.heap.push { cls := .type "dict", data := .dict #[] } } : Shared) = sc := ⟨_, rfl⟩
  obtain ⟨Hc, eHc⟩ : ∃ Hc, upd Ha D (DzO T.kind D []) = Hc := ⟨_, rfl⟩
  have hsc : sc.heap = sb.heap.push { cls := .type "dict", data := .dict #[] } := by rw [← esc]
  have invC : Inv X pins σ Hc sc := by
    rw [← esc, ← eHc]
    refine invA.laid (t' := sb.toks) (fun b o e => Heap.get?_push_of_some _ e) (Nat.le_of_eq eD) ?_
    rw [← eD]
    exact dzO_ok ⟨_, [], #[], 0, Heap.get?_push_size _ rfl, ⟨rfl, rfl, rfl⟩, rfl, rfl, List.nodup_nil, .nil, beq_eq_false_iff_ne.mpr (Ne.symm (Nat.ne_of_lt invA.big))⟩
  have old : ∀ b ∈ fp, b < sb.heap.objs.size := by
    intro b hb
    obtain ⟨o, e, _⟩ := prot.obj _ _ at0 b hb
    exact Heap.lt_size e
  have fpC : ∀ b ∈ fp, FpOk X pins Hc b ∧ b < sc.heap.objs.size := by
    intro b hb
    have lt := old b hb
    have ne : b ≠ D := by rw [← eD]; exact Nat.ne_of_lt lt
    refine ⟨⟨by rw [← eHc, upd_ne ne]; exact (fpA b hb).1, (fpA b hb).2⟩, ?_⟩
    rw [hsc, Heap.size_push]
    exact Nat.lt_succ_of_lt lt
  have atC : tn 0 sc.heap := prot.keep _ _ _ at0 fun b _ o e => by rw [hsc]; exact Heap.get?_push_of_some _ e
  have invB := block_start invC blk nd fpC
  have pg := pgs sc Hc sc.heap.objs.size (cellsFrom (sc.heap.objs.size + 1) scope.names (cloFrom X.env.cells scope.names [])) fp
  have pt := pts sc Hc sc.heap.objs.size (cellsFrom (sc.heap.objs.size + 1) scope.names (cloFrom X.env.cells scope.names [])) fp
  have pk := pks sc Hc sc.heap.objs.size (cellsFrom (sc.heap.objs.size + 1) scope.names (cloFrom X.env.cells scope.names [])) fp
  have pv := pvs sc Hc sc.heap.objs.size (cellsFrom (sc.heap.objs.size + 1) scope.names (cloFrom X.env.cells scope.names [])) fp
  rw [eD, esc]
  rw [eHc] at w0
  have free0 : ∀ b ∈ fp, Hc b = none := fun b hb => (fpC b hb).1.1
  show codeAny _ _ (.compStart (.DictComp ke ve [⟨tg, iter, ifs, 0⟩] scope pos) 0 (.ref it) (.ref D) (compEnvC scope (cellsFrom (sc.heap.objs.size + 1) scope.names (cloFrom X.env.cells scope.names [])) sc.heap.objs.size X.env)) (compPost (model X.prog X.w) X.A X.xe use Qf (.ref D) sc.heap.objs.size)
    { sc with heap := pushCells (sc.heap.push { cls := .type "dict", data := .dict #[] }) scope.names }
  obtain ⟨ce, ece⟩ : ∃ ce, compEnvC scope (cellsFrom (sc.heap.objs.size + 1) scope.names (cloFrom X.env.cells scope.names [])) sc.heap.objs.size X.env = ce := ⟨_, rfl⟩
  rw [ece] at invB pg pt pk pv ⊢
  have loc : ce.locals = sc.heap.objs.size := by rw [← ece]; rfl
  obtain ⟨sd, esd⟩ : ∃ sd : Shared, ({ sc with heap := pushCells (sc.heap.push { cls := .type "dict", data := .dict #[] }) scope.names } : Shared) = sd := ⟨_, rfl⟩
  rw [esd] at invB ⊢
  have atD : tn 0 sd.heap := prot.keep _ _ _ atC fun b _ o e => by rw [← esd]; exact pushCells_keeps _ _ _ _ (Heap.get?_push_of_some _ e)
  have stat : ∀ {σ' : L2.St} {H' : Hp} {s' : Shared}, Inv (X.blk sc Hc scope ce fp) [] σ' H' s' → (∀ b ∈ fp, H' b = none) → ∀ b ∈ fp, FpOk (X.blk sc Hc scope ce fp) [] H' b := by
    intro σ' H' s' I' hn b hb
    refine ⟨hn b hb, (I'.ok.exf b hb).1, I'.ok.exfs b hb, .inl hb, fun x c e => (I'.ok.exf b hb).2 x c e, fun p hp => ?_⟩
    exact absurd (show p ∈ ([] : List (Addr × Obj)) ++ [] from hp) (by simp)
  have loop : codeAny (model X.prog X.w) X.A (.compLoop (.DictComp ke ve [⟨tg, iter, ifs, 0⟩] scope pos) 0 (.ref it) (.ref D) ce) (compPost (model X.prog X.w) X.A X.xe use Qf (.ref D) sc.heap.objs.size) sd := by
    refine compLoop_anyD (fun n s' => ∃ i H', Inv (X.blk sc Hc scope ce fp) [] (wipe σ (own.map (·.2))) H' s' ∧ tn i s'.heap ∧ (∀ b ∈ fp, H' b = none) ∧ W i n H') ?_ m0 ⟨0, Hc, invB, atD, free0, w0⟩
    rintro n s5 ⟨i, H5, I5, t5, n5, w5⟩
    rcases turn i n H5 w5 with ⟨stop, qq⟩ | ⟨go, Nx, hNx, step⟩
    · refine thnF (prot.done (X.blk sc Hc scope ce fp) rfl rfl rfl calm i [] s5 _ H5 (fun _ _ => False) I5 (stat I5 n5) t5 stop) fun r s6 ⟨hr, I6⟩ => ?_
      subst hr
      have I7 : Inv X pins σ H5 s6 := invC.call' (ch := fp) I6.os I6.base I6.hok I6.bare fun b hb => ⟨(fpC b hb).1.2.2.2.1, (fpC b hb).1.2.1, (fpC b hb).1.2.2.2.2.1, (fpC b hb).1.2.2.2.2.2⟩
      have nC : H5 sc.heap.objs.size = none := by rw [← loc]; exact I6.free
      obtain ⟨m, hn, _⟩ := I6.loc
      exact back D sc.heap.objs.size s6 m H5 I7 qq (by rw [← loc]; exact hn) (invC.fpOk (Nat.le_refl _) nC)
    · refine thnF (prot.item (X.blk sc Hc scope ce fp) rfl rfl rfl calm i [] s5 _ H5 (fun _ _ => False) I5 (stat I5 n5) t5 go) fun r s6 ⟨u, hr, h6⟩ => ?_
      subst hr
      refine thnF h6 fun _ s7 ⟨x, H7, I7, r7, y7, t7, n7⟩ => ?_
      have I7p := I7.pinned (stat I7 n7) (prot.obj _ _ t7)
      refine thnF (pg.run _ s7 _ H7 x u _ I7p r7 (step x H7 y7)) fun _ s8 ⟨σ8, H8, I8, hw8, q8⟩ => ?_
      refine thnF (pt.run _ s8 σ8 H8 _ I8 q8) fun yes s9 ⟨H9, I9, q9⟩ => ?_
      have fin : ∀ {s' : Shared} {H' : Hp}, Inv (X.blk sc Hc scope ce fp) ([] ++ pinsAt fp s7.heap) σ8 H' s' → Nx H' → ∃ m, m < n ∧ ∃ i H', Inv (X.blk sc Hc scope ce fp) [] (wipe σ (own.map (·.2))) H' s' ∧ tn i s'.heap ∧ (∀ b ∈ fp, H' b = none) ∧ W i m H' := by
        intro s' H' I' nx
        obtain ⟨m', hm, w'⟩ := hNx H' nx
        have pinned : ∀ b ∈ fp, ∀ o, s7.heap.get? b = some o → s'.heap.get? b = some o ∧ H' b = none := by
          intro b hb o e
          have z := I'.pin (b, o) (List.mem_append_right _ (List.mem_append_right _ (mem_pinsAt hb e)))
          exact ⟨z.1, z.2.1⟩
        refine ⟨m', hm, i + 1, H', (I'.unpinned (pins := [])).weak (by rw [← hw8, wipe_length]) (fun j v e => ?_), prot.keep _ _ _ t7 fun b hb o e => (pinned b hb o e).1, fun b hb => ?_, w'⟩
        · rw [← hw8] at e
          exact (wipe_some e).1
        · obtain ⟨o, e, _⟩ := prot.obj _ _ t7 b hb
          exact (pinned b hb o e).2
      cases yes with
      | false =>
        rw [if_neg (by decide)] at q9 ⊢
        exact fin I9 q9
      | true =>
        rw [if_pos rfl] at q9 ⊢
        refine thnF (pk.run _ s9 σ8 H9 _ I9 q9) fun uk s10 ⟨yk, H10, I10, r10, q10⟩ => ?_
        refine thnF (pv.run _ s10 σ8 H10 _ I10 q10) fun uv s11 ⟨yv, H11, I11, r11, es, k, b, ek, hz, hb, hl, nx⟩ => ?_
        subst ek
        obtain rfl : uk = Value.ref b := r10
        obtain ⟨hd, xs, rel, dd⟩ := dz_of (X := X.blk sc Hc scope ce fp) (T := T) I11 hz
        exact wpAny_dictSet_heap (hsz := by rw [← Paired.length rel]; exact Nat.le_of_lt hl) (T.room _ hu) (T.ok I11.hok I11.kIn hb) dd fun h' dd' hs' => fin (dz_set (X := X.blk sc Hc scope ce fp) (T := T) (A := X.A) (E := X.xe) I11 hz hb hl r11 rel hd dd' hs') nx
  exact codeAny_compStart_dict loop (prot.self X.A 0 _ _ _ atD loop)
theorem pe_dzc {ke ve tg iter : Expr} {ifs : List Expr} {scope : Scope} {own : List (Str × Nat)} {pos : Pos} {wi : TI} {g : TG} {tt : TT} {tk tv : TE} (calm : X.calm = true) (nd : X.N.Nodup) (hu : X.A.units + T.sl < cLine) (walk : PI X tg iter wi) (blk : BlkOk X.N X.env.scope scope own)
    (pgs : BlkAll X scope fun Y => PG Y tg g) (pts : BlkAll X scope fun Y => PTs Y ifs tt) (pks : BlkAll X scope fun Y => PE Y ke tk) (pvs : BlkAll X scope fun Y => PE Y ve tv) (fold : ∀ x, foldedSetIterable iter X.env x = pure x := by intro _; rfl) :
    PE X (.DictComp ke ve [⟨tg, iter, ifs, 0⟩] scope pos) (tDz T wi g tt tk tv (own.map (·.2))) := by
  refine ⟨fun pins s σ H Q inv want => ?_⟩
  rw [arm_eval_DictComp]
  refine dz_core T calm nd inv walk blk pgs pts pks pvs fold hu want fun D C se m He ie q hn f => ⟨m, hn, fun h2 sb => ?_⟩
  obtain ⟨f0, f1, f2, f3, f4, f5⟩ := f
  exact ⟨.ref D, He, ie.turned (t' := se.toks) (fun b o hb e => (sb.2 b hb).trans e) f0 f1 f3 f4 f5, rfl, q⟩
/-- y = {..}, y a local name -/
theorem ps_setDz {i : Nat} {y : Str} {py : Pos} {ke ve tg iter : Expr} {ifs : List Expr} {scope : Scope} {own : List (Str × Nat)} {pos spos : Pos} {wi : TI} {g : TG} {tt : TT} {tk tv : TE} (calm : X.calm = true) (nd : X.N.Nodup) (hy : X.N[i]? = some y) (hyl : X.env.scope.names.lookup y = some .local)
    (hsw : swapsWith (.DictComp ke ve [⟨tg, iter, ifs, 0⟩] scope pos) (some (.Name y py)) spos.line X.env = pure true) (hu : X.A.units + T.sl < cLine) (walk : PI X tg iter wi) (blk : BlkOk X.N X.env.scope scope own)
    (pgs : BlkAll X scope fun Y => PG Y tg g) (pts : BlkAll X scope fun Y => PTs Y ifs tt) (pks : BlkAll X scope fun Y => PE Y ke tk) (pvs : BlkAll X scope fun Y => PE Y ve tv) (fold : ∀ x, foldedSetIterable iter X.env x = pure x := by intro _; rfl) :
    PS X (.Assign [.Name y py] (.DictComp ke ve [⟨tg, iter, ifs, 0⟩] scope pos) spos) (tAsg (tDz T wi g tt tk tv (own.map (·.2))) (gName i)) := by
  refine ⟨fun pins s σ H D inv want => ?_⟩
  rw [exec_Assign_Name_used _ _ _ _ hsw]
  refine wpAny_bind (wpAny_standAt (wpAny_bind ?_))
  show wpAny _ X.A (do let _ ← comprehension (.DictComp ke ve [⟨tg, iter, ifs, 0⟩] scope pos) scope X.env (firstIterPos [⟨tg, iter, ifs, 0⟩] pos) newDict false (eval iter X.env) (some (assign (.Name y py) X.env))) _ _ s
  have want' : tDz T wi g tt tk tv (own.map (·.2)) σ H (fun x Ha => gName i x σ Ha D.nx) := want
  refine wpAny_bind (thn (dz_core (Qf := fun _ s' => SP X pins D .next s') T calm nd inv walk blk pgs pts pks pvs fold hu want' fun L C se m He ie q hn f => ?_) fun _ s' hq => wpAny_pure (wpAny_pure hq))
  show wpAny _ _ (assign (.Name y py) X.env (.ref L)) _ _ _
  refine wpAny_assign_Name (store_ok2 (v := V.ref L) ie nd hy (.inl hyl) rfl (fun s2 I2 ⟨a, sb, ha⟩ => ?_) (.inr hyl))
  obtain ⟨f0, f1, f2, f3, f4, f5⟩ := f
  have apart : C ≠ a := by
    rcases ha with z | z
    · rw [z]
      exact f1
    · exact fun e => f4 y a z e.symm
  exact ⟨m, hn.sameBut sb apart, fun h3 sb3 => ⟨_, He, I2.turned (t' := s2.toks) (fun b o hb e => (sb3.2 b hb).trans e) f0 f1 f3 f4 f5, q⟩⟩
theorem sw_dict {ke ve : Expr} {gs : List Comprehension} {scope : Scope} {pos py : Pos} {y : Str} {l : Nat} {env : Env} (hk : env.scope.kind = .function) (hy : env.scope.names.lookup y = some .local) (hl : (py.line == pos.line) = true)
    (ha : (scope.names.any fun (n, k) => n == y && (k == .local || k == .cell)) = false) : swapsWith (.DictComp ke ve gs scope pos) (some (.Name y py)) l env = pure true := by
  have ky : env.kindOf y = some .local := hy
  have hb : env.blockKind = .function := by
    unfold Env.blockKind
    rw [hk]
    rfl
  unfold swapsWith
  simp only [hb, ky, ha, Expr.pos, hl]
  rfl
end
section
variable {P : Program} {w : World} {K : PySem.W.Frag} {κ : Type} [DecidableEq κ] {T : TK P w K κ}
/-- over a walk: Pv by the turn and the heap (the new dict at D within) -/
theorem dz_it {J : It} {n : Nat} {G : Hp → Prop} {Y : Nat → Hp → V → Hp → Prop} (wk : Walk J n G Y) {g : TG} {tt : TT} {tk tv : TE} {vs : List Nat} {σ : L2.St} {Ha : Hp} {D : Addr} {Qd : Hp → Prop} (Pv : Nat → Hp → Prop) (h0 : Pv 0 (upd Ha D (DzO T.kind D []))) (hG : ∀ i H, i ≤ n → Pv i H → G H)
    (hs : ∀ i x Hb Hc, i < n → Pv i Hb → Y i Hb x Hc → g x (wipe σ vs) Hc fun σ2 Hd => wipe σ2 vs = wipe σ vs ∧ tt σ2 Hd fun yes He =>
      if yes = true then tk σ2 He fun y Hf => tv σ2 Hf fun z Hg => ∃ es k b, y = .ref b ∧ DZ T Hg D es ∧ T.cell Hg k b ∧ es.length < sizeLine ∧ Pv (i + 1) (upd Hg D (DzO T.kind D (putZ es k b z))) else Pv (i + 1) He) (hd : ∀ H, Pv n H → Qd H) :
    ∃ W : Nat → Nat → Hp → Prop, (∃ m, W 0 m (upd Ha D (DzO T.kind D []))) ∧ ∀ i m Hb, W i m Hb → (J.stop i Hb ∧ Qd Hb) ∨ (J.go i Hb ∧ ∃ Nx : Hp → Prop, (∀ Hc, Nx Hc → ∃ m', m' < m ∧ W (i + 1) m' Hc) ∧
      ∀ x Hc, J.yld i Hb x Hc → g x (wipe σ vs) Hc fun σ2 Hd => wipe σ2 vs = wipe σ vs ∧ tt σ2 Hd fun yes He =>
        if yes = true then tk σ2 He fun y Hf => tv σ2 Hf fun z Hg => ∃ es k b, y = .ref b ∧ DZ T Hg D es ∧ T.cell Hg k b ∧ es.length < sizeLine ∧ Nx (upd Hg D (DzO T.kind D (putZ es k b z))) else Nx He) := by
  refine ⟨fun i m H => m = n - i ∧ i ≤ n ∧ Pv i H, ⟨n, by simp, Nat.zero_le _, h0⟩, ?_⟩
  rintro i m H ⟨rfl, hi, p⟩
  have q := hG i H hi p
  by_cases lt : i < n
  · exact .inr ⟨wk.goes i H lt q, Pv (i + 1), fun H' p' => ⟨n - (i + 1), by omega, rfl, lt, p'⟩, fun x H' y => hs i x H H' lt p (wk.yields i H x H' lt q y)⟩
  · obtain rfl : i = n := by omega
    exact .inl ⟨wk.stops H q, hd H p⟩
end
/-! ### a dict of data -/
section
variable {P : Program} {w : World} {K : PySem.W.Frag} {κ : Type} [DecidableEq κ]
def lookD (m : List (κ × PyData)) (k : κ) : Option PyData := (m.find? fun p => decide (p.1 = k)).map (·.2)
def putD (m : List (κ × PyData)) (k : κ) (d : PyData) : List (κ × PyData) := if (lookD m k).isSome = true then m.map fun p => if p.1 = k then (p.1, d) else p else m ++ [(k, d)]
def DzD (T : TK P w K κ) (H : Hp) (a : Addr) (m : List (κ × PyData)) : Prop := ∃ es, DZ T H a es ∧ Paired (fun p q => p.1 = q.1 ∧ Dp K H p.2.2 q.2) es m
theorem sqL_upd {H : Hp} {a : Addr} {φ : Heap → Prop} {o : HO} (h : H a = some (.ext φ)) : ∀ b ys, SqL K H b ys → SqL K (upd H a o) b ys := fun b ys q => by
  rcases q with q | q
  · refine .inl ?_
    have hne : b ≠ a := fun z => by
      subst z
      rcases q with q | ⟨o', q⟩
      · rw [h] at q
        cases q
      · rw [h] at q
        cases q
    rcases q with q | ⟨o', q⟩
    · exact .inl (by rw [upd_ne hne]; exact q)
    · exact .inr ⟨o', by rw [upd_ne hne]; exact q⟩
  · exact .inr q
mutual
theorem dp_updX {H : Hp} {a : Addr} {φ : Heap → Prop} {o : HO} (hl : H a = some (.ext φ)) : ∀ {v : V} (d : PyData), Dp K H v d → Dp K (upd H a o) v d
  | _, .none, h => by cases h; exact .non
  | _, .bool _, h => by cases h; exact .bl _
  | _, .int _, h => by cases h; exact .int _
  | _, .str _, h => by cases h; exact .str _
  | _, .list ds, h => by
    cases h with
    | lst a b => exact .lst (sqL_upd hl _ _ a) (dpAll_updX hl ds b)
  | _, .tuple ds, h => by
    cases h with
    | tup a b => exact .tup (sqT_upd hl _ _ a) (dpAll_updX hl ds b)
  | _, .dict _, h => by cases h
theorem dpAll_updX {H : Hp} {a : Addr} {φ : Heap → Prop} {o : HO} (hl : H a = some (.ext φ)) : ∀ {vs : List V} (ds : List PyData), DpAll K H vs ds → DpAll K (upd H a o) vs ds
  | _, [], h => by cases h; exact .nil
  | _, d :: ds, h => by
    cases h with
    | cons a b => exact .cons (dp_updX hl d a) (dpAll_updX hl ds b)
end
variable {T : TK P w K κ}
theorem pzd_look {H : Hp} {es : List (κ × Addr × V)} {m : List (κ × PyData)} (r : Paired (fun p q => p.1 = q.1 ∧ Dp K H p.2.2 q.2) es m) (k : κ) :
    (∀ d, lookD m k = some d → ∃ v, valZ es k = some v ∧ Dp K H v d) ∧ (valZ es k).isSome = (lookD m k).isSome := by
  induction r with
  | nil => exact ⟨fun d h => (by cases h), rfl⟩
  | @cons p q ps qs h t ih =>
    obtain ⟨h1, h2⟩ := h
    by_cases e : p.1 = k
    · have e' : q.1 = k := h1.symm.trans e
      have c : valZ (p :: ps) k = some p.2.2 := by simp [valZ, List.find?_cons, e]
      have b : lookD (q :: qs) k = some q.2 := by simp [lookD, List.find?_cons, e']
      rw [b, c]
      exact ⟨fun d hd => ⟨_, rfl, by cases hd; exact h2⟩, rfl⟩
    · have e' : ¬ q.1 = k := fun z => e (h1.trans z)
      have c : valZ (p :: ps) k = valZ ps k := by simp [valZ, List.find?_cons, e]
      have b : lookD (q :: qs) k = lookD qs k := by simp [lookD, List.find?_cons, e']
      rw [b, c]
      exact ih
theorem pzd_put {H : Hp} {es : List (κ × Addr × V)} {m : List (κ × PyData)} (r : Paired (fun p q => p.1 = q.1 ∧ Dp K H p.2.2 q.2) es m) (k : κ) {b : Addr} {v : V} {d : PyData} (hv : Dp K H v d) :
    Paired (fun p q => p.1 = q.1 ∧ Dp K H p.2.2 q.2) (putZ es k b v) (putD m k d) := by
  have e := (pzd_look r k).2
  unfold putZ putD
  rw [e]
  by_cases q : (lookD m k).isSome = true
  · rw [if_pos q, if_pos q]
    clear e q
    induction r with
    | nil => exact .nil
    | @cons p q ps qs h t ih =>
      rw [List.map_cons, List.map_cons]
      refine .cons ?_ ih
      obtain ⟨h1, h2⟩ := h
      by_cases e : p.1 = k
      · rw [if_pos e, if_pos (h1.symm.trans e)]
        exact ⟨h1, hv⟩
      · rw [if_neg e, if_neg (fun z => e (h1.trans z))]
        exact ⟨h1, h2⟩
  · rw [if_neg q, if_neg q]
    exact Paired.snoc r ⟨rfl, hv⟩
theorem pzd_mono {H H' : Hp} {es : List (κ × Addr × V)} {m : List (κ × PyData)} (f : ∀ v d, Dp K H v d → Dp K H' v d) (r : Paired (fun p q => p.1 = q.1 ∧ Dp K H p.2.2 q.2) es m) : Paired (fun p q => p.1 = q.1 ∧ Dp K H' p.2.2 q.2) es m := by
  induction r with
  | nil => exact .nil
  | cons h t ih => exact .cons ⟨h.1, f _ _ h.2⟩ ih
theorem DzD.ex {H H' : Hp} {a : Addr} {m : List (κ × PyData)} (h : DzD T H a m) (e : Ex H H') : DzD T H' a m := by
  obtain ⟨es, h1, h2⟩ := h
  exact ⟨es, h1.ex e, pzd_mono (fun v d => dp_ex e d) h2⟩
theorem DzD.new {H : Hp} {a : Addr} : DzD T (upd H a (DzO T.kind a [])) a [] := ⟨[], DZ.new, .nil⟩
theorem DzD.len {H : Hp} {m : List (κ × PyData)} {es : List (κ × Addr × V)} (h : Paired (fun p q => p.1 = q.1 ∧ Dp K H p.2.2 q.2) es m) : es.length = m.length := Paired.length h
theorem lookD_put {m : List (κ × PyData)} {k k' : κ} {d : PyData} : lookD (putD m k d) k' = if k' = k then some d else lookD m k' := by
  have e1 : ∀ m : List (κ × PyData), lookD m k' = (valZ (m.map fun p => (p.1, 0, V.non)) k').bind fun _ => lookD m k' := fun m => by
    induction m with
    | nil => rfl
    | cons p m ih =>
      by_cases e : p.1 = k'
      · simp [lookD, valZ, List.find?_cons, e]
      · have a : lookD (p :: m) k' = lookD m k' := by simp [lookD, List.find?_cons, e]
        have b : valZ ((p :: m).map fun p => (p.1, 0, V.non)) k' = valZ (m.map fun p => (p.1, 0, V.non)) k' := by simp [valZ, List.find?_cons, e]
        rw [a, b]
        exact ih
  have a1 : ∀ (p : κ × PyData) (m : List (κ × PyData)), lookD (p :: m) k' = if p.1 = k' then some p.2 else lookD m k' := fun p m => by
    by_cases e : p.1 = k' <;> simp [lookD, List.find?_cons, e]
  have a2 : ∀ (m : List (κ × PyData)), (lookD m k).isSome = true → lookD (m.map fun p => if p.1 = k then (p.1, d) else p) k' = if k' = k then some d else lookD m k' := fun m => by
    induction m with
    | nil => intro h; cases h
    | cons p m ih =>
      intro h
      rw [List.map_cons, a1, a1]
      by_cases e : p.1 = k
      · rw [if_pos e]
        show (if p.1 = k' then some d else _) = _
        by_cases e2 : k' = k
        · rw [if_pos (e.trans e2.symm), if_pos e2]
        · rw [if_neg (fun z => e2 (z.symm.trans e)), if_neg e2, if_neg (fun z => e2 (z.symm.trans e))]
          clear ih h
          induction m with
          | nil => rfl
          | cons q m ih =>
            rw [List.map_cons, a1, a1]
            by_cases e3 : q.1 = k
            · rw [if_pos e3]
              show (if q.1 = k' then some d else _) = _
              rw [if_neg (fun z => e2 (z.symm.trans e3)), if_neg (fun z => e2 (z.symm.trans e3))]
              exact ih
            · rw [if_neg e3, ih]
      · rw [if_neg e]
        have h' : (lookD m k).isSome = true := by
          have : lookD (p :: m) k = lookD m k := by simp [lookD, List.find?_cons, e]
          rw [← this]
          exact h
        rw [ih h']
        by_cases e2 : k' = k
        · rw [if_pos e2, if_pos e2, if_neg (fun z => e (z.trans e2))]
        · rw [if_neg e2, if_neg e2]
  unfold putD
  by_cases q : (lookD m k).isSome = true
  · rw [if_pos q, a2 m q]
  · rw [if_neg q]
    clear a2 e1
    induction m with
    | nil =>
      rw [List.nil_append, a1]
      by_cases e : k' = k
      · rw [if_pos e, if_pos e.symm]
      · rw [if_neg e, if_neg (Ne.symm e)]
    | cons p m ih =>
      have hp : ¬ p.1 = k := fun e => q (by simp [lookD, List.find?_cons, e])
      have q' : ¬ (lookD m k).isSome = true := by
        have : lookD (p :: m) k = lookD m k := by simp [lookD, List.find?_cons, hp]
        rw [← this]
        exact q
      rw [List.cons_append, a1, a1, ih q']
      by_cases e : k' = k
      · rw [if_pos e, if_pos e, if_neg (fun z => hp (z.trans e))]
      · rw [if_neg e, if_neg e]
theorem len_putD (m : List (κ × PyData)) (k : κ) (d : PyData) : (putD m k d).length ≤ m.length + 1 := by
  unfold putD
  split
  · rw [List.length_map]
    omega
  · rw [List.length_append]
    exact Nat.le_refl _
/-- a cell that is a key -/
def EvC (T : TK P w K κ) (te : TE) (σ : L2.St) (H : Hp) (k : κ) : Prop := ∀ H1, Ex H H1 → ∀ Q : VK, (∀ b H2, Ex H1 H2 → T.cell H2 k b → Q (.ref b) H2) → te σ H1 Q
theorem ec_row {te : TE} {σ : L2.St} {H : Hp} {r : List Int} (h : EvD K te σ H (tupI r)) : EvC (rowTK P w K) te σ H (keyI r) := fun H1 e Q q => h H1 e _ fun v H2 e2 hv => by
  obtain ⟨a, xs, rfl, hs, hd⟩ := dp_tup hv
  rw [ints_of hd] at hs
  refine q a H2 e2 ?_
  show SqT K H2 a ((keyI r).map kV)
  rw [keyI_kV]
  exact hs
variable {σ : L2.St} {H : Hp} {td ty tv tx : TE} {D : Ends} {tz : TS} {a : Addr} {m : List (κ × PyData)} {k : κ} {d : PyData}
theorem q_dznew {i : Nat} (c : ∀ p H1, H p = none → Ex H H1 → DzD T H1 p [] → tz D (σ.set i (some (.ref p))) H1) : tSeq (tAsg (tDzNew T) (gName i)) tz D σ H := fun p hp => c p _ hp (Ex.new hp) DzD.new
theorem s_dzput (hv : EvD K tv σ H d) (hd : Ev td σ H (.ref a)) (hk : EvC T ty σ H k) (h : DzD T H a m) (hz : m.length < 100000)
    (c : ∀ H1 o, Ex H H1 → DzD T (upd H1 a o) a (putD m k d) → D.nx σ (upd H1 a o)) : sDzPut T td ty tv D σ H :=
  hv H (Ex.refl H) _ fun v H1 e1 hvd => hd H1 e1 _ fun H2 e2 => hk H2 (e1.trans e2) _ fun b H3 e3 hb => by
    obtain ⟨es, h1, h2⟩ := h.ex ((e1.trans e2).trans e3)
    have hl := DzD.len h2
    have hput := h1.put (v := v) hb (sz_lt (by omega))
    refine ⟨a, es, k, b, rfl, h1, rfl, hb, sz_lt (by omega), c H3 _ ((e1.trans e2).trans e3) ⟨_, hput, pzd_mono (fun v d => dp_updX h1.at_ d) (pzd_put h2 k (dp_ex (e2.trans e3) _ hvd))⟩⟩
theorem ed_dzget (hd : Ev td σ H (.ref a)) (hk : EvC T ty σ H k) (h : DzD T H a m) (hx : lookD m k = some d) : EvD K (tDzGet T td ty) σ H d := fun H1 e Q q =>
  hd H1 e _ fun H2 e2 => hk H2 (e.trans e2) _ fun b H3 e3 hb => by
    obtain ⟨es, h1, h2⟩ := h.ex ((e.trans e2).trans e3)
    obtain ⟨v, hv, hvd⟩ := (pzd_look h2 k).1 d hx
    exact ⟨a, es, k, b, v, rfl, h1, rfl, hb, hv, q v H3 (e2.trans e3) hvd⟩
theorem ev_dzin {ng : Bool} (hd : Ev td σ H (.ref a)) (hk : EvC T ty σ H k) (h : DzD T H a m) : Ev (tDzIn T ng ty td) σ H (.bl ((lookD m k).isSome != ng)) := fun H1 e Q q =>
  hk H1 e _ fun b H2 e2 hb => hd H2 (e.trans e2) _ fun H3 e3 => by
    obtain ⟨es, h1, h2⟩ := h.ex ((e.trans e2).trans e3)
    refine ⟨a, es, k, b, rfl, h1, rfl, T.mono (fun c ys q => ex_t e3 q) hb, ?_⟩
    rw [(pzd_look h2 k).2]
    exact q H3 (e2.trans e3)
theorem ed_dzget2 {d0 : PyData} (hd : Ev td σ H (.ref a)) (hk : EvC T ty σ H k) (hx : EvD K tx σ H d0) (h : DzD T H a m) : EvD K (tDzGet2 T td ty tx) σ H ((lookD m k).getD d0) := fun H1 e Q q =>
  hd H1 e _ fun H2 e2 => by
    obtain ⟨es0, h0, _⟩ := h.ex (e.trans e2)
    refine ⟨a, rfl, ⟨es0, h0⟩, hk H2 (e.trans e2) _ fun b H3 e3 hb => hx H3 ((e.trans e2).trans e3) _ fun z H4 e4 hz => ?_⟩
    obtain ⟨es, h1, h2⟩ := h.ex (((e.trans e2).trans e3).trans e4)
    refine ⟨es, k, b, h1, rfl, T.mono (fun c ys q => ex_t e4 q) hb, q _ H4 ((e2.trans e3).trans e4) ?_⟩
    cases ev : lookD m k with
    | none =>
      have := (pzd_look h2 k).2
      rw [ev] at this
      cases e5 : valZ es k with
      | none => exact hz
      | some v => rw [e5] at this; cases this
    | some d =>
      obtain ⟨v, hv, hvd⟩ := (pzd_look h2 k).1 d ev
      rw [hv]
      exact hvd
end
end WR
set_option Elab.async false
set_option linter.all false
set_option maxRecDepth 100000
set_option maxHeartbeats 1000000
namespace WR
open PySem PySem.Spec PyProof.Rows L2 Evl

/-! ### list(d.items()), the keys of d tuples of any make -/
section
variable {P : Program} {w : World} {K : PySem.W.Frag} {κ : Type} [DecidableEq κ] (T : TK P w K κ)
def tDzItems (td : TE) : TE := fun σ H Q => td σ H fun x H1 => ∃ a es, x = .ref a ∧ DZ T H1 a es ∧
  ∀ (H' : Hp) (p : Addr) (ts : List Addr), Ex H1 H' → H1 p = none → H' p = some (.lst (ts.map V.ref)) → Paired (fun (t : Addr) (q : κ × Addr × V) => H' t = some (.tup [.ref q.2.1, q.2.2])) ts es → Q (.ref p) H'
end
theorem prd_of {α β : Type} {F : α → β → Prop} : ∀ {xs : List α} {ys : List β}, xs.length = ys.length → (∀ (j : Nat) x y, xs[j]? = some x → ys[j]? = some y → F x y) → Paired F xs ys
  | [], [], _, _ => .nil
  | [], _ :: _, h, _ => by cases h
  | _ :: _, [], h, _ => by cases h
  | x :: xs, y :: ys, h, f => .cons (f 0 x y rfl rfl) (prd_of (Nat.succ.inj h) fun j a b h1 h2 => f (j + 1) a b h1 h2)
section
variable {X : Cx} {κ : Type} [DecidableEq κ] (T : TK X.prog X.w X.K κ) {ob : Expr} {p ap cp pos : Pos} {td : TE}
theorem pe_dzItems (hc : X.calm = true) (ho : PE X ob td) (hg : Gl X "list") (hm : X.mg "list" = none) (hv : bootBuiltins "list" = some (.type "list")) (hbase : attributeBase ob "items" X.env (eval ob X.env) = eval ob X.env := by rfl) (hline : (ap.endLine == cp.line) = true := by rfl) (hs : starEach [.Call (.Attribute ob "items" ap) [] [] cp] X.env = (false, eval (.Call (.Attribute ob "items" ap) [] [] cp) X.env) :: starEach [] X.env := by rfl) :
    PE X (.Call (.Name "list" p) [.Call (.Attribute ob "items" ap) [] [] cp] [] pos) (tDzItems T td) := by
  refine ⟨fun pins s σ H Q I hq => wpAny_Call_Name_kw (ld_blt I hg hm hv (PyProof.Rows.callWith_type1 ?_ hs rfl))⟩
  rw [hs]
  show wpAny _ _ (spliced ((false, eval (.Call (.Attribute ob "items" ap) [] [] cp) X.env) :: backTo pos (starEach [] X.env))) _ _ s
  refine Calls.spliced_cons (wpAny_Call_method (T := "dict") (id := "dict.items") hbase rfl hline F.plainAttrs_dict F.slot_dict_items F.type_dict_items (thn (ho.run pins s σ H _ I hq) fun u s1 hyp => ?_))
  obtain ⟨x, H1, I1, rx, d, es, ex, hd, q⟩ := hyp
  subst ex
  obtain rfl : u = Value.ref d := rx
  obtain ⟨hs0, xs, zr, hdo⟩ := dz_of I1 hd
  obtain ⟨ents, ep, raw, hsz, hen⟩ := hdo.raw
  have lk : es.length = xs.length := Paired.length zr
  have hz := hd.len
  have I2 : Inv X pins σ H1 { s1 with heap := s1.heap.push { cls := .type "dict_items", data := .fields #[.ref d] } } := I1.kept (t' := s1.toks) fun b ob q => Heap.get?_push_of_some _ q
  refine ⟨hdo.typeIs, dictOfH_noDict hdo, ?_⟩
  show wpAny _ _ (callWith cp (.builtin "dict.items") [.ref d] [] []) _ X.xe s1
  refine method_meetsIn F.slot_dict_items F.entry_dict_items rfl (PySem.evalArgs_none ⟨rfl, hdo.typeIs, F.args_dict_items_1 _, _, PySem.meets_dict_items_raw (prog := X.prog) (w := X.w) d hs0, ⟨ents, ep, raw⟩, ?_⟩)
  refine Calls.spliced_nil (PySem.W.dil_call (es := ents) (ep := ep) (I1.ok.hd hc) ⟨_, Heap.get?_push_size _ rfl, rfl, rfl⟩ (raw.push _) (by omega) fun h' tk acc c as hk hS hl hG hacc => ?_)
  have nd : as.Nodup := List.Pairwise.imp (fun {a b} (h : a < b) => Nat.ne_of_lt h) hG.rise
  have newS : H1 (s1.heap.push { cls := .type "dict_items", data := .fields #[.ref d] }).objs.size = none := I2.hok.fresh (Nat.le_refl _)
  have I3 : Inv X pins σ H1 { s1 with heap := h', toks := tk } := I2.kept (t' := tk) hk
  have I4 := I3.take (h' := h') (t' := tk) (fun b ob _ e => e) (I2.fpOk (Nat.le_refl _) newS) (show ObjOk X.prog X.w _ h' _ (.lst (as.map V.ref)) from ⟨by rw [List.length_map]; omega, acc.toList, c, by rw [hacc]; exact LiI.vals_refs as, by rw [Array.toArray_toList]; exact hS⟩)
  obtain ⟨H2, I5, g, qt⟩ := L2.DX.takeT (P := fun b vs => ∃ (j : Nat) (z : κ × Addr × V), as[j]? = some b ∧ es[j]? = some z ∧ vs = [.ref z.2.1, z.2.2]) I2 as _ I4 nd fun b hb => by
    obtain ⟨j, hj⟩ := List.mem_iff_getElem?.mp hb
    obtain ⟨hj2, hat⟩ := hG.pairs j b hj
    obtain ⟨y, hy, e1, e2, _⟩ := hen j hj2
    obtain ⟨z, hzj, r1, r2, r3⟩ := L2.DX.pget zr hy
    rw [e1, e2] at hat
    refine ⟨Nat.le_of_lt (hG.above b hb), ?_, [.ref z.2.1, z.2.2], ⟨j, z, hj, hzj, rfl⟩, fun H3 => ⟨(by rw [sizeLine_eq]; show 2 ≤ 16777216; omega), [Value.ref y.2.1, y.2.2], .cons (show Value.ref y.2.1 = Value.ref z.2.1 by rw [r2]) (.cons r3 .nil), ⟨_, hat, rfl, 0, rfl⟩⟩⟩
    rw [upd_ne (Nat.ne_of_gt (hG.above b hb))]
    exact I2.hok.fresh (Nat.le_of_lt (hG.above b hb))
  refine ⟨.ref _, H2, I5, rfl, q H2 _ as (fun b o e => g b o (by rw [upd_ne (fun z => by rw [z, newS] at e; cases e)]; exact e)) newS (g _ _ upd_same) (prd_of (by omega) fun j t z h1 h2 => ?_)⟩
  obtain ⟨vs, ⟨j', z', j1, j2, ev⟩, hH⟩ := qt t (List.mem_of_getElem? h1)
  have eij : j = j' := (List.getElem?_inj (List.getElem?_eq_some_iff.mp h1).1 nd).mp (h1.trans j1.symm)
  subst eij
  have ee := Option.some.inj (j2.symm.trans h2)
  rw [ev, ee] at hH
  exact hH
end
section
variable {P : Program} {w : World} {K : PySem.W.Frag} {H H' : Hp} {α : Type} {kf : α → List Int} {vf : α → PyData}
theorem dz_items_dp (e3 : Ex H H') : ∀ {ts : List Addr} {es : List (List L2.Key × Addr × V)} {ks : List α}, Paired (fun (t : Addr) (q : List L2.Key × Addr × V) => H' t = some (.tup [.ref q.2.1, q.2.2])) ts es →
    Paired (fun p q => p.1 = q.1 ∧ Dp K H p.2.2 q.2) es (ks.map fun k => (keyI (kf k), vf k)) → (∀ p ∈ es, (rowTK P w K).cell H p.1 p.2.1) → DpAll K H' (ts.map V.ref) (ks.map fun k => PyData.tuple [tupI (kf k), vf k])
  | [], [], [], _, _, _ => .nil
  | [], [], _ :: _, _, h, _ => by cases h
  | [], _ :: _, _, h, _, _ => by cases h
  | _ :: _, [], _, h, _, _ => by cases h
  | _ :: _, _ :: _, [], _, h, _ => by cases h
  | t :: ts, z :: es, k :: ks, h1, h2, hc => by
    cases h1 with
    | cons a1 a2 =>
      cases h2 with
      | cons b1 b2 =>
        obtain ⟨bk, bv⟩ := b1
        have c := hc z (List.mem_cons_self ..)
        rw [bk] at c
        have c : SqT K H z.2.1 ((keyI (kf k)).map kV) := c
        rw [keyI_kV] at c
        exact .cons (.tup (st_of a1) (.cons (.tup (ex_t e3 c) (dpAll_ints _)) (.cons (dp_ex e3 _ bv) .nil))) (dz_items_dp e3 a2 b2 fun p hp => hc p (List.mem_cons_of_mem _ hp))
theorem en_dzItems {σ : L2.St} {td : TE} {a : Addr} {ks : List α} (hd : Ev td σ H (.ref a)) (h : DzD (rowTK P w K) H a (ks.map fun k => (keyI (kf k), vf k))) : EvN K (tDzItems (rowTK P w K) td) σ H (ks.map fun k => .tuple [tupI (kf k), vf k]) := fun H1 e Q q =>
  hd H1 e _ fun H2 e2 => by
    obtain ⟨es, h1, h2⟩ := h.ex (e.trans e2)
    exact ⟨a, es, rfl, h1, fun H' p ts e3 hp hL hpr => q p _ H' (fresh_back e2 hp) (e2.trans e3) hL (dz_items_dp e3 hpr h2 h1.cells)⟩
end
end WR
set_option Elab.async false
set_option linter.all false
set_option maxRecDepth 100000
set_option maxHeartbeats 1000000
namespace WR
open PySem PySem.Spec PyProof.Rows L2 Evl

/-! ### dicts with tuple keys that are locked for good: read, walked, never written -/
section
variable {P : Program} {w : World} {K : PySem.W.Frag} {κ : Type} [DecidableEq κ] (T : TK P w K κ)
structure DF (H : Hp) (a : Addr) (es : List (κ × Addr × V)) : Prop where
  at_ : ∃ o, H a = some (.frz o (DzO T.kind a es))
  cells : ∀ p ∈ es, T.cell H p.1 p.2.1
  len : es.length ≤ sizeLine
variable {T}
theorem DF.ex {H H' : Hp} {a : Addr} {es : List (κ × Addr × V)} (h : DF T H a es) (e : Ex H H') : DF T H' a es := by
  obtain ⟨o, ho⟩ := h.at_
  exact ⟨⟨o, e _ _ ho⟩, fun p hp => T.mono (fun b ys q => ex_t e q) (h.cells p hp), h.len⟩
/-- what is locked -/
theorem DZ.frz {H : Hp} {a : Addr} {es : List (κ × Addr × V)} (h : DZ T H a es) (o : Obj) : DF T (upd H a (.frz o (DzO T.kind a es))) a es :=
  ⟨⟨o, upd_same⟩, fun p hp => T.mono (sqT_upd h.at_) (h.cells p hp), h.len⟩
end
section
variable {X : Cx} {κ : Type} [DecidableEq κ] {T : TK X.prog X.w X.K κ} {pins : List (Addr × Obj)} {σ : L2.St} {H : Hp} {s : Shared} {a b : Addr} {es : List (κ × Addr × V)} {k : κ}
theorem zr_cells {H : Hp} {h : Heap} (hok : HOk X.prog X.w H h) (kin : X.K.In h) : ∀ {l : List (κ × Addr × V)} {m : List (κ × Addr × Value)}, ZR l m → (∀ p ∈ l, T.cell H p.1 p.2.1) → ∀ x ∈ m, T.kind.is h x.1 x.2.1 := by
  intro l m q
  induction q with
  | nil => intro _ x hx; exact nomatch hx
  | @cons p q ps qs hq t ih =>
    intro hc x hx
    rcases List.mem_cons.mp hx with e | hx
    · subst e
      have := T.ok hok kin (hc p (List.mem_cons_self ..))
      rw [hq.1, hq.2.1] at this
      exact this
    · exact ih (fun p hp => hc p (List.mem_cons_of_mem _ hp)) x hx
theorem df_of (I : Inv X pins σ H s) (h : DF T H a es) : (a == sysModules) = false ∧ ∃ xs, ZR es xs ∧ s.heap.DictOfH T.kind a xs := by
  obtain ⟨o', ho'⟩ := h.at_
  obtain ⟨_, ⟨o, xs, ents, ep, h1, h2, h3, h4, h5, h6, h7⟩, _, _⟩ := (show ObjOk X.prog X.w H s.heap a (.frz o' (DzO T.kind a es)) from I.hok a _ ho')
  exact ⟨h7, xs, h6, o, ents, ep, h1, h2, h3, h4, zr_cells I.hok I.kIn h6 h.cells, h5⟩
theorem df_at {o' : Obj} (I : Inv X pins σ H s) (h : H a = some (.frz o' (DzO T.kind a es))) : (a == sysModules) = false ∧ s.heap.get? a = some o' ∧ o'.ExactDict ∧ ∃ (ents : Array DictEntry) (ep : Nat), o'.data = .dict ents ep ∧ ents.size = es.length ∧
    ∀ (i : Nat) (p : κ × Addr × V), es[i]? = some p → ∃ en : DictEntry, ents[i]? = some en ∧ en.key = .ref p.2.1 := by
  obtain ⟨hg, ⟨o, xs, ents, ep, h1, h2, h3, h4, h5, h6, h7⟩, _, _⟩ := (show ObjOk X.prog X.w H s.heap a (.frz o' (DzO T.kind a es)) from I.hok a _ h)
  rw [hg] at h1
  cases h1
  refine ⟨h7, hg, h2, ents, ep, h3, ?_, fun i p e => ?_⟩
  · have l1 : ents.size = xs.length := size_of_entries h4
    have l2 : es.length = xs.length := Paired.length h6
    omega
  · obtain ⟨b, hb, e1, e2, _⟩ := paired_get h6 e
    have q := entry_at h4 i
    rw [hb] at q
    refine ⟨_, q, ?_⟩
    show Value.ref b.2.1 = _
    rw [e2]
end
/-! locking for good -/
/-- what is made is locked -/
def tFrz (t : TE) : TE := fun σ H Q => t σ H fun v H' => ∃ d u, v = .ref d ∧ H' d = some u ∧ Mut (some u) ∧ ∀ od, Q v (upd H' d (.frz od u))
theorem pe_frz {X : Cx} {e : Expr} {t : TE} (h : PE X e t) : PE X e (tFrz t) := by
  refine ⟨fun pins s σ H Q I hw => ?_⟩
  refine thn (h.run pins s σ H _ I hw) fun v s1 ⟨x, H1, I1, r, d, u, ex, hd, mu, q⟩ => ?_
  obtain ⟨od, I2⟩ := I1.lock hd mu
  exact ⟨x, _, I2, r, q od⟩
/-! the keys of a locked dict, in their order -/
def Itz {P : Program} {w : World} {κ : Type} [DecidableEq κ] (kd : HeapKind P w κ) (d : Addr) (o : Obj) (es : List (κ × Addr × V)) : It :=
  ⟨fun i H => H d = some (.frz o (DzO kd d es)) ∧ i < es.length, fun i H x H' => H' = H ∧ ∃ p, es[i]? = some p ∧ x = .ref p.2.1, fun i H => H d = some (.frz o (DzO kd d es)) ∧ es.length ≤ i⟩
theorem turn_keysZ {X0 : Cx} {κ : Type} [DecidableEq κ] (T : TK X0.prog X0.w X0.K κ) {tg : Expr} {d : Addr} {o : Obj} {es : List (κ × Addr × V)} {ents : Array DictEntry} {ep : Nat} (it : Addr) (hod : o.data = .dict ents ep) :
    Turn X0.prog X0.w X0.K tg (Itz T.kind d o es) [it] it (fun i h => h.IsKeyIter it d i es.length ep) where
  mem := by simp
  obj := fun i h st b hb => by
    have e : b = it := by simpa using hb
    subst e
    obtain ⟨oi, e, c, dd⟩ := st
    exact ⟨oi, e, fun v z => by rw [dd] at z; cases z⟩
  keep := fun i h h' st k => st.at fun oi e => k it (by simp) oi e
  item := by
    intro X hP hw hK hc i pins s σ H E I hf st hg
    obtain ⟨prog, w0, K0⟩ := X0
    cases hP
    cases hw
    cases hK
    obtain ⟨hd, hi⟩ := hg
    obtain ⟨f0, f1, f2, f3, f4, f5⟩ := hf it (by simp)
    obtain ⟨hs, hgd, hx, es', ep', hdt, hsz, ent⟩ := df_at (X := X) (T := T) I hd
    obtain ⟨rfl, rfl⟩ := dict_ep hod hdt
    obtain ⟨p, hp⟩ : ∃ p, es[i]? = some p := ⟨es[i], List.getElem?_eq_getElem hi⟩
    obtain ⟨en, hen, hkey⟩ := ent i p hp
    refine next_key_item st hgd hdt hsz hen fun h' st' sb => ?_
    have I1 : Inv X pins σ H { s with heap := h' } := I.turned (t' := s.toks) (fun b ob hb e => (sb.2 b hb).trans e) f0 f1 f3 f4 f5
    obtain ⟨oi, e, c, dd⟩ := id st'
    exact ⟨en.key, rfl, go_of (s := { s with heap := h' }) e c dd (by decide) ⟨.ref p.2.1, H, I1, hkey, ⟨rfl, p, hp, rfl⟩, st', fun b hb => (hf b hb).1⟩⟩
  done := by
    intro X hP hw hK hc i pins s σ H E I hf st hg
    obtain ⟨prog, w0, K0⟩ := X0
    cases hP
    cases hw
    cases hK
    obtain ⟨hd, hi⟩ := hg
    obtain ⟨f0, f1, f2, f3, f4, f5⟩ := hf it (by simp)
    obtain ⟨hs, hgd, hx, es', ep', hdt, hsz, ent⟩ := df_at (X := X) (T := T) I hd
    obtain ⟨rfl, rfl⟩ := dict_ep hod hdt
    exact next_key_end (I.ok.hd hc) st hgd hdt hsz hi fun h' eb => ⟨rfl, I.turned (t' := s.toks) (fun b ob hb e => eb b ob hb e) f0 f1 f3 f4 f5⟩
  self := fun A i s Q E st h => by
    refine wpAny_pyIter_slot st.typeIs PySem.F.slot_dict_keyiterator_iter (wpAny_call_entry PySem.F.slot_dict_keyiterator_iter st.typeIs PySem.F.entry_dict_keyiterator_iter ?_ (PySem.F.args_dict_keyiterator_iter_1 _))
    show wpAny _ _ (ret (.ref it)) _ _ s
    exact wpAny_pure ⟨_, rfl, "dict_keyiterator", _, st.typeIs, PySem.F.slot_dict_keyiterator_next.lookup, h⟩
section
variable {P : Program} {w : World} {K : PySem.W.Frag} {κ : Type} [DecidableEq κ] (T : TK P w K κ)
def iKeysZ (td : TE) : TI := fun σ H R => td σ H fun x H1 => ∃ d o es, x = .ref d ∧ H1 d = some (.frz o (DzO T.kind d es)) ∧ R (Itz T.kind d o es) H1
end
section
variable {X : Cx} {κ : Type} [DecidableEq κ] (T : TK X.prog X.w X.K κ) {tg e : Expr} {td : TE}
theorem pi_keysZ (he : PE X e td) : PI X tg e (iKeysZ T td) := by
  refine ⟨fun pins s σ H R I h => ?_⟩
  refine thn (he.run pins s σ H _ I h) fun u s1 ⟨x, H1, I1, rx, d, o, es, ex, hd, q⟩ => ?_
  subst ex
  obtain rfl : u = Value.ref d := rx
  obtain ⟨hs, hgd, hx, ents, ep, hdt, hsz, ent⟩ := df_at (X := X) (T := T) I1 hd
  refine iter_keys hs hgd hx hdt (pi_one (tk := s1.toks) I1 _ (turn_keysZ T _ hdt) ⟨_, Heap.get?_push_size _ rfl, rfl, ?_⟩ q)
  rw [hsz] <;> rfl
end
/-! the rules of reading -/
section
variable {P : Program} {w : World} {K : PySem.W.Frag} {κ : Type} [DecidableEq κ] (T : TK P w K κ)
def tDfGet (td ty : TE) : TE := fun σ H Q => td σ H fun x H1 => ty σ H1 fun y H2 => ∃ a es k b v, x = .ref a ∧ DF T H2 a es ∧ y = .ref b ∧ T.cell H2 k b ∧ valZ es k = some v ∧ Q v H2
def tDfIn (ng : Bool) (ty td : TE) : TE := fun σ H Q => ty σ H fun y H1 => td σ H1 fun x H2 => ∃ a es k b, x = .ref a ∧ DF T H2 a es ∧ y = .ref b ∧ T.cell H2 k b ∧ Q (.bl ((valZ es k).isSome != ng)) H2
/-- d.get(k, x) -/
def tDfGet2 (td ty tx : TE) : TE := fun σ H Q => td σ H fun x H1 => ∃ a, x = .ref a ∧ (∃ es, DF T H1 a es) ∧ ty σ H1 fun y H2 => tx σ H2 fun z H3 => ∃ es k b, DF T H3 a es ∧ y = .ref b ∧ T.cell H3 k b ∧ Q ((valZ es k).getD z) H3
end
section
variable {X : Cx} {κ : Type} [DecidableEq κ] (T : TK X.prog X.w X.K κ) {o i e f value : Expr} {pos pos' tpos apos cpos : Pos} {td ty tv tx : TE}
theorem pe_dfget (hu : X.A.units + 1 + T.sl < cLine) (ho : PE X o td) (hi : PE X i ty) (hs : NoSl i := by exact fun _ _ => rfl) : PE X (.Subscript o i pos) (tDfGet T td ty) := by
  refine ⟨fun pins s σ H Q I h => ?_⟩
  refine subD_of PySem.F.slot_dict_getitem.lookup hs (thn (ho.run pins s σ H _ I h) fun u s1 ⟨x, H1, I1, rx, q1⟩ => thn (hi.run pins s1 σ H1 _ I1 q1) fun iv s2 ⟨y, H2, I2, ry, a, es, k, b, v, ex, hz, ey, hb, hv, q2⟩ => ?_)
  subst ex ey
  obtain rfl : u = Value.ref a := rx
  obtain rfl : iv = Value.ref b := ry
  obtain ⟨hd, xs, rel, dd⟩ := df_of I2 hz
  obtain ⟨w', hw, rw'⟩ := RelO.some_of (v := v) (o := (atKey xs k).map (·.2)) (by rw [← hv]; exact rel.val k)
  obtain ⟨p, hp, hp2⟩ := Option.map_eq_some_iff.mp hw
  refine ⟨dd.typeIs, wpAny_getItem_heap (T.room _ hu) (T.ok I2.hok I2.kIn hb) dd hp ?_⟩
  rw [hp2]
  exact ⟨v, H2, I2.tok _, rw', q2⟩
theorem pc_dfin (hu : X.A.units + 1 + T.sl < cLine) (hi : PE X i ty) (ho : PE X o td) : PC X .In i o (tDfIn T false ty td) := by
  refine ⟨fun pins s σ H Q I h => ?_⟩
  refine thn (hi.run pins s σ H _ I h) fun iv s1 ⟨y, H1, I1, ry, q1⟩ => thn (ho.run pins s1 σ H1 _ I1 q1) fun u s2 ⟨x, H2, I2, rx, a, es, k, b, ex, hz, ey, hb, q2⟩ => ?_
  subst ex ey
  obtain rfl : u = Value.ref a := rx
  obtain rfl : iv = Value.ref b := ry
  obtain ⟨hd, xs, rel, dd⟩ := df_of I2 hz
  refine wpAny_in_heap (T.room _ hu) (T.ok I2.hok I2.kIn hb) hd dd ?_
  have q := (rel.val k).isSome_eq
  rw [Option.isSome_map] at q
  refine ⟨_, H2, I2.tok _, ?_, q2⟩
  show _ = _
  rw [← q]
  cases (valZ es k).isSome <;> rfl
theorem pc_dfnotin (hu : X.A.units + 1 + T.sl < cLine) (hi : PE X i ty) (ho : PE X o td) : PC X .NotIn i o (tDfIn T true ty td) := by
  refine ⟨fun pins s σ H Q I h => ?_⟩
  refine thn (hi.run pins s σ H _ I h) fun iv s1 ⟨y, H1, I1, ry, q1⟩ => thn (ho.run pins s1 σ H1 _ I1 q1) fun u s2 ⟨x, H2, I2, rx, a, es, k, b, ex, hz, ey, hb, q2⟩ => ?_
  subst ex ey
  obtain rfl : u = Value.ref a := rx
  obtain rfl : iv = Value.ref b := ry
  obtain ⟨hd, xs, rel, dd⟩ := df_of I2 hz
  refine wpAny_notIn_heap (T.room _ hu) (T.ok I2.hok I2.kIn hb) hd dd ?_
  have q := (rel.val k).isSome_eq
  rw [Option.isSome_map] at q
  refine ⟨_, H2, I2.tok _, ?_, q2⟩
  show _ = _
  rw [← q]
  cases (valZ es k).isSome <;> rfl
theorem pe_dfget2 (hu : X.A.units + 1 + T.sl < cLine) (ho : PE X o td) (he : PE X e ty) (hf : PE X f tx) (m : M2 X o "get" apos e f cpos) : PE X (.Call (.Attribute o "get" apos) [e, f] [] cpos) (tDfGet2 T td ty tx) := by
  refine ⟨fun pins s σ H Q I h => wpAny_Call_method m.base m.few m.line PySem.F.plainAttrs_dict PySem.F.slot_dict_get PySem.F.type_dict_get (thn (ho.run pins s σ H _ I h) ?_)⟩
  rintro u s1 ⟨x, H1, I1, rx, a, rfl, ⟨es0, hz0⟩, q1⟩
  obtain rfl : u = Value.ref a := rx
  obtain ⟨hd, xs0, rel0, dd0⟩ := df_of I1 hz0
  obtain ⟨o0, ents0, ep0, ho0, hex0, hrest0⟩ := dd0
  refine ⟨⟨o0, ho0, hex0.1⟩, fun a' e' => (by cases e'; exact ⟨o0, ho0, hex0.2.1⟩), ?_⟩
  rw [m.trees]
  refine Calls.callWith_builtin rfl (Calls.evalArgs_plain (Calls.spliced_cons (thn (he.run pins s1 σ H1 _ I1 q1) ?_)))
  rintro iv s2 ⟨y, H2, I2, ry, q2⟩
  refine Calls.spliced_cons (thn (hf.run pins s2 σ H2 _ I2 q2) ?_)
  rintro fv s3 ⟨z, H3, I3, rz, es, k, b, hz, rfl, hb, q3⟩
  refine Calls.spliced_nil ?_
  obtain rfl : iv = Value.ref b := ry
  obtain ⟨_, xs, rel, dd⟩ := df_of I3 hz
  refine call_meetsIn PySem.F.slot_dict_get dd.typeIs PySem.F.entry_dict_get (PySem.F.args_dict_get_3 _ _ _) (meetsH_dict_get_default T.kind a b hd fv) ⟨T.room _ hu, k, xs, T.ok I3.hok I3.kIn hb, dd, ?_⟩
  refine ⟨(valZ es k).getD z, H3, I3.tok _, ?_, q3⟩
  have := rel.val k
  cases e1 : valZ es k with
  | none =>
    rw [e1] at this
    cases e2 : (atKey xs k).map (·.2) with
    | none => exact rz
    | some u => rw [e2] at this; exact this.elim
  | some v =>
    rw [e1] at this
    cases e2 : (atKey xs k).map (·.2) with
    | none => rw [e2] at this; exact this.elim
    | some u => rw [e2] at this; exact this
end
/-! as data -/
section
variable {P : Program} {w : World} {K : PySem.W.Frag} {κ : Type} [DecidableEq κ] {T : TK P w K κ}
def DfD (T : TK P w K κ) (H : Hp) (a : Addr) (m : List (κ × PyData)) : Prop := ∃ es, DF T H a es ∧ Paired (fun p q => p.1 = q.1 ∧ Dp K H p.2.2 q.2) es m
theorem DfD.ex {H H' : Hp} {a : Addr} {m : List (κ × PyData)} (h : DfD T H a m) (e : Ex H H') : DfD T H' a m := by
  obtain ⟨es, h1, h2⟩ := h
  exact ⟨es, h1.ex e, pzd_mono (fun v d => dp_ex e d) h2⟩
/-- a list that changes -/
theorem DfD.upd {H : Hp} {a l : Addr} {m : List (κ × PyData)} {xs ys : List V} (h : DfD T H a m) (hl : H l = some (.lst xs)) (hn : ∀ p ∈ m, nl p.2 = true) : DfD T (L2.upd H l (.lst ys)) a m := by
  obtain ⟨es, ⟨⟨o, ho⟩, h2, h3⟩, h4⟩ := h
  refine ⟨es, ⟨⟨o, by rw [upd_ne (ne_of ho hl (by intro z; cases z))]; exact ho⟩, fun p hp => T.mono (fun b zs q => ex_tL hl q) (h2 p hp), h3⟩, ?_⟩
  clear h2 h3 ho
  induction h4 with
  | nil => exact .nil
  | cons h t ih => exact .cons ⟨h.1, dp_updL hl _ (hn _ (List.mem_cons_self ..)) h.2⟩ (ih fun p hp => hn p (List.mem_cons_of_mem _ hp))
variable {σ : L2.St} {H : Hp} {td ty tv tx te : TE} {D : Ends} {tz : TS} {a : Addr} {m : List (κ × PyData)} {k : κ} {d : PyData}
/-- a dict is told as locked -/
theorem ret_frz (hd : Ev te σ H (.ref a)) (h : DzD T H a m) (c : ∀ H1 o, Ex H H1 → (∀ B : Hp, Ex B H1 → B a = none → Ex B (upd H1 a o)) → DfD T (upd H1 a o) a m → D.rt (.ref a) (upd H1 a o)) : tRet (tFrz te) D σ H :=
  hd H (Ex.refl H) _ fun H1 e1 => by
    obtain ⟨es, h1, h2⟩ := h.ex e1
    refine ⟨a, _, rfl, h1.at_, True.intro, fun od => c H1 _ e1 (fun B e hb => Ex.mut e hb) ⟨es, h1.frz od, pzd_mono (fun v d => dp_updX h1.at_ d) h2⟩⟩
theorem ed_dfget (hd : Ev td σ H (.ref a)) (hk : EvC T ty σ H k) (h : DfD T H a m) (hx : lookD m k = some d) : EvD K (tDfGet T td ty) σ H d := fun H1 e Q q =>
  hd H1 e _ fun H2 e2 => hk H2 (e.trans e2) _ fun b H3 e3 hb => by
    obtain ⟨es, h1, h2⟩ := h.ex ((e.trans e2).trans e3)
    obtain ⟨v, hv, hvd⟩ := (pzd_look h2 k).1 d hx
    exact ⟨a, es, k, b, v, rfl, h1, rfl, hb, hv, q v H3 (e2.trans e3) hvd⟩
theorem ev_dfin {ng : Bool} (hd : Ev td σ H (.ref a)) (hk : EvC T ty σ H k) (h : DfD T H a m) : Ev (tDfIn T ng ty td) σ H (.bl ((lookD m k).isSome != ng)) := fun H1 e Q q =>
  hk H1 e _ fun b H2 e2 hb => hd H2 (e.trans e2) _ fun H3 e3 => by
    obtain ⟨es, h1, h2⟩ := h.ex ((e.trans e2).trans e3)
    refine ⟨a, es, k, b, rfl, h1, rfl, T.mono (fun c ys q => ex_t e3 q) hb, ?_⟩
    rw [(pzd_look h2 k).2]
    exact q H3 (e2.trans e3)
theorem ed_dfget2 {d0 : PyData} (hd : Ev td σ H (.ref a)) (hk : EvC T ty σ H k) (hx : EvD K tx σ H d0) (h : DfD T H a m) : EvD K (tDfGet2 T td ty tx) σ H ((lookD m k).getD d0) := fun H1 e Q q =>
  hd H1 e _ fun H2 e2 => by
    obtain ⟨es0, h0, _⟩ := h.ex (e.trans e2)
    refine ⟨a, rfl, ⟨es0, h0⟩, hk H2 (e.trans e2) _ fun b H3 e3 hb => hx H3 ((e.trans e2).trans e3) _ fun z H4 e4 hz => ?_⟩
    obtain ⟨es, h1, h2⟩ := h.ex (((e.trans e2).trans e3).trans e4)
    refine ⟨es, k, b, h1, rfl, T.mono (fun c ys q => ex_t e4 q) hb, q _ H4 ((e2.trans e3).trans e4) ?_⟩
    cases ev : lookD m k with
    | none =>
      have := (pzd_look h2 k).2
      rw [ev] at this
      cases e5 : valZ es k with
      | none => exact hz
      | some v => rw [e5] at this; cases this
    | some d =>
      obtain ⟨v, hv, hvd⟩ := (pzd_look h2 k).1 d ev
      rw [hv]
      exact hvd
end
/-! the keys, rows, as data -/
section
variable {P : Program} {w : World} {K : PySem.W.Frag} {α : Type} {kf : α → List Int} {vf : α → PyData} {σ : L2.St} {H : Hp} {td : TE} {a : Addr}
theorem srcS_keysZ {ks : List α} (hd : Ev td σ H (.ref a)) (h : DfD (rowTK P w K) H a (ks.map fun k => (keyI (kf k), vf k))) : SrcS K (iKeysZ (rowTK P w K) td) σ H (ks.map fun k => tupI (kf k)) := fun H1 e R k => hd H1 e _ fun H2 e2 => by
  obtain ⟨es, h1, h2⟩ := h
  obtain ⟨o, ho⟩ := h1.at_
  refine ⟨a, o, es, rfl, (e.trans e2) _ _ ho, k _ H2 (fun H' => H' a = some (.frz o (DzO (rowTK P w K).kind a es))) e2 (fun H' e3 => e3 _ _ ho) ?_⟩
  have hl : es.length = (ks.map fun k => tupI (kf k)).length := by
    rw [Paired.length h2, List.length_map, List.length_map]
  rw [← hl]
  refine ⟨fun i H' hi g => ⟨g, hi⟩, fun H' g => ⟨g, Nat.le_refl _⟩, fun i H' x H'' hi g y => ?_⟩
  obtain ⟨rfl, p, hp, rfl⟩ := y
  obtain ⟨q, hq, e1, _⟩ := paired_get h2 hp
  rw [List.getElem?_map] at hq
  obtain ⟨k, hk, rfl⟩ := Option.map_eq_some_iff.mp hq
  refine ⟨rfl, tupI (kf k), by rw [List.getElem?_map, hk]; rfl, ?_⟩
  have hc : SqT K H p.2.1 (p.1.map kV) := h1.cells p (List.mem_of_getElem? hp)
  rw [e1, keyI_kV] at hc
  exact .tup hc (dpAll_ints _)
end
end WR
set_option Elab.async false
set_option linter.all false
set_option maxRecDepth 100000
set_option maxHeartbeats 1000000
namespace WR
open PySem PySem.Spec PyProof.Rows L2 Evl

/-! ### tuples of integers by order -/
theorem lex_self : ∀ a : List Int, HT.lexLt a a = false
  | [] => rfl
  | x :: a => by rw [HT.lexLt_cons, if_pos rfl, lex_self a]
theorem lex_asymm : ∀ {a b : List Int}, HT.lexLt a b = true → HT.lexLt b a = false
  | [], [], h => rfl
  | [], _ :: _, _ => rfl
  | _ :: _, [], h => by cases h
  | x :: a, y :: b, h => by
    rw [HT.lexLt_cons] at h ⊢
    by_cases z : x = y
    · rw [if_pos z] at h
      rw [if_pos z.symm]
      exact lex_asymm h
    · rw [if_neg z] at h
      rw [if_neg (Ne.symm z)]
      have := of_decide_eq_true h
      exact decide_eq_false (by omega)
theorem lex_lt : ∀ a b : List Int, HT.lexLt a b = decide (a < b)
  | [], [] => by simp [HT.lexLt]
  | [], _ :: _ => by simp [HT.lexLt]
  | _ :: _, [] => by simp [HT.lexLt]
  | x :: a, y :: b => by
    rw [HT.lexLt_cons, lex_lt a b]
    by_cases z : x = y
    · subst z
      rw [if_pos rfl]
      simp [List.cons_lt_cons_iff]
    · rw [if_neg z]
      refine decide_eq_decide.mpr ?_
      rw [List.cons_lt_cons_iff]
      exact ⟨fun h => .inl h, fun h => h.elim id fun w => absurd w.1 z⟩
theorem dataLt_tupI (a b : List Int) : PySem.W.dataLt (tupI a) (tupI b) = HT.lexLt a b := by
  rw [lex_lt, ← PySem.W.dataLt_ints]
  exact PySem.W.dataLt_tuple _ _
theorem alikeAll_ints : ∀ a b : List Int, PySem.W.alikeAll (a.map PyData.int) (b.map PyData.int) = true
  | [], _ => by simp [PySem.W.alikeAll]
  | _ :: _, [] => by simp [PySem.W.alikeAll]
  | x :: a, y :: b => by
    have := alikeAll_ints a b
    simp [PySem.W.alikeAll, PySem.W.alike, this]
theorem alike_tupI (a b : List Int) : PySem.W.alike (tupI a) (tupI b) = true := by
  show PySem.W.alike (.tuple _) (.tuple _) = true
  simp only [PySem.W.alike]
  exact alikeAll_ints a b
theorem depth_tupI (a : List Int) : (tupI a).depth ≤ 1 := by
  have q := lay_ints a
  unfold tupI
  simp only [PyData.depth, q.2]
  omega
def rGtD (K : PySem.W.Frag) : R2 := fun x y H Q => ∃ d e, Dp K H x d ∧ Dp K H y e ∧ PySem.W.alike d e = true ∧ d ≠ .none ∧ d.depth ≤ 64 ∧ Q (.bl (PySem.W.dataLt e d)) H
theorem op_gtD {X : Cx} (hu : X.A.units + 64 < cLine) : OpR X (compareOp .Gt) (rGtD X.K) := by
  intro pins s σ H x y v u Q I rx ry h
  obtain ⟨d, e, hd, he, al, dn, dl, q⟩ := h
  obtain ⟨as, r1⟩ := Dp.reads I d x v hd rx
  obtain ⟨bs, r2⟩ := Dp.reads I e y u he ry
  exact PySem.W.gt_data r1 r2 al dn (by omega) ⟨.bl _, H, I, rfl, q⟩
def rLtD (K : PySem.W.Frag) : R2 := fun x y H Q => ∃ d e, Dp K H x d ∧ Dp K H y e ∧ PySem.W.alike d e = true ∧ d ≠ .none ∧ d.depth ≤ 64 ∧ Q (.bl (PySem.W.dataLt d e)) H
theorem op_ltD {X : Cx} (hu : X.A.units + 64 < cLine) : OpR X (compareOp .Lt) (rLtD X.K) := by
  intro pins s σ H x y v u Q I rx ry h
  obtain ⟨d, e, hd, he, al, dn, dl, q⟩ := h
  obtain ⟨as, r1⟩ := Dp.reads I d x v hd rx
  obtain ⟨bs, r2⟩ := Dp.reads I e y u he ry
  exact PySem.W.lt_data r1 r2 al dn (by omega) ⟨.bl _, H, I, rfl, q⟩
section
variable {K : PySem.W.Frag} {σ : L2.St} {H : Hp} {ta tb : TE}
theorem ev_gtTI {a b : List Int} (h1 : EvD K ta σ H (tupI a)) (h2 : EvD K tb σ H (tupI b)) : Ev (tOp (rGtD K) ta tb) σ H (.bl (HT.lexLt b a)) := fun H1 e Q q =>
  h1 H1 e _ fun v H2 e2 hv => h2 H2 (e.trans e2) _ fun w H3 e3 hw => ⟨tupI a, tupI b, dp_ex e3 _ hv, hw, alike_tupI a b, (by intro z; cases z), Nat.le_trans (depth_tupI a) (by decide), by
    rw [dataLt_tupI]
    exact q _ (e2.trans e3)⟩
theorem ev_ltTI {a b : List Int} (h1 : EvD K ta σ H (tupI a)) (h2 : EvD K tb σ H (tupI b)) : Ev (tOp (rLtD K) ta tb) σ H (.bl (HT.lexLt a b)) := fun H1 e Q q =>
  h1 H1 e _ fun v H2 e2 hv => h2 H2 (e.trans e2) _ fun w H3 e3 hw => ⟨tupI a, tupI b, dp_ex e3 _ hv, hw, alike_tupI a b, (by intro z; cases z), Nat.le_trans (depth_tupI a) (by decide), by
    rw [dataLt_tupI]
    exact q _ (e2.trans e3)⟩
end
end WR
set_option Elab.async false
set_option linter.all false
set_option maxRecDepth 100000
set_option maxHeartbeats 1000000
namespace WR
open PySem PySem.Spec PyProof.Rows L2 Evl

/-! ### sorted of tuples of integers, of any lengths (none empty) -/
abbrev encP (b : Int × List Int) : PyData := tupI (b.1 :: b.2)
def rSortP (K : PySem.W.Frag) : List V → Hp → VK → Prop := fun vs H Q => ∃ (a : Addr) (xs : List V) (bs : List (Int × List Int)), vs = [V.ref a] ∧ SqL K H a xs ∧ DpAll K H xs (bs.map encP) ∧ bs.length ≤ 100000 ∧
  ∀ (ys : List V) (p : Addr), DpAll K H ys ((bs.mergeSort (PySem.W.dataLe false encP)).map encP) → H p = none → Q (.ref p) (upd H p (.lst ys))
theorem each_in {R : V → Value → Prop} {K : PySem.W.Frag} {H : Hp} : ∀ {xs : List V} {us : List Value} {bs : List (Int × List Int)}, Vals xs us → DpAll K H xs (bs.map encP) → PySem.W.EachIs (fun v b => ∃ x, RelV x v ∧ Dp K H x (encP b)) us bs
  | [], us, bs, hv, hd => by
    cases hv
    cases bs with
    | nil => exact .nil
    | cons b r => cases hd
  | x :: xs, us, bs, hv, hd => by
    cases hv with
    | cons h1 h2 =>
      cases bs with
      | nil => cases hd
      | cons b r =>
        cases hd with
        | cons d1 d2 => exact .cons ⟨x, h1, d1⟩ (each_in (R := R) h2 d2)
theorem each_out {K : PySem.W.Frag} {H : Hp} : ∀ {us : List Value} {bs : List (Int × List Int)}, PySem.W.EachIs (fun v b => ∃ x, RelV x v ∧ Dp K H x (encP b)) us bs → ∃ ys, Vals ys us ∧ DpAll K H ys (bs.map encP)
  | _, _, .nil => ⟨[], .nil, .nil⟩
  | _, _, .cons ⟨x, h1, h2⟩ hr => by
    obtain ⟨ys, a, b⟩ := each_out hr
    exact ⟨x :: ys, .cons h1 a, .cons h2 b⟩
theorem cr_sortP {X : Cx} (hu : X.A.units + 64 < cLine) : CallR X (.builtin "sorted") (rSortP X.K) := by
  intro pins s σ H vs us Q I r h
  obtain ⟨a, xs, bs, rfl, hs, hd, hl, q⟩ := h
  obtain ⟨its, rv, hli, hz⟩ := I.list hs
  rw [Vals.ref1 r]
  have e := each_in (R := fun _ _ => True) rv hd
  have er : PySem.W.EachIs (fun v b => ∃ as, Reads s.heap v (encP b) as) its bs := e.mono fun v b ⟨x, h1, h2⟩ => Dp.reads I (encP b) x v h2 h1
  have hlen : its.length = bs.length := e.length
  refine PySem.W.sorted_data hli.isList e er (PySem.W.AllAlike.of fun b b' => alike_tupI _ _) (PySem.W.Sortable.tuples fun b => ⟨_, _, rfl⟩) (sz_of hl) (fun b _ => ?_) fun out h1 h2 => ?_
  · have := depth_tupI (b.1 :: b.2)
    show X.A.units + 2 + (tupI (b.1 :: b.2)).depth < cLine
    omega
  · obtain ⟨ys, v1, v2⟩ := each_out h2
    obtain ⟨ep, hat⟩ := PyProof.Rows.sortedAll_at s.heap its out.toArray
    have hyl : ys.length ≤ sizeLine := by
      rw [v1.length, h1]
      exact sz_of hl
    exact ⟨.ref _, upd H (s.heap.objs.size + 1) (.lst ys), I.laid (t' := s.toks) (fun _ _ => PyProof.Rows.sortedAll_old) (Nat.le_succ _) ⟨hyl, out, ep, v1, hat⟩, rfl, q ys _ v2 (I.hok.fresh (Nat.le_succ _))⟩
section
variable {K : PySem.W.Frag} {σ : L2.St} {H : Hp} {te : TE}
theorem en_sortP {bs : List (Int × List Int)} (h : EvD K te σ H (.list (bs.map encP))) (hl : bs.length ≤ 100000) :
    EvN K (tCB (rSortP K) (tCons te tNil)) σ H ((bs.mergeSort (PySem.W.dataLe false encP)).map encP) := fun H1 e Q q =>
  h H1 e _ fun v H2 e2 hv => by
    obtain ⟨a, xs, rfl, hs, hd⟩ := dp_lst hv
    exact ⟨a, xs, bs, rfl, hs, hd, hl, fun ys p hy hp => q p ys _ (fresh_back e2 hp) (e2.trans (Ex.new hp)) upd_same (dpAll_ex (Ex.new hp) _ hy)⟩
end
/-! the sorted list is the only one in order -/
def leP (a b : Int × List Int) : Bool := !HT.lexLt (b.1 :: b.2) (a.1 :: a.2)
theorem dataLe_P : PySem.W.dataLe false encP = leP := by
  funext a b
  show (!PySem.W.dataLt (encP b) (encP a)) = _
  rw [dataLt_tupI]
  rfl
theorem lex_total : ∀ {a b : List Int}, HT.lexLt a b = false → HT.lexLt b a = false → a = b
  | [], [], _, _ => rfl
  | [], _ :: _, h, _ => by cases h
  | _ :: _, [], _, h => by cases h
  | x :: a, y :: b, h1, h2 => by
    rw [HT.lexLt_cons] at h1 h2
    by_cases z : x = y
    · rw [if_pos z] at h1
      rw [if_pos z.symm] at h2
      rw [z, lex_total h1 h2]
    · rw [if_neg z] at h1
      rw [if_neg (Ne.symm z)] at h2
      have := of_decide_eq_false h1
      have := of_decide_eq_false h2
      omega
theorem lex_trans : ∀ {a b c : List Int}, HT.lexLt a b = true → HT.lexLt b c = true → HT.lexLt a c = true
  | [], [], _, h, _ => by cases h
  | [], _ :: _, [], _, h => by cases h
  | [], _ :: _, _ :: _, _, _ => rfl
  | _ :: _, [], _, h, _ => by cases h
  | _ :: _, _ :: _, [], _, h => by cases h
  | x :: a, y :: b, z :: c, h1, h2 => by
    rw [HT.lexLt_cons] at h1 h2 ⊢
    by_cases p : x = y
    · rw [if_pos p] at h1
      by_cases q : y = z
      · rw [if_pos q] at h2
        rw [if_pos (p.trans q)]
        exact lex_trans h1 h2
      · rw [if_neg q] at h2
        rw [if_neg (p ▸ q), p]
        exact h2
    · rw [if_neg p] at h1
      have h1 := of_decide_eq_true h1
      by_cases q : y = z
      · rw [if_neg (q ▸ p)]
        exact decide_eq_true (by omega)
      · rw [if_neg q] at h2
        have h2 := of_decide_eq_true h2
        rw [if_neg (by omega)]
        exact decide_eq_true (by omega)
theorem leP_sort {bs cs : List (Int × List Int)} (hp : bs.Perm cs) (hc : cs.Pairwise fun a b => HT.lexLt (a.1 :: a.2) (b.1 :: b.2) = true) : bs.mergeSort (PySem.W.dataLe false encP) = cs := by
  rw [dataLe_P]
  have htr : ∀ a b c : Int × List Int, leP a b = true → leP b c = true → leP a c = true := fun a b c h1 h2 => by
    unfold leP at h1 h2 ⊢
    rw [Bool.not_eq_true'] at h1 h2 ⊢
    cases e : HT.lexLt (c.1 :: c.2) (a.1 :: a.2) with
    | false => rfl
    | true =>
      cases e2 : HT.lexLt (b.1 :: b.2) (c.1 :: c.2) with
      | true =>
        have := lex_trans e2 e
        rw [h1] at this
        cases this
      | false =>
        have := lex_total h2 e2
        rw [this, h1] at e
        cases e
  have htot : ∀ a b : Int × List Int, (leP a b || leP b a) = true := fun a b => by
    unfold leP
    cases e : HT.lexLt (b.1 :: b.2) (a.1 :: a.2) with
    | false => rfl
    | true =>
      rw [lex_asymm e]
      rfl
  have hs := List.pairwise_mergeSort htr htot bs
  have hpm : (bs.mergeSort leP).Perm cs := (List.mergeSort_perm bs leP).trans hp
  have hanti : ∀ a b : Int × List Int, leP a b = true → leP b a = true → a = b := fun a b h1 h2 => by
    unfold leP at h1 h2
    rw [Bool.not_eq_true'] at h1 h2
    have := lex_total h2 h1
    have e1 := List.cons.inj this
    exact Prod.ext e1.1 e1.2
  have hc2 : cs.Pairwise fun a b => leP a b = true := hc.imp fun {a b} h => by
    unfold leP
    rw [lex_asymm h]
    rfl
  refine List.Perm.eq_of_pairwise (fun a b _ _ h1 h2 => hanti a b h1 h2) hs hc2 hpm
end WR
set_option Elab.async false
set_option linter.all false
set_option maxRecDepth 100000
set_option maxHeartbeats 1000000
namespace WR
open PySem PySem.Spec PyProof.Rows L2 Evl

/-! ### what holds of a drawn web, by its own numbers -/
structure WebP (l : Nat) (inner : List (List Nat)) : Prop where
  raw : Raw l inner
  nd : ∀ ks ∈ inner, ks.Nodup
  asc : ∀ ks ∈ inner, ks.Pairwise (· ≤ ·)
  bare : ∀ u, l ≤ u → u < l + inner.length → ∃ c ∈ kidsAt l inner u, (parsAt l inner c).length ≤ 1
  one : ∀ u, l ≤ u → u < l + inner.length → (parsAt l inner u).length ≤ 1 → 2 ≤ (kidsAt l inner u).length
  mix : ∀ u, u < l + inner.length → 2 ≤ (parsAt l inner u).length → (kidsAt l inner u).length = 1
  lf1 : ∀ u, u < l → (parsAt l inner u).length ≤ 1
  root : ∀ u, u < l + inner.length → (parsAt l inner u = [] ↔ u + 1 = l + inner.length)
theorem kidsAt_leaf {l : Nat} {inner : List (List Nat)} {u : Nat} (h : u < l) : kidsAt l inner u = [] := if_pos h
theorem kidsAt_inner {l : Nat} {inner : List (List Nat)} {u : Nat} (h : l ≤ u) (h2 : u < l + inner.length) : kidsAt l inner u ∈ inner := by
  unfold kidsAt
  rw [if_neg (by omega), List.getD_eq_getElem?_getD, List.getElem?_eq_getElem (by omega)]
  exact List.getElem_mem _
theorem mem_pars {l : Nat} {inner : List (List Nat)} {c u : Nat} : u ∈ parsAt l inner c ↔ u < l + inner.length ∧ c ∈ kidsAt l inner u := by
  unfold parsAt
  rw [List.mem_filter, List.mem_range, decide_eq_true_iff]
theorem itemOf_mem {K : Nat → List Nat} {od : List Nat} {u x : Nat} : x ∈ itemOf K od u ↔ ∃ c ∈ K u, x = plc c od := by
  unfold itemOf
  constructor
  · intro h
    obtain ⟨i, hi, rfl⟩ := List.mem_map.mp h
    obtain ⟨c, hc, rfl⟩ := List.mem_map.mp ((sortI_perm _).mem_iff.mp hi)
    exact ⟨c, hc, by rw [Int.toNat_natCast]⟩
  · rintro ⟨c, hc, rfl⟩
    refine List.mem_map.mpr ⟨((plc c od : Nat) : Int), (sortI_perm _).mem_iff.mpr (List.mem_map.mpr ⟨c, hc, rfl⟩), ?_⟩
    rw [Int.toNat_natCast]
theorem itemOf_len {K : Nat → List Nat} {od : List Nat} {u : Nat} : (itemOf K od u).length = (K u).length := by
  unfold itemOf
  rw [List.length_map, (sortI_perm _).length_eq, List.length_map]
theorem cnt_count {K : Nat → List Nat} {k : Nat} : ∀ n, cnt K k n = (List.range n).countP fun u => decide (k ∈ K u)
  | 0 => rfl
  | n + 1 => by
    show cnt K k n + (if k ∈ K n then 1 else 0) = _
    rw [cnt_count n, List.range_succ, List.countP_append, List.countP_cons, List.countP_nil]
    by_cases h : k ∈ K n
    · rw [if_pos h, decide_eq_true h]
      rfl
    · rw [if_neg h, decide_eq_false h]
      rfl
theorem Drawn.web {L : Nat} {inner : List (List Nat)} (h : Drawn L inner) (h1 : 1 ≤ L) (h8 : L ≤ 8) : WebP L inner := by
  have hraw := h.raw h1 h8
  have hnd := h.nd
  obtain ⟨kk, od, hG, hn, hO, hlen, hin⟩ := h.ex
  have hLo := hO.len
  have hil : inner.length = od.length - L := by rw [hin, List.length_map, List.length_drop]
  have hnn : L + inner.length = kk.length := by omega
  -- the kind at a place
  let o : Nat → Nat := fun j => od.getD j 0
  have ho : ∀ j, j < kk.length → od[j]? = some (o j) := fun j hj => by
    show od[j]? = some (od.getD j 0)
    rw [List.getD_eq_getElem?_getD, List.getElem?_eq_getElem (by omega)]
    rfl
  have hom : ∀ j, j < kk.length → o j ∈ od := fun j hj => List.mem_of_getElem? (ho j hj)
  have hol : ∀ j, j < kk.length → o j < kk.length := fun j hj => hO.lt _ (hom j hj)
  have hop : ∀ j, j < kk.length → plc (o j) od = j := fun j hj => plc_at hO.nd (ho j hj)
  have hpo : ∀ c, c ∈ od → plc c od < kk.length ∧ o (plc c od) = c := fun c hc => by
    have a := plc_lt hc
    have b := plc_get hc
    refine ⟨by omega, ?_⟩
    have := ho (plc c od) (by omega)
    rw [b] at this
    exact (Option.some.inj this).symm
  have hk1 : ∀ j, j < kk.length → kidsAt L inner j = itemOf (rowAt kk) od (o j) := fun j hj => by
    by_cases z : j < L
    · rw [kidsAt_leaf z]
      have e : o j = j := by
        have := ho j hj
        rw [hO.lf j z] at this
        exact (Option.some.inj this).symm
      rw [e]
      unfold itemOf
      rw [hG.leaf j z]
      rfl
    · unfold kidsAt
      rw [if_neg z, List.getD_eq_getElem?_getD, hin, List.getElem?_map, List.getElem?_drop, show L + (j - L) = j by omega, ho j hj]
      rfl
  have hk3 : ∀ x j, x < kk.length → j < kk.length → (x ∈ kidsAt L inner j ↔ o x ∈ rowAt kk (o j)) := fun x j hx hj => by
    rw [hk1 j hj, itemOf_mem]
    constructor
    · rintro ⟨c, hc, rfl⟩
      have hco := (hO.dn (o j) c (hom j hj) hc).1
      rw [(hpo c hco).2]
      exact hc
    · intro hc
      exact ⟨o x, hc, (hop x hx).symm⟩
  have hod : od = (List.range kk.length).map o := by
    refine List.ext_getElem? fun j => ?_
    by_cases z : j < kk.length
    · rw [ho j z, List.getElem?_map, List.getElem?_range z]
      rfl
    · rw [List.getElem?_eq_none (by omega), List.getElem?_eq_none (by rw [List.length_map, List.length_range]; omega)]
  have hperm : od.Perm (List.range kk.length) := by
    refine (List.perm_ext_iff_of_nodup hO.nd List.nodup_range).mpr fun a => ⟨fun ha => List.mem_range.mpr (hO.lt a ha), fun ha => ?_⟩
    have ha := List.mem_range.mp ha
    -- a nodup list of so many numbers below so many has each
    refine Classical.byContradiction fun z => ?_
    have hnd2 : (a :: od).Nodup := List.nodup_cons.mpr ⟨z, hO.nd⟩
    have := nodup_len kk.length (a :: od) hnd2 (fun c hc => by
      rcases List.mem_cons.mp hc with rfl | hc
      · exact ha
      · exact hO.lt c hc)
    rw [List.length_cons] at this
    omega
  have hk4 : ∀ x, x < kk.length → (parsAt L inner x).length = cnt (rowAt kk) (o x) kk.length := fun x hx => by
    have e1 : cnt (rowAt kk) (o x) kk.length = od.countP fun u => decide (o x ∈ rowAt kk u) := by rw [cnt_count, hperm.countP_eq]
    have e2 : (od.countP fun u => decide (o x ∈ rowAt kk u)) = (List.range kk.length).countP ((fun u => decide (o x ∈ rowAt kk u)) ∘ o) :=
      (congrArg (List.countP fun u => decide (o x ∈ rowAt kk u)) hod).trans List.countP_map
    rw [e1, e2]
    unfold parsAt
    rw [← List.countP_eq_length_filter, hnn]
    refine List.countP_congr fun j hj => ?_
    have hj := List.mem_range.mp hj
    simp only [Function.comp_apply, decide_eq_true_iff]
    exact hk3 x j hx hj
  have hoL : ∀ j, L ≤ j → j < kk.length → L ≤ o j := fun j h2 hj => by
    refine Classical.byContradiction fun z => ?_
    have a := hO.lf (o j) (by omega)
    have b := plc_at hO.nd a
    rw [hop j hj] at b
    omega
  refine ⟨hraw, hnd, fun ks hks => ?_, fun u hu1 hu2 => ?_, fun u hu1 hu2 hp => ?_, fun u hu hp => ?_, fun u hu => ?_, fun u hu => ?_⟩
  · rw [hin] at hks
    obtain ⟨u, _, rfl⟩ := List.mem_map.mp hks
    unfold itemOf
    refine List.pairwise_map.mpr ((sortI_sorted _).imp fun {a b} hab => ?_)
    omega
  · rw [hnn] at hu2
    obtain ⟨c, hc, hc1, _⟩ := hG.bare (o u) (hoL u hu1 hu2) (hol u hu2)
    have hco := (hO.dn (o u) c (hom u hu2) hc).1
    obtain ⟨a, b⟩ := hpo c hco
    refine ⟨plc c od, (hk3 _ u a hu2).mpr (by rw [b]; exact hc), ?_⟩
    rw [hk4 _ a, b]
    exact hc1
  · rw [hnn] at hu2
    rw [hk1 u hu2, itemOf_len]
    rw [hk4 u hu2] at hp
    have := hol u hu2
    exact hG.one (o u) (hoL u hu1 hu2) this (by omega) hp
  · rw [hnn] at hu
    rw [hk4 u hu] at hp
    rw [hk1 u hu, itemOf_len]
    exact hG.mix (o u) hp
  · rw [hk4 u (by omega)]
    have e : o u = u := by
      have := ho u (by omega)
      rw [hO.lf u hu] at this
      exact (Option.some.inj this).symm
    rw [e]
    exact hG.lf1 u hu
  · rw [hnn] at hu ⊢
    obtain ⟨t, ht, hr⟩ := hG.root
    have key : ∀ x, x < kk.length → (parsAt L inner x = [] ↔ o x = t) := fun x hx => by
      rw [← hr (o x) (hol x hx), ← hk4 x hx, List.length_eq_zero_iff]
    have top : parsAt L inner (kk.length - 1) = [] := by
      refine List.eq_nil_iff_forall_not_mem.mpr fun j hj => ?_
      obtain ⟨a, b⟩ := mem_pars.mp hj
      have := (kidsAt_lt hraw b).2
      omega
    have htop := (key (kk.length - 1) (by omega)).mp top
    rw [key u hu]
    constructor
    · intro e
      have a := hop u hu
      rw [e, ← htop, hop _ (by omega)] at a
      omega
    · intro e
      rw [← htop]
      congr 1
      omega
end WR
set_option Elab.async false
set_option linter.all false
set_option maxRecDepth 100000
set_option maxHeartbeats 1000000
namespace WR
open PySem PySem.Spec PyProof.Rows L2 Evl

/-! ### roads: the mathematics -/
def minN (ks : List Nat) : Nat := ks.min?.getD 0
theorem minN_eq {ks : List Nat} {m : Nat} (h : m ∈ ks) (h2 : ∀ y ∈ ks, m ≤ y) : minN ks = m := by
  unfold minN
  rw [List.min?_eq_some_iff.mpr ⟨h, h2⟩]
  rfl
theorem minN_mem {ks : List Nat} (h : ks ≠ []) : minN ks ∈ ks := by
  unfold minN
  cases e : ks.min? with
  | none => exact absurd (List.min?_eq_none_iff.mp e) h
  | some m => exact List.min?_mem e
/-- the plain child with the least number -/
def nxt (kf : Nat → List Nat) (pl : Nat → Bool) (u : Nat) : Nat := minN ((kf u).filter pl)
def roadL (nx : Nat → Nat) (l : Nat) : Nat → Nat → List Nat
  | 0, k => [k]
  | m + 1, k => if k < l then [k] else k :: roadL nx l m (nx k)
def roadN (l : Nat) (inner : List (List Nat)) (k : Nat) : List Nat := roadL (nxt (kidsAt l inner) fun c => decide ((parsAt l inner c).length ≤ 1)) l k k
theorem roadL_leaf {nx : Nat → Nat} {l m k : Nat} (h : k < l) : roadL nx l m k = [k] := by
  cases m with
  | zero => rfl
  | succ m => exact if_pos h
theorem roadL_go {nx : Nat → Nat} {l m k : Nat} (h : ¬ k < l) : roadL nx l (m + 1) k = k :: roadL nx l m (nx k) := if_neg h
theorem roadL_ne {nx : Nat → Nat} {l m k : Nat} : roadL nx l m k ≠ [] := by
  cases m with
  | zero => exact fun z => by cases z
  | succ m =>
    show (if k < l then [k] else k :: roadL nx l m (nx k)) ≠ []
    split <;> exact fun z => by cases z
theorem roadL_congr {nx ny : Nat → Nat} {l : Nat} {b : Nat} (h : ∀ u, l ≤ u → u ≤ b → nx u = ny u) (hd : ∀ u, l ≤ u → u ≤ b → ny u < u) : ∀ {m k : Nat}, k ≤ b → roadL nx l m k = roadL ny l m k
  | 0, _, _ => rfl
  | m + 1, k, hk => by
    show (if k < l then [k] else k :: roadL nx l m (nx k)) = if k < l then [k] else k :: roadL ny l m (ny k)
    by_cases z : k < l
    · rw [if_pos z, if_pos z]
    · rw [if_neg z, if_neg z, h k (by omega) hk, roadL_congr h hd (by have := hd k (by omega) hk; omega)]
theorem roadL_len {nx : Nat → Nat} {l : Nat} : ∀ {m k : Nat}, (roadL nx l m k).length ≤ m + 1
  | 0, _ => Nat.le_refl _
  | m + 1, k => by
    show (if k < l then [k] else k :: roadL nx l m (nx k)).length ≤ _
    split
    · simp
    · rw [List.length_cons]
      have := roadL_len (nx := nx) (l := l) (m := m) (k := nx k)
      omega
theorem roadL_le {nx : Nat → Nat} {l b : Nat} (hd : ∀ u, l ≤ u → u ≤ b → nx u < u) : ∀ {m k : Nat}, k ≤ b → ∀ x ∈ roadL nx l m k, x ≤ k
  | 0, k, _, x, h => by rw [List.mem_singleton.mp h]; exact Nat.le_refl _
  | m + 1, k, hk, x, h => by
    by_cases z : k < l
    · rw [roadL_leaf z] at h
      rw [List.mem_singleton.mp h]
      exact Nat.le_refl _
    · rw [roadL_go z] at h
      have := hd k (by omega) hk
      rcases List.mem_cons.mp h with rfl | h
      · exact Nat.le_refl _
      · have := roadL_le hd (m := m) (k := nx k) (by omega) x h
        omega
section
variable {l : Nat} {inner : List (List Nat)} (W : WebP l inner)
include W
theorem nxt_ok {u : Nat} (h1 : l ≤ u) (h2 : u < l + inner.length) : nxt (kidsAt l inner) (fun c => decide ((parsAt l inner c).length ≤ 1)) u ∈ kidsAt l inner u ∧ (parsAt l inner (nxt (kidsAt l inner) (fun c => decide ((parsAt l inner c).length ≤ 1)) u)).length ≤ 1 := by
  obtain ⟨c, hc, hc1⟩ := W.bare u h1 h2
  have hm : ((kidsAt l inner u).filter fun c => decide ((parsAt l inner c).length ≤ 1)) ≠ [] := fun z => by
    have : c ∈ (kidsAt l inner u).filter fun c => decide ((parsAt l inner c).length ≤ 1) := List.mem_filter.mpr ⟨hc, decide_eq_true hc1⟩
    rw [z] at this
    cases this
  obtain ⟨a, b⟩ := List.mem_filter.mp (minN_mem hm)
  exact ⟨a, of_decide_eq_true b⟩
theorem nxt_lt {u : Nat} (h1 : l ≤ u) (h2 : u < l + inner.length) : nxt (kidsAt l inner) (fun c => decide ((parsAt l inner c).length ≤ 1)) u < u := (kidsAt_lt W.raw (nxt_ok W h1 h2).1).2
theorem roadN_le {k : Nat} (hk : k < l + inner.length) : ∀ x ∈ roadN l inner k, x ≤ k :=
  roadL_le (b := k) (fun u h1 h2 => nxt_lt W h1 (by omega)) (Nat.le_refl k)
end
/-- a promise of a def of a drawn web and a kind -/
def spPK (K : PySem.W.Frag) (g : Nat → List (List Nat) → Nat → PyData) : Sp := fun vs H Q _ =>
  ∃ v l inner k, vs = [v, .int ((k : Nat) : Int)] ∧ Dp K H v (webD l inner) ∧ WebP l inner ∧ k < l + inner.length ∧ ∀ r H', Ex H H' → Dp K H' r (g l inner k) → Q r H'
theorem spPK_len {K : PySem.W.Frag} {g : Nat → List (List Nat) → Nat → PyData} {vs : List V} {H : Hp} {Q : VK} {E : XK} (h : spPK K g vs H Q E) : vs.length = 2 := by
  obtain ⟨v, l, inner, k, rfl, _⟩ := h
  rfl
theorem ed_callPK {K : PySem.W.Frag} {σ : L2.St} {H : Hp} {te tx : TE} {l k : Nat} {inner : List (List Nat)} {g : Nat → List (List Nat) → Nat → PyData} {E : XK} (h : EvD K te σ H (webD l inner)) (hk : EvD K tx σ H (natD k)) (hw : WebP l inner) (hlt : k < l + inner.length) :
    EvD K (tCall (spPK K g) [] E (tCons te (tCons tx tNil))) σ H (g l inner k) := fun H1 e Q q =>
  h H1 e _ fun v H2 e2 hv => hk H2 (e.trans e2) _ fun w H3 e3 hw' => by
    cases dp_int hw'
    exact ⟨v, l, inner, k, rfl, dp_ex e3 _ hv, hw, hlt, fun r H4 e4 hr => q r H4 ((e2.trans e3).trans e4) hr⟩
section
variable {K : PySem.W.Frag} {σ : L2.St} {H : Hp} {te : TE}
/-- min of a new list of kinds -/
theorem ev_minN {ks : List Nat} (h : EvN K te σ H (natDs ks)) (h0 : ks ≠ []) : Ev (tCB (rMin K) (tCons te tNil)) σ H (nV (minN ks)) := fun H1 e Q q =>
  h H1 e _ fun p xs H2 hp e2 hx hd => by
    rw [nats_of hd] at hx
    refine ⟨p, ks.map fun (k : Nat) => (k : Int), rfl, sq_of (by rw [hx, nVs_int]), ?_, fun m hm hle => ?_⟩
    · rw [List.length_map]
      cases ks with
      | nil => exact absurd rfl h0
      | cons _ _ => simp
    · obtain ⟨c, hc, rfl⟩ := List.mem_map.mp hm
      have : minN ks = c := minN_eq hc fun y hy => by
        have := hle (y : Int) (List.mem_map_of_mem hy)
        omega
      rw [← this]
      exact q H2 e2
/-- xs[-1] -/
theorem ev_lastL {p : Addr} {pre : List Nat} {u : Nat} (h : Ev te σ H (.ref p)) (hp : H p = some (.lst (nVs (pre ++ [u])))) : Ev (tOp (rIxL K) te (tUn (rU fun i => .int (-i)) (tC (.int 1)))) σ H (nV u) :=
  ev_op h (ev_un ev_c ru_neg) (rv_ixL (K := K) (sq_of hp) (by
    unfold nVs
    rw [List.map_append]
    exact atI_last _ _))
theorem fm_natsP {f : PyData → Option PyData} {g : Nat → Bool} (hf : ∀ x, f (natD x) = if g x = true then some (natD x) else none) : ∀ ks : List Nat, (natDs ks).filterMap f = natDs (ks.filter g)
  | [] => rfl
  | x :: r => by
    show (natD x :: natDs r).filterMap f = _
    rw [List.filterMap_cons, hf, List.filter_cons, fm_natsP hf r]
    cases g x <;> rfl
/-- the kinds of ks that .., a new list -/
theorem en_natLc {tt : TT} {wi : TI} {j : Nat} {vs : List Nat} {ks : List Nat} (g : Nat → Bool) (h : Src K wi σ H (natDs ks)) (hz : ks.length ≤ 40000) (hw : ∀ x, wipe ((wipe σ vs).set j (some x)) vs = wipe σ vs) (hj : j < (wipe σ vs).length)
    (ht : ∀ c H1, Ex H H1 → c ∈ ks → EvT tt ((wipe σ vs).set j (some (nV c))) H1 (g c)) : EvN K (tLc wi (gName j) tt (tVar j) vs) σ H (natDs (ks.filter g)) := by
  have q1 := en_lc (K := K) (t := tt) (te := tVar j) (j := j) (vs := vs) (ds := natDs ks) (fun d => match d with | .int c => if g c.toNat = true then some (natD c.toNat) else none | _ => none) h (by unfold natDs; rw [List.length_map]; exact hz) hw (fun d v H1 e hd hv => ?_) (fun d r v H1 e hd hv hr => ?_) (fun d r hd hr => ?_)
  · have e : (natDs ks).filterMap (fun d => match d with | .int c => if g c.toNat = true then some (natD c.toNat) else none | _ => none) = natDs (ks.filter g) := fm_natsP (f := fun d => match d with | .int c => if g c.toNat = true then some (natD c.toNat) else none | _ => none) (fun x => by
      show (if g ((x : Int).toNat) = true then some (natD ((x : Int).toNat)) else none) = _
      rw [Int.toNat_natCast]) ks
    rw [e] at q1
    exact q1
  · obtain ⟨c, hc, rfl⟩ := List.mem_map.mp hd
    cases dp_int hv
    refine et_is (ht c H1 e hc) ?_
    show g c = (if g ((c : Int).toNat) = true then some (natD ((c : Int).toNat)) else none).isSome
    rw [Int.toNat_natCast]
    cases g c <;> rfl
  · obtain ⟨c, hc, rfl⟩ := List.mem_map.mp hd
    have hr : (if g ((c : Int).toNat) = true then some (natD ((c : Int).toNat)) else none) = some r := hr
    rw [Int.toNat_natCast] at hr
    split at hr
    · cases hr
      cases dp_int hv
      exact ed_i (ev_var (by rw [List.getElem?_set_self hj]))
    · cases hr
  · obtain ⟨c, hc, rfl⟩ := List.mem_map.mp hd
    have hr : (if g ((c : Int).toNat) = true then some (natD ((c : Int).toNat)) else none) = some r := hr
    split at hr
    · cases hr
      rfl
    · cases hr
end
end WR
set_option Elab.async false
set_option linter.all false
set_option maxRecDepth 100000
set_option maxHeartbeats 1000000
namespace WR
open PySem PySem.Spec PyProof.Rows L2 Evl

/-! ### k06: the mathematics -/
theorem rch_trans {kk : List (List Nat)} {a b c : Nat} (h1 : Rch kk a b) (h2 : Rch kk b c) : Rch kk a c := fun T hT hS => h2 T (h1 T hT hS) hS
section
variable {l : Nat} {inner : List (List Nat)} (W : WebP l inner)
include W
theorem hdK : ∀ u c, c ∈ rowAt (kkOf l inner) u → c < u := fun u c h => by
  rw [rowAt_kk] at h
  exact (kidsAt_lt W.raw h).2
theorem rch_kid {u c : Nat} (h : c ∈ kidsAt l inner u) : Rch (kkOf l inner) u c := rch_shut u c rch_self (by rw [rowAt_kk]; exact h)
theorem rch_root : ∀ {x : Nat}, x < l + inner.length → Rch (kkOf l inner) (l + inner.length - 1) x := by
  have key : ∀ m x, x + m + 1 = l + inner.length → Rch (kkOf l inner) (l + inner.length - 1) x := fun m => by
    induction m using Nat.strongRecOn with
    | ind m ih =>
      intro x hx
      by_cases z : x + 1 = l + inner.length
      · rw [show l + inner.length - 1 = x by omega]
        exact rch_self
      · have hne : parsAt l inner x ≠ [] := fun e => z ((W.root x (by omega)).mp e)
        obtain ⟨u, hu⟩ := List.exists_mem_of_ne_nil _ hne
        obtain ⟨a, b⟩ := mem_pars.mp hu
        have := (kidsAt_lt W.raw b).2
        exact rch_trans (ih (l + inner.length - 1 - u) (by omega) u (by omega)) (rch_kid W b)
  intro x hx
  exact key (l + inner.length - 1 - x) x (by omega)
theorem mem_ben {k x : Nat} : x ∈ benL l inner k ↔ x < k ∧ Rch (kkOf l inner) k x := by
  unfold benL
  rw [List.mem_filter, List.mem_range, rchB_iff]
theorem ben_kid {k c : Nat} (h : c ∈ kidsAt l inner k) : c ∈ benL l inner k := (mem_ben W).mpr ⟨(kidsAt_lt W.raw h).2, rch_kid W h⟩
theorem ben_sub {k c x : Nat} (h : c ∈ kidsAt l inner k) (hx : x ∈ benL l inner c) : x ∈ benL l inner k := by
  obtain ⟨a, b⟩ := (mem_ben W).mp hx
  have := (kidsAt_lt W.raw h).2
  exact (mem_ben W).mpr ⟨by omega, rch_trans (rch_kid W h) b⟩
theorem ben_len {k : Nat} (hk : k < l + inner.length) : ((benL l inner k).length = l + inner.length - 1 ↔ k = l + inner.length - 1) := by
  have h1 := W.raw.l1
  constructor
  · intro h
    have : (benL l inner k).length ≤ k := by
      unfold benL
      have := List.length_filter_le (rchB (kkOf l inner) k) (List.range k)
      rw [List.length_range] at this
      exact this
    omega
  · rintro rfl
    unfold benL
    rw [List.filter_eq_self.mpr fun x hx => ?_, List.length_range]
    exact rchB_iff.mpr (rch_root W (by have := List.mem_range.mp hx; omega))
end
/-! roads -/
theorem roadL_fuel {nx : Nat → Nat} {l b : Nat} (hd : ∀ u, l ≤ u → u ≤ b → nx u < u) : ∀ {m m' k : Nat}, k ≤ b → k ≤ m → k ≤ m' → roadL nx l m k = roadL nx l m' k
  | m, m', k, hb, h1, h2 => by
    by_cases z : k < l
    · rw [roadL_leaf z, roadL_leaf z]
    · by_cases z0 : k = 0
      · subst z0
        cases m with
        | zero =>
          cases m' with
          | zero => rfl
          | succ m' =>
            have := hd 0 (by omega) hb
            omega
        | succ m =>
          have := hd 0 (by omega) hb
          omega
      · obtain ⟨a, rfl⟩ : ∃ a, m = a + 1 := ⟨m - 1, by omega⟩
        obtain ⟨c, rfl⟩ : ∃ c, m' = c + 1 := ⟨m' - 1, by omega⟩
        have := hd k (by omega) hb
        rw [roadL_go z, roadL_go z, roadL_fuel hd (m := a) (m' := c) (k := nx k) (by omega) (by omega) (by omega)]
theorem roadL_head {nx : Nat → Nat} {l m k : Nat} : (roadL nx l m k).head? = some k := by
  cases m with
  | zero => rfl
  | succ m =>
    show (if k < l then [k] else k :: roadL nx l m (nx k)).head? = _
    split <;> rfl
theorem getLastD_cons {a d : Nat} {r : List Nat} (h : r ≠ []) : (a :: r).getLastD d = r.getLastD d := by
  cases r with
  | nil => exact absurd rfl h
  | cons b r => simp [List.getLastD]
theorem roadL_last {nx : Nat → Nat} {l b : Nat} (hd : ∀ u, l ≤ u → u ≤ b → nx u < u) : ∀ {m k : Nat}, k ≤ b → k ≤ m → 0 < l → (roadL nx l m k).getLastD 0 < l
  | 0, k, hb, hm, h0 => by
    rw [roadL_leaf (by omega)]
    show k < l
    omega
  | m + 1, k, hb, hm, h0 => by
    by_cases z : k < l
    · rw [roadL_leaf z]
      exact z
    · have := hd k (by omega) hb
      rw [roadL_go z, getLastD_cons roadL_ne]
      exact roadL_last hd (by omega) (by omega) h0
theorem roadL_tail {nx : Nat → Nat} {l b : Nat} {p : Nat → Prop} (hd : ∀ u, l ≤ u → u ≤ b → nx u < u) (hp : ∀ u, l ≤ u → u ≤ b → p (nx u)) : ∀ {m k : Nat}, k ≤ b → ∀ x ∈ (roadL nx l m k).tail, p x
  | 0, k, hb, x, hx => by cases hx
  | m + 1, k, hb, x, hx => by
    by_cases z : k < l
    · rw [roadL_leaf z] at hx
      cases hx
    · rw [roadL_go z] at hx
      have hx : x ∈ roadL nx l m (nx k) := hx
      have h1 := hd k (by omega) hb
      have hh := roadL_head (nx := nx) (l := l) (m := m) (k := nx k)
      cases e : roadL nx l m (nx k) with
      | nil => exact absurd e roadL_ne
      | cons y r =>
        rw [e] at hx hh
        have hy : y = nx k := Option.some.inj hh
        rcases List.mem_cons.mp hx with h | h
        · rw [h, hy]
          exact hp k (by omega) hb
        · exact roadL_tail hd hp (m := m) (k := nx k) (by omega) x (by rw [e]; exact h)
theorem roadL_link {nx : Nat → Nat} {l b : Nat} {q : Nat → Nat → Prop} (hd : ∀ u, l ≤ u → u ≤ b → nx u < u) (hq : ∀ u, l ≤ u → u ≤ b → q u (nx u)) : ∀ {m k : Nat}, k ≤ b → ∀ i x y, (roadL nx l m k)[i]? = some x → (roadL nx l m k)[i + 1]? = some y → q x y
  | 0, k, hb, i, x, y, hx, hy => by
    have := (List.getElem?_eq_some_iff.mp hy).1
    have e : (roadL nx l 0 k).length = 1 := rfl
    omega
  | m + 1, k, hb, i, x, y, hx, hy => by
    by_cases z : k < l
    · rw [roadL_leaf z] at hy
      have := (List.getElem?_eq_some_iff.mp hy).1
      simp at this
    · rw [roadL_go z] at hx hy
      have h1 := hd k (by omega) hb
      cases i with
      | zero =>
        have hx : some k = some x := hx
        cases hx
        have hy : (roadL nx l m (nx k))[0]? = some y := hy
        have hh := roadL_head (nx := nx) (l := l) (m := m) (k := nx k)
        rw [List.head?_eq_getElem?, hy] at hh
        cases hh
        exact hq k (by omega) hb
      | succ i => exact roadL_link hd hq (m := m) (k := nx k) (by omega) i x y hx hy
theorem roadL_part {nx : Nat → Nat} {l b : Nat} (hd : ∀ u, l ≤ u → u ≤ b → nx u < u) : ∀ {m k : Nat}, k ≤ b → k ≤ m → ∀ x ∈ roadL nx l m k, (roadL nx l x x).getLastD 0 = (roadL nx l m k).getLastD 0
  | 0, k, hb, hm, x, hx => by
    have hk : k = 0 := by omega
    subst hk
    have hx := List.mem_singleton.mp hx
    subst hx
    rfl
  | m + 1, k, hb, hm, x, hx => by
    by_cases z : k < l
    · rw [roadL_leaf z] at hx ⊢
      rw [List.mem_singleton.mp hx, roadL_leaf z]
    · have hx' := hx
      rw [roadL_go z] at hx'
      rcases List.mem_cons.mp hx' with h | h
      · subst h
        rw [roadL_fuel hd (m := x) (m' := m + 1) hb (Nat.le_refl _) hm]
      · have h1 := hd k (by omega) hb
        rw [roadL_go z, getLastD_cons roadL_ne]
        exact roadL_part hd (by omega) (by omega) x h
section
variable {l : Nat} {inner : List (List Nat)} (W : WebP l inner) {k : Nat} (hk : k < l + inner.length)
include W hk
theorem nxd : ∀ u, l ≤ u → u ≤ k → nxt (kidsAt l inner) (fun c => decide ((parsAt l inner c).length ≤ 1)) u < u := fun u a b => nxt_lt W a (by omega)
theorem road_last : (roadN l inner k).getLastD 0 < l := roadL_last (nxd W hk) (Nat.le_refl k) (Nat.le_refl k) (by have := W.raw.l1; omega)
theorem road_plain : ∀ x ∈ (roadN l inner k).tail, (parsAt l inner x).length ≤ 1 := roadL_tail (nxd W hk) (fun u a b => (nxt_ok W a (by omega)).2) (Nat.le_refl k)
theorem road_link : ∀ i x y, (roadN l inner k)[i]? = some x → (roadN l inner k)[i + 1]? = some y → y ∈ kidsAt l inner x := roadL_link (q := fun x y => y ∈ kidsAt l inner x) (nxd W hk) (fun u a b => (nxt_ok W a (by omega)).1) (Nat.le_refl k)
theorem road_part : ∀ x ∈ roadN l inner k, (roadN l inner x).getLastD 0 = (roadN l inner k).getLastD 0 := roadL_part (nxd W hk) (Nat.le_refl k) (Nat.le_refl k)
end
/-! trees have as many links as kinds less one -/
theorem bump_sum {cs : List Int} {c : Nat} (h : c < cs.length) : (bump cs c).sum = cs.sum + 1 := by
  unfold bump
  have h1 : cs[c]? = some (cs.getD c 0) := by
    rw [List.getD_eq_getElem?_getD, List.getElem?_eq_getElem h]
    rfl
  rw [sum_set h1]
  omega
theorem bumpAll_sum : ∀ {ks : List Nat} {cs : List Int}, (∀ c ∈ ks, c < cs.length) → (bumpAll cs ks).sum = cs.sum + ks.length
  | [], cs, _ => by
    show cs.sum = _
    simp
  | c :: r, cs, h => by
    show (bumpAll (bump cs c) r).sum = _
    rw [bumpAll_sum fun x hx => by rw [bump_len]; exact h x (List.mem_cons_of_mem _ hx), bump_sum (h c (List.mem_cons_self ..)), List.length_cons]
    omega
theorem cnts_sum {l : Nat} {inner : List (List Nat)} (hw : Raw l inner) : ∀ i, i ≤ inner.length → (cntF (l + inner.length) (inner.take i)).sum = ((linksTo l inner (l + i)).length : Nat)
  | 0, _ => by
    have h0 : linksTo l inner (l + 0) = [] := by
      unfold linksTo
      refine List.flatMap_eq_nil_iff.mpr fun u hu => ?_
      rw [kidsAt_leaf (by have := List.mem_range.mp hu; omega)]
      rfl
    rw [h0, List.take_zero]
    show (List.replicate (l + inner.length) (0 : Int)).sum = 0
    generalize l + inner.length = n
    induction n with
    | zero => rfl
    | succ n ih => rw [List.replicate_succ, List.sum_cons, ih]; rfl
  | i + 1, hi => by
    have hil : i < inner.length := by omega
    have hg : inner[i]? = some inner[i] := List.getElem?_eq_getElem hil
    have hk2 : kidsAt l inner (l + i) = inner[i] := by
      unfold kidsAt
      rw [if_neg (by omega), show l + i - l = i by omega, List.getD_eq_getElem?_getD, hg]
      rfl
    rw [cntF_take hg, bumpAll_sum fun c hc => by rw [cntF_len]; exact raw_lt hw (List.getElem_mem hil) c hc, cnts_sum hw i (by omega), show l + (i + 1) = (l + i) + 1 by omega, linksTo_succ, List.length_append, List.length_map, hk2]
    omega
theorem ones_sum : ∀ {ns : List Int}, (∀ n ∈ ns, 1 ≤ n) → ((ns.length : Int) ≤ ns.sum ∧ (ns.sum = ns.length ↔ ∀ n ∈ ns, n ≤ 1))
  | [], _ => ⟨by simp, by simp⟩
  | n :: r, h => by
    obtain ⟨a, b⟩ := ones_sum (ns := r) fun m hm => h m (List.mem_cons_of_mem _ hm)
    have hn := h n (List.mem_cons_self ..)
    rw [List.sum_cons, List.length_cons]
    refine ⟨by omega, ?_⟩
    constructor
    · intro e m hm
      have e2 : r.sum = r.length := by omega
      rcases List.mem_cons.mp hm with rfl | hm
      · omega
      · exact b.mp e2 m hm
    · intro e
      have := b.mpr fun m hm => e m (List.mem_cons_of_mem _ hm)
      have := e n (List.mem_cons_self ..)
      omega
theorem tree_links {l : Nat} {inner : List (List Nat)} (W : WebP l inner) : decide (((mixL l inner).length : Int) = 0) = decide (((linksTo l inner (l + inner.length)).length : Int) = ((l + inner.length : Nat) : Int) - 1) := by
  have h1 := W.raw.l1
  obtain ⟨n, en⟩ : ∃ n, l + inner.length = n + 1 := ⟨l + inner.length - 1, by omega⟩
  have hs := cnts_sum W.raw inner.length (Nat.le_refl _)
  rw [List.take_length] at hs
  have hcl : (cnts l inner).length = l + inner.length := cntF_len _ _
  have hc : cnts l inner = (List.range (l + inner.length)).map (cK l inner) := by
    refine List.ext_getElem? fun k => ?_
    by_cases z : k < l + inner.length
    · rw [List.getElem?_map, List.getElem?_range z, List.getElem?_eq_getElem (by omega)]
      show some _ = some ((cnts l inner).getD k 0)
      rw [List.getD_eq_getElem?_getD, List.getElem?_eq_getElem (by omega)]
      rfl
    · rw [List.getElem?_eq_none (by omega), List.getElem?_eq_none (by rw [List.length_map, List.length_range]; omega)]
  have hck : ∀ k, k < l + inner.length → cK l inner k = ((parsAt l inner k).length : Int) := fun k hk => cK_pars W.nd hk
  have htop : cK l inner n = 0 := by
    rw [hck n (by omega), (W.root n (by omega)).mpr (by omega)]
    rfl
  have hsum : ((List.range n).map (cK l inner)).sum = ((linksTo l inner (l + inner.length)).length : Nat) := by
    have e : (cnts l inner).sum = ((List.range n).map (cK l inner)).sum := by
      rw [hc, en, List.range_succ, List.map_append, List.sum_append]
      simp [htop]
    rw [← e]
    exact hs
  have hone : ∀ m ∈ (List.range n).map (cK l inner), 1 ≤ m := fun m hm => by
    obtain ⟨k, hk, rfl⟩ := List.mem_map.mp hm
    have hk := List.mem_range.mp hk
    rw [hck k (by omega)]
    have : parsAt l inner k ≠ [] := fun e => by have := (W.root k (by omega)).mp e; omega
    have := List.length_pos_iff.mpr this
    omega
  obtain ⟨_, hiff⟩ := ones_sum hone
  rw [List.length_map, List.length_range, hsum] at hiff
  refine decide_eq_decide.mpr ?_
  rw [show ((l + inner.length : Nat) : Int) - 1 = (n : Int) by omega, hiff]
  constructor
  · intro e m hm
    obtain ⟨k, hk, rfl⟩ := List.mem_map.mp hm
    have hk := List.mem_range.mp hk
    refine Classical.byContradiction fun z => ?_
    have hm : k ∈ mixL l inner := by
      unfold mixL
      exact List.mem_filter.mpr ⟨List.mem_range.mpr (by omega), decide_eq_true (by omega)⟩
    have := List.length_pos_of_mem hm
    omega
  · intro e
    have : mixL l inner = [] := by
      unfold mixL
      refine List.filter_eq_nil_iff.mpr fun k hk => ?_
      have hk := List.mem_range.mp hk
      by_cases z : k < n
      · have := e _ (List.mem_map_of_mem (List.mem_range.mpr z))
        simp
        omega
      · have : k = n := by omega
        rw [this, htop]
        decide
    rw [this]
    rfl
end WR
set_option Elab.async false
set_option linter.all false
set_option maxRecDepth 100000
set_option maxHeartbeats 1000000
namespace WR
open PySem PySem.Spec PyProof.Rows L2 Evl

/-! ### point [3] (a): rows tell what is beneath -/
theorem roadL_rch {kk : List (List Nat)} {nx : Nat → Nat} {l b : Nat} (hd : ∀ u, l ≤ u → u ≤ b → nx u < u) (hq : ∀ u, l ≤ u → u ≤ b → nx u ∈ rowAt kk u) : ∀ {m k : Nat}, k ≤ b → ∀ x ∈ roadL nx l m k, Rch kk k x
  | 0, k, hb, x, hx => by rw [List.mem_singleton.mp hx]; exact rch_self
  | m + 1, k, hb, x, hx => by
    by_cases z : k < l
    · rw [roadL_leaf z] at hx
      rw [List.mem_singleton.mp hx]
      exact rch_self
    · rw [roadL_go z] at hx
      have h1 := hd k (by omega) hb
      rcases List.mem_cons.mp hx with h | h
      · rw [h]
        exact rch_self
      · exact rch_trans (rch_shut k (nx k) rch_self (hq k (by omega) hb)) (roadL_rch hd hq (m := m) (k := nx k) (by omega) x h)
theorem roadL_par {nx : Nat → Nat} {l b : Nat} {q : Nat → Nat → Prop} (hd : ∀ u, l ≤ u → u ≤ b → nx u < u) (hq : ∀ u, l ≤ u → u ≤ b → q u (nx u)) : ∀ {m k : Nat}, k ≤ b → ∀ x ∈ roadL nx l m k, x ≠ k → ∃ p ∈ roadL nx l m k, q p x
  | 0, k, hb, x, hx, hn => absurd (List.mem_singleton.mp hx) hn
  | m + 1, k, hb, x, hx, hn => by
    by_cases z : k < l
    · rw [roadL_leaf z] at hx
      exact absurd (List.mem_singleton.mp hx) hn
    · rw [roadL_go z] at hx ⊢
      have h1 := hd k (by omega) hb
      rcases List.mem_cons.mp hx with h | h
      · exact absurd h hn
      · by_cases e : x = nx k
        · exact ⟨k, List.mem_cons_self .., by rw [e]; exact hq k (by omega) hb⟩
        · obtain ⟨p, hp, hpq⟩ := roadL_par hd hq (m := m) (k := nx k) (by omega) x h e
          exact ⟨p, List.mem_cons_of_mem _ hp, hpq⟩
theorem sum_two {f : Nat → Int} {c d : Nat} (h0 : ∀ k, 0 ≤ f k) (hn : c ≠ d) : ∀ {ks : List Nat}, c ∈ ks → d ∈ ks → f c + f d ≤ (ks.map f).sum
  | k :: r, hc, hd => by
    have hge : ∀ x, x ∈ r → f x ≤ (r.map f).sum := fun x hx => sum_ge (fun n hn => by
      obtain ⟨y, _, rfl⟩ := List.mem_map.mp hn
      exact h0 y) (List.mem_map_of_mem hx)
    rw [List.map_cons, List.sum_cons]
    rcases List.mem_cons.mp hc with e1 | c1
    · rcases List.mem_cons.mp hd with e2 | d1
      · exact absurd (e1.trans e2.symm) hn
      · have := hge d d1
        rw [e1]
        omega
    · rcases List.mem_cons.mp hd with e2 | d1
      · have := hge c c1
        rw [e2]
        omega
      · have := sum_two h0 hn c1 d1
        have := h0 k
        omega
section
variable {l : Nat} {inner : List (List Nat)} (W : WebP l inner)
include W
theorem road_rch {k x : Nat} (hk : k < l + inner.length) (hx : x ∈ roadN l inner k) : Rch (kkOf l inner) k x :=
  roadL_rch (b := k) (fun u a b => nxt_lt W a (by omega)) (fun u a b => by rw [rowAt_kk]; exact (nxt_ok W a (by omega)).1) (Nat.le_refl k) x hx
theorem hdN : ∀ u c, c ∈ kidsAt l inner u → c < u := fun u c h => (kidsAt_lt W.raw h).2
theorem way_pos {k x : Nat} : 0 < way (kidsAt l inner) x k ↔ Rch (kkOf l inner) k x := by
  have := way_rch (kk := kkOf l inner) (hdK W) (to := x) k
  rw [rowAt_kkE] at this
  exact this
theorem way_mono {k t x : Nat} (h : Rch (kkOf l inner) k t) : way (kidsAt l inner) x t ≤ way (kidsAt l inner) x k :=
  h (fun y => way (kidsAt l inner) x y ≤ way (kidsAt l inner) x k) (Int.le_refl _) fun u c hu hc => by
    rw [rowAt_kk] at hc
    exact Int.le_trans (way_ge (hdN W) hc) hu
theorem leafof {k : Nat} (hk : k < l + inner.length) : (roadN l inner k).getLastD 0 < l ∧ (roadN l inner k).getLastD 0 ∈ roadN l inner k ∧ 1 ≤ way (kidsAt l inner) ((roadN l inner k).getLastD 0) k := by
  have hne : roadN l inner k ≠ [] := roadL_ne
  have hm : (roadN l inner k).getLastD 0 ∈ roadN l inner k := by
    rw [List.getLastD_eq_getLast?, List.getLast?_eq_some_getLast hne]
    exact List.getLast_mem hne
  have := (way_pos W).mpr (road_rch W hk hm)
  exact ⟨road_last W hk, hm, by omega⟩
/-- a kind with two children has more than each of them -/
theorem way_strict {u c : Nat} (hu : u < l + inner.length) (hc : c ∈ kidsAt l inner u) (h2 : 2 ≤ (kidsAt l inner u).length) : ∃ x, x < l ∧ way (kidsAt l inner) x c < way (kidsAt l inner) x u := by
  have hlu : l ≤ u := by
    refine Classical.byContradiction fun z => ?_
    rw [show kidsAt l inner u = [] from if_pos (by omega)] at hc
    cases hc
  have hnd : (kidsAt l inner u).Nodup := W.nd _ (kidsAt_inner hlu hu)
  obtain ⟨d, hd, hdc⟩ : ∃ d ∈ kidsAt l inner u, c ≠ d := by
    cases e : kidsAt l inner u with
    | nil =>
      rw [e] at hc
      cases hc
    | cons a r =>
      rw [e] at h2 hnd
      cases r with
      | nil => simp at h2
      | cons b r =>
        rw [List.nodup_cons] at hnd
        by_cases z : c = a
        · exact ⟨b, by simp, fun y => hnd.1 (by rw [← z, y]; exact List.mem_cons_self ..)⟩
        · exact ⟨a, by simp, z⟩
  have hdl := (kidsAt_lt W.raw hd).1
  obtain ⟨h3, _, h4⟩ := leafof W hdl
  refine ⟨_, h3, ?_⟩
  rw [way_rec (hdN W u), if_neg (by omega), Int.add_zero]
  have := sum_two (f := way (kidsAt l inner) ((roadN l inner d).getLastD 0)) (fun k => way_nn (hdN W) k) hdc hc hd
  have h5 := way_nn (to := (roadN l inner d).getLastD 0) (hdN W) c
  omega
theorem rch_step {k t : Nat} (h : Rch (kkOf l inner) k t) (hn : t ≠ k) : ∃ c ∈ kidsAt l inner k, Rch (kkOf l inner) c t := by
  have := h (fun y => y = k ∨ ∃ c ∈ kidsAt l inner k, Rch (kkOf l inner) c y) (.inl rfl) fun u c hu hc => by
    rcases hu with rfl | ⟨d, hd, hdu⟩
    · rw [rowAt_kk] at hc
      exact .inr ⟨c, hc, rch_self⟩
    · exact .inr ⟨d, hd, rch_shut u c hdu hc⟩
  rcases this with e | e
  · exact absurd e hn
  · exact e
theorem rch_in {k t : Nat} (hk : k < l + inner.length) (h : Rch (kkOf l inner) k t) : t < l + inner.length := by
  have := rch_le (hdK W) h
  omega
/-- equal rows: a mixing and its child -/
theorem eq_child {k t : Nat} (hk : k < l + inner.length) (h : Rch (kkOf l inner) k t) (hn : t ≠ k) (he : ∀ x, x < l → way (kidsAt l inner) x t = way (kidsAt l inner) x k) : 1 < (parsAt l inner k).length ∧ kidsAt l inner k = [t] := by
  obtain ⟨c, hc, hct⟩ := rch_step W h hn
  have hlk : l ≤ k := by
    refine Classical.byContradiction fun z => ?_
    rw [show kidsAt l inner k = [] from if_pos (by omega)] at hc
    cases hc
  have no2 : ∀ {u d : Nat}, u < l + inner.length → Rch (kkOf l inner) k u → d ∈ kidsAt l inner u → Rch (kkOf l inner) d t → ¬ 2 ≤ (kidsAt l inner u).length := fun {u d} hu hku hd hdt h2 => by
    obtain ⟨x, hx, hlt⟩ := way_strict W hu hd h2
    have h3 := way_mono W (x := x) hdt
    have h4 := way_mono W (x := x) hku
    have := he x hx
    omega
  have hp : 1 < (parsAt l inner k).length := by
    refine Classical.byContradiction fun z => ?_
    exact no2 hk rch_self hc hct (W.one k hlk hk (by omega))
  have h1 := W.mix k hk hp
  obtain ⟨a, ha⟩ := List.length_eq_one_iff.mp h1
  rw [ha] at hc
  have hca := List.mem_singleton.mp hc
  subst hca
  refine ⟨hp, ?_⟩
  rw [ha]
  by_cases z : t = c
  · rw [z]
  · obtain ⟨d, hd, hdt⟩ := rch_step W hct z
    have hck : c ∈ kidsAt l inner k := by rw [ha]; exact List.mem_singleton.mpr rfl
    have hcl := (kidsAt_lt W.raw hck).1
    have hlc : l ≤ c := by
      refine Classical.byContradiction fun y => ?_
      rw [show kidsAt l inner c = [] from if_pos (by omega)] at hd
      cases hd
    obtain ⟨e, he1, he2⟩ := W.bare k hlk hk
    rw [ha] at he1
    rw [List.mem_singleton.mp he1] at he2
    exact absurd (W.one c hlc hcl he2) (no2 hcl (rch_kid W hck) hd hdt)
theorem child_eq {k t x : Nat} (hx : x < l) (h : kidsAt l inner k = [t]) : way (kidsAt l inner) x k = way (kidsAt l inner) x t := by
  have hlk : l ≤ k := by
    refine Classical.byContradiction fun z => ?_
    rw [show kidsAt l inner k = [] from if_pos (by omega)] at h
    cases h
  rw [way_rec (hdN W k), if_neg (by omega), Int.add_zero, h]
  simp
/-- where no number is above: beneath, or above -/
theorem below_or {k t : Nat} (hk : k < l + inner.length) (ht : t < l + inner.length) (hb : ∀ x, x < l → way (kidsAt l inner) x t ≤ way (kidsAt l inner) x k) : Rch (kkOf l inner) k t ∨ Rch (kkOf l inner) t k := by
  obtain ⟨h1, h2, h3⟩ := leafof W ht
  have h4 := hb _ h1
  have h5 := (way_pos W).mp (show 0 < way (kidsAt l inner) ((roadN l inner t).getLastD 0) k by omega)
  refine Classical.byContradiction fun z => ?_
  have z1 : ¬ Rch (kkOf l inner) k t := fun y => z (.inl y)
  have z2 : k ∉ roadN l inner t := fun y => z (.inr (road_rch W ht y))
  have hle := roadN_le W ht
  have := h5 (fun y => Rch (kkOf l inner) k y ∧ y ∉ roadN l inner t) ⟨rch_self, z2⟩ fun u c hu hc => by
    refine ⟨rch_shut u c hu.1 hc, fun hcr => ?_⟩
    have hkc : Rch (kkOf l inner) k c := rch_shut u c hu.1 hc
    have hct : c ≠ t := fun y => z1 (y ▸ hkc)
    rw [rowAt_kk] at hc
    obtain ⟨p, hp, hpc, hp1⟩ := roadL_par (b := t) (q := fun p x => x ∈ kidsAt l inner p ∧ (parsAt l inner x).length ≤ 1) (fun u a b => nxt_lt W a (by omega)) (fun u a b => nxt_ok W a (by omega)) (Nat.le_refl t) c hcr hct
    have hp' : p < l + inner.length := by have := hle p hp; omega
    have m1 : u ∈ parsAt l inner c := mem_pars.mpr ⟨rch_in W hk hu.1, hc⟩
    have m2 : p ∈ parsAt l inner c := mem_pars.mpr ⟨hp', hpc⟩
    have : u = p := by
      cases e : parsAt l inner c with
      | nil =>
        rw [e] at m1
        cases m1
      | cons a r =>
        rw [e] at hp1 m1 m2
        have hr : r = [] := List.length_eq_zero_iff.mp (by rw [List.length_cons] at hp1; omega)
        subst hr
        rw [List.mem_singleton.mp m1, List.mem_singleton.mp m2]
    exact hu.2 (this ▸ hp)
  exact this.2 h2
end
theorem rowI_le {l k t : Nat} {inner : List (List Nat)} : (∀ x, x < l → way (kidsAt l inner) x t = way (kidsAt l inner) x k) ↔ rowI l inner t = rowI l inner k := by
  unfold rowI
  constructor
  · intro h
    exact List.map_congr_left fun x hx => h x (List.mem_range.mp hx)
  · intro h x hx
    have := congrArg (fun l => l[x]?) h
    simp only [List.getElem?_map, List.getElem?_range hx] at this
    exact Option.some.inj this
def mixB (l : Nat) (inner : List (List Nat)) (k t : Nat) : Bool := decide ((1 : Int) < ((parsAt l inner k).length : Int)) && decide (kidsAt l inner k = [t])
def belowB (l : Nat) (inner : List (List Nat)) (t k : Nat) : Bool := (List.range l).all fun x => decide (way (kidsAt l inner) x t ≤ way (kidsAt l inner) x k)
theorem mixB_iff {l k t : Nat} {inner : List (List Nat)} : mixB l inner k t = true ↔ 1 < (parsAt l inner k).length ∧ kidsAt l inner k = [t] := by
  unfold mixB
  rw [Bool.and_eq_true, decide_eq_true_iff, decide_eq_true_iff]
  exact ⟨fun h => ⟨by have := h.1; omega, h.2⟩, fun h => ⟨by have := h.1; omega, h.2⟩⟩
theorem belowB_iff {l k t : Nat} {inner : List (List Nat)} : belowB l inner t k = true ↔ ∀ x, x < l → way (kidsAt l inner) x t ≤ way (kidsAt l inner) x k := by
  unfold belowB
  rw [List.all_eq_true]
  exact ⟨fun h x hx => of_decide_eq_true (h x (List.mem_range.mpr hx)), fun h x hx => decide_eq_true (h x (List.mem_range.mp hx))⟩
theorem beneath_rows {l k t : Nat} {inner : List (List Nat)} (W : WebP l inner) (hk : k < l + inner.length) (ht : t < l + inner.length) (hn : t ≠ k) :
    decide (t ∈ benL l inner k) = (belowB l inner t k && (!decide (rowI l inner t = rowI l inner k) || mixB l inner k t)) := by
  rw [Bool.eq_iff_iff, decide_eq_true_iff, Bool.and_eq_true, Bool.or_eq_true, Bool.not_eq_true', decide_eq_false_iff_not, belowB_iff, mixB_iff, mem_ben W]
  constructor
  · rintro ⟨h1, h2⟩
    refine ⟨fun x hx => way_mono W h2, ?_⟩
    by_cases z : rowI l inner t = rowI l inner k
    · exact .inr (eq_child W hk h2 hn (rowI_le.mpr z))
    · exact .inl z
  · rintro ⟨h1, h2⟩
    rcases h2 with h2 | h2
    · rcases below_or W hk ht h1 with h | h
      · have := rch_le (hdK W) h
        exact ⟨by omega, h⟩
      · refine absurd (rowI_le.mp fun x hx => ?_) h2
        have a := h1 x hx
        have b := way_mono W (x := x) h
        omega
    · have hm : t ∈ kidsAt l inner k := by rw [h2.2]; exact List.mem_singleton.mpr rfl
      exact ⟨(kidsAt_lt W.raw hm).2, rch_kid W hm⟩
theorem equal_rows {l k t : Nat} {inner : List (List Nat)} (W : WebP l inner) (hk : k < l + inner.length) (ht : t < l + inner.length) (hn : t ≠ k) :
    decide (rowI l inner t = rowI l inner k) = (mixB l inner k t || mixB l inner t k) := by
  rw [Bool.eq_iff_iff, decide_eq_true_iff, Bool.or_eq_true, mixB_iff, mixB_iff]
  constructor
  · intro h
    have h1 := rowI_le.mpr h
    rcases below_or W hk ht fun x hx => Int.le_of_eq (h1 x hx) with h2 | h2
    · exact .inl (eq_child W hk h2 hn h1)
    · exact .inr (eq_child W ht h2 (Ne.symm hn) fun x hx => (h1 x hx).symm)
  · intro h
    refine rowI_le.mp fun x hx => ?_
    rcases h with h | h
    · exact (child_eq W hx h.2).symm
    · exact child_eq W hx h.2
end WR
set_option Elab.async false
set_option linter.all false
set_option maxRecDepth 100000
set_option maxHeartbeats 1000000
namespace WR
open PySem PySem.Spec PyProof.Rows L2 Evl

/-! ### a web numbered otherwise has the same lot -/
theorem sum_perm {a b : List Int} (h : a.Perm b) : a.sum = b.sum := by
  induction h with
  | nil => rfl
  | cons x _ ih => rw [List.sum_cons, List.sum_cons, ih]
  | swap x y l =>
    rw [List.sum_cons, List.sum_cons, List.sum_cons, List.sum_cons]
    omega
  | trans _ _ h1 h2 => exact h1.trans h2
theorem itemOf_sum {K : Nat → List Nat} {od : List Nat} {u : Nat} (f : Nat → Int) : ((itemOf K od u).map f).sum = ((K u).map fun c => f (plc c od)).sum := by
  unfold itemOf
  rw [List.map_map]
  rw [sum_perm ((sortI_perm ((K u).map fun c => ((plc c od : Nat) : Int))).map _), List.map_map]
  congr 1
structure Nb (kk : List (List Nat)) (L : Nat) (inner : List (List Nat)) (od : List Nat) : Prop where
  gen : Gen L kk.length (rowAt kk)
  ord : Ord L kk.length (rowAt kk) od
  len : od.length = kk.length
  inn : inner = (od.drop L).map (itemOf (rowAt kk) od)
section
variable {kk : List (List Nat)} {L : Nat} {inner : List (List Nat)} {od : List Nat} (h : Nb kk L inner od)
include h
theorem Nb.n : L + inner.length = kk.length := by
  have := h.ord.len
  have := h.len
  rw [h.inn, List.length_map, List.length_drop]
  omega
theorem Nb.at {j : Nat} (hj : j < kk.length) : od[j]? = some (od.getD j 0) := by
  rw [List.getD_eq_getElem?_getD, List.getElem?_eq_getElem (by rw [h.len]; exact hj)]
  rfl
theorem Nb.perm : od.Perm (List.range kk.length) := by
  refine (List.perm_ext_iff_of_nodup h.ord.nd List.nodup_range).mpr fun a => ⟨fun ha => List.mem_range.mpr (h.ord.lt a ha), fun ha => ?_⟩
  have ha := List.mem_range.mp ha
  refine Classical.byContradiction fun z => ?_
  have := nodup_len kk.length (a :: od) (List.nodup_cons.mpr ⟨z, h.ord.nd⟩) (fun c hc => by
    rcases List.mem_cons.mp hc with rfl | hc
    · exact ha
    · exact h.ord.lt c hc)
  rw [List.length_cons, h.len] at this
  omega
theorem Nb.map : od = (List.range kk.length).map fun j => od.getD j 0 := by
  refine List.ext_getElem? fun j => ?_
  by_cases z : j < kk.length
  · rw [h.at z, List.getElem?_map, List.getElem?_range z]
    rfl
  · rw [List.getElem?_eq_none (by rw [h.len]; omega), List.getElem?_eq_none (by rw [List.length_map, List.length_range]; omega)]
theorem Nb.mem {u : Nat} (hu : u < kk.length) : u ∈ od := h.perm.mem_iff.mpr (List.mem_range.mpr hu)
theorem Nb.plc {u : Nat} (hu : u < kk.length) : plc u od < kk.length ∧ od.getD (plc u od) 0 = u := by
  have a := plc_lt (h.mem hu)
  have b := plc_get (h.mem hu)
  rw [h.len] at a
  refine ⟨a, ?_⟩
  rw [h.at a] at b
  exact Option.some.inj b
theorem Nb.kids {j : Nat} (hj : j < kk.length) : kidsAt L inner j = itemOf (rowAt kk) od (od.getD j 0) := by
  by_cases z : j < L
  · rw [show kidsAt L inner j = [] from if_pos z]
    have e : od.getD j 0 = j := by
      have := h.at hj
      rw [h.ord.lf j z] at this
      exact (Option.some.inj this).symm
    rw [e]
    unfold itemOf
    rw [h.gen.leaf j z]
    rfl
  · unfold kidsAt
    rw [if_neg z, List.getD_eq_getElem?_getD, h.inn, List.getElem?_map, List.getElem?_drop, show L + (j - L) = j by omega, h.at hj]
    rfl
theorem Nb.leaf {u x : Nat} (hu : u < kk.length) (hx : x < L) : WR.plc u od = x ↔ u = x := by
  have h1 := h.ord.lf x hx
  constructor
  · intro e
    have b := plc_get (h.mem hu)
    rw [e, h1] at b
    exact (Option.some.inj b).symm
  · rintro rfl
    exact plc_at h.ord.nd h1
theorem Nb.way {u x : Nat} (hd : ∀ u c, c ∈ kidsAt L inner u → c < u) (hu : u < kk.length) (hx : x < L) : way (kidsAt L inner) x (WR.plc u od) = ((rowAt kk u).map fun c => WR.way (kidsAt L inner) x (WR.plc c od)).sum + if u = x then 1 else 0 := by
  obtain ⟨a, b⟩ := h.plc hu
  rw [way_rec (hd _), h.kids a, b, itemOf_sum]
  have := h.leaf hu hx
  by_cases z : u = x
  · rw [if_pos (this.mpr z), if_pos z]
  · rw [if_neg fun y => z (this.mp y), if_neg z]
end
theorem ways_same {kk : List (List Nat)} {L : Nat} {i1 i2 : List (List Nat)} {o1 o2 : List Nat} (h1 : Nb kk L i1 o1) (h2 : Nb kk L i2 o2) (d1 : ∀ u c, c ∈ kidsAt L i1 u → c < u) (d2 : ∀ u c, c ∈ kidsAt L i2 u → c < u) {x : Nat} (hx : x < L) :
    ∀ u, u < kk.length → way (kidsAt L i1) x (plc u o1) = way (kidsAt L i2) x (plc u o2) := by
  obtain ⟨r, hr⟩ := h1.gen.rk
  have key : ∀ m u, r u < m → u < kk.length → way (kidsAt L i1) x (plc u o1) = way (kidsAt L i2) x (plc u o2) := fun m => by
    induction m with
    | zero => exact fun u h _ => absurd h (Nat.not_lt_zero _)
    | succ m ih =>
      intro u hm hu
      rw [h1.way d1 hu hx, h2.way d2 hu hx]
      congr 2
      exact List.map_congr_left fun c hc => ih c (by have := hr u c hc; omega) (h1.gen.lt u c hc)
  exact fun u hu => key (r u + 1) u (Nat.lt_succ_self _) hu
theorem rows_od {kk : List (List Nat)} {L : Nat} {inner : List (List Nat)} {od : List Nat} (h : Nb kk L inner od) : rowsI L inner = od.map fun u => rowI L inner (plc u od) := by
  unfold rowsI
  conv => rhs; rw [h.map]
  rw [h.n, List.map_map]
  refine List.map_congr_left fun j hj => ?_
  have hj := List.mem_range.mp hj
  show rowI L inner j = rowI L inner (plc (od.getD j 0) _)
  congr 1
  have e := h.map
  rw [← e]
  exact (plc_at h.ord.nd (h.at hj)).symm
theorem rows_perm {kk : List (List Nat)} {L : Nat} {i1 i2 : List (List Nat)} {o1 o2 : List Nat} (h1 : Nb kk L i1 o1) (h2 : Nb kk L i2 o2) (w1 : Raw L i1) (w2 : Raw L i2) : (rowsI L i1).Perm (rowsI L i2) := by
  have d1 : ∀ u c, c ∈ kidsAt L i1 u → c < u := fun u c h => (kidsAt_lt w1 h).2
  have d2 : ∀ u c, c ∈ kidsAt L i2 u → c < u := fun u c h => (kidsAt_lt w2 h).2
  rw [rows_od h1, rows_od h2]
  have e : (o1.map fun u => rowI L i1 (plc u o1)) = o1.map fun u => rowI L i2 (plc u o2) := List.map_congr_left fun u hu => by
    have hu := h1.ord.lt u hu
    unfold rowI
    refine List.map_congr_left fun x hx => ways_same h1 h2 d1 d2 (List.mem_range.mp hx) u hu
  rw [e]
  exact (h1.perm.trans h2.perm.symm).map _
theorem lot_same {kk : List (List Nat)} {L : Nat} {i1 i2 : List (List Nat)} (h1 : NumD kk L i1) (h2 : NumD kk L i2) (w1 : Raw L i1) (w2 : Raw L i2) : lotD L i1 = lotD L i2 := by
  obtain ⟨o1, a1, _, b1, c1, e1⟩ := h1
  obtain ⟨o2, a2, _, b2, c2, e2⟩ := h2
  unfold lotD
  rw [srtR_of_perm (rows_perm ⟨a1, b1, c1, e1⟩ ⟨a2, b2, c2, e2⟩ w1 w2) (rowsI_ok w2)]
/-! a heap without some lists -/
def remS (H : Hp) : List Addr → Hp
  | [] => H
  | a :: ls => rem (remS H ls) a
theorem remS_in {H : Hp} {q : Addr} : ∀ {ls : List Addr}, q ∈ ls → remS H ls q = none
  | a :: ls, h => by
    show rem (remS H ls) a q = none
    by_cases z : q = a
    · rw [z, rem_self]
    · rw [rem_ne z]
      rcases List.mem_cons.mp h with h | h
      · exact absurd h z
      · exact remS_in h
theorem remS_ne {H : Hp} {q : Addr} : ∀ {ls : List Addr}, q ∉ ls → remS H ls q = H q
  | [], _ => rfl
  | a :: ls, h => by
    show rem (remS H ls) a q = H q
    rw [rem_ne fun z => h (by rw [z]; exact List.mem_cons_self ..)]
    exact remS_ne fun z => h (List.mem_cons_of_mem _ z)
theorem dp_remS {K : PySem.W.Frag} {H : Hp} {v : V} {d : PyData} (n : nl d = true) (h : Dp K H v d) : ∀ {ls : List Addr}, (∀ a ∈ ls, ∃ ys, H a = some (.lst ys)) → Dp K (remS H ls) v d
  | [], _ => h
  | a :: ls, hl => by
    have ih := dp_remS n h (ls := ls) fun x hx => hl x (List.mem_cons_of_mem _ hx)
    show Dp K (rem (remS H ls) a) v d
    by_cases z : a ∈ ls
    · have e : rem (remS H ls) a = remS H ls := by
        funext q
        by_cases y : q = a
        · rw [y, rem_self, remS_in z]
        · rw [rem_ne y]
      rw [e]
      exact ih
    · obtain ⟨ys, hy⟩ := hl a (List.mem_cons_self ..)
      exact dp_rem (ys := ys) (by rw [remS_ne z]; exact hy) d n ih
theorem q_parD {K : PySem.W.Frag} {σ : L2.St} {H : Hp} {D : Ends} {tz : TS} {i j : Nat} {ta tb : TE} {x : V} {d : PyData} (h1 : Ev ta σ H x) (h2 : ∀ H1, Ex H H1 → EvD K tb σ H1 d) (k : ∀ y H1, Ex H H1 → Dp K H1 y d → tz D ((σ.set i (some x)).set j (some y)) H1) : tSeq (tPar i j (tCons ta (tCons tb tNil))) tz D σ H :=
  h1 H (Ex.refl H) _ fun H1 e1 => h2 H1 e1 H1 (Ex.refl _) _ fun y H2 e2 hy => ⟨_, _, rfl, k y H2 (e1.trans e2) hy⟩
end WR
set_option Elab.async false
set_option linter.all false
set_option maxRecDepth 100000
set_option maxHeartbeats 1000000
namespace WR
open PySem PySem.Spec PyProof.Rows L2 Evl

/-! ### forms: the mathematics -/
theorem WebP.gen {l : Nat} {inner : List (List Nat)} (W : WebP l inner) : Gen l (kkOf l inner).length (rowAt (kkOf l inner)) := by
  have hw := W.raw
  have h1 := hw.l1
  rw [rowAt_kkE, kkOf_len]
  have hcnt : ∀ k, cnt (kidsAt l inner) k (l + inner.length) = (parsAt l inner k).length := fun k => by
    rw [cnt_count]
    unfold parsAt
    rw [← List.countP_eq_length_filter]
  have hout : ∀ u, l + inner.length ≤ u → kidsAt l inner u = [] := fun u h => by
    unfold kidsAt
    rw [if_neg (by omega), List.getD_eq_getElem?_getD, List.getElem?_eq_none (by omega)]
    rfl
  refine ⟨h1, by omega, hout, fun u h => kidsAt_leaf h, fun u c h => (kidsAt_lt hw h).1, fun u => ?_, ⟨id, fun u c h => (kidsAt_lt hw h).2⟩, fun u a b _ h => ?_, fun u h => ?_, fun u h => ?_, fun u a b => ?_, ⟨topN l inner, by unfold topN; omega, fun k hk => ?_⟩⟩
  · by_cases z : u < l
    · rw [kidsAt_leaf z]
      exact List.nodup_nil
    · by_cases y : u < l + inner.length
      · exact W.nd _ (kidsAt_inner (by omega) y)
      · rw [hout u (by omega)]
        exact List.nodup_nil
  · rw [hcnt] at h
    exact W.one u a b h
  · rw [hcnt] at h
    refine W.mix u ?_ h
    cases e : parsAt l inner u with
    | nil =>
      rw [e] at h
      simp at h
    | cons p r =>
      have hp : p ∈ parsAt l inner u := by rw [e]; exact List.mem_cons_self ..
      exact (kidsAt_lt hw (mem_pars.mp hp).2).1
  · rw [hcnt]
    exact W.lf1 u h
  · obtain ⟨c, hc, hp⟩ := W.bare u a b
    rw [← hcnt] at hp
    exact ⟨c, hc, hp, by have := (kidsAt_lt hw hc).1; omega⟩
  · rw [hcnt, List.length_eq_zero_iff, W.root k hk]
    unfold topN
    omega
/-! order -/
theorem lex_snoc : ∀ {a b : List Int} {x y : Int}, a.length = b.length → HT.lexLt (a ++ [x]) (b ++ [y]) = if a = b then decide (x < y) else HT.lexLt a b
  | [], [], x, y, _ => by
    rw [if_pos rfl]
    show HT.lexLt [x] [y] = _
    rw [HT.lexLt_cons]
    by_cases z : x = y
    · rw [if_pos z, decide_eq_false (by omega)]
      rfl
    · rw [if_neg z]
  | [], _ :: _, _, _, h => by cases h
  | _ :: _, [], _, _, h => by cases h
  | p :: a, q :: b, x, y, h => by
    have hl : a.length = b.length := by simpa using h
    rw [List.cons_append, List.cons_append, HT.lexLt_cons, HT.lexLt_cons]
    by_cases z : p = q
    · rw [if_pos z, if_pos z, lex_snoc hl]
      by_cases y : a = b
      · rw [if_pos y, if_pos (by rw [z, y])]
      · rw [if_neg y, if_neg (fun w => y (List.cons.inj w).2)]
    · rw [if_neg z, if_neg z, if_neg (fun w => z (List.cons.inj w).1)]
theorem sort_nat {enc : Nat → PyData} {code : Nat → List Int} (h : ∀ a b, PySem.W.dataLt (enc a) (enc b) = HT.lexLt (code a) (code b)) (hinj : ∀ a b, code a = code b → a = b) (bs : List Nat) :
    ((bs.mergeSort (PySem.W.dataLe false enc)).Perm bs ∧ (bs.mergeSort (PySem.W.dataLe false enc)).Pairwise fun a b => HT.lexLt (code b) (code a) = false) ∧
    ∀ cs : List Nat, bs.Perm cs → (cs.Pairwise fun a b => HT.lexLt (code a) (code b) = true) → bs.mergeSort (PySem.W.dataLe false enc) = cs := by
  have hle : PySem.W.dataLe false enc = fun a b => !HT.lexLt (code b) (code a) := by
    funext a b
    show (!PySem.W.dataLt (enc b) (enc a)) = _
    rw [h]
  rw [hle]
  have htr : ∀ a b c : Nat, (!HT.lexLt (code b) (code a)) = true → (!HT.lexLt (code c) (code b)) = true → (!HT.lexLt (code c) (code a)) = true := fun a b c h1 h2 => by
    rw [Bool.not_eq_true'] at h1 h2 ⊢
    cases e : HT.lexLt (code c) (code a) with
    | false => rfl
    | true =>
      cases e2 : HT.lexLt (code b) (code c) with
      | true =>
        have := lex_trans e2 e
        rw [h1] at this
        cases this
      | false =>
        have := lex_total h2 e2
        rw [this, h1] at e
        cases e
  have htot : ∀ a b : Nat, ((!HT.lexLt (code b) (code a)) || (!HT.lexLt (code a) (code b))) = true := fun a b => by
    cases e : HT.lexLt (code b) (code a) with
    | false => rfl
    | true =>
      rw [lex_asymm e]
      rfl
  have hs := List.pairwise_mergeSort htr htot bs
  have hpm := List.mergeSort_perm bs fun a b => !HT.lexLt (code b) (code a)
  refine ⟨⟨hpm, hs.imp fun {a b} h => by rw [Bool.not_eq_true'] at h; exact h⟩, fun cs hp hc => ?_⟩
  refine List.Perm.eq_of_pairwise (fun a b _ _ h1 h2 => hinj a b (lex_total ?_ ?_)) hs (hc.imp fun {a b} h => ?_) (hpm.trans hp)
  · rw [Bool.not_eq_true'] at h2
    exact h2
  · rw [Bool.not_eq_true'] at h1
    exact h1
  · rw [lex_asymm h]
    rfl
def enc1 (l : Nat) (inner : List (List Nat)) (k : Nat) : PyData := .tuple [tupI (rowI l inner k), natD k]
def cod1 (l : Nat) (inner : List (List Nat)) (k : Nat) : List Int := rowI l inner k ++ [(k : Int)]
def flagN (l : Nat) (inner : List (List Nat)) (k : Nat) : Bool := decide (1 < (parsAt l inner k).length)
def enc2 (l : Nat) (inner : List (List Nat)) (k : Nat) : PyData := .tuple [tupI (rowI l inner k), .bool (flagN l inner k), natD k]
def cod2 (l : Nat) (inner : List (List Nat)) (k : Nat) : List Int := (rowI l inner k ++ [if flagN l inner k = true then 1 else 0]) ++ [(k : Int)]
theorem rowI_len {l k : Nat} {inner : List (List Nat)} : (rowI l inner k).length = l := by unfold rowI; rw [List.length_map, List.length_range]
theorem cod1_inj {l : Nat} {inner : List (List Nat)} {a b : Nat} (h : cod1 l inner a = cod1 l inner b) : a = b := by
  unfold cod1 at h
  have := (List.append_inj h (by rw [rowI_len, rowI_len])).2
  have := (List.cons.inj this).1
  omega
theorem cod2_inj {l : Nat} {inner : List (List Nat)} {a b : Nat} (h : cod2 l inner a = cod2 l inner b) : a = b := by
  unfold cod2 at h
  have := (List.append_inj h (by rw [List.length_append, List.length_append, rowI_len, rowI_len]; rfl)).2
  have := (List.cons.inj this).1
  omega
theorem eqv_nat (a b : Nat) : PyData.eqv (natD a) (natD b) = decide (a = b) := by
  show PyData.eqv (.int _) (.int _) = _
  simp only [PyData.eqv]
  by_cases z : a = b
  · subst z
    simp
  · rw [decide_eq_false z]
    exact beq_eq_false_iff_ne.mpr (by omega)
theorem lt_nat (a b : Nat) : PySem.W.dataLt (natD a) (natD b) = decide ((a : Int) < (b : Int)) := PySem.W.dataLt_int _ _
theorem enc1_lt {l : Nat} {inner : List (List Nat)} (a b : Nat) : PySem.W.dataLt (enc1 l inner a) (enc1 l inner b) = HT.lexLt (cod1 l inner a) (cod1 l inner b) := by
  unfold enc1 cod1
  rw [PySem.W.dataLt_pair (alike_tupI _ _) (by rfl), eqv_tupI, eqv_nat, dataLt_tupI, lt_nat, lex_snoc (by rw [rowI_len, rowI_len])]
  by_cases z : rowI l inner a = rowI l inner b
  · rw [if_pos (decide_eq_true z), if_pos z]
    by_cases y : a = b
    · rw [if_pos (decide_eq_true y), decide_eq_false (by omega)]
    · rw [if_neg (by simpa using y)]
  · rw [if_neg (by simpa using z), if_neg z]
theorem enc2_lt {l : Nat} {inner : List (List Nat)} (a b : Nat) : PySem.W.dataLt (enc2 l inner a) (enc2 l inner b) = HT.lexLt (cod2 l inner a) (cod2 l inner b) := by
  unfold enc2 cod2
  rw [PySem.W.dataLt_tuple, PySem.W.dataLt_cons (alike_tupI _ _), PySem.W.dataLt_cons (by rfl), PySem.W.dataLt_cons (by rfl), eqv_tupI, eqv_nat, dataLt_tupI, lt_nat, PySem.W.dataLt_bool, lex_snoc (by rw [List.length_append, List.length_append, rowI_len, rowI_len]; rfl), lex_snoc (by rw [rowI_len, rowI_len])]
  have hb : PyData.eqv (.bool (flagN l inner a)) (.bool (flagN l inner b)) = decide (flagN l inner a = flagN l inner b) := by
    simp only [PyData.eqv]
    cases flagN l inner a <;> cases flagN l inner b <;> rfl
  have hn := (PySem.W.dataLt_tuple [] []).symm.trans (dataLt_tupI [] [])
  rw [show HT.lexLt ([] : List Int) [] = false from rfl] at hn
  rw [hb, hn]
  have hf : (rowI l inner a ++ [if flagN l inner a = true then (1 : Int) else 0] = rowI l inner b ++ [if flagN l inner b = true then (1 : Int) else 0]) ↔ rowI l inner a = rowI l inner b ∧ flagN l inner a = flagN l inner b := by
    constructor
    · intro h
      obtain ⟨h1, h2⟩ := List.append_inj h (by rw [rowI_len, rowI_len])
      refine ⟨h1, ?_⟩
      have := (List.cons.inj h2).1
      cases ha : flagN l inner a <;> cases hb : flagN l inner b <;> rw [ha, hb] at this <;> first | rfl | (simp at this)
    · rintro ⟨h1, h2⟩
      rw [h1, h2]
  by_cases z : rowI l inner a = rowI l inner b
  · rw [if_pos (decide_eq_true z)]
    by_cases y : flagN l inner a = flagN l inner b
    · rw [if_pos (decide_eq_true y), if_pos (hf.mpr ⟨z, y⟩)]
      by_cases x : a = b
      · rw [if_pos (decide_eq_true x), decide_eq_false (by omega)]
      · rw [if_neg (by simpa using x)]
    · rw [if_neg (by simpa using y), if_neg (fun w => y (hf.mp w).2), if_pos z]
      cases ha : flagN l inner a <;> cases hb : flagN l inner b <;> rfl
  · rw [if_neg (by simpa using z), if_neg (fun w => z (hf.mp w).1), if_neg z]
/-! the program's order -/
noncomputable def orderL (l : Nat) (inner : List (List Nat)) : List Nat := (List.range (l + inner.length)).mergeSort (PySem.W.dataLe false (enc1 l inner))
noncomputable def ordI (l : Nat) (inner : List (List Nat)) : List Nat := (orderL l inner).filter fun k => decide (l ≤ k)
noncomputable def odL (l : Nat) (inner : List (List Nat)) : List Nat := List.range l ++ ordI l inner
noncomputable def formI (l : Nat) (inner : List (List Nat)) : List (List Nat) := (ordI l inner).map (itemOf (kidsAt l inner) (odL l inner))
theorem orderL_perm {l : Nat} {inner : List (List Nat)} : (orderL l inner).Perm (List.range (l + inner.length)) := (sort_nat (enc1_lt (l := l) (inner := inner)) (fun _ _ => cod1_inj) _).1.1
theorem orderL_nd {l : Nat} {inner : List (List Nat)} : (orderL l inner).Nodup := orderL_perm.nodup_iff.mpr List.nodup_range
theorem orderL_lt {l : Nat} {inner : List (List Nat)} : (orderL l inner).Pairwise fun a b => HT.lexLt (cod1 l inner a) (cod1 l inner b) = true := by
  have h := (sort_nat (enc1_lt (l := l) (inner := inner)) (fun _ _ => cod1_inj) (List.range (l + inner.length))).1.2
  have hn : (orderL l inner).Pairwise fun a b => a ≠ b := orderL_nd
  exact (h.and hn).imp fun {a b} hab => by
    cases e : HT.lexLt (cod1 l inner a) (cod1 l inner b) with
    | true => rfl
    | false => exact absurd (cod1_inj (lex_total e hab.1)) hab.2
theorem mem_ordI {l k : Nat} {inner : List (List Nat)} : k ∈ ordI l inner ↔ l ≤ k ∧ k < l + inner.length := by
  unfold ordI
  rw [List.mem_filter, orderL_perm.mem_iff, List.mem_range, decide_eq_true_iff]
  exact And.comm
theorem ordI_lt {l : Nat} {inner : List (List Nat)} : (ordI l inner).Pairwise fun a b => HT.lexLt (cod1 l inner a) (cod1 l inner b) = true := orderL_lt.filter _
theorem ordI_nd {l : Nat} {inner : List (List Nat)} : (ordI l inner).Nodup := orderL_nd.filter _
theorem inr_nd {l n : Nat} : ((List.range n).map (l + ·)).Nodup := List.Pairwise.map _ (fun a b h => by show l + a ≠ l + b; omega) List.nodup_range
theorem ordI_perm {l : Nat} {inner : List (List Nat)} : (ordI l inner).Perm ((List.range inner.length).map (l + ·)) := by
  refine (List.perm_ext_iff_of_nodup ordI_nd inr_nd).mpr fun k => ?_
  rw [mem_ordI, List.mem_map]
  constructor
  · rintro ⟨h1, h2⟩
    exact ⟨k - l, List.mem_range.mpr (by omega), by omega⟩
  · rintro ⟨j, hj, rfl⟩
    have := List.mem_range.mp hj
    omega
theorem ordI_len {l : Nat} {inner : List (List Nat)} : (ordI l inner).length = inner.length := by
  rw [ordI_perm.length_eq, List.length_map, List.length_range]
theorem odL_len {l : Nat} {inner : List (List Nat)} : (odL l inner).length = l + inner.length := by
  unfold odL
  rw [List.length_append, List.length_range, ordI_len]
theorem odL_drop {l : Nat} {inner : List (List Nat)} : (odL l inner).drop l = ordI l inner := by
  unfold odL
  rw [List.drop_left' List.length_range]
theorem odL_nd {l : Nat} {inner : List (List Nat)} : (odL l inner).Nodup := by
  unfold odL
  rw [List.nodup_append]
  refine ⟨List.nodup_range, ordI_nd, fun a ha b hb z => ?_⟩
  have := List.mem_range.mp ha
  have := mem_ordI.mp hb
  omega
theorem plc_before {R : Nat → Nat → Prop} (ha : ∀ a b, R a b → ¬ R b a) {od : List Nat} (hp : od.Pairwise R) {a b : Nat} (h1 : a ∈ od) (h2 : b ∈ od) (h : R a b) : plc a od < plc b od := by
  have e1 := plc_get h1
  have e2 := plc_get h2
  obtain ⟨i1, f1⟩ := List.getElem?_eq_some_iff.mp e1
  obtain ⟨i2, f2⟩ := List.getElem?_eq_some_iff.mp e2
  rcases Nat.lt_trichotomy (plc a od) (plc b od) with z | z | z
  · exact z
  · have e3 : some a = some b := by rw [← e1, ← e2, z]
    cases e3
    exact absurd h (ha a a h)
  · have := List.pairwise_iff_getElem.mp hp _ _ i2 i1 z
    rw [f1, f2] at this
    exact absurd this (ha a b h)
section
variable {l : Nat} {inner : List (List Nat)} (W : WebP l inner)
include W
/-- a child's row is not above -/
theorem row_le_lex {c u : Nat} (hc : c ∈ kidsAt l inner u) : rowI l inner c = rowI l inner u ∨ HT.lexLt (rowI l inner c) (rowI l inner u) = true := by
  have hle : ∀ x, way (kidsAt l inner) x c ≤ way (kidsAt l inner) x u := fun x => way_ge (hdN W) hc
  unfold rowI
  generalize List.range l = xs
  induction xs with
  | nil => exact .inl rfl
  | cons x r ih =>
    rw [List.map_cons, List.map_cons]
    by_cases z : way (kidsAt l inner) x c = way (kidsAt l inner) x u
    · rcases ih with e | e
      · exact .inl (by rw [z, e])
      · exact .inr (by rw [HT.lexLt_cons, if_pos z]; exact e)
    · exact .inr (by rw [HT.lexLt_cons, if_neg z]; exact decide_eq_true (by have := hle x; omega))
theorem cod1_kid {c u : Nat} (hc : c ∈ kidsAt l inner u) : HT.lexLt (cod1 l inner c) (cod1 l inner u) = true := by
  have hcu := (kidsAt_lt W.raw hc).2
  unfold cod1
  rw [lex_snoc (by rw [rowI_len, rowI_len])]
  rcases row_le_lex W hc with e | e
  · rw [if_pos e]
    exact decide_eq_true (by omega)
  · rw [if_neg fun z => ?_]
    · exact e
    · rw [z, lex_self] at e
      cases e
theorem odL_ord : Ord l (kkOf l inner).length (rowAt (kkOf l inner)) (odL l inner) := by
  rw [rowAt_kkE, kkOf_len]
  have hlf : ∀ k, k < l → (odL l inner)[k]? = some k := fun k hk => by
    unfold odL
    rw [List.getElem?_append_left (by rw [List.length_range]; exact hk), List.getElem?_range hk]
  have hmem : ∀ k, k < l + inner.length → k ∈ odL l inner := fun k hk => by
    by_cases z : k < l
    · exact List.mem_of_getElem? (hlf k z)
    · exact List.mem_append_right _ (mem_ordI.mpr ⟨by omega, hk⟩)
  refine ⟨odL_nd, fun k hk => ?_, hlf, by rw [odL_len]; omega, fun u c hu hc => ?_⟩
  · rcases List.mem_append.mp hk with h | h
    · have := List.mem_range.mp h
      omega
    · exact (mem_ordI.mp h).2
  · have hcl := kidsAt_lt W.raw hc
    refine ⟨hmem c hcl.1, ?_⟩
    have hlu : l ≤ u := by
      refine Classical.byContradiction fun z => ?_
      rw [kidsAt_leaf (by omega)] at hc
      cases hc
    have hun : u < l + inner.length := by
      rcases List.mem_append.mp hu with h | h
      · have := List.mem_range.mp h
        omega
      · exact (mem_ordI.mp h).2
    have hpu : plc u (odL l inner) = l + plc u (ordI l inner) := by
      refine plc_at odL_nd ?_
      unfold odL
      rw [List.getElem?_append_right (by rw [List.length_range]; omega), List.length_range, show l + plc u (ordI l inner) - l = plc u (ordI l inner) by omega]
      exact plc_get (mem_ordI.mpr ⟨hlu, hun⟩)
    by_cases z : c < l
    · rw [plc_at odL_nd (hlf c z), hpu]
      omega
    · have hpc : plc c (odL l inner) = l + plc c (ordI l inner) := by
        refine plc_at odL_nd ?_
        unfold odL
        rw [List.getElem?_append_right (by rw [List.length_range]; omega), List.length_range, show l + plc c (ordI l inner) - l = plc c (ordI l inner) by omega]
        exact plc_get (mem_ordI.mpr ⟨by omega, hcl.1⟩)
      rw [hpu, hpc]
      have := plc_before (R := fun a b => HT.lexLt (cod1 l inner a) (cod1 l inner b) = true) (fun a b h1 h2 => by rw [lex_asymm h1] at h2; cases h2) ordI_lt (mem_ordI.mpr ⟨by omega, hcl.1⟩) (mem_ordI.mpr ⟨hlu, hun⟩) (cod1_kid W hc)
      omega
theorem form_nb : Nb (kkOf l inner) l (formI l inner) (odL l inner) :=
  ⟨W.gen, odL_ord W, by rw [odL_len, kkOf_len], by rw [odL_drop, rowAt_kkE]; rfl⟩
theorem form_num : NumD (kkOf l inner) l (formI l inner) :=
  ⟨odL l inner, W.gen, by rw [kkOf_len]; have := W.raw.n20; omega, odL_ord W, by rw [odL_len, kkOf_len], by rw [odL_drop, rowAt_kkE]; rfl⟩
theorem form_web : WebP l (formI l inner) := (form_num W).drawn.web W.raw.l1 W.raw.l8
theorem form_len : (formI l inner).length = inner.length := by
  unfold formI
  rw [List.length_map, ordI_len]
theorem item_self {u : Nat} (hu : u < l + inner.length) : itemOf (kidsAt l inner) (List.range (l + inner.length)) u = kidsAt l inner u := by
  have ha : (kidsAt l inner u).Pairwise (· ≤ ·) := by
    by_cases z : u < l
    · rw [kidsAt_leaf z]
      exact List.Pairwise.nil
    · exact W.asc _ (kidsAt_inner (by omega) hu)
  unfold itemOf
  have e : ((kidsAt l inner u).map fun c => ((plc c (List.range (l + inner.length)) : Nat) : Int)) = (kidsAt l inner u).map fun (c : Nat) => (c : Int) := List.map_congr_left fun c hc => by
    rw [plc_at List.nodup_range (List.getElem?_range (kidsAt_lt W.raw hc).1)]
  rw [e, sorted_one (sortI_perm _) (sortI_sorted _) (List.pairwise_map.mpr (ha.imp fun {a b} h => by omega)), List.map_map]
  conv => rhs; rw [← List.map_id (kidsAt l inner u)]
  exact List.map_congr_left fun c _ => Int.toNat_natCast c
theorem inner_self : ((List.range (l + inner.length)).drop l).map (itemOf (kidsAt l inner) (List.range (l + inner.length))) = inner := by
  refine List.ext_getElem? fun j => ?_
  rw [List.getElem?_map, List.getElem?_drop]
  by_cases z : j < inner.length
  · rw [List.getElem?_range (by omega)]
    show some (itemOf _ _ (l + j)) = _
    rw [item_self W (by omega)]
    unfold kidsAt
    rw [if_neg (by omega), show l + j - l = j by omega, List.getD_eq_getElem?_getD, List.getElem?_eq_getElem z]
    rfl
  · rw [List.getElem?_eq_none (by rw [List.length_range]; omega), List.getElem?_eq_none (by omega)]
    rfl
theorem self_nb : Nb (kkOf l inner) l inner (List.range (l + inner.length)) := by
  refine ⟨W.gen, ⟨List.nodup_range, fun k hk => by rw [kkOf_len]; exact List.mem_range.mp hk, fun k hk => List.getElem?_range (by omega), by rw [List.length_range]; omega, fun u c hu hc => ?_⟩, by rw [List.length_range, kkOf_len], by rw [rowAt_kkE]; exact (inner_self W).symm⟩
  rw [rowAt_kk] at hc
  have h := kidsAt_lt W.raw hc
  refine ⟨List.mem_range.mpr h.1, ?_⟩
  rw [plc_at List.nodup_range (List.getElem?_range h.1), plc_at List.nodup_range (List.getElem?_range (List.mem_range.mp hu))]
  exact h.2
/-- the rows of the form -/
theorem form_row {j : Nat} (hj : j < l + inner.length) : rowI l (formI l inner) j = rowI l inner ((odL l inner).getD j 0) := by
  have hF := form_nb W
  have hs := self_nb W
  have hd1 : ∀ u c, c ∈ kidsAt l (formI l inner) u → c < u := fun u c h => (kidsAt_lt (form_web W).raw h).2
  have hjo : (odL l inner)[j]? = some ((odL l inner).getD j 0) := by
    rw [List.getD_eq_getElem?_getD, List.getElem?_eq_getElem (by rw [odL_len]; exact hj)]
    rfl
  have hun : (odL l inner).getD j 0 < l + inner.length := by
    have := (odL_ord W).lt _ (List.mem_of_getElem? hjo)
    rw [kkOf_len] at this
    exact this
  unfold rowI
  refine List.map_congr_left fun x hx => ?_
  have := ways_same hF hs hd1 (hdN W) (List.mem_range.mp hx) _ (by rw [kkOf_len]; exact hun)
  rw [plc_at odL_nd hjo, plc_at List.nodup_range (List.getElem?_range hun)] at this
  exact this
theorem form_fix : formI l (formI l inner) = formI l inner := by
  have WF := form_web W
  have hlen := form_len W
  have hord : ordI l (formI l inner) = (List.range (formI l inner).length).map (l + ·) := by
    have h1 := (sort_nat (enc1_lt (l := l) (inner := formI l inner)) (fun _ _ => cod1_inj) ((List.range (formI l inner).length).map (l + ·))).2
    have hs := (sort_nat (enc1_lt (l := l) (inner := formI l inner)) (fun _ _ => cod1_inj) (ordI l (formI l inner))).2
    have e1 := hs _ (List.Perm.refl _) ordI_lt
    have e2 := hs ((List.range (formI l inner).length).map (l + ·)) ordI_perm ?_
    · rw [← e1, e2]
    · refine List.pairwise_map.mpr ((List.pairwise_lt_range (n := (formI l inner).length)).imp_of_mem fun {a b} ha hb hab => ?_)
      have ha := List.mem_range.mp ha
      have hb := List.mem_range.mp hb
      rw [hlen] at ha hb
      unfold cod1
      rw [lex_snoc (by rw [rowI_len, rowI_len]), form_row W (by omega), form_row W (by omega)]
      have ga : ∀ i, i < inner.length → (odL l inner).getD (l + i) 0 = (ordI l inner).getD i 0 := fun i hi => by
        unfold odL
        rw [List.getD_eq_getElem?_getD, List.getElem?_append_right (by rw [List.length_range]; omega), List.length_range, show l + i - l = i by omega, ← List.getD_eq_getElem?_getD]
      rw [ga a ha, ga b hb]
      have hp := List.pairwise_iff_getElem.mp (ordI_lt (l := l) (inner := inner)) a b (by rw [ordI_len]; exact ha) (by rw [ordI_len]; exact hb) hab
      have ea : (ordI l inner).getD a 0 = (ordI l inner)[a]'(by rw [ordI_len]; exact ha) := by rw [List.getD_eq_getElem?_getD, List.getElem?_eq_getElem (by rw [ordI_len]; exact ha)]; rfl
      have eb : (ordI l inner).getD b 0 = (ordI l inner)[b]'(by rw [ordI_len]; exact hb) := by rw [List.getD_eq_getElem?_getD, List.getElem?_eq_getElem (by rw [ordI_len]; exact hb)]; rfl
      rw [ea, eb]
      unfold cod1 at hp
      rw [lex_snoc (by rw [rowI_len, rowI_len])] at hp
      by_cases z : rowI l inner ((ordI l inner)[a]'(by rw [ordI_len]; exact ha)) = rowI l inner ((ordI l inner)[b]'(by rw [ordI_len]; exact hb))
      · rw [if_pos z]
        exact decide_eq_true (by omega)
      · rw [if_neg z] at hp ⊢
        exact hp
  have hod : odL l (formI l inner) = List.range (l + (formI l inner).length) := by
    unfold odL
    rw [hord, List.range_add]
  show (ordI l (formI l inner)).map (itemOf (kidsAt l (formI l inner)) (odL l (formI l inner))) = _
  rw [hod, hord]
  have := inner_self WF
  rw [List.range_add, List.drop_left' List.length_range, ← List.range_add] at this
  exact this
/-- the law's order is the same -/
theorem ord_law : ((List.range inner.length).map (l + ·)).mergeSort (PySem.W.dataLe false (enc2 l inner)) = ordI l inner := by
  refine (sort_nat (enc2_lt (l := l) (inner := inner)) (fun _ _ => cod2_inj) _).2 _ ordI_perm.symm ?_
  refine (ordI_lt (l := l) (inner := inner)).imp_of_mem fun {a b} ha hb hab => ?_
  have ha := mem_ordI.mp ha
  have hb := mem_ordI.mp hb
  unfold cod1 at hab
  rw [lex_snoc (by rw [rowI_len, rowI_len])] at hab
  unfold cod2
  rw [lex_snoc (by rw [List.length_append, List.length_append, rowI_len, rowI_len]; rfl), lex_snoc (by rw [rowI_len, rowI_len])]
  by_cases z : rowI l inner a = rowI l inner b
  · rw [if_pos z] at hab
    have hab := of_decide_eq_true hab
    have hne : b ≠ a := by omega
    have heq := equal_rows W (k := a) (t := b) ha.2 hb.2 hne
    rw [decide_eq_true z.symm] at heq
    have hmb : mixB l inner b a = true := by
      cases e : mixB l inner a b with
      | true =>
        have h2 := (mixB_iff.mp e).2
        have : b ∈ kidsAt l inner a := by rw [h2]; exact List.mem_singleton.mpr rfl
        have := (kidsAt_lt W.raw this).2
        omega
      | false =>
        rw [e, Bool.false_or] at heq
        exact heq.symm
    obtain ⟨m1, m2⟩ := mixB_iff.mp hmb
    have fb : flagN l inner b = true := decide_eq_true m1
    have fa : flagN l inner a = false := by
      obtain ⟨c, hc, hc1⟩ := W.bare b hb.1 hb.2
      rw [m2] at hc
      rw [List.mem_singleton.mp hc] at hc1
      exact decide_eq_false (by omega)
    rw [fa, fb, if_neg (by rw [z]; intro w; have := (List.append_inj w rfl).2; simp at this), if_pos z]
    rfl
  · rw [if_neg z] at hab
    rw [if_neg fun w => z (List.append_inj w (by rw [rowI_len, rowI_len])).1, if_neg z]
    exact hab
end
end WR
set_option Elab.async false
set_option linter.all false
set_option maxRecDepth 100000
set_option maxHeartbeats 1000000
namespace WR
open PySem PySem.Spec PyProof.Rows L2 Evl
theorem scLot : FnScope ["web"] ["web"] (defScope sLot) := ⟨rfl, rfl, rfl, by decide +kernel, rfl, by decide +kernel, by decide +kernel⟩
section
variable {P : Program} {w : World} {K : PySem.W.Frag} {mg : Str → Option Value} {base : Heap}
theorem ok_lot {f fR : Addr} {fd fdR : FuncData} (F : Fun K "lot" "lot" sLot f fd)
    (FR : Fun K "rows_of" "rows_of" sRowsOf fR fdR) (bR : Binds K fdR ["web"] []) (gR : mg "rows_of" = some (.ref fR))
    (m2 : mg "tuple" = none) (m3 : mg "sorted" = none)
    (G : FnOk P w K mg base CX0 2 fR fdR ["web"] (spW K fun l inner => .list (rowsD l inner (l + inner.length)))) :
    FnOk P w K mg base CX0 3 f fd ["web"] (spW K lotD) := by
  refine F.ok scLot (fun vs H Q E h => spW_len h) (fun cdv A outer s H vs Q E hr h => ?_)
  obtain ⟨v, l, inner, rfl, hv, hw, q⟩ := h
  have h1 := hw.l1
  have h8 := hw.l8
  have h20 := hw.n20
  refine ⟨_, pss_one (ps_ret (pe_callTy call_tuple_of (by rfl) m2 (by decide +kernel) (pa_cons (pe_callB (r := rSortE K) cr_sortE (by rfl) m3 (by decide +kernel) (pa_cons (pe_call G hr (by rfl) gR FR.kp bR .nil pass0 (pa_cons (pv 0) pa_nil)) pa_nil)) pa_nil))), ?_⟩
  refine s_retD (d := lotD l inner) (ed_tupL (ds := (srtR (rowsI l inner)).map tupI) (ed_n (en_sortR (d := l) (ed_is (ed_callW (g := fun l inner => .list (rowsD l inner (l + inner.length))) (ed_var rfl hv) hw) (by rw [rowsD_eq])) ?_ h1 (rowsI_ok hw)))) fun r H2 e2 hr2 => q r H2 e2 hr2
  unfold rowsI
  rw [List.length_map, List.length_range]
  omega
end
end WR
set_option Elab.async false
set_option linter.all false
set_option maxRecDepth 100000
set_option maxHeartbeats 2000000
namespace WR
open PySem PySem.Spec PyProof.Rows L2 Evl

/-! ### rows compared; check_leaves -/
theorem lay_rows : ∀ rs : List (List Int), PyData.canLayAll0 (rs.map tupI) = true ∧ PyData.depthAll (rs.map tupI) ≤ 1
  | [] => by simp [PyData.canLayAll0, PyData.depthAll]
  | r :: rs => by
    have ih := lay_rows rs
    have h := lay_ints r
    have hd := depth_tupI r
    refine ⟨?_, ?_⟩
    · rw [List.map_cons]
      simp only [PyData.canLayAll0, ih.1, Bool.and_true]
      unfold tupI
      simp only [PyData.canLay0, h.1]
    · rw [List.map_cons]
      simp only [PyData.depthAll]
      omega
theorem shaped_rowsT (rs : List (List Int)) : SeqAt.shaped (.tuple (rs.map tupI)) = true := by
  have q := lay_rows rs
  show (PyData.canLay0 _ && decide (PyData.depth _ ≤ 64)) = true
  simp only [PyData.canLay0, PyData.depth, q.1, Bool.true_and]
  exact decide_eq_true (by have := q.2; omega)
theorem eqvAll_rows : ∀ a b : List (List Int), PyData.eqvAll (a.map tupI) (b.map tupI) = decide (a = b)
  | [], [] => by simp [PyData.eqvAll]
  | [], _ :: _ => by simp [PyData.eqvAll]
  | _ :: _, [] => by simp [PyData.eqvAll]
  | x :: a, y :: b => by
    have := eqvAll_rows a b
    simp only [List.map_cons, PyData.eqvAll, eqv_tupI, this, List.cons.injEq]
    by_cases h1 : x = y <;> by_cases h2 : a = b <;> simp [h1, h2]
def spCheck (K : PySem.W.Frag) : Sp := fun vs H Q _ => ∃ v w l A B, vs = [v, w] ∧ Dp K H v (webD l A) ∧ Dp K H w (webD l B) ∧ ∀ H', Ex H H' → Q .non H'
theorem scChk : FnScope ["one", "other"] ["one", "other"] (defScope s_check_leaves) := ⟨rfl, rfl, rfl, by decide +kernel, rfl, by decide +kernel, by decide +kernel⟩
section
variable {P : Program} {w : World} {K : PySem.W.Frag} {mg : Str → Option Value} {base : Heap}
theorem ok_check {f : Addr} {fd : FuncData} (F : Fun K "check_leaves" "check_leaves" s_check_leaves f fd) : FnOk P w K mg base CX0 1 f fd ["one", "other"] (spCheck K) := by
  refine F.ok scChk (fun vs H Q E h => ?_) (fun cdv A outer s H vs Q E hr h => ?_)
  · obtain ⟨v, w, l, A, B, rfl, _⟩ := h
    rfl
  obtain ⟨v, wv, l, A, B, rfl, hv, hw, q⟩ := h
  refine ⟨_, pss_one (ps_if (pt_cmpR op_ne (pe_ix (r := rIxT K) ix_tup (pv 0) pe_int (fun _ _ => rfl)) (pe_ix (r := rIxT K) ix_tup (pv 1) pe_int (fun _ _ => rfl)) (nomark _)) (pss_one ps_never) pss_nil), ?_⟩
  refine s_if (b := false) (et_test (ev_is (ev_op (x := nV l) (y := nV l) (ev_i (K := K) (ed_ixT (n := 0) (d := natD l) (ed_var rfl hv) (ed_i ev_c) rfl rfl)) (ev_i (K := K) (ed_ixT (n := 0) (d := natD l) (ed_var rfl hw) (ed_i ev_c) rfl rfl)) (rv_ne rfl)) ?_)) (fun z => by cases z) fun _ H1 e1 => q H1 e1
  show V.bl (!decide (V.int (l : Int) = V.int (l : Int))) = _
  rw [decide_eq_true rfl]
  rfl
end
end WR
set_option Elab.async false
set_option linter.all false
set_option maxRecDepth 100000
set_option maxHeartbeats 1000000
namespace WR
open PySem PySem.Spec PyProof.Rows L2 Evl

/-! ### t.index(x), t.count(x) of tuples -/
def rTIdx (K : PySem.W.Frag) : V → List V → Hp → VK → Prop := fun x xs H Q => ∃ (a : Addr) (ys : List V) (y : V) (j : Nat) (z : V), x = .ref a ∧ xs = [y] ∧ SqT K H a ys ∧ flatV y = true ∧ ys.all flatV = true ∧ ys[j]? = some z ∧ eqV z y = true ∧
  (∀ (m : Nat) (z' : V), m < j → ys[m]? = some z' → eqV z' y = false) ∧ Q (.int (j : Nat)) H
def rTCnt (K : PySem.W.Frag) : V → List V → Hp → VK → Prop := fun x xs H Q => ∃ (a : Addr) (y : V) (d : PyData) (ds : List PyData), x = .ref a ∧ xs = [y] ∧ Dp K H (.ref a) (.tuple ds) ∧ Dp K H y d ∧ SeqAt.shaped (.list ds) = true ∧ SeqAt.shaped d = true ∧ Q (.int ((ds.countP fun z => PyData.eqv z d : Nat) : Int)) H
section
variable {X : Cx}
theorem mt_tidx : MtR X "tuple.index" (rTIdx X.K) := by
  intro pins s σ H x xs v us Q I rx rs h
  obtain ⟨p, ys, y, j, z, rfl, rfl, hq, fy, fys, hz, hzj, hno, q⟩ := h
  cases rx
  cases rs with
  | cons ry rt =>
    rename_i uy ut
    cases rt
    obtain ⟨its, r, pl, _⟩ := I.tuple hq
    obtain ⟨⟨cls, dd, dt, sl⟩, ho, hc, n, hd⟩ := pl
    simp only at hc hd
    subst hc
    subst hd
    have hl := r.length
    obtain ⟨u, hu, ru⟩ := r.get hz
    obtain ⟨hjl, hje⟩ := List.getElem?_eq_some_iff.mp hu
    have hj : j < its.toArray.size := by simpa using hjl
    refine call_meets PySem.F.slot_tuple_index ⟨_, ho, rfl⟩ PySem.F.entry_tuple_index (PySem.F.args_tuple_index_2 _ _) (TI.tuple_indexAt p its.toArray n dd sl uy (eqU y) j hj ?_ ?_)
      ⟨ho, fun w hw => mem_eqAt ry fy r fys w (by simpa using hw), ⟨.int (j : Nat), H, I.tok _, ⟨_, rfl⟩, q⟩⟩
    · have e1 : its.toArray[j] = u := by simpa using hje
      rw [e1, eqU_of ru (flat_at fys hz)]
      exact hzj
    · intro m hm hmj
      have hml : m < its.length := by simpa using hm
      have hmy : m < ys.length := by omega
      have hy' : ys[m]? = some ys[m] := List.getElem?_eq_getElem hmy
      obtain ⟨u2, hu2, ru2⟩ := r.get hy'
      obtain ⟨_, hme⟩ := List.getElem?_eq_some_iff.mp hu2
      have e1 : its.toArray[m] = u2 := by simpa using hme
      rw [e1, eqU_of ru2 (flat_at fys hy')]
      exact hno m _ hmj hy'
theorem mt_tcnt (hu : X.A.units + 65 < cLine) : MtR X "tuple.count" (rTCnt X.K) := by
  intro pins s σ H x xs v us Q I rx rxs h
  obtain ⟨a, y, d, ds, rfl, rfl, hl, hy, sl, sd, q⟩ := h
  cases rx
  cases rxs with
  | cons ry rt =>
    rename_i uy ut
    cases rt
    obtain ⟨bs, r1⟩ := Dp.reads I d y uy hy ry
    have hxs : PyData.canLayAll0 ds = true := SeqAt.canLay_of_shaped sl
    have hroom : X.A.units + 1 + min (PyData.depthAll ds) d.depth < cLine := room_in_shaped sd hu
    cases hl with
    | tup hs ha =>
      obtain ⟨its, rv, pl, _⟩ := I.tuple hs
      obtain ⟨⟨cls, dd, dt, sls⟩, ho, hc, n, hd⟩ := pl
      simp only at hc hd
      subst hc
      subst hd
      obtain ⟨as, h4⟩ := Dp.readsAll I ds _ its ha rv
      have hmap : its.map (SeqAt.readOf s.heap) = ds := SeqAt.readsAll_map ds its as hxs h4
      have hcnt : its.toArray.toList.countP (fun u => PyData.eqv (SeqAt.readOf s.heap u) d) = ds.countP fun z => PyData.eqv z d := by
        rw [← hmap, List.countP_map]
        rfl
      refine call_meets PySem.F.slot_tuple_count ⟨_, ho, rfl⟩ PySem.F.entry_tuple_count (PySem.F.args_tuple_count_2 _ _)
        (SeqAt.tuple_countAt a its.toArray n dd sls uy fun u => PyData.eqv (SeqAt.readOf s.heap u) d) ⟨ho, SeqAt.items_eqAt (vs := its.toArray) (show ReadsAll s.heap its.toArray.toList ds as from h4) r1 hxs (SeqAt.canLay_of_shaped sd) hroom, ?_⟩
      rw [hcnt]
      exact ⟨.int _, H, I.tok _, ⟨_, rfl⟩, q⟩
end
/-- a tuple whose object is known to have no dict: methods can be looked up on it -/
def TupO (o : Obj) : Prop := o.cls = .type "tuple" ∧ o.dict = none
def rTupZ (K : PySem.W.Frag) : List V → Hp → VK → Prop := fun xs H Q => ∃ p ys, xs = [.ref p] ∧ SqL K H p ys ∧ ∀ l o, H l = none → TupO o → Q (.ref l) (upd H l (.frz o (.tup ys)))
def tZ (K : PySem.W.Frag) (r : V → List V → Hp → VK → Prop) (to : TE) (t : TA) : TE := fun σ H Q => to σ H fun x H1 => (∃ p o u, x = .ref p ∧ H1 p = some (.frz o u) ∧ TupO o) ∧ t σ H1 fun xs H2 => r x xs H2 Q
section
variable {X : Cx}
theorem cr_tupZ : CallR X (.type "tuple") (rTupZ X.K) := by
  intro pins s σ H xs us Q I r h
  obtain ⟨p, ys, rfl, hq, q⟩ := h
  obtain ⟨u, rfl, rx⟩ := vals1 r
  cases rx
  obtain ⟨its, r', pl, hz⟩ := I.list hq
  have hlen := r'.length
  refine call_tuple_list pl.isList (fun h' kp => ?_) (by simp only [List.size_toArray] <;> omega)
  have I1 : Inv X pins σ H { s with heap := h' } := I.kept (t' := s.toks) kp
  have I2 : Inv X pins σ (upd H h'.objs.size (.frz { cls := .type "tuple", data := .seq its.toArray } (.tup ys))) { s with heap := h'.push { cls := .type "tuple", data := .seq its.toArray } } :=
    I1.laid (t' := s.toks) (fun b o e => Heap.get?_push_of_some _ e) (Nat.le_refl _) (show ObjOk X.prog X.w _ _ _ (.frz _ (.tup ys)) from ⟨Heap.get?_push_size _ rfl, hz, its, r', IsTup.new _ _⟩)
  exact ⟨.ref h'.objs.size, _, I2, rfl, q _ _ (I1.hok.fresh (Nat.le_refl _)) ⟨rfl, rfl⟩⟩
variable {o e : Expr} {es : List Expr} {to : TE} {t : TA} {name : Str} {apos cpos : Pos} {id : String} {r : V → List V → Hp → VK → Prop}
theorem pe_z (slot : Slot "tuple" name id) (hty : typeOf (.builtin id) = pure (.type "method_descriptor")) (hm : MtR X id r) (ho : PE X o to) (ha : PA X (e :: es) t)
    (hbase : attributeBase o name X.env (eval o X.env) = eval o X.env := by rfl)
    (hfew : ((backTo cpos (starEach (e :: es) X.env)).all (fun x => !x.1) && (backToKw cpos (keywordEach [] X.env)).all (fun x => x.1.isSome)
      && decide ((e :: es).length + ([] : List Keyword).length + (if ([] : List Keyword).isEmpty then 0 else 1) < 30)) = true := by rfl)
    (hline : (apos.endLine == cpos.line) = true := by rfl) (hs : starEach (e :: es) X.env = (false, eval e X.env) :: starEach es X.env := by rfl) (hplain : (backTo cpos (starEach es X.env)).any (·.1) = false := by rfl) :
    PE X (.Call (.Attribute o name apos) (e :: es) [] cpos) (tZ X.K r to t) := by
  refine ⟨fun pins s σ H Q I h => ?_⟩
  refine wpAny_Call_method_late hbase hfew hline rfl (thn (ho.run pins s σ H _ I h) fun v s1 ⟨x, H1, I1, r1, ⟨p, ob, u, ex, hp, hto⟩, q1⟩ => ?_)
  subst ex
  cases r1
  have hob : s1.heap.get? p = some ob := (I1.hok p _ hp).1
  refine ⟨"tuple", id, PySem.F.plainAttrs_tuple, slot, hty, ⟨ob, hob, hto.1⟩, fun a e => ?_, ?_⟩
  · cases e
    exact ⟨ob, hob, hto.2⟩
  have hA := ha.run cpos pins s1 σ H1 _ I1 q1
  rw [hs] at hA ⊢
  refine Calls.callWith_builtin (by show (false || (backTo cpos (starEach es X.env)).any (·.1)) = false; rw [hplain] <;> rfl) (Calls.evalArgs_plain ?_)
  exact thn hA fun us s2 ⟨vs, H2, I2, r2, q2⟩ => hm pins s2 σ H2 (.ref p) vs (.ref p) us Q I2 rfl r2 q2
end
theorem plc_first {k j : Nat} : ∀ {od : List Nat}, od[j]? = some k → plc k od ≤ j
  | [], h => by simp at h
  | x :: r, h => by
    show (if x = k then 0 else plc k r + 1) ≤ j
    by_cases e : x = k
    · rw [if_pos e]
      omega
    · rw [if_neg e]
      cases j with
      | zero =>
        rw [List.getElem?_cons_zero] at h
        exact absurd (Option.some.inj h) e
      | succ j =>
        rw [List.getElem?_cons_succ] at h
        have := plc_first h
        omega
/-- a tuple of numbers at l, its object known -/
def NumZ (H : Hp) (v : V) (ks : List Nat) : Prop := ∃ l o, v = .ref l ∧ H l = some (.frz o (.tup (nVs ks))) ∧ TupO o
theorem NumZ.ex {H H' : Hp} {v : V} {ks : List Nat} (h : NumZ H v ks) (e : Ex H H') : NumZ H' v ks := by
  obtain ⟨l, o, a, b, c⟩ := h
  exact ⟨l, o, a, e _ _ b, c⟩
theorem NumZ.dp {K : PySem.W.Frag} {H : Hp} {v : V} {ks : List Nat} (h : NumZ H v ks) : Dp K H v (kidsD ks) := by
  obtain ⟨l, o, rfl, b, _⟩ := h
  exact .tup (.inl (.inr ⟨o, b⟩)) (dpAll_nat ks)
section
variable {K : PySem.W.Frag} {σ : L2.St} {H : Hp} {ta tb te : TE}
/-- the place of a number in a tuple of numbers, each once -/
theorem ev_tidx {v : V} {ks : List Nat} {a : Nat} (ha : Ev ta σ H v) (hz : NumZ H v ks) (hb : Ev tb σ H (nV a)) (hm : a ∈ ks) : Ev (tZ K (rTIdx K) ta (tCons tb tNil)) σ H (nV (plc a ks)) := fun H1 e Q q =>
  ha H1 e _ fun H2 e2 => by
    obtain ⟨l, o, rfl, b, c⟩ := hz.ex (e.trans e2)
    refine ⟨⟨l, o, _, rfl, b, c⟩, hb H2 (e.trans e2) _ fun H3 e3 => ?_⟩
    refine ⟨l, nVs ks, nV a, plc a ks, nV a, rfl, rfl, .inl (.inr ⟨o, e3 _ _ b⟩), rfl, flat_nVs ks, nVs_at (plc_get hm), by show ((a : Int) == (a : Int)) = true; simp, fun m z hmj hz => ?_, q H3 (e2.trans e3)⟩
    obtain ⟨k, hk, rfl, _, _⟩ := nVs_get hz
    show ((k : Int) == (a : Int)) = false
    refine beq_eq_false_iff_ne.mpr fun z => ?_
    have z : k = a := by omega
    subst z
    have := plc_first hk
    omega
end
end WR
set_option Elab.async false
set_option linter.all false
set_option maxRecDepth 100000
set_option maxHeartbeats 3200000
namespace WR
open PySem PySem.Spec PyProof.Rows L2 Evl PySem.SeqAt PySem.Calls

/-! ### set(t), t a tuple of tuples of ints -/
/-- a set that was just made -/
abbrev newSet (w : World) : Obj := { cls := .type "set", dict := none, data := .set #[] 0 (.fresh 0 0 (!w.params.followText "set-order")) }
abbrev itOf (l : Addr) : Obj := { cls := .type "tuple_iterator", data := .fields #[.ref l, .int 0 0] }
section
variable {P : Program} {w : World} {A : Around} {E : Value → Shared → Prop} {s : Shared}
theorem setTT {l : Addr} {its : Array Value} (ks : List (Addr × List Int)) {Q : Value → Shared → Prop} (quiet : A.handled = none) (tup : s.heap.IsTuple l its)
    (same : its.toList = ks.map fun p => Value.ref p.1) (rows : ∀ p ∈ ks, IsT P w s.heap p.2 p.1) (few : ks.length < 64) (units : A.units + 3 < cLine)
    (done : ∀ (hp : Heap) (tk : Nat) L es ep t, SetTR P w hp s.heap.objs.size L es ep t → Got ks ks.length L → (∀ b o, s.heap.get? b = some o → hp.get? b = some o) → Q (.ref s.heap.objs.size) { s with heap := hp, toks := tk }) :
    wpAny (model P w) A (call (.type "set") [.ref l]) Q E s := by
  have size : its.size = ks.length := by
    have e := congrArg List.length same
    rwa [Array.length_toList, List.length_map] at e
  -- the call of the type
  obtain ⟨_, _, order⟩ := PySem.F.called_set.mro
  have made := PySem.F.called_set.made
  have below := PySem.F.called_set.sub
  refine wpAny_call (codeAny_of_tree ?_)
  show wpAny _ _ (callAny (.type "set") ⟨[.ref l], []⟩) _ _ _
  refine wpAny_pure (And.intro (Code.quiet_builtin _ (by decide +kernel)) (codeAny_builtin PySem.F.entry_type_call ?_))
  rw [Around.under_plain (weight_type_call_type "set" ([.ref l] : List Value) []) rfl]
  have noType := PySem.F.called_set.notType
  have canMake := PySem.F.called_set.canCreate
  have checked := PySem.F.typeCall_set_1 (Value.ref l)
  repeat (any_goals (first | assumption | wp_step))
  refine codeAny_mono (code_set_led1 (Value.ref l) (E := E) (Q₁ := fun ob z => ob = .ref s.heap.objs.size ∧ z = { s with heap := s.heap.push (newSet w) }) (And.intro rfl rfl)) fun res z hres => ?_
  rcases res with err | fl
  · exact hres
  cases fl
  case ret ob =>
    obtain ⟨rfl, rfl⟩ := hres
    have new : (s.heap.push (newSet w)).get? s.heap.objs.size = some (newSet w) := Heap.get?_push_size _ rfl
    have typ : Shared.TypeIs { s with heap := s.heap.push (newSet w) } (.ref s.heap.objs.size) "set" := ⟨_, new, rfl⟩
    have lookI := PySem.F.called_set.init.lookup
    have bindI := PySem.F.called_set.init.bind (Value.ref s.heap.objs.size)
    repeat (any_goals (first | assumption | wp_step))
    refine codeAny_mono (codeAny_call_builtin (R := wants (fun r z => r = .none ∧ ∃ hp tk L es ep t, z = { s with heap := hp, toks := tk } ∧ SetTR P w hp s.heap.objs.size L es ep t ∧ Got ks ks.length L ∧ (∀ b o, s.heap.get? b = some o → hp.get? b = some o)) E)
      PySem.F.called_set.init.plain PySem.F.entry_set_init (check_set_init_1 typ ?_)) fun res2 z2 hres2 => ?_
    · obtain ⟨⟨cl, di, da, sl⟩, at_, isT, num, isS⟩ := tup
      simp only at isT isS
      subst isT isS
      have at2 : (s.heap.push (newSet w)).get? l = some { cls := .type "tuple", dict := di, data := .seq its num, slots := sl } := Heap.get?_push_of_some _ at_
      have noSet := PySem.F.sub_tuple_set
      have noFrozen := PySem.F.sub_tuple_frozenset
      have noDict : (Value.type "tuple" == Value.type "dict") = false := by decide
      have tup2 : (s.heap.push (newSet w)).IsTuple l its := ⟨_, at2, rfl, num, rfl⟩
      unfold Builtin.«set.__init__» noKeywords Builtin.Frozenset.updateFrom
      generalize wit : pyIter = PI
      wp_walk
      subst wit
      refine wpAny_pyIter_tuple tup2 (wpAny_bind (wpAny_runValue ?_))
      have lold : l < s.heap.objs.size := Heap.lt_size at_
      have quiet3 : A.in1.in1.in1.handled = none := by simp [quiet]
      have big : (s.heap.push (newSet w)).objs.size = s.heap.objs.size + 1 := Heap.size_push ..
      have apart : l ≠ (s.heap.push (newSet w)).objs.size := by
        rw [big]
        exact Nat.ne_of_lt (Nat.lt_succ_of_lt lold)
      have alone : s.heap.objs.size ∉ [(s.heap.push (newSet w)).objs.size, l] := by
        intro z
        rcases List.mem_cons.mp z with z | z
        · rw [big] at z
          exact absurd z (Nat.ne_of_lt (Nat.lt_succ_self _))
        · exact absurd (List.mem_singleton.mp z) (Nat.ne_of_gt lold)
      have value : ∀ (i : Nat) (v : Value), its[i]? = some v → ∃ p, ks[i]? = some p ∧ v = .ref p.1 := by
        intro i v hv
        rw [← Array.getElem?_toList, same, List.getElem?_map] at hv
        obtain ⟨p, hp, e⟩ := Option.map_eq_some_iff.mp hv
        exact ⟨p, hp, e.symm⟩
      have free : ∀ b, s.heap.objs.size ≤ b → s.heap.get? b = none := by
        intro b hb
        refine Option.eq_none_iff_forall_ne_some.mpr fun o e => ?_
        exact Nat.lt_irrefl _ (Nat.lt_of_lt_of_le (Heap.lt_size e) hb)
      have old : ∀ b o, s.heap.get? b = some o → ((s.heap.push (newSet w)).push (itOf l)).get? b = some o := fun b o e => Heap.get?_push_of_some _ (Heap.get?_push_of_some _ e)
      have set2 : ((s.heap.push (newSet w)).push (itOf l)).get? s.heap.objs.size = some (newSet w) := Heap.get?_push_of_some _ new
      refine set_update_tups (Walks.tuple quiet3 _ l apart its).toS s.heap.objs.size alone ks size few value s.heap rows (free _ (Nat.le_refl _)) (fun b hb => free b ?_) units (its.size - 0) 0 _ (Nat.sub_zero _ ▸ rfl) (Nat.zero_le _)
        (And.intro ⟨_, Heap.get?_push_size _ rfl, rfl, rfl⟩ (tup2.push _)) old ⟨[], #[], 0, _, setTR_fresh set2, Got.zero ks⟩ ?_
      · rw [List.mem_singleton.mp hb, big]
        exact Nat.le_succ _
      · rintro ⟨hp, gn, dr, tk, os⟩ L es ep t moved stands got kept
        obtain rfl : gn = s.gens := moved.gens
        obtain rfl : dr = s.drawn := moved.drawn
        obtain rfl : os = s.os := moved.os
        refine wpAny_pure ?_
        show wpAny _ _ (ret Value.none) _ _ _
        rw [size] at got
        exact wpAny_pure (And.intro rfl ⟨hp, tk, L, es, ep, t, rfl, stands, got, kept⟩)
    · rcases res2 with err | fl
      · exact hres2
      cases fl
      case ret r =>
        obtain ⟨rfl, hp, tk, L, es, ep, t, rfl, stands, got, kept⟩ := hres2
        repeat (any_goals (first | assumption | wp_step))
        exact done _ _ _ _ _ _ stands got kept
      all_goals exact hres2.elim
  all_goals exact hres.elim
end
/-- set(t) over the layer -/
def rSetTT (K : PySem.W.Frag) (P : Program) (w : World) : List V → Hp → VK → Prop := fun vs H Q => ∃ (l : Addr) (ks : List (Addr × List Int)), vs = [V.ref l] ∧ SqT K H l (ks.map fun p => V.ref p.1) ∧ (∀ p ∈ ks, SqT K H p.1 (p.2.map V.int)) ∧ ks.length < 64 ∧
  ∀ a L, H a = none → (∀ p ∈ L, p ∈ ks) → (∀ p ∈ ks, p.2 ∈ L.map (·.2)) → Q (.ref a) (upd H a (SetTO P w a L))
theorem cr_setTT {X : Cx} (calm : X.calm = true) (units : X.A.units + 64 < cLine) : CallR X (.type "set") (rSetTT X.K X.prog X.w) := by
  intro pins s σ H vs us Q I r h
  obtain ⟨l, ks, rfl, hl, hk, few, q⟩ := h
  rw [Vals.ref1 r]
  obtain ⟨its, rv, tup, _⟩ := I.tuple hl
  have free : H s.heap.objs.size = none := I.hok.fresh (Nat.le_refl _)
  refine setTT (P := X.prog) (w := X.w) ks (I.ok.hd calm) tup (by simpa using refs_of_vals rv) (fun p hp => I.isT (hk p hp)) few (by omega) fun hp tk L es ep t stands got kept => ?_
  refine ⟨.ref s.heap.objs.size, upd H s.heap.objs.size (SetTO X.prog X.w s.heap.objs.size L), I.laid (t' := tk) kept (Nat.le_refl _) (setTO_new stands.t0), rfl, q _ L free (fun p hp => List.mem_of_mem_take (got.sub p hp)) fun p hp => ?_⟩
  have := got.all p
  rw [List.take_length] at this
  exact this hp
end WR
set_option Elab.async false
set_option linter.all false
set_option maxRecDepth 100000
set_option maxHeartbeats 1000000
namespace WR
open PySem PySem.Spec PyProof.Rows L2 Evl
theorem scLeafRow : FnScope ["leaves", "leaf", "at"] ["leaves", "leaf"] (defScope sLeafRow) := ⟨rfl, rfl, rfl, by decide +kernel, rfl, by decide +kernel, by decide +kernel⟩
abbrev nRo : List Str := ["web", "leaves", "inner", "found", "item", "leaf", "child"]
theorem scRo : FnScope nRo ["web"] (defScope sRowsOf) := ⟨rfl, rfl, rfl, by decide +kernel, rfl, by decide +kernel, by decide +kernel⟩
abbrev scRI : Scope := { kind := ScopeKind.function, names := [(Str.ofString ".0", NameKind.local), (Str.ofString "leaf", NameKind.cell), (Str.ofString "sum", NameKind.globalImplicit), (Str.ofString "found", NameKind.cell), (Str.ofString "item", NameKind.cell)], isGenerator := false, isCoroutine := false, more := [] }
section
variable {P : Program} {w : World} {K : PySem.W.Frag} {mg : Str → Option Value} {base : Heap}
theorem ok_leafrow {f : Addr} {fd : FuncData} (F : Fun K "leaf_row" "leaf_row" sLeafRow f fd) (m1 : mg "range" = none) (m2 : mg "tuple" = none) :
    FnOk P w K mg base CX0 1 f fd ["leaves", "leaf"] (spLeafRow K) := by
  refine F.ok scLeafRow (fun vs H Q E h => ?_) (fun cdv A outer s H vs Q E hr h => ?_)
  · obtain ⟨l, x, rfl, _⟩ := h
    rfl
  obtain ⟨l, x, rfl, hl, q⟩ := h
  refine ⟨_, pss_one (ps_ret (pe_callTy call_tuple_of (by rfl) m2 (by decide +kernel) (pa_cons (pe_lc (own := [("at", 2)]) (g := gName 2) (tt := tYes) (te := tIf (tTest (tOp rEq (tVar 2) (tVar 1))) (tC (.int 1)) (tC (.int 0))) rfl scLeafRow.nd
      (pi_range1 (by rfl) m1 (pa_cons (pv 0) pa_nil)) (blkOk_by (N := ["leaves", "leaf", "at"]) (sc := defScope sLeafRow) (by decide +kernel))
      (fun _ _ _ _ _ => pg_name (i := 2) scLeafRow.nd rfl (Or.inl rfl)) (fun _ _ _ _ _ => pts_nil) (fun _ _ _ _ _ => pe_ifExp (pt_cmpR op_eq (pv 2) (pv 1) (nomark _)) pe_int pe_int)) pa_nil))), ?_⟩
  have hS := srcS_R1 (K := K) (σ := start ["leaves", "leaf", "at"] [nV l, nV x]) (H := H) (n := (l : Int)) (ta := tCons (tVar 0) tNil) (ea_cons (ev_var rfl) ea_nil) (by omega)
  rw [Int.toNat_natCast] at hS
  refine s_retD (K := K) (d := tupI ((List.range l).map fun a => if a = x then 1 else 0)) (ed_tupL (ds := ((List.range l).map fun a => if a = x then (1 : Int) else 0).map PyData.int) (ed_n ?_)) fun r H2 e2 hr2 => q r H2 e2 hr2
  have q1 := en_lc (K := K) (σ := start ["leaves", "leaf", "at"] [nV l, nV x]) (H := H) (ds := rngD 0 l) (j := 2) (vs := [2]) (t := tYes) (te := tIf (tTest (tOp rEq (tVar 2) (tVar 1))) (tC (.int 1)) (tC (.int 0)))
      (fun d => match d with | .int c => some (.int (if c = (x : Int) then 1 else 0)) | _ => none) hS.src (by rw [rngD_len]; omega) (fun _ => rfl) (fun d v H8 e8 hd hv => ?_) (fun d r v H8 e8 hd hv hr => ?_) (fun d r hd hr => ?_)
  · rw [fm_rng (g := fun a => PyData.int (if a = x then 1 else 0)) (fun a _ => ?_)] at q1
    · rw [List.map_map]
      exact q1
    · show some (PyData.int (if (0 : Int) + (a : Int) = (x : Int) then 1 else 0)) = some (PyData.int (if a = x then 1 else 0))
      by_cases z : a = x
      · rw [if_pos z, if_pos (by omega)]
      · rw [if_neg z, if_neg (by omega)]
  · obtain ⟨c, _, rfl⟩ := List.mem_map.mp hd
    exact fun H1 _ _ q => q H1 (Ex.refl H1)
  · obtain ⟨c, _, rfl⟩ := List.mem_map.mp hd
    cases hr
    cases dp_int hv
    refine ed_i (ev_if (b := decide ((0 : Int) + (c : Int) = (x : Int))) (et_test (ev_is (ev_op (ev_var rfl) (ev_var rfl) (rv_eq rfl)) ?_)) (fun hb => ?_) fun hb => ?_)
    · show V.bl (decide (V.int ((0 : Int) + (c : Int)) = V.int (x : Int))) = _
      rw [dec_int]
      rfl
    · rw [if_pos (of_decide_eq_true hb)]
      exact ev_c
    · rw [if_neg (of_decide_eq_false hb)]
      exact ev_c
  · obtain ⟨c, _, rfl⟩ := List.mem_map.mp hd
    cases hr
    rfl
theorem ok_rowsof {f fL : Addr} {fd fdL : FuncData} (F : Fun K "rows_of" "rows_of" sRowsOf f fd)
    (FL : Fun K "leaf_row" "leaf_row" sLeafRow fL fdL) (bL : Binds K fdL ["leaves", "leaf"] []) (gL : mg "leaf_row" = some (.ref fL))
    (m1 : mg "range" = none) (m2 : mg "tuple" = none) (m3 : mg "sum" = none)
    (GL : FnOk P w K mg base CX0 1 fL fdL ["leaves", "leaf"] (spLeafRow K)) :
    FnOk P w K mg base CX0 2 f fd ["web"] (spW K fun l inner => .list (rowsD l inner (l + inner.length))) := by
  refine F.ok scRo (fun vs H Q E h => spW_len h) (fun cdv A outer s H vs Q E hr h => ?_)
  obtain ⟨v, l, inner, rfl, hv, hw, q⟩ := h
  refine ⟨_, pss_cons (ps_asg (pv 0) (pg_tup rfl (pgs_cons (pg_name (i := 1) scRo.nd rfl (.inr rfl)) (pgs_cons (pg_name (i := 2) scRo.nd rfl (.inl rfl)) pgs_nil))))
    (pss_cons (ps_set (i := 3) scRo.nd rfl (.inr rfl) (pe_lc (own := [("leaf", 5)]) (g := gName 5) (tt := tYes) (te := tCall (spLeafRow K) [] E0 (tCons (tVar 1) (tCons (tVar 5) tNil))) rfl scRo.nd
      (pi_range1 (by rfl) m1 (pa_cons (pv 1) pa_nil)) (blkOk_by (N := nRo) (sc := defScope sRowsOf) (by decide +kernel))
      (fun _ _ _ _ _ => pg_name (i := 5) scRo.nd rfl (Or.inl rfl)) (fun _ _ _ _ _ => pts_nil) (fun _ _ _ _ _ => pe_call GL hr (by rfl) gL FL.kp bL .nil pass0 (pa_cons (pv 1) (pa_cons (pv 5) pa_nil)))))
    (pss_cons (ps_for PassesOwn.never rfl (pi_tup (pv 2)) (pg_name (i := 4) scRo.nd rfl (.inr rfl))
      (pss_one (ps_expr (pe_bm PySem.F.plainAttrs_list PySem.F.slot_list_append PySem.F.type_list_append mt_append (pv 3) (pa_cons (pe_callTy call_tuple_of (by rfl) m2 (by decide +kernel) (pa_cons
        (pe_lc (own := [("leaf", 5)]) (g := gName 5) (tt := tYes) (te := tCB (rSum K) (tCons (tLc (iTup K (tVar 4)) (gName 6) tYes (tOp (rIxT K) (tOp (rIxL K) (tVar 3) (tVar 6)) (tVar 5)) [6]) tNil)) rfl scRo.nd
          (pi_range1 (by rfl) m1 (pa_cons (pv 1) pa_nil)) (blkOk_by (N := nRo) (sc := defScope sRowsOf) (by decide +kernel))
          (fun _ _ _ _ _ => pg_name (i := 5) scRo.nd rfl (Or.inr rfl)) (fun _ _ _ _ _ => pts_nil) (fun _ _ _ _ _ => pe_callB (cr_sum rfl) (by rfl) m3 (by decide +kernel) (pa_cons
            (pe_lc (own := [("child", 6)]) (g := gName 6) (tt := tYes) (te := tOp (rIxT K) (tOp (rIxL K) (tVar 3) (tVar 6)) (tVar 5)) rfl scRo.nd
              (pi_tup (pv 4)) (blkOk_by (N := nRo) (sc := scRI) (by decide +kernel))
              (fun _ _ _ _ _ => pg_name (i := 6) scRo.nd rfl (Or.inl rfl)) (fun _ _ _ _ _ => pts_nil) (fun _ _ _ _ _ => pe_ix (r := rIxT K) ix_tup (pe_ix (r := rIxL K) ix_list (pv 3) (pv 6) (fun _ _ => rfl)) (pv 5) (fun _ _ => rfl))) pa_nil))) pa_nil)) pa_nil)))))
    (pss_one (ps_ret (pv 3))))), ?_⟩
  have h1 := hw.l1
  have h8 := hw.l8
  have h20 := hw.n20
  have hdn : ∀ u c, c ∈ kidsAt l inner u → c < u := fun u c h => (kidsAt_lt hw h).2
  refine q_unp2 (ed_var rfl hv) fun x y H1 e1 hx hy => ?_
  cases dp_int hx
  let S (x3 x4 : Option V) : L2.St := [some v, some (nV l), some y, x3, x4, none, none]
  show tSeq _ _ _ (S none none) H1
  have hS1 : ∀ {x3 x4 : Option V} {H' : Hp}, SrcS K (iRng1 (tCons (tVar 1) tNil)) (S x3 x4) H' (rngD 0 l) := fun {x3 x4 H'} => by
    have q1 := srcS_R1 (K := K) (σ := S x3 x4) (H := H') (n := (l : Int)) (ta := tCons (tVar 1) tNil) (ea_cons (ev_var rfl) ea_nil) (by omega)
    rw [Int.toNat_natCast] at q1
    exact q1
  refine q_asgLD (K := K) (ds := rowsD l inner l) ?_ fun p H2 hp e2 hL => ?_
  · have q1 := en_lc (K := K) (σ := S none none) (H := H1) (ds := rngD 0 l) (j := 5) (vs := [5]) (t := tYes) (te := tCall (spLeafRow K) [] E0 (tCons (tVar 1) (tCons (tVar 5) tNil)))
      (fun d => match d with | .int c => some (rowD l inner c.toNat) | _ => none) hS1.src (by rw [rngD_len]; omega) (fun _ => rfl) (fun d v H8 e8 hd hv => ?_) (fun d r v H8 e8 hd hv hr => ?_) (fun d r hd hr => ?_)
    · rw [fm_rng (g := rowD l inner) (fun k _ => by
        show some (rowD l inner ((0 : Int) + (k : Int)).toNat) = _
        rw [show ((0 : Int) + (k : Int)).toNat = k by omega])] at q1
      exact q1
    · obtain ⟨c, _, rfl⟩ := List.mem_map.mp hd
      exact fun H1 _ _ q => q H1 (Ex.refl H1)
    · obtain ⟨c, hc, rfl⟩ := List.mem_map.mp hd
      have hc := List.mem_range.mp hc
      cases hr
      rw [show (0 : Int) + (c : Int) = (c : Int) by omega] at hv ⊢
      cases dp_int hv
      rw [Int.toNat_natCast]
      have er : rowD l inner c = tupI ((List.range l).map fun a => if a = c then 1 else 0) := by
        unfold rowD rowI
        congr 1
        exact List.map_congr_left fun a _ => way_leaf hc
      rw [er]
      exact fun H9 e9 Q9 q9 => ⟨nV l, rfl, nV c, rfl, l, c, rfl, by omega, fun r H10 e10 hr10 => q9 r H10 e10 hr10⟩
    · obtain ⟨c, _, rfl⟩ := List.mem_map.mp hd
      cases hr
      exact nl_tupI _
  have hpH : H1 p = none := hp
  show tSeq (tFor _ _ _) _ _ (S (some (.ref p)) none) H2
  refine q_forS (H0 := H1) (ds := inner.map kidsD) e2 (srcS_T (ev_var rfl) hy) (fun i σ' H' => Ex H1 H' ∧ (∃ x4, σ' = S (some (.ref p)) x4) ∧ LD K H' p (rowsD l inner (l + i))) (fun H3 e3 => ⟨e2.trans e3, ⟨_, rfl⟩, hL.ex e3⟩) (fun i σ' H' p => p.1) (fun i d x σ' H' hi hx hP => ?_) fun σ' H' hP => ?_
  · obtain ⟨e3, ⟨x4, rfl⟩, hL3⟩ := hP
    rw [List.getElem?_map] at hi
    obtain ⟨ks, hks, rfl⟩ := Option.map_eq_some_iff.mp hi
    have hil := (List.getElem?_eq_some_iff.mp hks).1
    have hka : kidsAt l inner (l + i) = ks := by
      unfold kidsAt
      rw [if_neg (by omega), show l + i - l = i by omega, List.getD_eq_getElem?_getD, hks]
      rfl
    show tDrop _ _ (S (some (.ref p)) (some x)) H'
    refine s_appD (K := K) (d := rowD l inner (l + i)) hL3 (ev_var rfl) (ed_tupL (ds := (rowI l inner (l + i)).map PyData.int) (ed_n ?_)) (by unfold rowsD; rw [List.length_map, List.length_range]; omega) nl_rowsD (nl_tupI _) fun H4 b4 hL4 => ⟨b4 _ e3 hpH, ⟨_, rfl⟩, ?_⟩
    · have q1 := en_lc (K := K) (σ := S (some (.ref p)) (some x)) (H := H') (ds := rngD 0 l) (j := 5) (vs := [5]) (t := tYes) (te := tCB (rSum K) (tCons (tLc (iTup K (tVar 4)) (gName 6) tYes (tOp (rIxT K) (tOp (rIxL K) (tVar 3) (tVar 6)) (tVar 5)) [6]) tNil))
        (fun d => match d with | .int c => some (.int (way (kidsAt l inner) c.toNat (l + i))) | _ => none) hS1.src (by rw [rngD_len]; omega) (fun _ => rfl) (fun d v H8 e8 hd hv => ?_) (fun d r v H8 e8 hd hv hr => ?_) (fun d r hd hr => ?_)
      · rw [fm_rng (g := fun k => .int (way (kidsAt l inner) k (l + i))) (fun k _ => by
          show some (PyData.int (way (kidsAt l inner) ((0 : Int) + (k : Int)).toNat (l + i))) = _
          rw [show ((0 : Int) + (k : Int)).toNat = k by omega])] at q1
        unfold rowI
        rw [List.map_map]
        exact q1
      · obtain ⟨c, _, rfl⟩ := List.mem_map.mp hd
        exact fun H1 _ _ q => q H1 (Ex.refl H1)
      · obtain ⟨c, hc, rfl⟩ := List.mem_map.mp hd
        have hc := List.mem_range.mp hc
        cases hr
        rw [show (0 : Int) + (c : Int) = (c : Int) by omega] at hv ⊢
        cases dp_int hv
        rw [Int.toNat_natCast]
        have ew : way (kidsAt l inner) c (l + i) = (ks.map (way (kidsAt l inner) c)).sum := by
          rw [way_rec (hdn _), hka, if_neg (by omega), Int.add_zero]
        rw [ew]
        refine ed_i (ev_sumI (K := K) ?_)
        have hx8 := dp_ex (e3.trans e8) _ hx
        have q2 := en_lc (K := K) (σ := [some v, some (nV l), some y, some (.ref p), some x, some (nV c), none]) (H := H8) (ds := natDs ks) (j := 6) (vs := [6]) (t := tYes) (te := tOp (rIxT K) (tOp (rIxL K) (tVar 3) (tVar 6)) (tVar 5))
          (fun d => match d with | .int u => some (.int (way (kidsAt l inner) c u.toNat)) | _ => none) (src_T (tl := tVar 4) (ed_var rfl hx8)) (by unfold natDs; rw [List.length_map]; have := hw.len ks (List.mem_of_getElem? hks); omega) (fun _ => rfl) (fun d v H9 e9 hd hv => ?_) (fun d r v H9 e9 hd hv hr => ?_) (fun d r hd hr => ?_)
        · rw [fm_natsJ (g := way (kidsAt l inner) c) (fun u _ => rfl)] at q2
          exact q2
        · obtain ⟨c, _, rfl⟩ := List.mem_map.mp hd
          exact fun H1 _ _ q => q H1 (Ex.refl H1)
        · obtain ⟨u, hu, rfl⟩ := List.mem_map.mp hd
          cases hr
          cases dp_int hv
          have hul : u < l + i := hw.lt i ks hks u hu
          exact ed_ixT (n := c) (ds := (rowI l inner u).map PyData.int) (ed_ixL (n := u) (ds := rowsD l inner (l + i)) (ed_var rfl (dp_ex (e8.trans e9) _ hL3.dp)) (ed_i (ev_var rfl)) rfl (rowsD_at hul)) (ed_i (ev_var rfl)) rfl (rowI_at hc)
        · obtain ⟨u, _, rfl⟩ := List.mem_map.mp hd
          cases hr
          rfl
      · obtain ⟨c, _, rfl⟩ := List.mem_map.mp hd
        cases hr
        rfl
    · rw [show l + (i + 1) = (l + i) + 1 by omega, rowsD_succ]
      exact hL4
  · obtain ⟨e3, ⟨x4, rfl⟩, hL3⟩ := hP
    rw [List.length_map] at hL3
    exact s_retD (K := K) (d := .list (rowsD l inner (l + inner.length))) (ed_var rfl hL3.dp) fun r H4 e4 hr4 => q r H4 ((e1.trans e3).trans e4) hr4
end
end WR
set_option Elab.async false
set_option linter.all false
set_option maxRecDepth 100000
set_option maxHeartbeats 1000000
namespace WR
open PySem PySem.Spec PyProof.Rows L2 Evl
section
variable {P : Program} {w : World} {K : PySem.W.Frag} {mg : Str → Option Value} {base : Heap}
end
end WR
-- auto
set_option Elab.async false
set_option linter.all false
set_option maxRecDepth 100000
set_option maxHeartbeats 1000000
namespace WR
open PySem PySem.Spec PyProof.Rows L2 Evl

/-! ### values that are drawn, over a base that stands -/
section
variable {K : PySem.W.Frag} {σ : L2.St} {H : Hp} {ta tb te t1 : TE} {dk L : Addr} {ns : List Int} {D : Ends} {tz : TS}
def Keep (dk L : Addr) (ns : List Int) (Pr : V → Hp → Prop) : Prop := ∀ v H1 H2 N M, Dk H1 dk L ns N → Bs H1 H2 dk L ns M → Pr v H1 → Pr v H2
def EvP (σ : L2.St) (H : Hp) (dk L : Addr) (ns : List Int) (te : TE) (c : Int) (Pr : V → Hp → Prop) : Prop := ∀ H1 N, Bs H H1 dk L ns N → N + c ≤ 380000000 → ∀ Q : VK, (∀ v H2, Bs H1 H2 dk L ns (N + c) → Pr v H2 → Q v H2) → te σ H1 Q
def EvPA (σ : L2.St) (H : Hp) (dk L : Addr) (ns : List Int) (ta : TA) (m : Nat) (c : Int) (Pr : V → Hp → Prop) : Prop := ∀ H1 N, Bs H H1 dk L ns N → N + c ≤ 380000000 → ∀ Q : List V → Hp → Prop, (∀ vs H2, Bs H1 H2 dk L ns (N + c) → vs.length = m → (∀ v ∈ vs, Pr v H2) → Q vs H2) → ta σ H1 Q
theorem EvP.imp {c : Int} {Pr Pr' : V → Hp → Prop} (h : EvP σ H dk L ns te c Pr) (k : ∀ v H, Pr v H → Pr' v H) : EvP σ H dk L ns te c Pr' := fun H1 N b hN Q q => h H1 N b hN Q fun v H2 b2 p => q v H2 b2 (k v H2 p)
theorem EvP.wk {c c' : Int} {Pr : V → Hp → Prop} (h : EvP σ H dk L ns te c Pr) (hc : c ≤ c') : EvP σ H dk L ns te c' Pr := fun H1 N b hN Q q => h H1 N b (by omega) Q fun v H2 b2 p => q v H2 (b2.wk (by omega)) p
theorem evp_ev {v : V} {Pr : V → Hp → Prop} (h : ∀ H1 N, Bs H H1 dk L ns N → Ev te σ H1 v) (p : ∀ H1 N, Bs H H1 dk L ns N → Pr v H1) : EvP σ H dk L ns te 0 Pr := fun H1 N b _ Q q =>
  h H1 N b H1 (Ex.refl H1) _ fun H2 e2 => q v H2 ((Bs.rfl b.deck).more e2 |>.wk (by omega)) (p H2 N (b.more e2))
theorem evpa_nil {Pr : V → Hp → Prop} : EvPA σ H dk L ns tNil 0 0 Pr := fun H1 N b _ Q q => q [] H1 ((Bs.rfl b.deck).wk (by omega)) rfl fun v h => by cases h
theorem evpa_cons {m : Nat} {c d : Int} {tr : TA} {Pr : V → Hp → Prop} (kp : Keep dk L ns Pr) (h : EvP σ H dk L ns te c Pr) (hr : EvPA σ H dk L ns tr m d Pr) (hd : 0 ≤ d) (hc : 0 ≤ c) : EvPA σ H dk L ns (tCons te tr) (m + 1) (c + d) Pr := fun H1 N b hN Q q =>
  h H1 N b (by omega) _ fun v H2 b2 p => hr H2 (N + c) (b.tr b2) (by omega) _ fun vs H3 b3 hl hvs => q _ H3 ((b2.tr b3).wk (by omega)) (by rw [List.length_cons, hl]) fun x hx => by
    rcases List.mem_cons.mp hx with rfl | hx
    · exact kp x H2 H3 _ _ b2.deck b3 p
    · exact hvs x hx
/-- one(deck, [..]) -/
theorem evp_one {E : XK} {ta' : TA} {m : Nat} {c : Int} {Pr : V → Hp → Prop} (kp : Keep dk L ns Pr) (h1 : ∀ H, Ev t1 σ H (.ref dk)) (ha : EvPA σ H dk L ns ta' m c Pr) (hm : 1 ≤ m) (hm2 : m ≤ 1000) (hc : c ≤ 100000) (hc0 : 0 ≤ c) :
    EvP σ H dk L ns (tCall (spOne K) [] E (tCons t1 (tCons (tLst ta') tNil))) (c + 1) (fun v H => Pr v H) := fun H1 N b hN Q q =>
  h1 H1 H1 (Ex.refl H1) _ fun H2 e2 => by
    refine ha H2 N (b.more e2) (by omega) _ fun vs H3 b3 hl hvs => ⟨sz_of (by omega), fun li hli => ?_⟩
    have en := Ex.new (o := .lst vs) hli
    have b4 := b3.more en
    have hne := b3.deck.ne hli
    refine ⟨dk, L, ns, _, li, vs, Eq.refl _, b4.deck, by omega, upd_same, hne, by omega, by omega, fun x H5 hx e5 d5 => ?_⟩
    have b45 : Bs (upd H3 li (.lst vs)) H5 dk L ns (N + c + 1) := ⟨e5, d5, by obtain ⟨a, b', n, d, _⟩ := b4.deck; exact ⟨_, d.at_⟩, by obtain ⟨a, b', n, d, _⟩ := b4.deck; exact ⟨_, d.ls⟩⟩
    have b15 : Bs H1 H5 dk L ns (N + (c + 1)) := (((Bs.rfl b.deck).more e2).tr (b4.tr b45)).wk (by omega)
    have b3' : Bs H3 H5 dk L ns (N + c + 1) := ((Bs.rfl b3.deck).more en).tr b45
    exact q x H5 b15 (kp x H3 H5 _ _ b3.deck b3' (hvs x hx))
/-- draw(deck, m) -/
def PrN (S : Nat → Prop) (v : V) (_ : Hp) : Prop := ∃ r, S r ∧ v = nV r
theorem keep_N {S : Nat → Prop} : Keep dk L ns (PrN S) := fun _ _ _ _ _ _ _ h => h
theorem evp_draw {E : XK} {m : Nat} (h1 : ∀ H, Ev t1 σ H (.ref dk)) (h2 : ∀ H1 N, Bs H H1 dk L ns N → Ev tb σ H1 (nV m)) (hm : 1 ≤ m) (hm2 : m ≤ 1000000000) : EvP σ H dk L ns (tCall spDraw [] E (tCons t1 (tCons tb tNil))) 1 (PrN fun r => r < m) := fun H1 N b hN Q q =>
  ev_draw (h1 H1) (h2 H1 N b) b.deck (by omega) hm hm2 H1 (Ex.refl H1) Q fun r H2 hr b2 => q _ H2 b2 ⟨r, hr, Eq.refl _⟩
/-- webs -/
def PrW (K : PySem.W.Frag) (C : Nat → List (List Nat) → Prop) (v : V) (H : Hp) : Prop := ∃ l inner, C l inner ∧ Dp K H v (webD l inner)
theorem keep_W {C : Nat → List (List Nat) → Prop} : Keep dk L ns (PrW K C) := fun v H1 H2 N M hD b h => by
  obtain ⟨l, inner, h1, h2⟩ := h
  exact ⟨l, inner, h1, b.at (K := K) hD (nl_webA l inner) h2⟩
theorem evp_web {E : XK} {mo mx : Nat} (h1 : ∀ H, Ev t1 σ H (.ref dk)) (m1 : 1 ≤ mo) (m8 : mo ≤ 8) (m9 : mx ≤ 9) : EvP σ H dk L ns (tCall (spLWeb K) [] E (tCons t1 (tCons (tC (nV mo)) (tCons (tC (nV mx)) tNil)))) 137 (PrW K fun l inner => Drawn l inner ∧ 1 ≤ l ∧ l ≤ mo) := fun H1 N b hN Q q =>
  h1 H1 H1 (Ex.refl H1) _ fun H2 e2 => ⟨dk, L, ns, N, mo, mx, Eq.refl _, b.deck.ex e2, by omega, m1, m8, by omega, fun H3 v Lv inner b3 l1 l2 hv hw => by
    refine q v H3 ?_ ⟨Lv, inner, ⟨hw, l1, l2⟩, hv⟩
    exact (((Bs.rfl b.deck).more e2).tr b3).wk (by omega)⟩
/-- x = a drawn value -/
theorem q_asgP {i : Nat} {c N : Int} {Pr : V → Hp → Prop} (h : EvP σ H dk L ns te c Pr) (hD : Dk H dk L ns N) (hN : N + c ≤ 380000000) (k : ∀ v H1, Bs H H1 dk L ns (N + c) → Pr v H1 → tz D (σ.set i (some v)) H1) : tSeq (tAsg te (gName i)) tz D σ H :=
  h H N (Bs.rfl hD) hN _ k
/-- x, y = two drawn values -/
theorem q_parP {i j : Nat} {c d N : Int} {Pr Pr' : V → Hp → Prop} (kp : Keep dk L ns Pr) (h : EvP σ H dk L ns ta c Pr) (h2 : EvP σ H dk L ns tb d Pr') (hD : Dk H dk L ns N) (hN : N + c + d ≤ 380000000) (hd : 0 ≤ d)
    (k : ∀ v w H1, Bs H H1 dk L ns (N + c + d) → Pr v H1 → Pr' w H1 → tz D ((σ.set i (some v)).set j (some w)) H1) : tSeq (tPar i j (tCons ta (tCons tb tNil))) tz D σ H :=
  h H N (Bs.rfl hD) (by omega) _ fun v H1 b1 p1 => h2 H1 (N + c) b1 (by omega) _ fun w H2 b2 p2 => ⟨v, w, Eq.refl _, k v w H2 (b1.tr b2) (kp v H1 H2 _ _ b1.deck b2 p1) p2⟩
end
end WR
set_option Elab.async false
set_option linter.all false
set_option maxRecDepth 100000
set_option maxHeartbeats 1000000
namespace WR
open PySem PySem.Spec PyProof.Rows L2 Evl

/-! ### webs drawn, ascending; lists that grow over a base -/
theorem Bs.app {B H H1 : Hp} {dk L r : Addr} {ns : List Int} {N : Int} (b : Bs B H dk L ns N) (h : B r = none) (a : ∀ B' : Hp, Ex B' H → B' r = none → Ex B' H1) : Bs B H1 dk L ns N := by
  have hne := b.ne h
  have hL : L ≠ r := fun z => by
    obtain ⟨o, ho⟩ := b.bL
    rw [z, h] at ho
    cases ho
  obtain ⟨x, y, n, d, hn⟩ := b.deck
  have e1 := a (WR.rem H r) rem_ex rem_self
  exact ⟨a _ b.ex (by rw [rem_ne hne]; exact h), ⟨x, y, n, ⟨e1 _ _ (by rw [rem_ne (Ne.symm hne)]; exact d.at_), e1 _ _ (by rw [rem_ne hL]; exact d.ls), d.a0, d.b0, d.n0, d.len⟩, hn⟩, b.bdk, b.bL⟩
theorem Drawn.asc {L : Nat} {inner : List (List Nat)} (h : Drawn L inner) (h1 : 1 ≤ L) (h8 : L ≤ 8) : Asc L inner := by
  have hr := h.raw h1 h8
  have hnd := h.nd
  obtain ⟨kk, od, hG, hn, hO, hlen, hin⟩ := h.ex
  refine ⟨hr, fun ks hks => ?_⟩
  have h2 : ks.Pairwise (· ≤ ·) := by
    rw [hin] at hks
    obtain ⟨u, _, rfl⟩ := List.mem_map.mp hks
    unfold itemOf
    refine List.pairwise_map.mpr ((sortI_sorted _).imp fun {a b} hab => ?_)
    omega
  exact (h2.and (hnd ks hks)).imp fun {a b} hab => Nat.lt_of_le_of_ne hab.1 hab.2
/-- the items of a ladder -/
structure Lad (ks : List (List Nat)) (last lf n : Nat) : Prop where
  lt : ∀ j k, ks[j]? = some k → ∀ c ∈ k, c < 8 + j
  up : ∀ k ∈ ks, k.Pairwise (· < ·)
  len : ∀ k ∈ ks, k.length ≤ 2
  bnd : last < 8 + ks.length
  leaf : 1 ≤ lf ∧ lf ≤ n + 1
  top : ks = [] ∧ last = 0 ∧ n = 0 ∨ 8 ≤ last
  cov : ∀ c, c < 8 + ks.length → c ≠ last → ¬ (lf ≤ c ∧ c < 8) → ∃ k ∈ ks, c ∈ k
/-- each kind but the last has a parent -/
def Cov (l : Nat) (inner : List (List Nat)) : Prop := ∀ c, c + 1 < l + inner.length → ∃ k ∈ inner, c ∈ k
theorem Lad.app {ks : List (List Nat)} {it : List Nat} (h1 : ∀ j k, ks[j]? = some k → ∀ c ∈ k, c < 8 + j) (h2 : ∀ c ∈ it, c < 8 + ks.length) : ∀ j k, (ks ++ [it])[j]? = some k → ∀ c ∈ k, c < 8 + j := fun j k hj c hc => by
  rw [List.getElem?_append] at hj
  by_cases z : j < ks.length
  · rw [if_pos z] at hj
    exact h1 j k hj c hc
  · rw [if_neg z] at hj
    have hl := (List.getElem?_eq_some_iff.mp hj).1
    have e : j - ks.length = 0 := by rw [List.length_singleton] at hl; omega
    rw [e] at hj
    cases hj
    have := h2 c hc
    omega
theorem sort_pair {a b : Nat} (h : a < b) : (sortI [(b : Int), (a : Int)]).map PyData.int = natDs [a, b] ∧ (sortI [(a : Int), (b : Int)]).map PyData.int = natDs [a, b] := by
  have e : ∀ l : List Int, l.Perm [(a : Int), (b : Int)] → sortI l = [(a : Int), (b : Int)] := fun l hl => sorted_one ((sortI_perm _).trans hl) (sortI_sorted _) (by
    refine List.pairwise_cons.mpr ⟨fun x hx => ?_, List.pairwise_singleton ..⟩
    rw [List.mem_singleton.mp hx]
    omega)
  refine ⟨?_, ?_⟩
  · rw [e _ (List.Perm.swap ..)]
    rfl
  · rw [e _ (List.Perm.refl _)]
    rfl
section
variable {K : PySem.W.Frag} {σ : L2.St} {H : Hp} {ta tb te t1 : TE} {dk L : Addr} {ns : List Int} {D : Ends} {tz : TS}
theorem en_lstRg {lo n : Nat} (h1 : Ev ta σ H (nV lo)) (h2 : Ev tb σ H (nV n)) (hl : lo ≤ n) (hn : n ≤ 1000) : EvN K (tLstRg (tRg2 ta tb)) σ H (natDs ((List.range (n - lo)).map (lo + ·))) := fun H1 e Q q =>
  h1 H1 e _ fun H2 e2 => h2 H2 (e.trans e2) _ fun H3 e3 => ⟨(lo : Int), (n : Int), rfl, rfl, RgOk.of_le (by omega) (by omega) (by omega) (by omega), fun p hp => by
    rw [rgV_lo hl]
    exact q p _ _ (fresh_back (e2.trans e3) hp) ((e2.trans e3).trans (Ex.new hp)) upd_same (dpAll_nat _)⟩
theorem en_catN {ds es : List PyData} (ha : EvN K ta σ H ds) (hb : EvN K tb σ H es) (hl : ds.length + es.length ≤ 100000) : EvN K (tOp rCat ta tb) σ H (ds ++ es) := fun H1 e Q q =>
  ha H1 e _ fun a xs H2 ha' e2 ha2 hda => hb H2 (e.trans e2) _ fun b ys H3 hb' e3 hb3 hd3 =>
    ⟨a, b, xs, ys, rfl, rfl, e3 _ _ ha2, hb3, sz_of (by rw [dpAll_len hda, dpAll_len hd3]; exact hl), fun c hc =>
      q c _ _ (fresh_back (e2.trans e3) hc) ((e2.trans e3).trans (Ex.new hc)) upd_same (dpAll_app (dpAll_ex (e3.trans (Ex.new hc)) _ hda) (dpAll_ex (Ex.new hc) _ hd3))⟩
def spLadder (K : PySem.W.Frag) : Sp := fun vs H Q _ => ∃ dk L ns N, vs = [.ref dk] ∧ Dk H dk L ns N ∧ N ≤ 379999900 ∧ ∀ v H' inner, Bs H H' dk L ns (N + 5) → Asc 8 inner → Cov 8 inner → Dp K H' v (webD 8 inner) → Q v H'
theorem evp_ladder {E : XK} (h1 : ∀ H, Ev t1 σ H (.ref dk)) : EvP σ H dk L ns (tCall (spLadder K) [] E (tCons t1 tNil)) 100 (PrW K fun l inner => Asc l inner) := fun H1 N b hN Q q =>
  h1 H1 H1 (Ex.refl H1) _ fun H2 e2 => ⟨dk, L, ns, N, rfl, b.deck.ex e2, by omega, fun v H3 inner b3 ha hc hv => q v H3 ((((Bs.rfl b.deck).more e2).tr b3).wk (by omega)) ⟨8, inner, ha, hv⟩⟩
theorem evp_ladderC {E : XK} (h1 : ∀ H, Ev t1 σ H (.ref dk)) : EvP σ H dk L ns (tCall (spLadder K) [] E (tCons t1 tNil)) 100 (PrW K fun l inner => Asc l inner ∧ Cov l inner) := fun H1 N b hN Q q =>
  h1 H1 H1 (Ex.refl H1) _ fun H2 e2 => ⟨dk, L, ns, N, rfl, b.deck.ex e2, by omega, fun v H3 inner b3 ha hc hv => q v H3 ((((Bs.rfl b.deck).more e2).tr b3).wk (by omega)) ⟨8, inner, ⟨ha, hc⟩, hv⟩⟩
end
end WR
set_option Elab.async false
set_option linter.all false
set_option maxRecDepth 100000
set_option maxHeartbeats 2000000
namespace WR
open PySem PySem.Spec PyProof.Rows L2 Evl

/-! ### sorted of data made of kinds -/
structure EncOk (enc : Nat → PyData) : Prop where
  al : ∀ a b, PySem.W.alike (enc a) (enc b) = true
  tup : ∀ a, ∃ x r, enc a = .tuple (x :: r)
  dep : ∀ a, (enc a).depth ≤ 8
def rSortN (K : PySem.W.Frag) : List V → Hp → VK → Prop := fun vs H Q => ∃ (enc : Nat → PyData) (a : Addr) (xs : List V) (bs : List Nat), EncOk enc ∧ vs = [V.ref a] ∧ SqL K H a xs ∧ DpAll K H xs (bs.map enc) ∧ bs.length ≤ 100000 ∧
  ∀ (ys : List V) (p : Addr), DpAll K H ys ((bs.mergeSort (PySem.W.dataLe false enc)).map enc) → H p = none → Q (.ref p) (upd H p (.lst ys))
theorem eachN_in {enc : Nat → PyData} {K : PySem.W.Frag} {H : Hp} : ∀ {xs : List V} {us : List Value} {bs : List Nat}, Vals xs us → DpAll K H xs (bs.map enc) → PySem.W.EachIs (fun v b => ∃ x, RelV x v ∧ Dp K H x (enc b)) us bs
  | [], us, bs, hv, hd => by
    cases hv
    cases bs with
    | nil => exact .nil
    | cons b r => cases hd
  | x :: xs, us, bs, hv, hd => by
    cases hv with
    | cons h1 h2 =>
      cases bs with
      | nil => cases hd
      | cons b r =>
        cases hd with
        | cons d1 d2 => exact .cons ⟨x, h1, d1⟩ (eachN_in h2 d2)
theorem eachN_out {enc : Nat → PyData} {K : PySem.W.Frag} {H : Hp} : ∀ {us : List Value} {bs : List Nat}, PySem.W.EachIs (fun v b => ∃ x, RelV x v ∧ Dp K H x (enc b)) us bs → ∃ ys, Vals ys us ∧ DpAll K H ys (bs.map enc)
  | _, _, .nil => ⟨[], .nil, .nil⟩
  | _, _, .cons ⟨x, h1, h2⟩ hr => by
    obtain ⟨ys, a, b⟩ := eachN_out hr
    exact ⟨x :: ys, .cons h1 a, .cons h2 b⟩
theorem cr_sortN {X : Cx} (hu : X.A.units + 64 < cLine) : CallR X (.builtin "sorted") (rSortN X.K) := by
  intro pins s σ H vs us Q I r h
  obtain ⟨enc, a, xs, bs, hE, rfl, hs, hd, hl, q⟩ := h
  obtain ⟨its, rv, hli, hz⟩ := I.list hs
  rw [Vals.ref1 r]
  have e := eachN_in rv hd
  have er : PySem.W.EachIs (fun v b => ∃ as, Reads s.heap v (enc b) as) its bs := e.mono fun v b ⟨x, h1, h2⟩ => Dp.reads I (enc b) x v h2 h1
  refine PySem.W.sorted_data hli.isList e er (PySem.W.AllAlike.of hE.al) (PySem.W.Sortable.tuples hE.tup) (sz_of hl) (fun b _ => ?_) fun out h1 h2 => ?_
  · have := hE.dep b
    show X.A.units + 2 + (enc b).depth < cLine
    omega
  · obtain ⟨ys, v1, v2⟩ := eachN_out h2
    obtain ⟨ep, hat⟩ := PyProof.Rows.sortedAll_at s.heap its out.toArray
    have hyl : ys.length ≤ sizeLine := by
      rw [v1.length, h1]
      exact sz_of hl
    exact ⟨.ref _, upd H (s.heap.objs.size + 1) (.lst ys), I.laid (t' := s.toks) (fun _ _ => PyProof.Rows.sortedAll_old) (Nat.le_succ _) ⟨hyl, out, ep, v1, hat⟩, rfl, q ys _ v2 (I.hok.fresh (Nat.le_succ _))⟩
section
variable {K : PySem.W.Frag} {σ : L2.St} {H : Hp} {ta te : TE} {t : TT} {wi : TI} {vs : List Nat} {D : Ends} {tu tz : TS}
theorem en_sortN {enc : Nat → PyData} {bs : List Nat} (hE : EncOk enc) (h : EvD K te σ H (.list (bs.map enc))) (hl : bs.length ≤ 100000) :
    EvN K (tCB (rSortN K) (tCons te tNil)) σ H ((bs.mergeSort (PySem.W.dataLe false enc)).map enc) := fun H1 e Q q =>
  h H1 e _ fun v H2 e2 hv => by
    obtain ⟨a, xs, rfl, hs, hd⟩ := dp_lst hv
    exact ⟨enc, a, xs, bs, hE, rfl, hs, hd, hl, fun ys p hy hp => q p ys _ (fresh_back e2 hp) (e2.trans (Ex.new hp)) upd_same (dpAll_ex (Ex.new hp) _ hy)⟩
theorem enc1_ok {l : Nat} {inner : List (List Nat)} : EncOk (enc1 l inner) := by
  refine ⟨fun a b => ?_, fun a => ⟨_, _, rfl⟩, fun a => ?_⟩
  · unfold enc1
    unfold natD
    simp only [PySem.W.alike, PySem.W.alikeAll, alike_tupI, Bool.true_and, Bool.and_true]
  · have := depth_tupI (rowI l inner a)
    unfold enc1
    unfold natD
    simp only [PyData.depth, PyData.depthAll]
    omega
theorem enc2_ok {l : Nat} {inner : List (List Nat)} : EncOk (enc2 l inner) := by
  refine ⟨fun a b => ?_, fun a => ⟨_, _, rfl⟩, fun a => ?_⟩
  · unfold enc2
    unfold natD
    simp only [PySem.W.alike, PySem.W.alikeAll, alike_tupI, Bool.true_and, Bool.and_true]
  · have := depth_tupI (rowI l inner a)
    unfold enc2
    unfold natD
    simp only [PyData.depth, PyData.depthAll]
    omega
/-- [.. for a, b in pairs] -/
theorem en_pair2 {i j : Nat} {α : Type} {ks : List α} (A B g : α → PyData) (h : Src K wi σ H (ks.map fun k => .tuple [A k, B k])) (hl : ks.length ≤ 40000) (hw : ∀ x y, wipe (((wipe σ vs).set i (some x)).set j (some y)) vs = wipe σ vs)
    (hv : ∀ k x y H1, Ex H H1 → k ∈ ks → Dp K H1 x (A k) → Dp K H1 y (B k) → EvD K te (((wipe σ vs).set i (some x)).set j (some y)) H1 (g k)) (hg : ∀ k ∈ ks, nl (g k) = true) :
    EvN K (tLc wi (gTup K 2 (gCons (gName i) (gCons (gName j) gNil))) tYes te vs) σ H (ks.map g) := fun H1 e Q q => h H1 e _ fun J H2 G e2 hg' w Dl hD => by
  refine lc_it w (fun m H' => Ex H2 H' ∧ ∃ acc, H' Dl = some (.lst acc) ∧ DpAll K H' acc ((ks.take m).map g)) ⟨Ex.new hD, [], upd_same, by simpa using DpAll.nil⟩ (fun m H' _ p => hg' H' p.1) (fun m x H' H'' hm p hy => ?_) (fun H' p => ?_)
  · obtain ⟨rfl, d, hd, hx⟩ := hy
    obtain ⟨p1, acc, p2, p3⟩ := p
    rw [List.getElem?_map] at hd
    obtain ⟨k, hk, rfl⟩ := Option.map_eq_some_iff.mp hd
    have hml := (List.getElem?_eq_some_iff.mp hk).1
    obtain ⟨a, xs, rfl, hs, hdx⟩ := dp_tup hx
    cases hdx with
    | cons d1 d2 =>
      cases d2 with
      | cons d2 d3 =>
        cases d3
        refine ⟨a, _, rfl, hs, rfl, _, _, rfl, _, _, rfl, rfl, hw _ _, yes_ ?_⟩
        have e3 : Ex H _ := (e.trans e2).trans p1
        refine hv k _ _ _ e3 (List.mem_of_getElem? hk) d1 d2 _ (Ex.refl _) _ fun y H4 e4 hyr => ⟨acc, e4 _ _ p2, sz_lt ?_, Ex.mut (p1.trans e4) hD, _, upd_same, ?_⟩
        · rw [dpAll_len p3, List.length_map, List.length_take]
          omega
        · have htk : (ks.take (m + 1)).map g = (ks.take m).map g ++ [g k] := by
            rw [List.take_add_one, hk, List.map_append]
            rfl
          rw [htk]
          have hall : nlAll ((ks.take m).map g) = true := nlAll_mem fun r' hr' => by
            obtain ⟨c, h1, rfl⟩ := List.mem_map.mp hr'
            exact hg c (List.mem_of_mem_take h1)
          exact dpAll_snoc (dpAll_updL (e4 _ _ p2) _ hall (dpAll_ex e4 _ p3)) (dp_updL (e4 _ _ p2) _ (hg k (List.mem_of_getElem? hk)) hyr)
  · obtain ⟨p1, acc, p2, p3⟩ := p
    rw [List.length_map, List.take_length] at p3
    exact q Dl acc H' (fresh_back e2 hD) (e2.trans p1) p2 p3
theorem en_lstRg1 {n : Nat} (h1 : Ev ta σ H (nV n)) (hn : n ≤ 1000) : EvN K (tLstRg (tRg1 ta)) σ H (natDs (List.range n)) := fun H1 e Q q =>
  h1 H1 e _ fun H2 e2 => ⟨(n : Int), rfl, RgOk.of_le (by omega) (by omega) (by omega) (by omega), fun p hp => by
    rw [rgV_nat]
    exact q p _ _ (fresh_back e2 hp) (e2.trans (Ex.new hp)) upd_same (dpAll_nat _)⟩
/-- for i, k in enumerate(list) -/
theorem q_forE {i j : Nat} {p : Addr} {ks : List Nat} (h : Ev te σ H (.ref p)) (hp : H p = some (.lst (nVs ks))) (Pv : Nat → L2.St → Hp → Prop) (h0 : ∀ H1, Ex H H1 → Pv 0 σ H1) (hl : ∀ m σ' H', Pv m σ' H' → H' p = some (.lst (nVs ks)))
    (hx : ∀ m σ' H' H'', Ex H' H'' → Pv m σ' H' → Pv m σ' H'')
    (hs : ∀ m k σ' H', ks[m]? = some k → Pv m σ' H' → tu { D with nx := Pv (m + 1), ct := Pv (m + 1), bk := tz D } ((σ'.set i (some (nV m))).set j (some (nV k))) H') (hd : ∀ σ' H', Pv ks.length σ' H' → tz D σ' H') :
    tSeq (tFor (iEnum K (tCons te tNil)) (gTup K 2 (gCons (gName i) (gCons (gName j) gNil))) tu) tz D σ H :=
  h H (Ex.refl H) _ fun H1 e1 => ⟨p, nVs ks, rfl, sq_of (e1 _ _ hp), by
    have hn : (nVs ks).length = ks.length := by unfold nVs; rw [List.length_map]
    refine for_it (walk_enum (K := K) (a := p) (xs := nVs ks)) (D := { D with nx := tz D }) Pv (h0 H1 e1) (fun m σ' H' _ P => sq_of (hl m σ' H' P)) (fun m x σ' Hc H' hm P hy => ?_) fun σ' H' P => ?_
    · obtain ⟨T, x1, y1, rfl, hT, rfl, hx1, hy1⟩ := hy
      obtain ⟨k, hk, rfl, _, _⟩ := nVs_get hy1
      cases hx1
      have en := Ex.new (o := .tup [V.int (m : Int), nV k]) hT
      exact ⟨T, _, rfl, st_of upd_same, rfl, _, _, rfl, _, _, rfl, rfl, hs m k σ' _ hk (hx m σ' _ _ en P)⟩
    · rw [hn] at P
      exact hd σ' H' P⟩
end
/-! ### in_row_order, with_numbers, form -/
def spWP (K : PySem.W.Frag) (g : Nat → List (List Nat) → PyData) : Sp := fun vs H Q _ => ∃ v l inner, vs = [v] ∧ Dp K H v (webD l inner) ∧ WebP l inner ∧ ∀ r H', Ex H H' → Dp K H' r (g l inner) → Q r H'
theorem ed_callWP {K : PySem.W.Frag} {σ : L2.St} {H : Hp} {te : TE} {l : Nat} {inner : List (List Nat)} {g : Nat → List (List Nat) → PyData} {E : XK} (h : EvD K te σ H (webD l inner)) (W : WebP l inner) : EvD K (tCall (spWP K g) [] E (tCons te tNil)) σ H (g l inner) := fun H1 e Q q =>
  h H1 e _ fun v H2 e2 hv => ⟨v, l, inner, rfl, hv, W, fun r H3 e3 hr => q r H3 (e2.trans e3) hr⟩
def spWN (K : PySem.W.Frag) (ds : Nat → List (List Nat) → List PyData) : Sp := fun vs H Q _ => ∃ v l inner, vs = [v] ∧ Dp K H v (webD l inner) ∧ Raw l inner ∧ ∀ p xs H', H p = none → Ex H H' → H' p = some (.lst xs) → DpAll K H' xs (ds l inner) → Q (.ref p) H'
theorem en_callWN {K : PySem.W.Frag} {σ : L2.St} {H : Hp} {te : TE} {l : Nat} {inner : List (List Nat)} {ds : Nat → List (List Nat) → List PyData} {E : XK} (h : EvD K te σ H (webD l inner)) (W : Raw l inner) : EvN K (tCall (spWN K ds) [] E (tCons te tNil)) σ H (ds l inner) := fun H1 e Q q =>
  h H1 e _ fun v H2 e2 hv => ⟨v, l, inner, rfl, hv, W, fun p xs H3 hp e3 hx hd => q p xs H3 (fresh_back e2 hp) (e2.trans e3) hx hd⟩
theorem s_retN {K : PySem.W.Frag} {σ : L2.St} {H : Hp} {te : TE} {D : Ends} {ds : List PyData} (h : EvN K te σ H ds) (k : ∀ p xs H1, H p = none → Ex H H1 → H1 p = some (.lst xs) → DpAll K H1 xs ds → D.rt (.ref p) H1) : tRet te D σ H := h H (Ex.refl H) _ k
abbrev nIro : List Str := ["web", "told", "pairs", "kind", "_"]
section
variable {P : Program} {w : World} {K : PySem.W.Frag} {mg : Str → Option Value} {base : Heap}
end
end WR
-- auto
set_option Elab.async false
set_option linter.all false
set_option maxRecDepth 100000
set_option maxHeartbeats 1000000
namespace WR
open PySem PySem.Spec PyProof.Rows L2 Evl

/-! ### webs with equal rows have a match -/
section
variable {l : Nat} {A : List (List Nat)} (W : WebP l A)
include W
theorem cod1_rch {k t : Nat} (h : Rch (kkOf l A) k t) : t = k ∨ HT.lexLt (cod1 l A t) (cod1 l A k) = true :=
  h (fun y => y = k ∨ HT.lexLt (cod1 l A y) (cod1 l A k) = true) (.inl rfl) fun u c hu hc => by
    rw [rowAt_kk] at hc
    have h1 := cod1_kid W hc
    rcases hu with rfl | hu
    · exact .inr h1
    · exact .inr (lex_trans h1 hu)
/-- the ways to k's leaf go by k -/
theorem way_leafof {k : Nat} (hk : k < l + A.length) : ∀ {u : Nat}, u < l + A.length → u ∉ roadN l A k → way (avoid (kidsAt l A) k) ((roadN l A k).getLastD 0) u = 0 := fun {u} => by
  induction u using Nat.strongRecOn with
  | _ u ih =>
    intro hu hn
    have hx := (leafof W hk).2.1
    rw [way_rec (fun c hc => avoid_lt (hdN W) k u c hc), if_neg fun z => hn (by rw [z]; exact hx), Int.add_zero]
    refine Int.le_antisymm ?_ (sum_nn fun n hn' => ?_)
    · have hz : ∀ n ∈ (avoid (kidsAt l A) k u).map (way (avoid (kidsAt l A) k) ((roadN l A k).getLastD 0)), n ≤ 0 := fun n hn' => by
        obtain ⟨c, hc, rfl⟩ := List.mem_map.mp hn'
        have hc' := List.mem_filter.mp hc
        have hck := of_decide_eq_true hc'.2
        have hcu := (kidsAt_lt W.raw hc'.1).2
        refine Int.le_of_eq (ih c hcu (by omega) fun hcr => ?_)
        obtain ⟨p, hp, hpc, hp1⟩ := roadL_par (b := k) (q := fun p x => x ∈ kidsAt l A p ∧ (parsAt l A x).length ≤ 1) (fun u a b => nxt_lt W a (by omega)) (fun u a b => nxt_ok W a (by omega)) (Nat.le_refl k) c hcr hck
        have hpl := roadN_le W hk p hp
        have e1 : u ∈ parsAt l A c := mem_pars.mpr ⟨hu, hc'.1⟩
        have e2 : p ∈ parsAt l A c := mem_pars.mpr ⟨by omega, hpc⟩
        have : u = p := by
          cases e : parsAt l A c with
          | nil =>
            rw [e] at e1
            cases e1
          | cons a r =>
            rw [e] at hp1 e1 e2
            have hr : r = [] := List.length_eq_zero_iff.mp (by rw [List.length_cons] at hp1; omega)
            subst hr
            rw [List.mem_singleton.mp e1, List.mem_singleton.mp e2]
        exact hn (this ▸ hp)
      have := sum_le_mul (B := 0) hz
      omega
    · obtain ⟨c, _, rfl⟩ := List.mem_map.mp hn'
      exact way_nn (avoid_lt (hdN W) k) _
end
/-- kinds put upon kinds: rows and their order stay -/
structure Mt (l : Nat) (A B : List (List Nat)) (m m' : Nat → Nat) : Prop where
  to : ∀ k, k < l + A.length → m k < l + B.length ∧ m' (m k) = k
  back : ∀ k, k < l + B.length → m' k < l + A.length ∧ m (m' k) = k
  row : ∀ k, k < l + A.length → rowI l B (m k) = rowI l A k
  ord : ∀ a b, a < l + A.length → b < l + A.length → HT.lexLt (cod1 l A a) (cod1 l A b) = HT.lexLt (cod1 l B (m a)) (cod1 l B (m b))
theorem Mt.flip {l : Nat} {A B : List (List Nat)} {m m' : Nat → Nat} (h : Mt l A B m m') : Mt l B A m' m :=
  ⟨h.back, h.to, fun k hk => by
    obtain ⟨a, b⟩ := h.back k hk
    rw [← h.row _ a, b], fun a b ha hb => by
    obtain ⟨a1, a2⟩ := h.back a ha
    obtain ⟨b1, b2⟩ := h.back b hb
    rw [h.ord _ _ a1 b1, a2, b2]⟩
theorem row_way {l k x : Nat} {A : List (List Nat)} (h : x < l) : (rowI l A k)[x]? = some (way (kidsAt l A) x k) := by
  unfold rowI
  rw [List.getElem?_map, List.getElem?_range h]
  rfl
theorem row_ways {l a b x : Nat} {A B : List (List Nat)} (e : rowI l B b = rowI l A a) (h : x < l) : way (kidsAt l B) x b = way (kidsAt l A) x a := by
  have h1 := row_way (A := B) (k := b) h
  rw [e, row_way h] at h1
  exact (Option.some.inj h1).symm
section
variable {l : Nat} {A B : List (List Nat)} {m m' : Nat → Nat} (W : WebP l A) (V' : WebP l B) (M : Mt l A B m m')
include W V' M
theorem way_mt_le {u k : Nat} (hu : u < l + A.length) (hk : k < l + A.length) : way (kidsAt l B) (m k) (m u) ≤ way (kidsAt l A) k u := by
  by_cases e : u = k
  · subst e
    rw [way_one (hdN W), way_one (hdN V')]
    exact Int.le_refl _
  have hne : m u ≠ m k := fun z => e (by
    have := congrArg m' z
    rw [(M.to u hu).2, (M.to k hk).2] at this
    exact this)
  have hmu := (M.to u hu).1
  have hmk := (M.to k hk).1
  by_cases hr : u ∈ roadN l A k
  · have h1 := road_rch W hk hr
    have h2 := cod1_rch W h1
    rcases h2 with h2 | h2
    · exact absurd h2 e
    · rw [M.ord u k hu hk] at h2
      by_cases z : 0 < way (kidsAt l B) (m k) (m u)
      · have h3 := cod1_rch V' ((way_pos V').mp z)
        rcases h3 with h3 | h3
        · exact absurd h3.symm hne
        · rw [lex_asymm h2] at h3
          cases h3
      · have := way_nn (kf := kidsAt l A) (to := k) (hdN W) u
        omega
  · obtain ⟨hx, hxr, hx1⟩ := leafof W hk
    generalize hxe : (roadN l A k).getLastD 0 = x at hx hxr hx1
    have s1 := way_split (hdN W) (g := k) (to := x) e
    rw [← hxe, way_leafof W hk hu hr, Int.add_zero, hxe] at s1
    have s2 := way_split (hdN V') (g := m k) (to := x) hne
    rw [row_ways (M.row u hu) hx, row_ways (M.row k hk) hx] at s2
    have hnn := way_nn (kf := avoid (kidsAt l B) (m k)) (to := x) (avoid_lt (hdN V') (m k)) (m u)
    have hle : way (kidsAt l B) (m k) (m u) * way (kidsAt l A) x k ≤ way (kidsAt l A) k u * way (kidsAt l A) x k := by omega
    exact Int.le_of_mul_le_mul_right hle (by omega)
end
section
variable {l : Nat} {A B : List (List Nat)} {m m' : Nat → Nat} (W : WebP l A) (V' : WebP l B) (M : Mt l A B m m')
include W V' M
theorem way_mt {u k : Nat} (hu : u < l + A.length) (hk : k < l + A.length) : way (kidsAt l B) (m k) (m u) = way (kidsAt l A) k u := by
  refine Int.le_antisymm (way_mt_le W V' M hu hk) ?_
  have h := way_mt_le V' W M.flip (M.to u hu).1 (M.to k hk).1
  rw [(M.to u hu).2, (M.to k hk).2] at h
  exact h
end
/-! sums over kinds -/
def ind (ks : List Nat) (d : Nat) : Int := if d ∈ ks then 1 else 0
theorem sum_map_add {α : Type} {f g : α → Int} : ∀ {xs : List α}, (xs.map fun x => f x + g x).sum = (xs.map f).sum + (xs.map g).sum
  | [] => rfl
  | x :: r => by
    simp only [List.map_cons, List.sum_cons, sum_map_add (xs := r)]
    omega
theorem sum_zero {α : Type} {f : α → Int} : ∀ {xs : List α}, (∀ x ∈ xs, f x = 0) → (xs.map f).sum = 0
  | [], _ => rfl
  | x :: r, h => by
    rw [List.map_cons, List.sum_cons, h x (List.mem_cons_self ..), sum_zero fun y hy => h y (List.mem_cons_of_mem _ hy)]
    rfl
theorem sum_single {f : Nat → Int} {c : Nat} : ∀ {xs : List Nat}, xs.Nodup → c ∈ xs → (∀ x ∈ xs, x ≠ c → f x = 0) → (xs.map f).sum = f c
  | x :: r, hn, hc, h => by
    rw [List.nodup_cons] at hn
    rw [List.map_cons, List.sum_cons]
    by_cases z : x = c
    · subst z
      rw [sum_zero fun y hy => h y (List.mem_cons_of_mem _ hy) fun w => hn.1 (w ▸ hy), Int.add_zero]
    · rw [h x (List.mem_cons_self ..) z, Int.zero_add]
      exact sum_single hn.2 (by
        rcases List.mem_cons.mp hc with y | y
        · exact absurd y.symm z
        · exact y) fun y hy => h y (List.mem_cons_of_mem _ hy)
theorem sum_ind {f : Nat → Int} {xs : List Nat} (hx : xs.Nodup) : ∀ {ks : List Nat}, ks.Nodup → (∀ c ∈ ks, c ∈ xs) → (ks.map f).sum = (xs.map fun d => ind ks d * f d).sum
  | [], _, _ => by
    rw [sum_zero (xs := xs) fun d _ => ?_]
    · rfl
    · unfold ind
      rw [if_neg (by simp), Int.zero_mul]
  | c :: r, hn, hc => by
    rw [List.nodup_cons] at hn
    rw [List.map_cons, List.sum_cons, sum_ind hx hn.2 fun d hd => hc d (List.mem_cons_of_mem _ hd)]
    have h1 : (xs.map fun d => (if d = c then 1 else 0) * f d).sum = f c := by
      rw [sum_single hx (hc c (List.mem_cons_self ..)) fun d _ hd => by rw [if_neg hd, Int.zero_mul], if_pos rfl, Int.one_mul]
    rw [← h1, ← sum_map_add]
    congr 1
    refine List.map_congr_left fun d _ => ?_
    unfold ind
    by_cases z : d = c
    · rw [if_pos z, if_neg (fun y => hn.1 (z ▸ y)), if_pos (List.mem_cons.mpr (.inl z)), Int.zero_mul, Int.add_zero]
    · rw [if_neg z, Int.zero_mul, Int.zero_add]
      by_cases y : d ∈ r
      · rw [if_pos y, if_pos (List.mem_cons_of_mem _ y)]
      · rw [if_neg y, if_neg (fun w => by
          rcases List.mem_cons.mp w with w | w
          · exact z w
          · exact y w)]
theorem sum_permI {xs ys : List Int} (h : xs.Perm ys) : xs.sum = ys.sum := by
  induction h with
  | nil => rfl
  | cons x _ ih => rw [List.sum_cons, List.sum_cons, ih]
  | swap x y l => simp only [List.sum_cons]; omega
  | trans _ _ ih1 ih2 => exact ih1.trans ih2
theorem kids_nodup {l u : Nat} {A : List (List Nat)} (W : WebP l A) : (kidsAt l A u).Nodup := by
  have := W.gen.nd u
  rw [rowAt_kk] at this
  exact this
section
variable {l : Nat} {A B : List (List Nat)} {m m' : Nat → Nat} (W : WebP l A) (V' : WebP l B) (M : Mt l A B m m')
include W V' M
theorem Mt.same : A.length = B.length := by
  have h1 : ((List.range (l + A.length)).map m).length ≤ l + B.length := nodup_len _ _ (by
    refine List.pairwise_map.mpr ((List.nodup_range (n := l + A.length)).imp_of_mem fun {a b} ha hb hab z => hab ?_)
    have := congrArg m' z
    rw [(M.to a (List.mem_range.mp ha)).2, (M.to b (List.mem_range.mp hb)).2] at this
    exact this) (fun c hc => by
    obtain ⟨k, hk, rfl⟩ := List.mem_map.mp hc
    exact (M.to k (List.mem_range.mp hk)).1)
  have h2 : ((List.range (l + B.length)).map m').length ≤ l + A.length := nodup_len _ _ (by
    refine List.pairwise_map.mpr ((List.nodup_range (n := l + B.length)).imp_of_mem fun {a b} ha hb hab z => hab ?_)
    have := congrArg m z
    rw [(M.back a (List.mem_range.mp ha)).2, (M.back b (List.mem_range.mp hb)).2] at this
    exact this) (fun c hc => by
    obtain ⟨k, hk, rfl⟩ := List.mem_map.mp hc
    exact (M.back k (List.mem_range.mp hk)).1)
  rw [List.length_map, List.length_range] at h1 h2
  omega
theorem Mt.perm : ((List.range (l + A.length)).map m).Perm (List.range (l + B.length)) := by
  refine (List.perm_ext_iff_of_nodup ?_ List.nodup_range).mpr fun c => ?_
  · refine List.pairwise_map.mpr ((List.nodup_range (n := l + A.length)).imp_of_mem fun {a b} ha hb hab z => hab ?_)
    have := congrArg m' z
    rw [(M.to a (List.mem_range.mp ha)).2, (M.to b (List.mem_range.mp hb)).2] at this
    exact this
  · rw [List.mem_range]
    constructor
    · intro h
      obtain ⟨k, hk, rfl⟩ := List.mem_map.mp h
      exact (M.to k (List.mem_range.mp hk)).1
    · intro h
      obtain ⟨a, b⟩ := M.back c h
      exact List.mem_map.mpr ⟨_, List.mem_range.mpr a, b⟩
/-- children go to children -/
theorem kid_mt {u : Nat} (hu : u < l + A.length) : ∀ {c : Nat}, c < l + A.length → ind (kidsAt l A u) c = ind (kidsAt l B (m u)) (m c) := fun {c} => by
  have key : ∀ j c, c < l + A.length → l + A.length - c = j → ind (kidsAt l A u) c = ind (kidsAt l B (m u)) (m c) := fun j => by
    induction j using Nat.strongRecOn with
    | _ j ih =>
      intro c hc hj
      have hmu := (M.to u hu).1
      have hmc := (M.to c hc).1
      by_cases e : u = c
      · subst e
        have h1 : u ∉ kidsAt l A u := fun z => by have := (kidsAt_lt W.raw z).2; omega
        have h2 : m u ∉ kidsAt l B (m u) := fun z => by have := (kidsAt_lt V'.raw z).2; omega
        unfold ind
        rw [if_neg h1, if_neg h2]
      have hne : m u ≠ m c := fun z => e (by
        have := congrArg m' z
        rw [(M.to u hu).2, (M.to c hc).2] at this
        exact this)
      have a1 := way_rec (to := c) (hdN W u)
      rw [if_neg e, Int.add_zero, sum_ind (f := way (kidsAt l A) c) (xs := List.range (l + A.length)) List.nodup_range (kids_nodup W) fun d hd => List.mem_range.mpr (by have := (kidsAt_lt W.raw hd).2; omega)] at a1
      have b1 := way_rec (to := m c) (hdN V' (m u))
      rw [if_neg hne, Int.add_zero, sum_ind (f := way (kidsAt l B) (m c)) (xs := List.range (l + B.length)) List.nodup_range (kids_nodup V') fun d hd => List.mem_range.mpr (by have := (kidsAt_lt V'.raw hd).2; omega)] at b1
      rw [← sum_permI ((Mt.perm W V' M).map _), List.map_map, way_mt W V' M hu hc, a1] at b1
      have b2 : ((List.range (l + A.length)).map fun d => ind (kidsAt l A u) d * way (kidsAt l A) c d + -(ind (kidsAt l B (m u)) (m d) * way (kidsAt l B) (m c) (m d))).sum = 0 := by
        rw [sum_map_add]
        have hneg : ∀ xs : List Nat, (xs.map fun d => -(ind (kidsAt l B (m u)) (m d) * way (kidsAt l B) (m c) (m d))).sum = -(xs.map ((fun d => ind (kidsAt l B (m u)) d * way (kidsAt l B) (m c) d) ∘ m)).sum := fun xs => by
          induction xs with
          | nil => rfl
          | cons x r ih =>
            rw [List.map_cons, List.map_cons, List.sum_cons, List.sum_cons, ih]
            show -(ind (kidsAt l B (m u)) (m x) * way (kidsAt l B) (m c) (m x)) + _ = -(ind (kidsAt l B (m u)) (m x) * way (kidsAt l B) (m c) (m x) + _)
            omega
        rw [hneg, ← b1]
        omega
      rw [sum_single (c := c) List.nodup_range (List.mem_range.mpr hc) fun d hd hdc => ?_] at b2
      · rw [way_one (hdN W), way_one (hdN V')] at b2
        omega
      · have hd := List.mem_range.mp hd
        rw [way_mt W V' M hd hc]
        by_cases z : d < c
        · rw [way_up (hdN W) z, Int.mul_zero, Int.mul_zero]
          rfl
        · rw [ih (l + A.length - d) (by omega) d hd rfl]
          omega
  exact fun h => key _ c h rfl
end
end WR
set_option Elab.async false
set_option linter.all false
set_option maxRecDepth 100000
set_option maxHeartbeats 1000000
namespace WR
open PySem PySem.Spec PyProof.Rows L2 Evl

/-! ### the match by the order of rows -/
noncomputable def mtN (l : Nat) (A B : List (List Nat)) (k : Nat) : Nat := (orderL l B).getD (plc k (orderL l A)) 0
def SameL (l : Nat) (A B : List (List Nat)) : Prop := (rowsI l A).Perm (rowsI l B)
theorem order_rows {l : Nat} {A : List (List Nat)} : ((orderL l A).map (rowI l A)).Perm (rowsI l A) := orderL_perm.map _
theorem order_sorted {l : Nat} {A : List (List Nat)} : ((orderL l A).map (rowI l A)).Pairwise fun a b => HT.lexLt b a = false := by
  refine List.pairwise_map.mpr (orderL_lt.imp fun {a b} h => ?_)
  unfold cod1 at h
  rw [lex_snoc (by rw [rowI_len, rowI_len])] at h
  by_cases z : rowI l A a = rowI l A b
  · rw [z]
    exact lex_self _
  · rw [if_neg z] at h
    exact lex_asymm h
theorem order_same {l : Nat} {A B : List (List Nat)} (h : SameL l A B) : (orderL l A).map (rowI l A) = (orderL l B).map (rowI l B) :=
  List.Perm.eq_of_pairwise (fun a b _ _ h1 h2 => lex_total h2 h1) order_sorted order_sorted ((order_rows.trans h).trans order_rows.symm)
theorem order_len {l : Nat} {A : List (List Nat)} : (orderL l A).length = l + A.length := by rw [orderL_perm.length_eq, List.length_range]
theorem mem_order {l k : Nat} {A : List (List Nat)} : k ∈ orderL l A ↔ k < l + A.length := by rw [orderL_perm.mem_iff, List.mem_range]
theorem same_len {l : Nat} {A B : List (List Nat)} (h : SameL l A B) : A.length = B.length := by
  have := h.length_eq
  unfold rowsI at this
  rw [List.length_map, List.length_map, List.length_range, List.length_range] at this
  omega
theorem mtN_at {l k : Nat} {A B : List (List Nat)} (hl : A.length = B.length) (hk : k < l + A.length) : (orderL l B)[plc k (orderL l A)]? = some (mtN l A B k) := by
  have h1 := plc_lt (mem_order.mpr hk)
  rw [order_len] at h1
  unfold mtN
  rw [List.getD_eq_getElem?_getD, List.getElem?_eq_getElem (by rw [order_len]; omega)]
  rfl
theorem mtN_plc {l k : Nat} {A B : List (List Nat)} (hl : A.length = B.length) (hk : k < l + A.length) : plc (mtN l A B k) (orderL l B) = plc k (orderL l A) := plc_at orderL_nd (mtN_at hl hk)
theorem mtN_lt {l k : Nat} {A B : List (List Nat)} (hl : A.length = B.length) (hk : k < l + A.length) : mtN l A B k < l + B.length := mem_order.mp (List.mem_of_getElem? (mtN_at hl hk))
theorem mtN_inv {l k : Nat} {A B : List (List Nat)} (hl : A.length = B.length) (hk : k < l + A.length) : mtN l B A (mtN l A B k) = k := by
  have h1 := mtN_at (A := B) (B := A) hl.symm (mtN_lt hl hk)
  rw [mtN_plc hl hk, plc_get (mem_order.mpr hk)] at h1
  exact (Option.some.inj h1).symm
theorem mtN_row {l k : Nat} {A B : List (List Nat)} (h : SameL l A B) (hk : k < l + A.length) : rowI l B (mtN l A B k) = rowI l A k := by
  have h1 := congrArg (fun x => x[plc k (orderL l A)]?) (order_same h)
  simp only [List.getElem?_map] at h1
  rw [mtN_at (same_len h) hk, plc_get (mem_order.mpr hk)] at h1
  exact (Option.some.inj h1).symm
theorem code_before {l a b : Nat} {A : List (List Nat)} (ha : a < l + A.length) (hb : b < l + A.length) : HT.lexLt (cod1 l A a) (cod1 l A b) = decide (plc a (orderL l A) < plc b (orderL l A)) := by
  by_cases e : a = b
  · subst e
    rw [lex_self, decide_eq_false (Nat.lt_irrefl _)]
  · cases h : HT.lexLt (cod1 l A a) (cod1 l A b) with
    | true =>
      have := plc_before (R := fun a b => HT.lexLt (cod1 l A a) (cod1 l A b) = true) (fun a b h h2 => by rw [lex_asymm h] at h2; cases h2) orderL_lt (mem_order.mpr ha) (mem_order.mpr hb) h
      rw [decide_eq_true this]
    | false =>
      cases h2 : HT.lexLt (cod1 l A b) (cod1 l A a) with
      | true =>
        have := plc_before (R := fun a b => HT.lexLt (cod1 l A a) (cod1 l A b) = true) (fun a b h h2 => by rw [lex_asymm h] at h2; cases h2) orderL_lt (mem_order.mpr hb) (mem_order.mpr ha) h2
        rw [decide_eq_false (by omega)]
      | false => exact absurd (cod1_inj (lex_total h h2)) e
theorem mt_of {l : Nat} {A B : List (List Nat)} (h : SameL l A B) : Mt l A B (mtN l A B) (mtN l B A) := by
  have hl := same_len h
  exact ⟨fun k hk => ⟨mtN_lt hl hk, mtN_inv hl hk⟩, fun k hk => ⟨mtN_lt hl.symm hk, mtN_inv hl.symm hk⟩, fun k hk => mtN_row h hk, fun a b ha hb => by
    rw [code_before ha hb, code_before (mtN_lt hl ha) (mtN_lt hl hb), mtN_plc hl ha, mtN_plc hl hb]⟩
/-! ### the image, kind by kind -/
/-- what is found so far: kinds for the first j kinds -/
structure Img (l : Nat) (A B : List (List Nat)) (j : Nat) (F : List Nat) : Prop where
  len : F.length = l + j
  leaf : ∀ k, k < l → F[k]? = some k
  lt : ∀ c ∈ F, c < l + B.length
  nd : F.Nodup
  inn : ∀ k g, l ≤ k → F[k]? = some g → l ≤ g
  hom : ∀ k g, F[k]? = some g → (kidsAt l B g).Perm ((kidsAt l A k).map fun c => F.getD c 0)
theorem img_row {l j : Nat} {A B : List (List Nat)} {F : List Nat} (W : WebP l A) (V' : WebP l B) (I : Img l A B j F) : ∀ {k g : Nat}, F[k]? = some g → rowI l B g = rowI l A k := fun {k} => by
  induction k using Nat.strongRecOn with
  | _ k ih =>
    intro g hg
    unfold rowI
    refine List.map_congr_left fun x hx => ?_
    have hx := List.mem_range.mp hx
    rw [way_rec (hdN V' g), way_rec (hdN W k), sum_permI ((I.hom k g hg).map _), List.map_map]
    congr 1
    · congr 1
      refine List.map_congr_left fun c hc => ?_
      have hck := hdN W k c hc
      have hkl := (List.getElem?_eq_some_iff.mp hg).1
      have hcg : F[c]? = some (F.getD c 0) := by
        rw [List.getD_eq_getElem?_getD, List.getElem?_eq_getElem (by omega)]
        rfl
      have := ih c hck hcg
      exact row_ways this hx
    · by_cases z : k < l
      · have := I.leaf k z
        rw [hg] at this
        rw [Option.some.inj this]
      · have hgl := I.inn k g (by omega) hg
        rw [if_neg (by omega), if_neg (by omega)]
theorem img_same {l : Nat} {A B : List (List Nat)} {F : List Nat} (W : WebP l A) (V' : WebP l B) (hl : A.length = B.length) (I : Img l A B A.length F) : SameL l A B := by
  have hp : F.Perm (List.range (l + B.length)) := by
    refine (List.perm_ext_iff_of_nodup I.nd List.nodup_range).mpr fun c => ⟨fun hc => List.mem_range.mpr (I.lt c hc), fun hc => ?_⟩
    refine Classical.byContradiction fun z => ?_
    have h1 := nodup_len (l + B.length) (c :: F) (List.nodup_cons.mpr ⟨z, I.nd⟩) (fun d hd => by
      rcases List.mem_cons.mp hd with rfl | hd
      · exact List.mem_range.mp hc
      · exact I.lt d hd)
    rw [List.length_cons, I.len] at h1
    omega
  have e : rowsI l A = F.map (rowI l B) := by
    unfold rowsI
    refine List.ext_getElem? fun k => ?_
    rw [List.getElem?_map, List.getElem?_map]
    by_cases z : k < l + A.length
    · rw [List.getElem?_range z]
      obtain ⟨g, hg⟩ : ∃ g, F[k]? = some g := ⟨_, List.getElem?_eq_getElem (by rw [I.len]; exact z)⟩
      rw [hg, Option.map_some, Option.map_some, img_row W V' I hg]
    · rw [List.getElem?_eq_none (by rw [List.length_range]; omega), List.getElem?_eq_none (by rw [I.len]; omega)]
      rfl
  unfold SameL
  rw [e]
  exact hp.map _
end WR
set_option Elab.async false
set_option linter.all false
set_option maxRecDepth 100000
set_option maxHeartbeats 1000000
namespace WR
open PySem PySem.Spec PyProof.Rows L2 Evl

/-! ### the image's step -/
def srtN (ks : List Nat) : List Nat := (sortI (ks.map fun (c : Nat) => (c : Int))).map Int.toNat
theorem srtN_ints (ks : List Nat) : (srtN ks).map (fun (c : Nat) => (c : Int)) = sortI (ks.map fun (c : Nat) => (c : Int)) := by
  unfold srtN
  rw [List.map_map]
  refine (List.map_congr_left fun i hi => ?_).trans (List.map_id _)
  obtain ⟨c, _, rfl⟩ := List.mem_map.mp ((sortI_perm _).mem_iff.mp hi)
  show ((Int.toNat (c : Int) : Nat) : Int) = (c : Int)
  rw [Int.toNat_natCast]
theorem toNat_map (ks : List Nat) : (ks.map fun (c : Nat) => (c : Int)).map Int.toNat = ks := by
  rw [List.map_map]
  refine (List.map_congr_left fun i hi => ?_).trans (List.map_id _)
  exact Int.toNat_natCast i
theorem srtN_perm (ks : List Nat) : (srtN ks).Perm ks := by
  have h := (sortI_perm (ks.map fun (c : Nat) => (c : Int))).map Int.toNat
  rw [toNat_map] at h
  exact h
theorem srtN_eq {ks xs : List Nat} (h : ks.Pairwise (· ≤ ·)) : ks = srtN xs ↔ ks.Perm xs := by
  constructor
  · intro e
    rw [e]
    exact srtN_perm xs
  · intro hp
    have h1 : (ks.map fun (c : Nat) => (c : Int)).Perm (sortI (xs.map fun (c : Nat) => (c : Int))) := (hp.map _).trans (sortI_perm _).symm
    have h2 : (ks.map fun (c : Nat) => (c : Int)).Pairwise (· ≤ ·) := List.pairwise_map.mpr (h.imp fun {a b} h => by omega)
    have h3 := List.Perm.eq_of_pairwise (fun a b _ _ (x : a ≤ b) (y : b ≤ a) => Int.le_antisymm x y) h2 (sortI_sorted _) h1
    unfold srtN
    rw [← h3, toNat_map]
theorem kids_asc {l u : Nat} {A : List (List Nat)} (W : WebP l A) : (kidsAt l A u).Pairwise (· ≤ ·) := by
  by_cases z : u < l
  · rw [kidsAt_leaf z]
    exact List.Pairwise.nil
  · by_cases y : u < l + A.length
    · exact W.asc _ (kidsAt_inner (by omega) y)
    · have := W.gen.out u (by rw [kkOf_len]; omega)
      rw [rowAt_kk] at this
      rw [this]
      exact List.Pairwise.nil
theorem kids_ne {l u : Nat} {A : List (List Nat)} (W : WebP l A) (h1 : l ≤ u) (h2 : u < l + A.length) : kidsAt l A u ≠ [] := fun z => by
  obtain ⟨c, hc, _⟩ := W.bare u h1 h2
  rw [z] at hc
  cases hc
theorem kids_inj {l g h : Nat} {B : List (List Nat)} (V' : WebP l B) (g1 : l ≤ g) (g2 : g < l + B.length) (h1 : l ≤ h) (h2 : h < l + B.length) (hp : (kidsAt l B g).Perm (kidsAt l B h)) : g = h := by
  refine Classical.byContradiction fun hne => ?_
  have er : rowI l B h = rowI l B g := by
    unfold rowI
    refine List.map_congr_left fun x hx => ?_
    have hx := List.mem_range.mp hx
    rw [way_rec (hdN V' h), way_rec (hdN V' g), sum_permI (hp.map _), if_neg (by omega), if_neg (by omega)]
  have heq := equal_rows V' (k := g) (t := h) g2 h2 (Ne.symm hne)
  rw [decide_eq_true er] at heq
  have key : ∀ {a b : Nat}, mixB l B a b = true → (kidsAt l B a).Perm (kidsAt l B b) → False := fun {a b} hm hp => by
    obtain ⟨_, m2⟩ := mixB_iff.mp hm
    have hb : b ∈ kidsAt l B a := by rw [m2]; exact List.mem_singleton.mpr rfl
    have := (kidsAt_lt V'.raw (hp.mem_iff.mp hb)).2
    omega
  cases e : mixB l B g h with
  | true => exact key e hp
  | false =>
    rw [e, Bool.false_or] at heq
    exact key heq.symm hp.symm
section
variable {l : Nat} {A B : List (List Nat)} (W : WebP l A) (V' : WebP l B)
include W V'
theorem mt_kids (h : SameL l A B) {u : Nat} (hu : u < l + A.length) : (kidsAt l B (mtN l A B u)).Perm ((kidsAt l A u).map (mtN l A B)) := by
  have M := mt_of h
  have hmu := (M.to u hu).1
  refine (List.perm_ext_iff_of_nodup (kids_nodup V') ?_).mpr fun c => ?_
  · refine List.pairwise_map.mpr ((kids_nodup W).imp_of_mem fun {a b} ha hb hab z => hab ?_)
    have ha' := kidsAt_lt W.raw ha
    have hb' := kidsAt_lt W.raw hb
    have := congrArg (mtN l B A) z
    rw [(M.to a (by omega)).2, (M.to b (by omega)).2] at this
    exact this
  · have hk : ∀ {d : Nat}, d < l + A.length → (d ∈ kidsAt l A u ↔ mtN l A B d ∈ kidsAt l B (mtN l A B u)) := fun {d} hd => by
      have := kid_mt W V' M hu hd
      unfold ind at this
      by_cases z : d ∈ kidsAt l A u
      · rw [if_pos z] at this
        by_cases y : mtN l A B d ∈ kidsAt l B (mtN l A B u)
        · exact ⟨fun _ => y, fun _ => z⟩
        · rw [if_neg y] at this
          omega
      · rw [if_neg z] at this
        by_cases y : mtN l A B d ∈ kidsAt l B (mtN l A B u)
        · rw [if_pos y] at this
          omega
        · exact ⟨fun w => absurd w z, fun w => absurd w y⟩
    constructor
    · intro hc
      have hc' := kidsAt_lt V'.raw hc
      obtain ⟨b1, b2⟩ := M.back c (by omega)
      exact List.mem_map.mpr ⟨_, (hk b1).mpr (by rw [b2]; exact hc), b2⟩
    · intro hc
      obtain ⟨d, hd, rfl⟩ := List.mem_map.mp hc
      have hd' := kidsAt_lt W.raw hd
      exact (hk (by omega)).mp hd
theorem mt_inner (h : SameL l A B) {u : Nat} (h1 : l ≤ u) (hu : u < l + A.length) : l ≤ mtN l A B u := by
  refine Classical.byContradiction fun z => ?_
  have := mt_kids W V' h hu
  rw [kidsAt_leaf (show mtN l A B u < l by omega)] at this
  have h2 := this.symm.eq_nil
  rw [List.map_eq_nil_iff] at h2
  exact kids_ne W h1 hu h2
theorem img_mt (h : SameL l A B) {j : Nat} {F : List Nat} (I : Img l A B j F) (hj : j ≤ A.length) : ∀ {k g : Nat}, F[k]? = some g → g = mtN l A B k := fun {k} => by
  have M := mt_of h
  induction k using Nat.strongRecOn with
  | _ k ih =>
    intro g hg
    have hkl := (List.getElem?_eq_some_iff.mp hg).1
    rw [I.len] at hkl
    have hk : k < l + A.length := by omega
    by_cases z : k < l
    · have e := I.leaf k z
      rw [hg] at e
      have e := Option.some.inj e
      subst e
      -- a leaf's row is its own
      have hr := M.row g hk
      have hm := (M.to g hk).1
      refine Classical.byContradiction fun hne => ?_
      have heq := equal_rows V' (k := g) (t := mtN l A B g) (by omega) hm (Ne.symm hne)
      have e2 : rowI l B (mtN l A B g) = rowI l B g := by
        rw [hr]
        unfold rowI
        exact List.map_congr_left fun x hx => by rw [way_leaf z, way_leaf z]
      rw [decide_eq_true e2] at heq
      cases e : mixB l B g (mtN l A B g) with
      | true =>
        obtain ⟨_, m2⟩ := mixB_iff.mp e
        rw [kidsAt_leaf z] at m2
        cases m2
      | false =>
        rw [e, Bool.false_or] at heq
        obtain ⟨_, m2⟩ := mixB_iff.mp heq.symm
        have hp := mt_kids W V' h hk
        rw [m2, kidsAt_leaf z] at hp
        have := hp.length_eq
        rw [List.length_singleton] at this
        cases this
    · have hp := I.hom k g hg
      have hp2 := mt_kids W V' h hk
      have e : (kidsAt l A k).map (fun c => F.getD c 0) = (kidsAt l A k).map (mtN l A B) := List.map_congr_left fun c hc => by
        have hck := hdN W k c hc
        have hcg : F[c]? = some (F.getD c 0) := by
          rw [List.getD_eq_getElem?_getD, List.getElem?_eq_getElem (by rw [I.len]; omega)]
          rfl
        exact ih c hck hcg
      rw [e] at hp
      exact kids_inj V' (I.inn k g (by omega) hg) (I.lt g (List.mem_of_getElem? hg)) (mt_inner W V' h (by omega) hk) (M.to k hk).1 (hp.trans hp2.symm)
/-- the kinds that may be the next one's image -/
def spotsN (l : Nat) (A B : List (List Nat)) (F : List Nat) (u : Nat) : List Nat :=
  ((List.range B.length).map (l + ·)).filter fun k => decide (kidsAt l B k = srtN ((kidsAt l A u).map fun c => F.getD c 0))
omit W V' in
theorem mem_spots {F : List Nat} {u g : Nat} (V' : WebP l B) : g ∈ spotsN l A B F u ↔ (l ≤ g ∧ g < l + B.length) ∧ (kidsAt l B g).Perm ((kidsAt l A u).map fun c => F.getD c 0) := by
  unfold spotsN
  rw [List.mem_filter, decide_eq_true_eq, srtN_eq (kids_asc V')]
  refine and_congr_left fun _ => ?_
  constructor
  · intro h
    obtain ⟨i, hi, rfl⟩ := List.mem_map.mp h
    have := List.mem_range.mp hi
    omega
  · intro h
    exact List.mem_map.mpr ⟨g - l, List.mem_range.mpr (by omega), by omega⟩
theorem img_none (hl : A.length = B.length) {j : Nat} {F : List Nat} (I : Img l A B j F) (hj : j < A.length) (hs : spotsN l A B F (l + j) = [] ∨ ∃ g, (spotsN l A B F (l + j))[0]? = some g ∧ g ∈ F) : ¬ SameL l A B := fun h => by
  have M := mt_of h
  have hu : l + j < l + A.length := by omega
  have hF : ∀ {k : Nat}, k < l + j → F[k]? = some (mtN l A B k) := fun {k} hk => by
    obtain ⟨g, hg⟩ : ∃ g, F[k]? = some g := ⟨_, List.getElem?_eq_getElem (show k < F.length by rw [I.len]; exact hk)⟩
    rw [hg, img_mt W V' h I (by omega) hg]
  have hin : mtN l A B (l + j) ∈ spotsN l A B F (l + j) := by
    refine (mem_spots V').mpr ⟨⟨mt_inner W V' h (by omega) hu, (M.to _ hu).1⟩, ?_⟩
    have e : (kidsAt l A (l + j)).map (fun c => F.getD c 0) = (kidsAt l A (l + j)).map (mtN l A B) := List.map_congr_left fun c hc => by
      rw [List.getD_eq_getElem?_getD, hF (hdN W _ c hc)]
      rfl
    rw [e]
    exact mt_kids W V' h hu
  rcases hs with hs | ⟨g, hg, hgF⟩
  · rw [hs] at hin
    cases hin
  · have h1 := (mem_spots V').mp (List.mem_of_getElem? hg)
    have h2 := (mem_spots V').mp hin
    have e := kids_inj V' h1.1.1 h1.1.2 h2.1.1 h2.1.2 (h1.2.trans h2.2.symm)
    subst e
    obtain ⟨k, hk⟩ := List.mem_iff_getElem?.mp hgF
    have hkl := (List.getElem?_eq_some_iff.mp hk).1
    rw [I.len] at hkl
    rw [hF hkl] at hk
    have := congrArg (mtN l B A) (Option.some.inj hk)
    rw [(M.to k (by omega)).2, (M.to _ hu).2] at this
    omega
omit W in
theorem img_more {j : Nat} {F : List Nat} {g : Nat} (I : Img l A B j F) (hdA : ∀ u c, c ∈ kidsAt l A u → c < u) (hg : (spotsN l A B F (l + j))[0]? = some g) (hn : g ∉ F) : Img l A B (j + 1) (F ++ [g]) := by
  have hs := (mem_spots V').mp (List.mem_of_getElem? hg)
  have hold : ∀ {k : Nat}, k < l + j → (F ++ [g])[k]? = F[k]? := fun {k} hk => List.getElem?_append_left (by rw [I.len]; exact hk)
  have hnew : (F ++ [g])[l + j]? = some g := by
    rw [List.getElem?_append_right (by rw [I.len]; omega), I.len, Nat.sub_self]
    rfl
  have hcase : ∀ {k x : Nat}, (F ++ [g])[k]? = some x → (k < l + j ∧ F[k]? = some x) ∨ (k = l + j ∧ x = g) := fun {k x} h => by
    have hk := (List.getElem?_eq_some_iff.mp h).1
    rw [List.length_append, I.len, List.length_singleton] at hk
    by_cases z : k < l + j
    · rw [hold z] at h
      exact .inl ⟨z, h⟩
    · have : k = l + j := by omega
      subst this
      rw [hnew] at h
      exact .inr ⟨rfl, (Option.some.inj h).symm⟩
  have hgd : ∀ {u : Nat}, u ≤ l + j → (kidsAt l A u).map (fun c => (F ++ [g]).getD c 0) = (kidsAt l A u).map fun c => F.getD c 0 := fun {u} hu => List.map_congr_left fun c hc => by
    rw [List.getD_eq_getElem?_getD, List.getD_eq_getElem?_getD, hold (by have := hdA u c hc; omega)]
  refine ⟨by rw [List.length_append, I.len]; rfl, fun k hk => ?_, fun c hc => ?_, ?_, fun k x hk hx => ?_, fun k x hx => ?_⟩
  · rw [hold (by omega)]
    exact I.leaf k hk
  · rcases List.mem_append.mp hc with h | h
    · exact I.lt c h
    · rw [List.mem_singleton.mp h]
      exact hs.1.2
  · rw [List.nodup_append]
    exact ⟨I.nd, by simp, fun a ha b hb z => hn (by rw [List.mem_singleton.mp hb] at z; exact z ▸ ha)⟩
  · rcases hcase hx with h | h
    · exact I.inn k x hk h.2
    · rw [h.2]
      exact hs.1.1
  · rcases hcase hx with h | h
    · rw [hgd (by omega)]
      exact I.hom k x h.2
    · rw [h.1, h.2, hgd (Nat.le_refl _)]
      exact hs.2
end
theorem img_zero {l : Nat} {A B : List (List Nat)} : Img l A B 0 (List.range l) :=
  ⟨by rw [List.length_range]; rfl, fun k hk => List.getElem?_range hk, fun c hc => by have := List.mem_range.mp hc; omega, List.nodup_range, fun k g hk hg => by
    have := (List.getElem?_eq_some_iff.mp hg).1
    rw [List.length_range] at this
    omega, fun k g hg => by
    have hk := (List.getElem?_eq_some_iff.mp hg).1
    rw [List.length_range] at hk
    rw [List.getElem?_range hk] at hg
    rw [← Option.some.inj hg, kidsAt_leaf hk, kidsAt_leaf hk]
    exact .nil⟩
/-! the answers -/
def sameB (l : Nat) (A B : List (List Nat)) : Bool := decide (srtR (rowsI l A) = srtR (rowsI l B))
theorem sameB_iff {l : Nat} {A B : List (List Nat)} (w : Raw l B) : sameB l A B = true ↔ SameL l A B := by
  unfold sameB SameL
  rw [decide_eq_true_eq]
  constructor
  · intro e
    exact (srtR_perm _).symm.trans ((List.Perm.of_eq e).trans (srtR_perm _))
  · exact fun h => srtR_of_perm h (rowsI_ok w)
noncomputable def matchD (l : Nat) (A B : List (List Nat)) : PyData := if sameB l A B = true then .tuple (natDs ((List.range (l + A.length)).map (mtN l A B))) else .none
end WR
set_option Elab.async false
set_option linter.all false
set_option maxRecDepth 100000
set_option maxHeartbeats 1000000
namespace WR
open PySem PySem.Spec PyProof.Rows L2 Evl
def spListsK (K : PySem.W.Frag) : Sp := fun vs H Q _ => ∃ v l inner, vs = [v] ∧ Dp K H v (webD l inner) ∧ Raw l inner ∧
  ∀ p rs H', Ex H H' → Kds H H' p rs (List.replicate l [] ++ inner) → Q (.ref p) H'
abbrev nLists : List Str := ["_law_web_here", "_law_leaf", "_law_some"]
theorem scLists : FnScope nLists ["_law_web_here"] (defScope sLists) := ⟨rfl, rfl, rfl, by decide +kernel, rfl, by decide +kernel, by decide +kernel⟩
section
variable {P : Program} {w : World} {K : PySem.W.Frag} {mg : Str → Option Value} {base : Heap}
theorem ok_listsK {f : Addr} {fd : FuncData} (F : Fun K "_law_lists" "_law_lists" sLists f fd) (m1 : mg "range" = none) (m2 : mg "list" = none) :
    FnOk P w K mg base CX0 1 f fd ["_law_web_here"] (spListsK K) := by
  refine F.ok scLists (fun vs H Q E h => ?_) (fun cdv A outer s H vs Q E hr h => ?_)
  · obtain ⟨v, l, inner, rfl, _⟩ := h
    rfl
  obtain ⟨v, l, inner, rfl, hv, hw, q⟩ := h
  refine ⟨_, pss_one (ps_ret (pe_op op_cat (pe_lc (own := [("_law_leaf", 1)]) (g := gName 1) (tt := tYes) (te := tLst tNil) rfl scLists.nd (pi_range1 (by rfl) m1 (pa_cons (pe_ix (r := rIxT K) ix_tup (pv 0) pe_int (fun _ _ => rfl)) pa_nil)) (blkOk_by (N := nLists) (sc := defScope sLists) (by decide +kernel))
      (fun _ _ _ _ _ => pg_name (i := 1) scLists.nd rfl (Or.inl rfl)) (fun _ _ _ _ _ => pts_nil) (fun _ _ _ _ _ => pe_lst pa_nil))
    (pe_lc (own := [("_law_some", 2)]) (g := gName 2) (tt := tYes) (te := tCB (fun xs H Q => ∃ p ys, xs = [.ref p] ∧ (SqL K H p ys ∨ SqT K H p ys) ∧ ∀ l, H l = none → Q (.ref l) (upd H l (.lst ys))) (tCons (tVar 2) tNil)) rfl scLists.nd (pi_tup (pe_ix (r := rIxT K) ix_tup (pv 0) pe_int (fun _ _ => rfl))) (blkOk_by (N := nLists) (sc := defScope sLists) (by decide +kernel))
      (fun _ _ _ _ _ => pg_name (i := 2) scLists.nd rfl (Or.inl rfl)) (fun _ _ _ _ _ => pts_nil) (fun _ _ _ _ _ => pe_callTy call_list_of (by rfl) m2 (by decide +kernel) (pa_cons (pv 2) pa_nil))))), ?_⟩
  have h1 := hw.l1
  have h8 := hw.l8
  have h20 := hw.n20
  have hA : EvA (tCons (tOp (rIxT K) (tVar 0) (tC (.int 0))) tNil) (start nLists [v]) H [.int (l : Int)] := ea_cons (ev_i (K := K) (ed_ixT (n := 0) (d := natD l) (ed_var rfl hv) (ed_i ev_c) rfl rfl)) ea_nil
  unfold tRet tOp tLc iRng1
  refine hA H (Ex.refl H) _ fun H1 e1 => ?_
  refine ⟨(l : Int), rfl, by omega, by omega, fun D hD => ?_⟩
  rw [Int.toNat_natCast]
  refine lc_range (fun i H' => ∃ rs, Ex H1 H' ∧ Kds H1 H' D rs (List.replicate i [])) ⟨[], Ex.new hD, ⟨upd_same, rfl, List.nodup_nil, List.not_mem_nil, fun i r ks h _ => by cases h⟩, hD, fun r h => by cases h⟩ (fun i H' hi hP => ?_) fun H2 hP => ?_
  · obtain ⟨rs, e, k⟩ := hP
    refine ⟨rfl, yes_ ?_⟩
    refine ⟨by show 0 ≤ sizeLine; decide, fun r hr => ?_⟩
    have k1 := k.ex (Ex.new (o := .lst []) hr)
    have hlr : rs.length = i := by rw [k.kd.len, List.length_replicate]
    refine ⟨rs.map V.ref, k1.kd.at_, sz_lt (by rw [List.length_map]; omega), rs ++ [r], Ex.mut (e.trans (Ex.new hr)) hD, ?_⟩
    rw [show rs.map V.ref ++ [V.ref r] = (rs ++ [r]).map V.ref by rw [List.map_append]; rfl, List.replicate_succ']
    exact k1.app upd_same (k.kd.fresh hr) (fresh_back e hr)
  obtain ⟨rs1, e2, k1⟩ := hP
  have hI : EvD K (tOp (rIxT K) (tVar 0) (tC (.int 1))) (start nLists [v]) H2 (.tuple (inner.map kidsD)) := ed_ixT (n := 1) (ed_var rfl (dp_ex (e1.trans e2) _ hv)) (ed_i ev_c) rfl rfl
  refine hI H2 (Ex.refl H2) _ fun w2 H3 e3 hw3 => ?_
  obtain ⟨a, xs, rfl, hs, hd⟩ := dp_tup hw3
  have hxl := dpAll_len hd
  rw [List.length_map] at hxl
  refine ⟨a, rfl, ⟨xs, hs⟩, fun D2 hD2 => ?_⟩
  refine lc_tup (K := K) (xs := xs) (fun i H' => ∃ rs, Ex H3 H' ∧ Kds H3 H' D2 rs (inner.take i)) ⟨[], Ex.new hD2, ⟨upd_same, by rw [List.take_zero]; rfl, List.nodup_nil, List.not_mem_nil, fun i r ks h _ => by cases h⟩, hD2, fun r h => by cases h⟩
    (fun i H' _ hP => by obtain ⟨rs, e, _⟩ := hP; exact ex_t e hs) (fun i x H' hx hP => ?_) fun H4 hP => ?_
  · obtain ⟨rs, e, k⟩ := hP
    obtain ⟨d, hdi, hdx⟩ := dpAll_at hd hx
    rw [List.getElem?_map] at hdi
    obtain ⟨ks, hks, rfl⟩ := Option.map_eq_some_iff.mp hdi
    obtain ⟨b, ys, rfl, hsb, hdb⟩ := dp_tup hdx
    have hdb : DpAll K H3 ys (natDs ks) := hdb
    rw [nats_of hdb] at hsb
    have hil := (List.getElem?_eq_some_iff.mp hks).1
    refine ⟨rfl, yes_ ?_⟩
    refine ⟨.ref b, rfl, b, nVs ks, rfl, .inr (ex_t e hsb), fun r hr => ?_⟩
    have k1 := k.ex (Ex.new (o := .lst (nVs ks)) hr)
    have hlr : rs.length = i := by rw [k.kd.len, List.length_take]; omega
    refine ⟨rs.map V.ref, k1.kd.at_, sz_lt (by rw [List.length_map]; omega), rs ++ [r], Ex.mut (e.trans (Ex.new hr)) hD2, ?_⟩
    rw [show rs.map V.ref ++ [V.ref r] = (rs ++ [r]).map V.ref by rw [List.map_append]; rfl, List.take_add_one, hks]
    exact k1.app upd_same (k.kd.fresh hr) (fresh_back e hr)
  obtain ⟨rs2, e4, k2⟩ := hP
  rw [hxl, List.take_length] at k2
  have hl1 := k1.kd.len
  have hl2 := k2.kd.len
  rw [List.length_replicate] at hl1
  have k13 := k1.kd.ex e3
  refine ⟨D, D2, rs1.map V.ref, rs2.map V.ref, rfl, rfl, (k13.ex e4).at_, k2.kd.at_, sz_of (by rw [List.length_map, List.length_map]; omega), fun p hp => ?_⟩
  refine q p (rs1 ++ rs2) _ ((((e1.trans e2).trans e3).trans e4).trans (Ex.new hp)) ⟨k13.cat e4 k2 hp, fresh_back (((e1.trans e2).trans e3).trans e4) hp, fun r hr => ?_⟩
  rcases List.mem_append.mp hr with z | z
  · exact fresh_back e1 (k1.br r z)
  · exact fresh_back ((e1.trans e2).trans e3) (k2.br r z)
end
end WR
set_option Elab.async false
set_option linter.all false
set_option maxRecDepth 100000
set_option maxHeartbeats 2000000
namespace WR
open PySem PySem.Spec PyProof.Rows L2 Evl

/-! ### _law_image -/
def spTwo (K : PySem.W.Frag) (g : Nat → List (List Nat) → List (List Nat) → PyData) : Sp := fun vs H Q _ => ∃ v w l A B, vs = [v, w] ∧ Dp K H v (webD l A) ∧ Dp K H w (webD l B) ∧ WebP l A ∧ WebP l B ∧ ∀ r H', Ex H H' → Dp K H' r (g l A B) → Q r H'
theorem ed_callTwo {K : PySem.W.Frag} {σ : L2.St} {H : Hp} {ta tb : TE} {l : Nat} {A B : List (List Nat)} {g : Nat → List (List Nat) → List (List Nat) → PyData} {E : XK} (h1 : EvD K ta σ H (webD l A)) (h2 : EvD K tb σ H (webD l B)) (W : WebP l A) (V' : WebP l B) :
    EvD K (tCall (spTwo K g) [] E (tCons ta (tCons tb tNil))) σ H (g l A B) := fun H1 e Q q =>
  h1 H1 e _ fun v H2 e2 hv => h2 H2 (e.trans e2) _ fun w H3 e3 hw => ⟨v, w, l, A, B, rfl, dp_ex e3 _ hv, hw, W, V', fun r H4 e4 hr => q r H4 ((e2.trans e3).trans e4) hr⟩
theorem ev_eqLI {K : PySem.W.Frag} {σ : L2.St} {H : Hp} {ta tb : TE} {a b : List Int} (h1 : EvD K ta σ H (.list (a.map PyData.int))) (h2 : EvD K tb σ H (.list (b.map PyData.int))) : Ev (tOp (rEqD K) ta tb) σ H (.bl (decide (a = b))) := fun H1 e Q q =>
  h1 H1 e _ fun v H2 e2 hv => h2 H2 (e.trans e2) _ fun w H3 e3 hw => ⟨_, _, dp_ex e3 _ hv, hw, shaped_ints a, shaped_ints b, by
    have e4 : PyData.eqv (.list (a.map PyData.int)) (.list (b.map PyData.int)) = decide (a = b) := by
      simp only [PyData.eqv]
      exact eqvAll_ints a b
    rw [e4]
    exact q _ (e2.trans e3)⟩
abbrev nImg : List Str := ["_law_one_here", "_law_other", "_law_kids_here", "_law_found", "_law_some", "_law_goal", "_law_spots", "_law_child", "_law_kind"]
section
variable {P : Program} {w : World} {K : PySem.W.Frag} {mg : Str → Option Value} {base : Heap}
end
end WR
-- auto
set_option Elab.async false
set_option linter.all false
set_option maxRecDepth 100000
set_option maxHeartbeats 2000000
namespace WR
open PySem PySem.Spec PyProof.Rows L2 Evl

/-! ### dicts of data by number -/
def dVs : Nat → List V → List (Key × V)
  | _, [] => []
  | i, v :: r => (Sum.inl (i : Int), v) :: dVs (i + 1) r
theorem dVs_len : ∀ {i : Nat} {vs : List V}, (dVs i vs).length = vs.length
  | _, [] => rfl
  | i, v :: r => by
    show (dVs (i + 1) r).length + 1 = r.length + 1
    rw [dVs_len]
theorem dVs_val {k : Nat} : ∀ {i : Nat} {vs : List V}, valV (dVs i vs) (Sum.inl (k : Int)) = if k < i then none else vs[k - i]?
  | i, [] => by
    show none = _
    split <;> rfl
  | i, v :: r => by
    by_cases e : i = k
    · subst e
      rw [if_neg (Nat.lt_irrefl _), Nat.sub_self]
      exact valV_pos rfl
    · have hn : ¬ ((Sum.inl (i : Int) : Key) = Sum.inl (k : Int)) := fun z => e (by
        have := Sum.inl.inj z
        omega)
      show valV ((Sum.inl (i : Int), v) :: dVs (i + 1) r) _ = _
      rw [valV_neg hn, dVs_val]
      by_cases z : k < i
      · rw [if_pos z, if_pos (by omega)]
      · rw [if_neg z, if_neg (by omega), show k - i = (k - (i + 1)) + 1 by omega, List.getElem?_cons_succ]
theorem dVs_app {v : V} : ∀ {i : Nat} {vs : List V}, dVs i (vs ++ [v]) = dVs i vs ++ [(Sum.inl ((i + vs.length : Nat) : Int), v)]
  | i, [] => rfl
  | i, x :: r => by
    show (Sum.inl (i : Int), x) :: dVs (i + 1) (r ++ [v]) = (Sum.inl (i : Int), x) :: (dVs (i + 1) r ++ [(Sum.inl ((i + (r.length + 1) : Nat) : Int), v)])
    rw [dVs_app, show i + 1 + r.length = i + (r.length + 1) by omega]
theorem dVs_put {v : V} {vs : List V} : putK (dVs 0 vs) (Sum.inl (vs.length : Int)) v = dVs 0 (vs ++ [v]) := by
  rw [putK_new _ (by rw [dVs_val, if_neg (Nat.not_lt_zero _), Nat.sub_zero]; exact List.getElem?_eq_none (Nat.le_refl _)), dVs_app, Nat.zero_add]
theorem dVs_merge : ∀ {more vs : List V}, mergeK (dVs 0 vs) (dVs vs.length more) = dVs 0 (vs ++ more)
  | [], vs => by rw [List.append_nil]; rfl
  | v :: r, vs => by
    show mergeK (putK (dVs 0 vs) (Sum.inl (vs.length : Int)) v) (dVs (vs.length + 1) r) = _
    rw [dVs_put]
    have e : vs.length + 1 = (vs ++ [v]).length := by rw [List.length_append]; rfl
    have ea : vs ++ v :: r = (vs ++ [v]) ++ r := by rw [List.append_assoc]; rfl
    rw [e, ea, dVs_merge]
theorem dVs_nats {n : Nat} : dVs 0 (nVs (List.range n)) = dNs 0 (List.range n) := by
  induction n with
  | zero => rfl
  | succ n ih =>
    have e : nVs (List.range (n + 1)) = nVs (List.range n) ++ [nV n] := by
      unfold nVs
      rw [List.range_succ, List.map_append]
      rfl
    rw [e, dVs_app, ih, List.range_succ, dNs_app]
    unfold nVs
    rw [List.length_map]
    rw [List.length_range, Nat.zero_add]
def DD (K : PySem.W.Frag) (H : Hp) (d : Addr) (ds : List PyData) : Prop := ∃ vs, H d = some (.dK (dVs 0 vs)) ∧ DpAll K H vs ds
theorem DD.ex {K : PySem.W.Frag} {H H' : Hp} {p : Addr} {ds : List PyData} (h : DD K H p ds) (e : Ex H H') : DD K H' p ds := by
  obtain ⟨xs, h1, h2⟩ := h
  exact ⟨xs, e _ _ h1, dpAll_ex e ds h2⟩
abbrev rDictP (K : PySem.W.Frag) : List V → Hp → VK → Prop := fun xs H Q => ∃ (a : Addr) (ps : List Addr) (kvs : List (Key × V)), xs = [.ref a] ∧ SqL K H a (ps.map V.ref) ∧ Paired (fun p kv => SqT K H p [kV kv.1, kv.2]) ps kvs ∧
    ∀ p, H p = none → Q (.ref p) (upd H p (.dK (mergeK [] kvs)))
theorem pairs_in {K : PySem.W.Frag} {H : Hp} {g : Nat → PyData} : ∀ {n i : Nat} {xs : List V}, DpAll K H xs ((List.range' i n).map fun k => .tuple [natD k, g k]) →
    ∃ (ps : List Addr) (vs : List V), xs = ps.map V.ref ∧ Paired (fun p kv => SqT K H p [kV kv.1, kv.2]) ps (dVs i vs) ∧ DpAll K H vs ((List.range' i n).map g)
  | 0, i, xs, h => by
    cases h
    exact ⟨[], [], rfl, .nil, .nil⟩
  | n + 1, i, xs, h => by
    rw [List.range'_succ] at h ⊢
    cases h with
    | cons a b =>
      obtain ⟨ps, vs, rfl, h2, h3⟩ := pairs_in b
      obtain ⟨p, ys, rfl, hs, hy⟩ := dp_tup a
      cases hy with
      | cons y1 hy =>
        cases hy with
        | cons y2 hy =>
          cases hy
          cases dp_int y1
          exact ⟨p :: ps, _ :: vs, rfl, .cons hs h2, .cons y2 h3⟩
section
variable {K : PySem.W.Frag} {σ : L2.St} {H : Hp} {ta te td ty tk tv : TE} {D : Ends} {tz tu : TS} {ds : List PyData}
theorem q_asgDD {i n : Nat} {g : Nat → PyData} (h : EvN K te σ H ((List.range n).map fun k => .tuple [natD k, g k])) (k : ∀ d H1, H d = none → Ex H H1 → DD K H1 d ((List.range n).map g) → tz D (σ.set i (some (.ref d))) H1) :
    tSeq (tAsg (tCB (rDictP K) (tCons te tNil)) (gName i)) tz D σ H := h H (Ex.refl H) _ fun p xs H2 hp e2 hx hd => by
  rw [List.range_eq_range'] at hd
  obtain ⟨ps, vs, rfl, h1, h2⟩ := pairs_in hd
  refine ⟨p, ps, dVs 0 vs, rfl, sq_of hx, h1, fun d hd0 => ?_⟩
  have e3 := Ex.new (o := .dK (mergeK [] (dVs 0 vs))) hd0
  refine k d _ (fresh_back e2 hd0) (e2.trans e3) ⟨vs, ?_, ?_⟩
  · rw [upd_same]
    exact congrArg (fun x => some (HO.dK x)) (dVs_merge (vs := []))
  · rw [List.range_eq_range']
    exact dpAll_ex e3 _ h2
theorem ed_dgetD {d : Addr} {k : Nat} {x : PyData} (hd : Ev td σ H (.ref d)) (hk : Ev ty σ H (nV k)) (h : DD K H d ds) (hx : ds[k]? = some x) : EvD K (tDGet td ty) σ H x := fun H1 e Q q => by
  obtain ⟨vs, h1, h2⟩ := h.ex e
  obtain ⟨v, hv, hvd⟩ := dpAll_at' h2 hx
  exact ev_dgetK (fun H2 e2 => hd H2 (e.trans e2)) (fun H2 e2 => hk H2 (e.trans e2)) h1 (by rw [dVs_val, if_neg (Nat.not_lt_zero _), Nat.sub_zero]; exact hv) H1 (Ex.refl _) _ fun H2 e2 => q v H2 e2 (dp_ex e2 _ hvd)
theorem et_dnotD {d : Addr} {k : Nat} (hd : Ev td σ H (.ref d)) (hk : Ev ty σ H (nV k)) (h : DD K H d ds) : EvT (tB (tDNotIn ty td)) σ H (decide (ds.length ≤ k)) := by
  obtain ⟨vs, h1, h2⟩ := h
  refine et_is (et_dnotin hd hk h1) ?_
  rw [dVs_val, if_neg (Nat.not_lt_zero _), Nat.sub_zero]
  have hl := dpAll_len h2
  by_cases z : ds.length ≤ k
  · rw [List.getElem?_eq_none (by omega), decide_eq_true z]
    rfl
  · rw [List.getElem?_eq_getElem (by omega), decide_eq_false z]
    rfl
/-- d[n] = datum, at the end -/
theorem s_dputD {d : Addr} {x : PyData} (hv : EvD K tv σ H x) (hd : Ev td σ H (.ref d)) (hk : Ev tk σ H (nV ds.length)) (h : DD K H d ds) (hz : ds.length < 100000) (n1 : nlAll ds = true) (n2 : nl x = true)
    (c : ∀ H1 o, Ex H H1 → DD K (upd H1 d o) d (ds ++ [x]) → D.nx σ (upd H1 d o)) : sDPut td tk tv D σ H :=
  hv H (Ex.refl H) _ fun v H1 e1 hvx => hd H1 e1 _ fun H2 e2 => hk H2 (e1.trans e2) _ fun H3 e3 => by
    obtain ⟨vs, h1, h2⟩ := h.ex ((e1.trans e2).trans e3)
    have hl := dpAll_len h2
    refine ⟨d, _, rfl, DPut.k (k := Sum.inl (ds.length : Int)) h1 (sz_lt (by rw [dVs_len]; omega)), c H3 _ ((e1.trans e2).trans e3) ⟨vs ++ [v], ?_, ?_⟩⟩
    · rw [upd_same, ← hl, dVs_put]
    · exact dpAll_snoc (dpAll_updK h1 _ n1 h2) (dp_updK h1 _ n2 (dp_ex (e2.trans e3) _ hvx))
theorem ev_lenDk {d : Addr} {kvs : List (Key × V)} (hd : Ev td σ H (.ref d)) (h : H d = some (.dK kvs)) : Ev (tCB (fun xs H Q => ∃ a kvs, xs = [V.ref a] ∧ H a = some (.dK kvs) ∧ Q (.int kvs.length) H) (tCons td tNil)) σ H (nV kvs.length) := fun H1 e Q q =>
  hd H1 e _ fun H2 e2 => ⟨d, kvs, rfl, (e.trans e2) _ _ h, q H2 e2⟩
/-- for x in list of data, whose things other than the list itself may change -/
theorem q_forLc {j : Nat} {p : Addr} {xs : List V} (h : Ev te σ H (.ref p)) (hp : H p = some (.lst xs)) (Pv : Nat → L2.St → Hp → Prop) (h0 : ∀ H1, Ex H H1 → Pv 0 σ H1) (hl : ∀ m σ' H', Pv m σ' H' → H' p = some (.lst xs))
    (hs : ∀ m x σ' H', xs[m]? = some x → Pv m σ' H' → tu { D with nx := Pv (m + 1), ct := Pv (m + 1), bk := tz D } (σ'.set j (some x)) H') (hd : ∀ σ' H', Pv xs.length σ' H' → tz D σ' H') :
    tSeq (tFor (iList K te) (gName j) tu) tz D σ H :=
  h H (Ex.refl H) _ fun H1 e1 => ⟨p, rfl, ⟨xs, sq_of (e1 _ _ hp)⟩, for_it (walk_list (K := K) (a := p) (xs := xs)) (D := { D with nx := tz D }) Pv (h0 H1 e1) (fun m σ' H' _ P => sq_of (hl m σ' H' P)) (fun m x σ' Hc H' hm P hy => by
    obtain ⟨rfl, hx⟩ := hy
    exact hs m x σ' H' hx P) fun σ' H' P => hd σ' H' P⟩
/-- [.. for x in list of data made of numbers] -/
theorem en_dMap {j : Nat} {wi : TI} {vs : List Nat} {α : Type} {ks : List α} (A g : α → PyData) (h : Src K wi σ H (ks.map A)) (hl : ks.length ≤ 40000) (hw : ∀ x, wipe ((wipe σ vs).set j (some x)) vs = wipe σ vs)
    (hv : ∀ k x H1, Ex H H1 → k ∈ ks → Dp K H1 x (A k) → EvD K te ((wipe σ vs).set j (some x)) H1 (g k)) (hg : ∀ k ∈ ks, nl (g k) = true) :
    EvN K (tLc wi (gName j) tYes te vs) σ H (ks.map g) := fun H1 e Q q => h H1 e _ fun J H2 G e2 hg' w Dl hD => by
  refine lc_it w (fun m H' => Ex H2 H' ∧ ∃ acc, H' Dl = some (.lst acc) ∧ DpAll K H' acc ((ks.take m).map g)) ⟨Ex.new hD, [], upd_same, by simpa using DpAll.nil⟩ (fun m H' _ p => hg' H' p.1) (fun m x H' H'' hm p hy => ?_) (fun H' p => ?_)
  · obtain ⟨rfl, d, hd, hx⟩ := hy
    obtain ⟨p1, acc, p2, p3⟩ := p
    rw [List.getElem?_map] at hd
    obtain ⟨k, hk, rfl⟩ := Option.map_eq_some_iff.mp hd
    have hml := (List.getElem?_eq_some_iff.mp hk).1
    have e3 : Ex H _ := (e.trans e2).trans p1
    refine ⟨hw _, yes_ ?_⟩
    refine hv k _ _ e3 (List.mem_of_getElem? hk) hx _ (Ex.refl _) _ fun y H4 e4 hyr => ⟨acc, e4 _ _ p2, sz_lt ?_, Ex.mut (p1.trans e4) hD, _, upd_same, ?_⟩
    · rw [dpAll_len p3, List.length_map, List.length_take]
      omega
    · have htk : (ks.take (m + 1)).map g = (ks.take m).map g ++ [g k] := by
        rw [List.take_add_one, hk, List.map_append]
        rfl
      rw [htk]
      have hall : nlAll ((ks.take m).map g) = true := nlAll_mem fun r' hr' => by
        obtain ⟨c, h1, rfl⟩ := List.mem_map.mp hr'
        exact hg c (List.mem_of_mem_take h1)
      exact dpAll_snoc (dpAll_updL (e4 _ _ p2) _ hall (dpAll_ex e4 _ p3)) (dp_updL (e4 _ _ p2) _ (hg k (List.mem_of_getElem? hk)) hyr)
  · obtain ⟨p1, acc, p2, p3⟩ := p
    rw [List.length_map, List.take_length] at p3
    exact q Dl acc H' (fresh_back e2 hD) (e2.trans p1) p2 p3
theorem s_dputK {d : Addr} {kvs : List (Key × V)} {k : Int} {v : V} (hv : Ev tv σ H v) (hd : Ev td σ H (.ref d)) (hk : Ev tk σ H (.int k)) (h : H d = some (.dK kvs)) (hz : kvs.length < 100000)
    (c : ∀ H1, Ex H H1 → D.nx σ (upd H1 d (.dK (putK kvs (Sum.inl k) v)))) : sDPut td tk tv D σ H :=
  hv H (Ex.refl H) _ fun H1 e1 => hd H1 e1 _ fun H2 e2 => hk H2 (e1.trans e2) _ fun H3 e3 => ⟨d, _, rfl, DPut.k (k := Sum.inl k) (((e1.trans e2).trans e3) _ _ h) (sz_lt hz), c H3 ((e1.trans e2).trans e3)⟩
end
end WR
set_option Elab.async false
set_option linter.all false
set_option maxRecDepth 100000
set_option maxHeartbeats 2000000
namespace WR
open PySem PySem.Spec PyProof.Rows L2 Evl

/-! ### lots whose tuple is known; the rows that part webs; distance -/
def LotZ (K : PySem.W.Frag) (H : Hp) (v : V) (rows : List (List Int)) : Prop := ∃ p o xs, v = .ref p ∧ H p = some (.frz o (.tup xs)) ∧ TupO o ∧ DpAll K H xs (rows.map tupI)
theorem LotZ.ex {K : PySem.W.Frag} {H H' : Hp} {v : V} {rows : List (List Int)} (h : LotZ K H v rows) (e : Ex H H') : LotZ K H' v rows := by
  obtain ⟨p, o, xs, a, b, c, d⟩ := h
  exact ⟨p, o, xs, a, e _ _ b, c, dpAll_ex e _ d⟩
theorem LotZ.dp {K : PySem.W.Frag} {H : Hp} {v : V} {rows : List (List Int)} (h : LotZ K H v rows) : Dp K H v (.tuple (rows.map tupI)) := by
  obtain ⟨p, o, xs, rfl, b, _, d⟩ := h
  exact .tup (.inl (.inr ⟨o, b⟩)) d
def spLotZ (K : PySem.W.Frag) : Sp := fun vs H Q _ => ∃ v l inner, vs = [v] ∧ Dp K H v (webD l inner) ∧ Raw l inner ∧ ∀ r H', Ex H H' → LotZ K H' r (srtR (rowsI l inner)) → Q r H'
theorem ed_callLotZ {K : PySem.W.Frag} {σ : L2.St} {H : Hp} {te : TE} {l : Nat} {inner : List (List Nat)} {E : XK} (h : EvD K te σ H (webD l inner)) (hw : Raw l inner) : EvD K (tCall (spLotZ K) [] E (tCons te tNil)) σ H (lotD l inner) := fun H1 e Q q =>
  h H1 e _ fun v H2 e2 hv => ⟨v, l, inner, rfl, hv, hw, fun r H3 e3 hr => q r H3 (e2.trans e3) hr.dp⟩
theorem scLotZ : FnScope ["web"] ["web"] (defScope sLot) := ⟨rfl, rfl, rfl, by decide +kernel, rfl, by decide +kernel, by decide +kernel⟩
/-- each once -/
def dedR : List (List Int) → List (List Int)
  | [] => []
  | x :: r => if x ∈ dedR r then dedR r else x :: dedR r
theorem mem_dedR {x : List Int} : ∀ {l : List (List Int)}, x ∈ dedR l ↔ x ∈ l
  | [] => Iff.rfl
  | y :: r => by
    have ih := mem_dedR (x := x) (l := r)
    unfold dedR
    by_cases z : y ∈ dedR r
    · rw [if_pos z, ih, List.mem_cons]
      constructor
      · exact fun h => .inr h
      · rintro (h | h)
        · rw [h]
          exact mem_dedR.mp z
        · exact h
    · rw [if_neg z, List.mem_cons, List.mem_cons, ih]
theorem nd_dedR : ∀ {l : List (List Int)}, (dedR l).Nodup
  | [] => List.nodup_nil
  | y :: r => by
    unfold dedR
    by_cases z : y ∈ dedR r
    · rw [if_pos z]
      exact nd_dedR
    · rw [if_neg z]
      exact List.nodup_cons.mpr ⟨z, nd_dedR⟩
/-- all rows of both, ascending, each once -/
def uniR (l : Nat) (A B : List (List Nat)) : List (List Int) := srtR (dedR (srtR (rowsI l A) ++ srtR (rowsI l B)))
def cntR (l : Nat) (A : List (List Nat)) (r : List Int) : Nat := (rowsI l A).countP fun x => decide (x = r)
def encW (l : Nat) (A B : List (List Nat)) (r : List Int) : PyData := .tuple [tupI r, natD (cntR l A r), natD (cntR l B r)]
def partR (l : Nat) (A B : List (List Nat)) : List (List Int) := (uniR l A B).filter fun r => !decide (cntR l A r = cntR l B r)
def distI (l : Nat) (A B : List (List Nat)) : Int := ((partR l A B).map fun r => if (cntR l A r : Int) - (cntR l B r : Int) < 0 then -((cntR l A r : Int) - (cntR l B r : Int)) else (cntR l A r : Int) - (cntR l B r : Int)).sum
theorem mem_uniR {l : Nat} {A B : List (List Nat)} {x : List Int} : x ∈ uniR l A B ↔ x ∈ rowsI l A ∨ x ∈ rowsI l B := by
  unfold uniR
  rw [(srtR_perm _).mem_iff, mem_dedR, List.mem_append, (srtR_perm _).mem_iff, (srtR_perm _).mem_iff]
theorem nd_uniR {l : Nat} {A B : List (List Nat)} : (uniR l A B).Nodup := (srtR_perm _).nodup_iff.mpr nd_dedR
/-- the addresses of rows -/
theorem refs_of_rows {K : PySem.W.Frag} {H : Hp} : ∀ {rows : List (List Int)} {xs : List V}, DpAll K H xs (rows.map tupI) → ∃ ks : List (Addr × List Int), xs = ks.map (fun p => V.ref p.1) ∧ ks.map (·.2) = rows ∧ ∀ p ∈ ks, SqT K H p.1 (p.2.map V.int)
  | [], _, .nil => ⟨[], rfl, rfl, fun p hp => by cases hp⟩
  | r :: rows, x :: xs, .cons h t => by
    obtain ⟨ks, h1, h2, h3⟩ := refs_of_rows t
    obtain ⟨a, ys, rfl, hs, hd⟩ := dp_tup (show Dp K H x (.tuple (r.map PyData.int)) from h)
    rw [ints_of hd] at hs
    exact ⟨(a, r) :: ks, by rw [h1]; rfl, by rw [← h2]; rfl, fun p hp => by
      rcases List.mem_cons.mp hp with rfl | hp
      · exact hs
      · exact h3 p hp⟩
theorem rows_of_refs {K : PySem.W.Frag} {H : Hp} : ∀ {ks : List (Addr × List Int)}, (∀ p ∈ ks, SqT K H p.1 (p.2.map V.int)) → DpAll K H (ks.map fun p => V.ref p.1) ((ks.map (·.2)).map tupI)
  | [], _ => .nil
  | p :: ks, h => .cons (.tup (h p (List.mem_cons_self ..)) (dpAll_ints _)) (rows_of_refs fun q hq => h q (List.mem_cons_of_mem _ hq))
section
variable {P : Program} {w : World} {K : PySem.W.Frag} {σ : L2.St} {H : Hp} {ta tb te : TE} {l : Nat} {A B : List (List Nat)}
/-- sorted(set(first + second)) -/
theorem en_uni {va vb : V} (ha : Ev ta σ H va) (hb : Ev tb σ H vb) (za : LotZ K H va (srtR (rowsI l A))) (zb : LotZ K H vb (srtR (rowsI l B))) (wA : Raw l A) (wB : Raw l B) :
    EvN K (tCB (rSortedT K P w) (tCons (tCB (rSetTT K P w) (tCons (tOp (rCatA K) ta tb) tNil)) tNil)) σ H ((uniR l A B).map tupI) := fun H1 e Q q => by
  have h8 := wA.l8
  have hA := wA.n20
  have hB := wB.n20
  have hl := wA.l1
  have nA : (srtR (rowsI l A)).length = l + A.length := by rw [(srtR_perm _).length_eq]; unfold rowsI; rw [List.length_map, List.length_range]
  have nB : (srtR (rowsI l B)).length = l + B.length := by rw [(srtR_perm _).length_eq]; unfold rowsI; rw [List.length_map, List.length_range]
  have hcat : EvD K (tOp (rCatA K) ta tb) σ H (.tuple ((srtR (rowsI l A) ++ srtR (rowsI l B)).map tupI)) := by
    rw [List.map_append]
    refine ed_cat (ed_ev ha za.dp) (ed_ev hb zb.dp) ?_
    rw [List.length_map, List.length_map, nA, nB]
    omega
  refine hcat H1 e _ fun v H2 e2 hv => ?_
  obtain ⟨p, xs, rfl, hs, hd⟩ := dp_tup hv
  obtain ⟨ks, rfl, hk2, hkT⟩ := refs_of_rows hd
  have hkl : ks.length = (srtR (rowsI l A) ++ srtR (rowsI l B)).length := by rw [← hk2, List.length_map]
  rw [List.length_append, nA, nB] at hkl
  refine ⟨p, ks, rfl, hs, hkT, by omega, fun a L ha0 hL1 hL2 => ?_⟩
  have e3 := Ex.new (o := SetTO P w a L) ha0
  have hok : ∀ r ∈ srtR (rowsI l A) ++ srtR (rowsI l B), RowOk l r := fun r hr => by
    rcases List.mem_append.mp hr with h | h
    · exact rowsI_ok wA r ((srtR_perm _).mem_iff.mp h)
    · exact rowsI_ok wB r ((srtR_perm _).mem_iff.mp h)
  have hLk : ∀ p ∈ L, p.2 ∈ srtR (rowsI l A) ++ srtR (rowsI l B) := fun p hp => by
    rw [← hk2]
    exact List.mem_map.mpr ⟨p, hL1 p hp, rfl⟩
  refine ⟨a, L, l, bigB, rfl, upd_same, fun p hp => ex_t e3 (hkT p (hL1 p hp)), hl, fun p hp => hok _ (hLk p hp), fun L' p' hperm hnd hfew hsort hp0 => ?_⟩
  have hR : L'.map (·.2) = uniR l A B := by
    have hmem : ∀ r, r ∈ L'.map (·.2) ↔ r ∈ dedR (srtR (rowsI l A) ++ srtR (rowsI l B)) := fun r => by
      rw [mem_dedR]
      constructor
      · intro h
        obtain ⟨p, hp, rfl⟩ := List.mem_map.mp h
        exact hLk p (hperm.mem_iff.mp hp)
      · intro h
        rw [← hk2] at h
        obtain ⟨p, hp, rfl⟩ := List.mem_map.mp h
        obtain ⟨p2, hp2, e2⟩ := List.mem_map.mp (hL2 p hp)
        exact List.mem_map.mpr ⟨p2, hperm.mem_iff.mpr hp2, e2⟩
    have hp1 : (L'.map (·.2)).Perm (dedR (srtR (rowsI l A) ++ srtR (rowsI l B))) := (List.perm_ext_iff_of_nodup hnd nd_dedR).mpr hmem
    have hok2 : ∀ r ∈ dedR (srtR (rowsI l A) ++ srtR (rowsI l B)), RowOk l r := fun r hr => hok r (mem_dedR.mp hr)
    refine srt_one (d := l) (hp1.trans (srtR_perm _).symm) (List.pairwise_map.mpr hsort) (srtR_sorted _) fun r hr => hok2 r ((srtR_perm _).mem_iff.mp hr)
  have en := Ex.new (o := .lst (L'.map fun q => V.ref q.1)) hp0
  refine q p' _ _ (fresh_back (e2.trans e3) hp0) ((e2.trans e3).trans en) upd_same ?_
  rw [← hR]
  exact rows_of_refs fun p hp => ex_t en (ex_t e3 (hkT p (hL1 p (hperm.mem_iff.mp hp))))
theorem shaped_rowsL (rs : List (List Int)) : SeqAt.shaped (.list (rs.map tupI)) = true := by
  have q := lay_rows rs
  have q2 := q.2
  show (PyData.canLay0 (.list (rs.map tupI)) && decide (PyData.depth (.list (rs.map tupI)) ≤ 64)) = true
  simp only [PyData.canLay0, PyData.depth, q.1, Bool.true_and]
  exact decide_eq_true (by omega)
/-- t.count(row) -/
theorem ev_tcnt {v : V} {rows : List (List Int)} {r : List Int} (ha : Ev ta σ H v) (hz : LotZ K H v rows) (hb : EvD K tb σ H (tupI r)) : Ev (tZ K (rTCnt K) ta (tCons tb tNil)) σ H (nV (rows.countP fun x => decide (x = r))) := fun H1 e Q q =>
  ha H1 e _ fun H2 e2 => by
    obtain ⟨p, o, xs, rfl, b, c, d⟩ := hz.ex (e.trans e2)
    refine ⟨⟨p, o, _, rfl, b, c⟩, hb H2 (e.trans e2) _ fun y H3 e3 hy => ?_⟩
    refine ⟨p, y, tupI r, rows.map tupI, rfl, rfl, ((hz.ex (e.trans e2)).ex e3).dp, hy, shaped_rowsL rows, shaped_tupI r, ?_⟩
    have hc : ((rows.map tupI).countP fun z => PyData.eqv z (tupI r)) = rows.countP fun x => decide (x = r) := by
      rw [List.countP_map]
      congr 1
      funext x
      exact eqv_tupI x r
    rw [hc]
    exact q H3 (e2.trans e3)
end
section
variable {K : PySem.W.Frag} {σ : L2.St} {H : Hp} {te : TE} {tt : TT}
/-- [x for x in .. if ..] over data -/
theorem en_dFil {j : Nat} {wi : TI} {vs : List Nat} {α : Type} {ks : List α} (b : α → Bool) (A : α → PyData) (h : Src K wi σ H (ks.map A)) (hl : ks.length ≤ 40000) (hw : ∀ x, wipe ((wipe σ vs).set j (some x)) vs = wipe σ vs)
    (hv : ∀ k x H1, Ex H H1 → k ∈ ks → Dp K H1 x (A k) → EvT tt ((wipe σ vs).set j (some x)) H1 (b k) ∧ EvD K te ((wipe σ vs).set j (some x)) H1 (A k)) (hg : ∀ k ∈ ks, nl (A k) = true) :
    EvN K (tLc wi (gName j) tt te vs) σ H ((ks.filter b).map A) := fun H1 e Q q => h H1 e _ fun J H2 G e2 hg' w Dl hD => by
  refine lc_it w (fun m H' => Ex H2 H' ∧ ∃ acc, H' Dl = some (.lst acc) ∧ DpAll K H' acc (((ks.take m).filter b).map A)) ⟨Ex.new hD, [], upd_same, by simpa using DpAll.nil⟩ (fun m H' _ p => hg' H' p.1) (fun m x H' H'' hm p hy => ?_) (fun H' p => ?_)
  · obtain ⟨rfl, d, hd, hx⟩ := hy
    obtain ⟨p1, acc, p2, p3⟩ := p
    rw [List.getElem?_map] at hd
    obtain ⟨k, hk, rfl⟩ := Option.map_eq_some_iff.mp hd
    have hkm := List.mem_of_getElem? hk
    have e3 : Ex H _ := (e.trans e2).trans p1
    obtain ⟨h1, h2⟩ := hv k x _ e3 hkm hx
    have htk : ks.take (m + 1) = ks.take m ++ [k] := by rw [List.take_add_one, hk]; rfl
    refine ⟨hw _, h1 _ (Ex.refl _) _ fun H3 e4 => ?_⟩
    have hle : acc.length ≤ ks.length := by
      rw [dpAll_len p3, List.length_map]
      exact Nat.le_trans (List.length_filter_le _ _) (by rw [List.length_take]; omega)
    cases hf : b k with
    | false =>
      show Ex H2 H3 ∧ _
      refine ⟨p1.trans e4, acc, e4 _ _ p2, ?_⟩
      rw [htk, List.filter_append, List.filter_cons, hf]
      simpa using dpAll_ex e4 _ p3
    | true =>
      show te _ H3 _
      refine h2 H3 e4 _ fun y H4 e5 hyr => ⟨acc, e5 _ _ (e4 _ _ p2), sz_lt (by omega), Ex.mut ((p1.trans e4).trans e5) hD, _, upd_same, ?_⟩
      have hlst : ((ks.take (m + 1)).filter b).map A = ((ks.take m).filter b).map A ++ [A k] := by
        rw [htk, List.filter_append, List.filter_cons, hf, List.map_append]
        rfl
      rw [hlst]
      have hall : nlAll (((ks.take m).filter b).map A) = true := nlAll_mem fun r' hr' => by
        obtain ⟨c, h1, rfl⟩ := List.mem_map.mp hr'
        exact hg c (List.mem_of_mem_take (List.mem_filter.mp h1).1)
      exact dpAll_snoc (dpAll_updL (e5 _ _ (e4 _ _ p2)) _ hall (dpAll_ex (e4.trans e5) _ p3)) (dp_updL (e5 _ _ (e4 _ _ p2)) _ (hg k hkm) hyr)
  · obtain ⟨p1, acc, p2, p3⟩ := p
    rw [List.length_map, List.take_length] at p3
    exact q Dl acc H' (fresh_back e2 hD) (e2.trans p1) p2 p3
end
theorem hu65_of {Ar : Around} {k : Nat} (hr : Room k Ar) : Ar.units + 65 < cLine := by
  have := hr.un
  omega
theorem cnt_srt {l : Nat} {A : List (List Nat)} {r : List Int} : (srtR (rowsI l A)).countP (fun x => decide (x = r)) = cntR l A r := (srtR_perm _).countP_eq _
abbrev nPart : List Str := ["one", "other", "first", "second", "counts", "row", "told"]
section
variable {P : Program} {w : World} {K : PySem.W.Frag} {mg : Str → Option Value} {base : Heap}
theorem ok_lotZ {f fR : Addr} {fd fdR : FuncData} (F : Fun K "lot" "lot" sLot f fd)
    (FR : Fun K "rows_of" "rows_of" sRowsOf fR fdR) (bR : Binds K fdR ["web"] []) (gR : mg "rows_of" = some (.ref fR))
    (m2 : mg "tuple" = none) (m3 : mg "sorted" = none)
    (G : FnOk P w K mg base CX0 2 fR fdR ["web"] (spW K fun l inner => .list (rowsD l inner (l + inner.length)))) :
    FnOk P w K mg base CX0 3 f fd ["web"] (spLotZ K) := by
  refine F.ok scLotZ (fun vs H Q E h => ?_) (fun cdv A outer s H vs Q E hr h => ?_)
  · obtain ⟨v, l, inner, rfl, _⟩ := h
    rfl
  obtain ⟨v, l, inner, rfl, hv, hw, q⟩ := h
  have h1 := hw.l1
  have h8 := hw.l8
  have h20 := hw.n20
  refine ⟨_, pss_one (ps_ret (pe_callTy (r := rTupZ K) cr_tupZ (by rfl) m2 (by decide +kernel) (pa_cons (pe_callB (r := rSortE K) cr_sortE (by rfl) m3 (by decide +kernel) (pa_cons (pe_call G hr (by rfl) gR FR.kp bR .nil pass0 (pa_cons (pv 0) pa_nil)) pa_nil)) pa_nil))), ?_⟩
  have hen := en_sortR (K := K) (σ := start ["web"] [v]) (H := H) (te := tCall (spW K fun l inner => .list (rowsD l inner (l + inner.length))) [] E0 (tCons (tVar 0) tNil)) (rows := rowsI l inner) (d := l) (ed_is (ed_callW (g := fun l inner => .list (rowsD l inner (l + inner.length))) (ed_var rfl hv) hw) (by rw [rowsD_eq])) (by unfold rowsI; rw [List.length_map, List.length_range]; omega) h1 (rowsI_ok hw)
  refine hen H (Ex.refl H) _ fun p xs H1 hp e1 hx hd => ?_
  exact ⟨p, xs, rfl, sq_of hx, fun t o ht ho => q _ _ (e1.trans (Ex.new ht)) ⟨t, o, xs, rfl, upd_same, ho, dpAll_ex (Ex.new ht) _ hd⟩⟩
end
end WR
-- auto
set_option Elab.async false
set_option linter.all false
set_option maxRecDepth 100000
set_option maxHeartbeats 1000000
namespace WR
open PySem PySem.Spec PyProof.Rows L2 Evl

/-! ### forms are equal just where the rows are -/
theorem rows_form {l : Nat} {A : List (List Nat)} (W : WebP l A) : SameL l (formI l A) A := by
  have hl : (formI l A).length = A.length := form_len W
  have hp : (odL l A).Perm (List.range (l + A.length)) := by
    refine (List.perm_ext_iff_of_nodup odL_nd List.nodup_range).mpr fun c => ?_
    unfold odL
    rw [List.mem_append, List.mem_range, List.mem_range, mem_ordI]
    omega
  unfold SameL
  have e : rowsI l (formI l A) = (odL l A).map (rowI l A) := by
    unfold rowsI
    rw [hl]
    refine List.ext_getElem? fun k => ?_
    rw [List.getElem?_map, List.getElem?_map]
    by_cases z : k < l + A.length
    · rw [List.getElem?_range z, List.getElem?_eq_getElem (by rw [odL_len]; exact z), Option.map_some, Option.map_some, form_row W z, List.getD_eq_getElem?_getD, List.getElem?_eq_getElem (by rw [odL_len]; exact z)]
      rfl
    · rw [List.getElem?_eq_none (by rw [List.length_range]; omega), List.getElem?_eq_none (by rw [odL_len]; omega)]
      rfl
  rw [e]
  exact hp.map _
section
variable {l : Nat} {A B : List (List Nat)} (W : WebP l A) (V' : WebP l B)
include W V'
theorem order_map (h : SameL l A B) : orderL l B = (orderL l A).map (mtN l A B) := by
  have hl := same_len h
  refine List.ext_getElem? fun i => ?_
  rw [List.getElem?_map]
  by_cases z : i < l + A.length
  · obtain ⟨k, hk⟩ : ∃ k, (orderL l A)[i]? = some k := ⟨_, List.getElem?_eq_getElem (by rw [order_len]; exact z)⟩
    have hkn := mem_order.mp (List.mem_of_getElem? hk)
    have h1 := mtN_at (A := A) (B := B) hl hkn
    rw [plc_at orderL_nd hk] at h1
    rw [hk, h1]
    rfl
  · rw [List.getElem?_eq_none (by rw [order_len]; omega), List.getElem?_eq_none (by rw [order_len]; omega)]
    rfl
theorem mt_leaf (h : SameL l A B) {k : Nat} (hk : k < l) : mtN l A B k = k := (img_mt W V' h (img_zero (A := A) (B := B)) (Nat.zero_le _) (List.getElem?_range hk)).symm
theorem mt_in_iff (h : SameL l A B) {k : Nat} (hk : k < l + A.length) : l ≤ mtN l A B k ↔ l ≤ k := by
  constructor
  · intro z
    refine Classical.byContradiction fun y => ?_
    rw [mt_leaf W V' h (by omega)] at z
    exact y z
  · exact fun z => mt_inner W V' h z hk
theorem ordI_map (h : SameL l A B) : ordI l B = (ordI l A).map (mtN l A B) := by
  unfold ordI
  rw [order_map W V' h, List.filter_map]
  congr 1
  refine List.filter_congr fun k hk => ?_
  exact decide_eq_decide.mpr (mt_in_iff W V' h (mem_order.mp hk))
theorem odL_map (h : SameL l A B) : odL l B = (odL l A).map (mtN l A B) := by
  unfold odL
  rw [List.map_append, ← ordI_map W V' h]
  congr 1
  refine ((List.map_congr_left fun k hk => ?_).trans (List.map_id _)).symm
  exact mt_leaf W V' h (List.mem_range.mp hk)
theorem form_same (h : SameL l A B) : formI l A = formI l B := by
  have M := mt_of h
  unfold formI
  rw [ordI_map W V' h, List.map_map]
  refine List.map_congr_left fun u hu => ?_
  have hun := (mem_ordI.mp hu).2
  show itemOf (kidsAt l A) (odL l A) u = itemOf (kidsAt l B) (odL l B) (mtN l A B u)
  unfold itemOf
  congr 1
  have hperm : ((kidsAt l A u).map fun c => ((plc c (odL l A) : Nat) : Int)).Perm ((kidsAt l B (mtN l A B u)).map fun c => ((plc c (odL l B) : Nat) : Int)) := by
    have h1 := ((mt_kids W V' h hun).map fun c => ((plc c (odL l B) : Nat) : Int)).symm
    rw [List.map_map] at h1
    refine (List.Perm.of_eq ?_).trans h1
    refine List.map_congr_left fun c hc => ?_
    show ((plc c (odL l A) : Nat) : Int) = ((plc (mtN l A B c) (odL l B) : Nat) : Int)
    have hcn : c < l + A.length := by have := (kidsAt_lt W.raw hc); omega
    have hmem : c ∈ odL l A := by
      unfold odL
      rw [List.mem_append, List.mem_range, mem_ordI]
      omega
    have h2 : (odL l B)[plc c (odL l A)]? = some (mtN l A B c) := by
      rw [odL_map W V' h, List.getElem?_map, plc_get hmem]
      rfl
    rw [plc_at odL_nd h2]
  exact List.Perm.eq_of_pairwise (fun a b _ _ (x : a ≤ b) (y : b ≤ a) => Int.le_antisymm x y) (sortI_sorted _) (sortI_sorted _) ((sortI_perm _).trans (hperm.trans (sortI_perm _).symm))
theorem form_iff : formI l A = formI l B ↔ SameL l A B := by
  constructor
  · intro e
    have h1 := rows_form W
    rw [e] at h1
    exact h1.symm.trans (rows_form V')
  · exact form_same W V'
end
end WR
set_option Elab.async false
set_option linter.all false
set_option maxRecDepth 100000
set_option maxHeartbeats 1000000
namespace WR
open PySem PySem.Spec PyProof.Rows L2 Evl

/-! ### distances: the mathematics -/
def gapR (l : Nat) (A B : List (List Nat)) (r : List Int) : Int := if (cntR l A r : Int) - (cntR l B r : Int) < 0 then -((cntR l A r : Int) - (cntR l B r : Int)) else (cntR l A r : Int) - (cntR l B r : Int)
theorem gap_nn {l : Nat} {A B : List (List Nat)} {r : List Int} : 0 ≤ gapR l A B r := by
  unfold gapR
  split <;> omega
theorem gap_zero {l : Nat} {A B : List (List Nat)} {r : List Int} : gapR l A B r = 0 ↔ cntR l A r = cntR l B r := by
  unfold gapR
  split <;> omega
theorem gap_swap {l : Nat} {A B : List (List Nat)} {r : List Int} : gapR l A B r = gapR l B A r := by
  unfold gapR
  split <;> split <;> omega
theorem gap_tri {l : Nat} {A B C : List (List Nat)} {r : List Int} : gapR l A B r ≤ gapR l A C r + gapR l C B r := by
  unfold gapR
  split <;> split <;> split <;> omega
theorem isum_perm {α : Type} {f : α → Int} {a b : List α} (h : a.Perm b) : (a.map f).sum = (b.map f).sum := by
  induction h with
  | nil => rfl
  | cons x _ ih => simp only [List.map_cons, List.sum_cons, ih]
  | swap x y l => simp only [List.map_cons, List.sum_cons]; omega
  | trans _ _ h1 h2 => exact h1.trans h2
theorem sum_fil {α : Type} {f : α → Int} {p : α → Bool} : ∀ {l : List α}, (∀ x ∈ l, p x = false → f x = 0) → ((l.filter p).map f).sum = (l.map f).sum
  | [], _ => rfl
  | x :: l, h => by
    have ih := sum_fil (f := f) (p := p) (l := l) fun y hy => h y (List.mem_cons_of_mem _ hy)
    rw [List.filter_cons]
    cases e : p x with
    | true =>
      rw [if_pos rfl, List.map_cons, List.sum_cons, List.map_cons, List.sum_cons, ih]
    | false =>
      rw [if_neg (by decide), List.map_cons, List.sum_cons, ih, h x (List.mem_cons_self ..) e, Int.zero_add]
theorem cnt_none {l : Nat} {A : List (List Nat)} {r : List Int} (h : r ∉ rowsI l A) : cntR l A r = 0 := by
  unfold cntR
  rw [List.countP_eq_zero]
  intro x hx z
  rw [of_decide_eq_true z] at hx
  exact h hx
theorem dist_sum {l : Nat} {A B : List (List Nat)} {U : List (List Int)} (hU : U.Nodup) (hA : ∀ r ∈ rowsI l A, r ∈ U) (hB : ∀ r ∈ rowsI l B, r ∈ U) : distI l A B = (U.map (gapR l A B)).sum := by
  have h1 : distI l A B = ((uniR l A B).map (gapR l A B)).sum := by
    show ((partR l A B).map (gapR l A B)).sum = _
    unfold partR
    refine sum_fil fun r _ h => ?_
    have : cntR l A r = cntR l B r := by simpa using h
    exact gap_zero.mpr this
  rw [h1]
  have h2 : (U.filter fun r => decide (r ∈ uniR l A B)).Perm (uniR l A B) := by
    refine (List.perm_ext_iff_of_nodup (hU.sublist List.filter_sublist) nd_uniR).mpr fun r => ?_
    rw [List.mem_filter]
    constructor
    · exact fun h => of_decide_eq_true h.2
    · intro h
      refine ⟨?_, decide_eq_true h⟩
      rcases mem_uniR.mp h with h | h
      · exact hA r h
      · exact hB r h
  rw [← isum_perm h2]
  refine sum_fil fun r _ h => ?_
  have h : r ∉ uniR l A B := of_decide_eq_false h
  refine gap_zero.mpr ?_
  rw [cnt_none fun z => h (mem_uniR.mpr (.inl z)), cnt_none fun z => h (mem_uniR.mpr (.inr z))]
theorem sum_le {α : Type} {f g : α → Int} : ∀ {l : List α}, (∀ x ∈ l, f x ≤ g x) → (l.map f).sum ≤ (l.map g).sum
  | [], _ => Int.le_refl _
  | x :: l, h => by
    have ih := sum_le (f := f) (g := g) (l := l) fun y hy => h y (List.mem_cons_of_mem _ hy)
    have := h x (List.mem_cons_self ..)
    simp only [List.map_cons, List.sum_cons]
    omega
theorem sum_add {α : Type} {f g : α → Int} : ∀ {l : List α}, (l.map fun x => f x + g x).sum = (l.map f).sum + (l.map g).sum
  | [] => rfl
  | x :: l => by
    have ih := sum_add (f := f) (g := g) (l := l)
    simp only [List.map_cons, List.sum_cons]
    omega
theorem isum_zero {α : Type} {f : α → Int} : ∀ {l : List α}, (∀ x ∈ l, 0 ≤ f x) → (l.map f).sum = 0 → ∀ x ∈ l, f x = 0
  | [], _, _, x, hx => by cases hx
  | y :: l, h, e, x, hx => by
    have h0 := h y (List.mem_cons_self ..)
    have hn : ∀ m : List α, (∀ x ∈ m, 0 ≤ f x) → 0 ≤ (m.map f).sum := fun m hm => by
      have := sum_le (f := fun _ => (0 : Int)) (g := f) (l := m) hm
      have e0 : ∀ k : List α, (k.map fun _ => (0 : Int)).sum = 0 := fun k => by
        induction k with
        | nil => rfl
        | cons a k ih => simp only [List.map_cons, List.sum_cons, ih]; rfl
      rw [e0] at this
      exact this
    have h1 := hn l fun z hz => h z (List.mem_cons_of_mem _ hz)
    simp only [List.map_cons, List.sum_cons] at e
    rcases List.mem_cons.mp hx with rfl | hx
    · omega
    · exact isum_zero (fun z hz => h z (List.mem_cons_of_mem _ hz)) (by omega) x hx
theorem isum_nn {α : Type} {f : α → Int} : ∀ {l : List α}, (∀ x ∈ l, 0 ≤ f x) → 0 ≤ (l.map f).sum
  | [], _ => Int.le_refl _
  | x :: l, h => by
    have ih := isum_nn (f := f) (l := l) fun y hy => h y (List.mem_cons_of_mem _ hy)
    have := h x (List.mem_cons_self ..)
    simp only [List.map_cons, List.sum_cons]
    omega
theorem dist_nn {l : Nat} {A B : List (List Nat)} : 0 ≤ distI l A B := by
  rw [dist_sum (A := A) (B := B) nd_uniR (fun r h => mem_uniR.mpr (.inl h)) fun r h => mem_uniR.mpr (.inr h)]
  exact isum_nn fun _ _ => gap_nn
theorem dist_swap {l : Nat} {A B : List (List Nat)} : distI l A B = distI l B A := by
  rw [dist_sum (A := A) (B := B) nd_uniR (fun r h => mem_uniR.mpr (.inl h)) fun r h => mem_uniR.mpr (.inr h), dist_sum (A := B) (B := A) (U := uniR l A B) nd_uniR (fun r h => mem_uniR.mpr (.inr h)) fun r h => mem_uniR.mpr (.inl h)]
  congr 1
  exact List.map_congr_left fun r _ => gap_swap
/-- all rows of three webs -/
def allR (l : Nat) (A B C : List (List Nat)) : List (List Int) := dedR (rowsI l A ++ rowsI l B ++ rowsI l C)
theorem mem_allR {l : Nat} {A B C : List (List Nat)} {r : List Int} : r ∈ allR l A B C ↔ (r ∈ rowsI l A ∨ r ∈ rowsI l B) ∨ r ∈ rowsI l C := by
  unfold allR
  rw [mem_dedR, List.mem_append, List.mem_append]
theorem dist_tri {l : Nat} {A B C : List (List Nat)} : distI l A B ≤ distI l A C + distI l C B := by
  have hA : ∀ r ∈ rowsI l A, r ∈ allR l A B C := fun r h => mem_allR.mpr (.inl (.inl h))
  have hB : ∀ r ∈ rowsI l B, r ∈ allR l A B C := fun r h => mem_allR.mpr (.inl (.inr h))
  have hC : ∀ r ∈ rowsI l C, r ∈ allR l A B C := fun r h => mem_allR.mpr (.inr h)
  rw [dist_sum (U := allR l A B C) nd_dedR hA hB, dist_sum (U := allR l A B C) nd_dedR hA hC, dist_sum (U := allR l A B C) nd_dedR hC hB, ← sum_add]
  exact sum_le fun r _ => gap_tri
theorem cnt_same {l : Nat} {A B : List (List Nat)} {r : List Int} (h : SameL l A B) : cntR l A r = cntR l B r := List.Perm.countP_eq _ h
theorem dist_same {l : Nat} {A B C D : List (List Nat)} (h1 : SameL l A C) (h2 : SameL l B D) : distI l A B = distI l C D := by
  have m1 : ∀ r, r ∈ rowsI l C ↔ r ∈ rowsI l A := fun r => (List.Perm.mem_iff h1).symm
  have m2 : ∀ r, r ∈ rowsI l D ↔ r ∈ rowsI l B := fun r => (List.Perm.mem_iff h2).symm
  rw [dist_sum (A := A) (B := B) nd_uniR (fun r h => mem_uniR.mpr (.inl h)) fun r h => mem_uniR.mpr (.inr h), dist_sum (A := C) (B := D) (U := uniR l A B) nd_uniR (fun r h => mem_uniR.mpr (.inl ((m1 r).mp h))) fun r h => mem_uniR.mpr (.inr ((m2 r).mp h))]
  congr 1
  refine List.map_congr_left fun r _ => ?_
  unfold gapR
  rw [cnt_same h1, cnt_same h2]
theorem same_cnt {l : Nat} {A B : List (List Nat)} (h : ∀ r, cntR l A r = cntR l B r) : SameL l A B := by
  unfold SameL
  refine List.perm_iff_count.mpr fun r => ?_
  have e : ∀ xs : List (List Int), xs.count r = xs.countP fun x => decide (x = r) := fun xs => by
    unfold List.count
    congr 1
    funext x
    by_cases z : x = r
    · rw [z]; simp
    · rw [decide_eq_false z]; simpa using z
  rw [e, e]
  exact h r
theorem dist_zero {l : Nat} {A B : List (List Nat)} : distI l A B = 0 ↔ SameL l A B := by
  constructor
  · intro h
    rw [dist_sum (A := A) (B := B) nd_uniR (fun r h => mem_uniR.mpr (.inl h)) fun r h => mem_uniR.mpr (.inr h)] at h
    have h2 := isum_zero (fun _ _ => gap_nn) h
    refine same_cnt fun r => ?_
    by_cases z : r ∈ uniR l A B
    · exact gap_zero.mp (h2 r z)
    · rw [cnt_none fun y => z (mem_uniR.mpr (.inl y)), cnt_none fun y => z (mem_uniR.mpr (.inr y))]
  · intro h
    rw [dist_sum (A := A) (B := B) nd_uniR (fun r h => mem_uniR.mpr (.inl h)) fun r h => mem_uniR.mpr (.inr h)]
    have : (uniR l A B).map (gapR l A B) = (uniR l A B).map fun _ => (0 : Int) := List.map_congr_left fun r _ => gap_zero.mpr (cnt_same h)
    rw [this]
    generalize uniR l A B = k
    induction k with
    | nil => rfl
    | cons a k ih => simp only [List.map_cons, List.sum_cons, ih]; rfl
theorem dist_self {l : Nat} {A : List (List Nat)} : distI l A A = 0 := dist_zero.mpr (List.Perm.refl _)
theorem sum_one {x : List Int} : ∀ {U : List (List Int)}, U.Nodup → x ∈ U → (U.map fun r => if x = r then (1 : Int) else 0).sum = 1
  | [], _, h => by cases h
  | y :: U, hn, h => by
    rw [List.nodup_cons] at hn
    simp only [List.map_cons, List.sum_cons]
    have h0 : ∀ V : List (List Int), x ∉ V → (V.map fun r => if x = r then (1 : Int) else 0).sum = 0 := fun V hV => by
      induction V with
      | nil => rfl
      | cons a V ih =>
        simp only [List.map_cons, List.sum_cons]
        rw [if_neg fun z => hV (by rw [z]; exact List.mem_cons_self ..), ih fun z => hV (List.mem_cons_of_mem _ z)]
        rfl
    by_cases z : x = y
    · rw [if_pos z, h0 U (z ▸ hn.1)]
      rfl
    · rw [if_neg z, sum_one hn.2 (by
        rcases List.mem_cons.mp h with h | h
        · exact absurd h z
        · exact h)]
      rfl
theorem sum_cnt {U : List (List Int)} (hU : U.Nodup) : ∀ {L : List (List Int)}, (∀ r ∈ L, r ∈ U) → (U.map fun r => ((L.countP fun x => decide (x = r) : Nat) : Int)).sum = (L.length : Int)
  | [], _ => by
    show (U.map fun r => ((0 : Nat) : Int)).sum = 0
    induction U with
    | nil => rfl
    | cons a U ih => 
      simp only [List.map_cons, List.sum_cons]
      rw [ih (List.nodup_cons.mp hU).2 (fun r hr => by cases hr)]
      rfl
  | x :: L, h => by
    have ih := sum_cnt hU (L := L) fun r hr => h r (List.mem_cons_of_mem _ hr)
    have e : (U.map fun r => (((x :: L).countP fun x => decide (x = r) : Nat) : Int)) = U.map fun r => ((L.countP fun x => decide (x = r) : Nat) : Int) + (if x = r then (1 : Int) else 0) := by
      refine List.map_congr_left fun r _ => ?_
      rw [List.countP_cons]
      by_cases z : x = r
      · rw [if_pos (decide_eq_true z), if_pos z, Int.natCast_add]
        rfl
      · rw [if_neg (by rw [decide_eq_false z]; decide), if_neg z, Int.natCast_add]
        rfl
    rw [e, sum_add, ih, sum_one hU (h x (List.mem_cons_self ..)), List.length_cons, Int.natCast_add]
    rfl
theorem dist_par {l : Nat} {A B : List (List Nat)} : (distI l A B + (A.length : Int) + (B.length : Int)) % 2 = 0 := by
  have hA : ∀ r ∈ rowsI l A, r ∈ uniR l A B := fun r h => mem_uniR.mpr (.inl h)
  have hB : ∀ r ∈ rowsI l B, r ∈ uniR l A B := fun r h => mem_uniR.mpr (.inr h)
  have h1 := sum_cnt nd_uniR hA
  have h2 := sum_cnt nd_uniR hB
  have nA : (rowsI l A).length = l + A.length := by unfold rowsI; rw [List.length_map, List.length_range]
  have nB : (rowsI l B).length = l + B.length := by unfold rowsI; rw [List.length_map, List.length_range]
  rw [dist_sum (A := A) (B := B) nd_uniR hA hB]
  have key : ∀ U : List (List Int), ∃ k : Int, (U.map (gapR l A B)).sum + 2 * k = (U.map fun r => ((cntR l A r : Nat) : Int)).sum + (U.map fun r => ((cntR l B r : Nat) : Int)).sum := fun U => by
    induction U with
    | nil => exact ⟨0, rfl⟩
    | cons r U ih =>
      obtain ⟨k, hk⟩ := ih
      simp only [List.map_cons, List.sum_cons]
      by_cases z : cntR l A r ≤ cntR l B r
      · refine ⟨k + cntR l A r, ?_⟩
        have : gapR l A B r = (cntR l B r : Int) - cntR l A r := by
          unfold gapR
          split <;> omega
        omega
      · refine ⟨k + cntR l B r, ?_⟩
        have : gapR l A B r = (cntR l A r : Int) - cntR l B r := by
          unfold gapR
          split <;> omega
        omega
  obtain ⟨k, hk⟩ := key (uniR l A B)
  have e1 : (uniR l A B).map (fun r => ((cntR l A r : Nat) : Int)) = (uniR l A B).map fun r => (((rowsI l A).countP fun x => decide (x = r) : Nat) : Int) := rfl
  have e2 : (uniR l A B).map (fun r => ((cntR l B r : Nat) : Int)) = (uniR l A B).map fun r => (((rowsI l B).countP fun x => decide (x = r) : Nat) : Int) := rfl
  rw [e1, h1, e2, h2, nA, nB] at hk
  omega
theorem dist_le {l : Nat} {A B : List (List Nat)} : distI l A B ≤ ((l + A.length : Nat) : Int) + ((l + B.length : Nat) : Int) := by
  have hA : ∀ r ∈ rowsI l A, r ∈ uniR l A B := fun r h => mem_uniR.mpr (.inl h)
  have hB : ∀ r ∈ rowsI l B, r ∈ uniR l A B := fun r h => mem_uniR.mpr (.inr h)
  have h1 := sum_cnt nd_uniR hA
  have h2 := sum_cnt nd_uniR hB
  have nA : (rowsI l A).length = l + A.length := by unfold rowsI; rw [List.length_map, List.length_range]
  have nB : (rowsI l B).length = l + B.length := by unfold rowsI; rw [List.length_map, List.length_range]
  rw [nA] at h1
  rw [nB] at h2
  rw [dist_sum (A := A) (B := B) nd_uniR hA hB, ← h1, ← h2, ← sum_add]
  refine sum_le fun r _ => ?_
  show gapR l A B r ≤ (cntR l A r : Int) + (cntR l B r : Int)
  unfold gapR
  split <;> omega
/-- the first row that parts -/
theorem part_none {l : Nat} {A B : List (List Nat)} : partR l A B = [] ↔ SameL l A B := by
  constructor
  · intro h
    refine dist_zero.mp ?_
    unfold distI
    rw [h]
    rfl
  · intro h
    unfold partR
    refine List.filter_eq_nil_iff.mpr fun r _ z => ?_
    rw [decide_eq_true (cnt_same h)] at z
    cases z
end WR
set_option Elab.async false
set_option linter.all false
set_option maxRecDepth 100000
set_option maxHeartbeats 2000000
namespace WR
open PySem PySem.Spec PyProof.Rows L2 Evl

/-! ### how often rows stand: tallies -/
/-- the rows, each where it first stands -/
def frs (rows : List (List Int)) : List (List Int) := rows.foldl (fun acc r => if r ∈ acc then acc else acc ++ [r]) []
theorem frs_snoc (rows : List (List Int)) (r : List Int) : frs (rows ++ [r]) = if r ∈ frs rows then frs rows else frs rows ++ [r] := by
  unfold frs
  rw [List.foldl_append]
  rfl
theorem list_snoc_rec {α : Type} {p : List α → Prop} (h0 : p []) (hs : ∀ l a, p l → p (l ++ [a])) (l : List α) : p l := by
  have : ∀ n (l : List α), l.length = n → p l := fun n => by
    induction n with
    | zero => exact fun l h => by rw [List.length_eq_zero_iff.mp h]; exact h0
    | succ n ih =>
      intro l h
      have hne : l ≠ [] := fun z => by rw [z] at h; cases h
      rw [← List.dropLast_concat_getLast hne]
      exact hs _ _ (ih _ (by rw [List.length_dropLast, h]; rfl))
  exact this _ l rfl
theorem mem_frs {x : List Int} (rows : List (List Int)) : x ∈ frs rows ↔ x ∈ rows := by
  refine list_snoc_rec (p := fun rows => x ∈ frs rows ↔ x ∈ rows) Iff.rfl (fun l a ih => ?_) rows
  rw [frs_snoc, List.mem_append, List.mem_singleton, ← ih]
  by_cases z : a ∈ frs l
  · rw [if_pos z]
    exact ⟨.inl, fun h => h.elim id fun e => e ▸ z⟩
  · rw [if_neg z, List.mem_append, List.mem_singleton]
theorem nd_frs (rows : List (List Int)) : (frs rows).Nodup := by
  refine list_snoc_rec (p := fun rows => (frs rows).Nodup) List.nodup_nil (fun l a ih => ?_) rows
  rw [frs_snoc]
  by_cases z : a ∈ frs l
  · rw [if_pos z]
    exact ih
  · rw [if_neg z]
    exact List.nodup_append.mpr ⟨ih, by simp, fun x hx y hy e => z (by rw [List.mem_singleton.mp hy] at e; exact e ▸ hx)⟩
theorem len_frs (rows : List (List Int)) : (frs rows).length ≤ rows.length := by
  refine list_snoc_rec (p := fun rows => (frs rows).length ≤ rows.length) (Nat.le_refl _) (fun l a ih => ?_) rows
  rw [frs_snoc, List.length_append]
  split
  · exact Nat.le_trans ih (Nat.le_add_right _ _)
  · rw [List.length_append]
    simp only [List.length_singleton]
    omega
/-- what the tally holds -/
def tlyM (rows : List (List Int)) : List (List L2.Key × PyData) := (frs rows).map fun r => (keyI r, natD (cntL rows r))
theorem look_map {f : List Int → PyData} {x : List Int} : ∀ {ks : List (List Int)}, lookD (ks.map fun r => (keyI r, f r)) (keyI x) = if x ∈ ks then some (f x) else none
  | [] => rfl
  | k :: ks => by
    have ih := look_map (f := f) (x := x) (ks := ks)
    by_cases e : k = x
    · subst e
      rw [if_pos (List.mem_cons_self ..)]
      simp [lookD, List.find?_cons]
    · have e' : ¬ keyI k = keyI x := fun z => e (keyI_inj z)
      have h1 : lookD ((k :: ks).map fun r => (keyI r, f r)) (keyI x) = lookD (ks.map fun r => (keyI r, f r)) (keyI x) := by
        simp [lookD, List.find?_cons, e']
      rw [h1, ih]
      by_cases z : x ∈ ks
      · rw [if_pos z, if_pos (List.mem_cons_of_mem _ z)]
      · rw [if_neg z, if_neg fun y => (List.mem_cons.mp y).elim (fun y => e y.symm) z]
theorem put_map {f : List Int → PyData} {x : List Int} {d : PyData} {ks : List (List Int)} : putD (ks.map fun r => (keyI r, f r)) (keyI x) d = if x ∈ ks then ks.map fun r => (keyI r, if r = x then d else f r) else ks.map (fun r => (keyI r, f r)) ++ [(keyI x, d)] := by
  unfold putD
  rw [look_map]
  by_cases z : x ∈ ks
  · rw [if_pos z, if_pos z, if_pos (show (some (f x)).isSome = true from rfl), List.map_map]
    refine List.map_congr_left fun r _ => ?_
    show (if keyI r = keyI x then (keyI r, d) else (keyI r, f r)) = _
    by_cases e : r = x
    · rw [e, if_pos rfl, if_pos rfl]
    · rw [if_neg fun y => e (keyI_inj y), if_neg e]
  · rw [if_neg z, if_neg z, if_neg (by decide)]
theorem cntL_snoc {rows : List (List Int)} {r x : List Int} : cntL (rows ++ [r]) x = cntL rows x + if r = x then 1 else 0 := by
  unfold cntL
  rw [List.countP_append, List.countP_cons, List.countP_nil, Nat.zero_add]
  by_cases z : r = x
  · rw [if_pos z, if_pos (decide_eq_true z)]
  · rw [if_neg z, if_neg (by rw [decide_eq_false z]; decide)]
theorem tly_look {rows : List (List Int)} {r : List Int} : lookD (tlyM rows) (keyI r) = if r ∈ rows then some (natD (cntL rows r)) else none := by
  unfold tlyM
  rw [look_map]
  by_cases z : r ∈ rows
  · rw [if_pos z, if_pos ((mem_frs rows).mpr z)]
  · rw [if_neg z, if_neg fun y => z ((mem_frs rows).mp y)]
theorem tly_get {rows : List (List Int)} {r : List Int} : (lookD (tlyM rows) (keyI r)).getD (natD 0) = natD (cntL rows r) := by
  rw [tly_look]
  by_cases z : r ∈ rows
  · rw [if_pos z]
    rfl
  · rw [if_neg z, cntL_none z]
    rfl
theorem tly_put {rows : List (List Int)} {r : List Int} : putD (tlyM rows) (keyI r) (natD (cntL rows r + 1)) = tlyM (rows ++ [r]) := by
  unfold tlyM
  rw [put_map, frs_snoc]
  by_cases z : r ∈ frs rows
  · rw [if_pos z, if_pos z]
    refine List.map_congr_left fun x _ => ?_
    rw [cntL_snoc]
    by_cases e : x = r
    · rw [if_pos e, e, if_pos rfl]
    · rw [if_neg e, if_neg (Ne.symm e), Nat.add_zero]
  · rw [if_neg z, if_neg z, List.map_append]
    congr 1
    · refine List.map_congr_left fun x hx => ?_
      rw [cntL_snoc, if_neg (fun e : r = x => z (by rw [e]; exact hx)), Nat.add_zero]
    · show [(keyI r, natD (cntL rows r + 1))] = [(keyI r, natD (cntL (rows ++ [r]) r))]
      rw [cntL_snoc, if_pos rfl]
theorem tly_len (rows : List (List Int)) : (tlyM rows).length ≤ rows.length := by
  unfold tlyM
  rw [List.length_map]
  exact len_frs rows
theorem nl_tlyM {rows : List (List Int)} : ∀ p ∈ tlyM rows, nl p.2 = true := fun p hp => by
  obtain ⟨r, _, rfl⟩ := List.mem_map.mp hp
  rfl
/-! tally_of -/
def spTly (P : Program) (w : World) (K : PySem.W.Frag) : Sp := fun vs H Q _ => ∃ v rows, vs = [v] ∧ Dp K H v (.tuple (rows.map tupI)) ∧ rows.length ≤ 1000 ∧ ∀ d H', H d = none → Ex H H' → DfD (rowTK P w K) H' d (tlyM rows) → Q (.ref d) H'
abbrev nTly : List Str := ["value", "tally", "row"]
theorem scTly : FnScope nTly ["value"] (defScope s_tally_of) := ⟨rfl, rfl, rfl, by decide +kernel, rfl, by decide +kernel, by decide +kernel⟩
section
variable {P : Program} {w : World} {K : PySem.W.Frag} {mg : Str → Option Value} {base : Heap}
theorem ok_tly {f : Addr} {fd : FuncData} (F : Fun K "tally_of" "tally_of" s_tally_of f fd) : FnOk P w K mg base CX0 1 f fd ["value"] (spTly P w K) := by
  refine F.ok scTly (fun vs H Q E h => ?_) (fun cdv A outer s H vs Q E hr h => ?_)
  · obtain ⟨v, rows, rfl, _⟩ := h
    rfl
  obtain ⟨v, rows, rfl, hv, hl, q⟩ := h
  have hu1 := hu_of hr
  refine ⟨_, pss_cons (ps_set (i := 1) scTly.nd rfl (.inl rfl) (pe_dznew (rowTK P w K)))
    (pss_cons (ps_for PassesOwn.never rfl (pi_tup (pv 0)) (pg_name (i := 2) scTly.nd rfl (.inl rfl))
      (pss_one (ps_dzput (rowTK P w K) (by exact hu1) (pv 1) (pv 2) (pe_op op_add (pe_dzget2 (rowTK P w K) (by exact hu1) (pv 1) (pv 2) pe_int ⟨rfl, rfl, rfl, rfl⟩) pe_int) rfl)))
    (pss_one (ps_ret (pe_frz (pv 1))))), ?_⟩
  refine q_dznew fun d H1 hd e1 hD => ?_
  let S (x2 : Option V) : L2.St := [some v, some (.ref d), x2]
  show tSeq (tFor _ _ _) _ _ (S none) H1
  refine q_forS (H0 := H) (ds := rows.map tupI) e1 (srcS_T (K := K) (v := v) (ev_var rfl) hv) (fun i σ' H' => (∃ x2, σ' = S x2) ∧ Ex H H' ∧ DzD (rowTK P w K) H' d (tlyM (rows.take i))) (fun H2 e2 => ⟨⟨_, rfl⟩, e1.trans e2, hD.ex e2⟩) (fun i σ' H' p => p.2.1) (fun i x y σ' H' hi hy hP => ?_) fun σ' H' hP => ?_
  · obtain ⟨⟨x2, rfl⟩, e2, hD2⟩ := hP
    rw [List.getElem?_map] at hi
    obtain ⟨r, hri, rfl⟩ := Option.map_eq_some_iff.mp hi
    have hil := (List.getElem?_eq_some_iff.mp hri).1
    have hy2 := dp_ex e2 _ hy
    show sDzPut (rowTK P w K) _ _ _ _ (S (some y)) H'
    refine s_dzput (K := K) (T := rowTK P w K) (k := keyI r) (d := natD (cntL (rows.take i) r + 1)) (ed_i (ev_op (x := nV (cntL (rows.take i) r)) (y := .int 1) (ev_i (K := K) (ed_is (ed_dzget2 (d0 := natD 0) (ev_var rfl) (ec_row (r := r) (ed_var rfl hy2)) (ed_i ev_c) hD2) tly_get)) ev_c (rv_I0 (i := (cntL (rows.take i) r : Int)) (j := 1)))) (ev_var rfl) (ec_row (r := r) (ed_var rfl hy2)) hD2 (by have := tly_len (rows.take i); rw [List.length_take] at this; omega) fun H3 o e3 hD3 => ?_
    refine ⟨⟨_, rfl⟩, Ex.mut (e2.trans e3) hd, ?_⟩
    rw [List.take_add_one, hri]
    rw [tly_put] at hD3
    exact hD3
  · obtain ⟨⟨x2, rfl⟩, e2, hD2⟩ := hP
    rw [List.length_map, List.take_length] at hD2
    exact ret_frz (K := K) (ev_var rfl) hD2 fun H3 o e3 hb hF => q d _ hd (hb H (e2.trans e3) hd) hF
end
/-! the tallies of some webs -/
def TlyAt (P : Program) (w : World) (K : PySem.W.Frag) (H : Hp) (p : Addr) (l : Nat) (ws : List (List (List Nat))) : Prop := ∃ ds : List Addr, H p = some (.lst (ds.map V.ref)) ∧ ds.length = ws.length ∧ ∀ (i : Nat) (d : Addr) (A : List (List Nat)), ds[i]? = some d → ws[i]? = some A → DfD (rowTK P w K) H d (tlyM (srtR (rowsI l A)))
theorem TlyAt.ex {P : Program} {w : World} {K : PySem.W.Frag} {H H' : Hp} {p : Addr} {l : Nat} {ws : List (List (List Nat))} (h : TlyAt P w K H p l ws) (e : Ex H H') : TlyAt P w K H' p l ws := by
  obtain ⟨ds, h1, h2, h3⟩ := h
  exact ⟨ds, e _ _ h1, h2, fun i d A a b => (h3 i d A a b).ex e⟩
def spTlys (P : Program) (w : World) (K : PySem.W.Frag) : Sp := fun vs H Q _ => ∃ v l ws, vs = [v] ∧ Dp K H v (.tuple (ws.map (webD l))) ∧ (∀ A ∈ ws, Raw l A) ∧ ws ≠ [] ∧ ws.length ≤ 1000 ∧ ∀ p H', H p = none → Ex H H' → TlyAt P w K H' p l ws → Q (.ref p) H'
abbrev nTlys : List Str := ["some", "web"]
theorem scTlys : FnScope nTlys ["some"] (defScope s_tallies) := ⟨rfl, rfl, rfl, by decide +kernel, rfl, by decide +kernel, by decide +kernel⟩
theorem lot_len {l : Nat} {A : List (List Nat)} (hw : Raw l A) : (srtR (rowsI l A)).length ≤ 28 := by
  have := hw.l8
  have := hw.n20
  rw [srtR_len]
  unfold rowsI
  rw [List.length_map, List.length_range]
  omega
section
variable {P : Program} {w : World} {K : PySem.W.Frag} {mg : Str → Option Value} {base : Heap}
theorem ok_tlys {f fC fL fT : Addr} {fd fdC fdL fdT : FuncData} (F : Fun K "tallies" "tallies" s_tallies f fd)
    (FC : Fun K "check_leaves" "check_leaves" s_check_leaves fC fdC) (bC : Binds K fdC ["one", "other"] []) (gC : mg "check_leaves" = some (.ref fC))
    (FL : Fun K "lot" "lot" sLot fL fdL) (bL : Binds K fdL ["web"] []) (gL : mg "lot" = some (.ref fL))
    (FT : Fun K "tally_of" "tally_of" s_tally_of fT fdT) (bT : Binds K fdT ["value"] []) (gT : mg "tally_of" = some (.ref fT))
    (GC : FnOk P w K mg base CX0 1 fC fdC ["one", "other"] (spCheck K))
    (GL : FnOk P w K mg base CX0 3 fL fdL ["web"] (spLotZ K))
    (GT : FnOk P w K mg base CX0 1 fT fdT ["value"] (spTly P w K)) :
    FnOk P w K mg base CX0 4 f fd ["some"] (spTlys P w K) := by
  refine F.ok scTlys (fun vs H Q E h => ?_) (fun cdv A outer s H vs Q E hr h => ?_)
  · obtain ⟨v, l, ws, rfl, _⟩ := h
    rfl
  obtain ⟨v, l, ws, rfl, hv, hW, hne, hl, q⟩ := h
  have r1 := hr.mono (show 1 ≤ 3 by decide)
  refine ⟨_, pss_cons (ps_for PassesOwn.never rfl (pi_tup (pv 0)) (pg_name (i := 1) scTlys.nd rfl (.inl rfl))
      (pss_one (ps_expr (pe_call GC r1 (by rfl) gC FC.kp bC .nil pass0 (pa_cons (pe_ix (r := rIxT K) ix_tup (pv 0) pe_int (fun _ _ => rfl)) (pa_cons (pv 1) pa_nil))))))
    (pss_one (ps_ret (pe_lc (own := [("web", 1)]) (g := gName 1) (tt := tYes) (te := tCall (spTly P w K) [] E0 (tCons (tCall (spLotZ K) [] E0 (tCons (tVar 1) tNil)) tNil)) rfl scTlys.nd
      (pi_tup (pv 0)) (blkOk_by (N := nTlys) (sc := defScope s_tallies) (by decide +kernel))
      (fun _ _ _ _ _ => pg_name (i := 1) scTlys.nd rfl (Or.inl rfl)) (fun _ _ _ _ _ => pts_nil) (fun _ _ _ _ _ => pe_call GT r1 (by rfl) gT FT.kp bT .nil pass0 (pa_cons (pe_call GL hr (by rfl) gL FL.kp bL .nil pass0 (pa_cons (pv 1) pa_nil)) pa_nil))))), ?_⟩
  obtain ⟨A0, wr, rfl⟩ := List.exists_cons_of_ne_nil hne
  let S (x1 : Option V) : L2.St := [some v, x1]
  show tSeq (tFor _ _ _) _ _ (S none) H
  refine q_forS (H0 := H) (ds := (A0 :: wr).map (webD l)) (Ex.refl H) (srcS_T (K := K) (v := v) (ev_var rfl) hv) (fun i σ' H' => (∃ x1, σ' = S x1) ∧ Ex H H') (fun H2 e2 => ⟨⟨_, rfl⟩, e2⟩) (fun i σ' H' p => p.2) (fun i x y σ' H' hi hy hP => ?_) fun σ' H' hP => ?_
  · obtain ⟨⟨x1, rfl⟩, e2⟩ := hP
    rw [List.getElem?_map] at hi
    obtain ⟨A, hA, rfl⟩ := Option.map_eq_some_iff.mp hi
    show tDrop _ _ (S (some y)) H'
    have h0 : EvD K (tOp (rIxT K) (tVar 0) (tC (.int 0))) (S (some y)) H' (webD l A0) := ed_ixT (n := 0) (ds := (A0 :: wr).map (webD l)) (ed_var rfl (dp_ex e2 _ hv)) (ed_i ev_c) rfl rfl
    exact h0 H' (Ex.refl H') _ fun u H3 e3 hu => ⟨y, rfl, u, y, l, A0, A, rfl, hu, dp_ex (e2.trans e3) _ hy, fun H4 e4 => ⟨⟨_, rfl⟩, (e2.trans e3).trans e4⟩⟩
  · obtain ⟨⟨x1, rfl⟩, e2⟩ := hP
    obtain ⟨a, xs, rfl, hs, hd⟩ := dp_tup (dp_ex e2 _ hv)
    have hxl := dpAll_len hd
    rw [List.length_map] at hxl
    show tLc _ _ _ _ _ (S x1) H' _
    refine ⟨.ref a, rfl, a, rfl, ⟨xs, hs⟩, fun D hD => ?_⟩
    have hDH : H D = none := fresh_back e2 hD
    refine lc_tup (K := K) (xs := xs) (fun i H5 => Ex H' H5 ∧ ∃ ds : List Addr, H5 D = some (.lst (ds.map V.ref)) ∧ ds.length = i ∧ ∀ (j : Nat) (d : Addr) (A : List (List Nat)), ds[j]? = some d → (A0 :: wr)[j]? = some A → DfD (rowTK P w K) H5 d (tlyM (srtR (rowsI l A))))
      ⟨Ex.new hD, [], upd_same, rfl, fun j d A h => by cases h⟩ (fun i H5 _ hP => ex_t hP.1 hs) (fun i x H5 hx hP => ?_) fun H5 hP => ?_
    · obtain ⟨e5, ds, hD5, hdl, hF⟩ := hP
      obtain ⟨dd, hdd, hdx⟩ := dpAll_at hd hx
      rw [List.getElem?_map] at hdd
      obtain ⟨A, hA, rfl⟩ := Option.map_eq_some_iff.mp hdd
      have hAm := List.mem_of_getElem? hA
      have hil := (List.getElem?_eq_some_iff.mp hA).1
      refine ⟨rfl, yes_ ?_⟩
      refine ⟨x, rfl, x, l, A, rfl, dp_ex e5 _ hdx, hW A hAm, fun y1 H6 e6 z1 => ?_⟩
      refine ⟨y1, srtR (rowsI l A), rfl, z1.dp, by have := lot_len (hW A hAm); omega, fun d H7 hd7 e7 hF7 => ?_⟩
      have e67 := e6.trans e7
      have hD7 := e67 _ _ hD5
      have hne7 : ∀ {c : Addr} {m}, DfD (rowTK P w K) H7 c m → (∀ p ∈ m, nl p.2 = true) → DfD (rowTK P w K) (upd H7 D (.lst (ds.map V.ref ++ [V.ref d]))) c m := fun {c m} h hn => h.upd hD7 hn
      refine ⟨ds.map V.ref, hD7, sz_lt (by rw [List.length_map]; omega), Ex.mut (e5.trans e67) hD, ds ++ [d], by rw [List.map_append]; exact upd_same, by rw [List.length_append, hdl]; rfl, fun j c A' hc hA' => hne7 ?_ nl_tlyM⟩
      by_cases hj : j < ds.length
      · rw [List.getElem?_append_left hj] at hc
        exact (hF j c A' hc hA').ex e67
      · have hj2 : j = i := by
          have := (List.getElem?_eq_some_iff.mp hc).1
          rw [List.length_append] at this
          simp only [List.length_singleton] at this
          omega
        subst hj2
        rw [List.getElem?_append_right (by omega), hdl, Nat.sub_self] at hc
        cases hc
        rw [hA] at hA'
        cases hA'
        exact hF7
    · obtain ⟨e5, ds, hD5, hdl, hF⟩ := hP
      exact q D H5 hDH (e2.trans e5) ⟨ds, hD5, by omega, hF⟩
end
end WR
set_option Elab.async false
set_option linter.all false
set_option maxRecDepth 100000
set_option maxHeartbeats 2000000
namespace WR
open PySem PySem.Spec PyProof.Rows L2 Evl

/-! ### comprehensions with two walks over what stands in the base -/
/-- n values, the i-th one told by Y, out of what stands in H -/
def SrcV (wi : TI) (σ : L2.St) (H : Hp) (n : Nat) (Y : Nat → V → Prop) : Prop :=
  ∀ H1, Ex H H1 → ∀ R : It → Hp → Prop, (∀ J H2 (G : Hp → Prop), Ex H1 H2 → (∀ H', Ex H H' → G H') → Walk J n G (fun i Hc x H' => H' = Hc ∧ Y i x) → R J H2) → wi σ H1 R
section
variable {K : PySem.W.Frag} {σ : L2.St} {H H' : Hp} {te tl : TE} {wi wi1 : TI}
theorem SrcS.v {ds : List PyData} (h : SrcS K wi σ H ds) : SrcV wi σ H ds.length (fun i x => ∃ d, ds[i]? = some d ∧ Dp K H x d) := h
theorem srcV_L {p : Addr} {xs : List V} (h : Ev tl σ H (.ref p)) (hp : H p = some (.lst xs)) : SrcV (iList K tl) σ H xs.length (fun i x => xs[i]? = some x) := fun H1 e R k => h H1 e _ fun H2 e2 =>
  ⟨p, rfl, ⟨xs, sq_of ((e.trans e2) _ _ hp)⟩, k _ H2 _ e2 (fun H' e3 => sq_of (e3 _ _ hp)) ((walk_list (K := K) (a := p) (xs := xs)).mono (fun H h => h) fun i H x H' hi hg hy => hy)⟩
theorem fm_snoc {α : Type} (f : Nat → List α) (n : Nat) : (List.range (n + 1)).flatMap f = (List.range n).flatMap f ++ f n := by
  rw [List.range_succ, List.flatMap_append]
  simp
theorem fm_len {α : Type} (f : Nat → List α) : ∀ {n i : Nat}, i ≤ n → ((List.range i).flatMap f).length ≤ ((List.range n).flatMap f).length
  | 0, i, h => by
    rw [Nat.le_zero.mp h]
    exact Nat.le_refl _
  | n + 1, i, h => by
    by_cases z : i = n + 1
    · rw [z]
      exact Nat.le_refl _
    · have := fm_len f (n := n) (i := i) (by omega)
      rw [fm_snoc, List.length_append]
      omega
theorem en_flatV {a b : Nat} {vs vs1 : List Nat} {n : Nat} {m : Nat → Nat} {Y : Nat → V → Prop} {Z : Nat → V → Nat → V → Prop} (g : Nat → Nat → PyData) (h : SrcV wi σ H n Y)
    (hz : ((List.range n).flatMap fun i => (List.range (m i)).map (g i)).length ≤ 100000)
    (hw : ∀ x, wipe ((wipe σ vs).set a (some x)) vs = wipe σ vs) (hw1 : ∀ x y, wipe ((wipe ((wipe σ vs).set a (some x)) vs1).set b (some y)) vs1 = wipe ((wipe σ vs).set a (some x)) vs1)
    (hi : ∀ i x, i < n → Y i x → SrcV wi1 ((wipe σ vs).set a (some x)) H (m i) (Z i x))
    (hv : ∀ i x j y H1, Ex H H1 → i < n → j < m i → Y i x → Z i x j y → EvD K te ((wipe ((wipe σ vs).set a (some x)) vs1).set b (some y)) H1 (g i j)) (hn : ∀ i j, i < n → j < m i → nl (g i j) = true) :
    EvN K (tLc2 wi (gName a) tYes wi1 (gName b) tYes te vs vs1) σ H ((List.range n).flatMap fun i => (List.range (m i)).map (g i)) := fun H1 e Q q => h H1 e _ fun J H2 G e2 hg w Dl hD => by
  have nlA : ∀ i j, i < n → j ≤ m i → nlAll (((List.range i).flatMap fun i => (List.range (m i)).map (g i)) ++ (List.range j).map (g i)) = true := fun i j hi hj => nlAll_mem fun d hd => by
    rcases List.mem_append.mp hd with hd | hd
    · obtain ⟨i', h1, h2⟩ := List.mem_flatMap.mp hd
      obtain ⟨j', h3, rfl⟩ := List.mem_map.mp h2
      exact hn i' j' (by have := List.mem_range.mp h1; omega) (List.mem_range.mp h3)
    · obtain ⟨j', h3, rfl⟩ := List.mem_map.mp hd
      exact hn i j' hi (by have := List.mem_range.mp h3; omega)
  let P (i : Nat) (H' : Hp) : Prop := Ex H2 H' ∧ ∃ acc, H' Dl = some (.lst acc) ∧ DpAll K H' acc ((List.range i).flatMap fun i => (List.range (m i)).map (g i))
  refine ⟨fun i k H' => k = n - i ∧ i ≤ n ∧ P i H', ⟨n, rfl, Nat.zero_le _, Ex.new hD, [], upd_same, .nil⟩, ?_⟩
  rintro i k H' ⟨rfl, hin, e1, acc, ha, hc⟩
  by_cases hlt : i < n
  · refine .inr ⟨w.goes i H' hlt (hg H' ((e.trans e2).trans e1)), P (i + 1), fun H'' p => ⟨n - (i + 1), by omega, rfl, hlt, p⟩, fun x H'' y => ?_⟩
    obtain ⟨rfl, hY⟩ := w.yields i H' x H'' hlt (hg H' ((e.trans e2).trans e1)) y
    refine ⟨hw x, yes_ ?_⟩
    refine hi i x hlt hY _ ((e.trans e2).trans e1) _ fun J1 H4 G1 e4 hg1 w1 => ?_
    have e14 := e1.trans e4
    refine ⟨fun j k H' => k = m i - j ∧ j ≤ m i ∧ Ex H2 H' ∧ ∃ acc, H' Dl = some (.lst acc) ∧ DpAll K H' acc (((List.range i).flatMap fun i => (List.range (m i)).map (g i)) ++ (List.range j).map (g i)),
      ⟨m i, rfl, Nat.zero_le _, e14, acc, e4 _ _ ha, by simpa using dpAll_ex e4 _ hc⟩, ?_⟩
    rintro j k5 H5 ⟨rfl, hj, e5, acc5, ha5, hc5⟩
    by_cases hjl : j < m i
    · refine .inr ⟨w1.goes j H5 hjl (hg1 H5 ((e.trans e2).trans e5)), fun H6 => Ex H2 H6 ∧ ∃ acc, H6 Dl = some (.lst acc) ∧ DpAll K H6 acc (((List.range i).flatMap fun i => (List.range (m i)).map (g i)) ++ (List.range (j + 1)).map (g i)), fun H6 p => ⟨m i - (j + 1), by omega, rfl, hjl, p⟩, fun z H6 y2 => ?_⟩
      obtain ⟨rfl, hZ⟩ := w1.yields j H5 z H6 hjl (hg1 H5 ((e.trans e2).trans e5)) y2
      refine ⟨hw1 x z, yes_ ?_⟩
      refine hv i x j z _ ((e.trans e2).trans e5) hlt hjl hY hZ _ (Ex.refl _) _ fun u H7 e7 hu => ?_
      have ha7 := e7 _ _ ha5
      have hl7 := dpAll_len hc5
      rw [List.length_append, List.length_map, List.length_range] at hl7
      have hle : ((List.range (i + 1)).flatMap fun i => (List.range (m i)).map (g i)).length ≤ 100000 := Nat.le_trans (fm_len _ hlt) hz
      rw [fm_snoc, List.length_append, List.length_map, List.length_range] at hle
      refine ⟨acc5, ha7, sz_lt (by omega), Ex.mut (e5.trans e7) hD, _, upd_same, ?_⟩
      rw [List.range_succ, List.map_append, ← List.append_assoc]
      exact dpAll_snoc (dpAll_updL ha7 _ (nlA i j hlt hj) (dpAll_ex e7 _ hc5)) (dp_updL ha7 _ (hn i j hlt hjl) hu)
    · have hje : j = m i := by omega
      subst hje
      refine .inl ⟨w1.stops H5 (hg1 H5 ((e.trans e2).trans e5)), e5, acc5, ha5, ?_⟩
      rw [fm_snoc]
      exact hc5
  · have hie : i = n := by omega
    subst hie
    exact .inl ⟨w.stops H' (hg H' ((e.trans e2).trans e1)), q Dl acc H' (fresh_back e2 hD) (e2.trans e1) ha hc⟩
/-- one walk -/
theorem en_mapV {j : Nat} {vs : List Nat} {n : Nat} {Y : Nat → V → Prop} (g : Nat → PyData) (h : SrcV wi σ H n Y) (hl : n ≤ 40000) (hw : ∀ x, wipe ((wipe σ vs).set j (some x)) vs = wipe σ vs)
    (hv : ∀ i x H1, Ex H H1 → i < n → Y i x → EvD K te ((wipe σ vs).set j (some x)) H1 (g i)) (hn : ∀ i, i < n → nl (g i) = true) :
    EvN K (tLc wi (gName j) tYes te vs) σ H ((List.range n).map g) := fun H1 e Q q => h H1 e _ fun J H2 G e2 hg w Dl hD => by
  refine lc_it w (fun m H' => Ex H2 H' ∧ m ≤ n ∧ ∃ acc, H' Dl = some (.lst acc) ∧ DpAll K H' acc ((List.range m).map g)) ⟨Ex.new hD, Nat.zero_le _, [], upd_same, .nil⟩ (fun m H' _ p => hg H' ((e.trans e2).trans p.1)) (fun m x H' H'' hm p hy => ?_) (fun H' p => ?_)
  · obtain ⟨rfl, hY⟩ := hy
    obtain ⟨p1, _, acc, p2, p3⟩ := p
    refine ⟨hw _, yes_ ?_⟩
    refine hv m x _ ((e.trans e2).trans p1) hm hY _ (Ex.refl _) _ fun y H4 e4 hyr => ⟨acc, e4 _ _ p2, sz_lt ?_, Ex.mut (p1.trans e4) hD, hm, _, upd_same, ?_⟩
    · rw [dpAll_len p3, List.length_map, List.length_range]
      omega
    · rw [List.range_succ, List.map_append]
      have hall : nlAll ((List.range m).map g) = true := nlAll_mem fun r' hr' => by
        obtain ⟨c, h1, rfl⟩ := List.mem_map.mp hr'
        exact hn c (by have := List.mem_range.mp h1; omega)
      exact dpAll_snoc (dpAll_updL (e4 _ _ p2) _ hall (dpAll_ex e4 _ p3)) (dp_updL (e4 _ _ p2) _ (hn m hm) hyr)
  · obtain ⟨p1, _, acc, p2, p3⟩ := p
    exact q Dl acc H' (fresh_back e2 hD) (e2.trans p1) p2 p3
/-- one walk, with a test -/
theorem en_filV {j : Nat} {vs : List Nat} {n : Nat} {tt : TT} {Y : Nat → V → Prop} (b : Nat → Bool) (g : Nat → PyData) (h : SrcV wi σ H n Y) (hl : n ≤ 40000) (hw : ∀ x, wipe ((wipe σ vs).set j (some x)) vs = wipe σ vs)
    (hv : ∀ i x H1, Ex H H1 → i < n → Y i x → EvT tt ((wipe σ vs).set j (some x)) H1 (b i) ∧ (b i = true → EvD K te ((wipe σ vs).set j (some x)) H1 (g i))) (hn : ∀ i, i < n → nl (g i) = true) :
    EvN K (tLc wi (gName j) tt te vs) σ H (((List.range n).filter b).map g) := fun H1 e Q q => h H1 e _ fun J H2 G e2 hg w Dl hD => by
  refine lc_it w (fun m H' => Ex H2 H' ∧ m ≤ n ∧ ∃ acc, H' Dl = some (.lst acc) ∧ DpAll K H' acc (((List.range m).filter b).map g)) ⟨Ex.new hD, Nat.zero_le _, [], upd_same, .nil⟩ (fun m H' _ p => hg H' ((e.trans e2).trans p.1)) (fun m x H' H'' hm p hy => ?_) (fun H' p => ?_)
  · obtain ⟨rfl, hY⟩ := hy
    obtain ⟨p1, _, acc, p2, p3⟩ := p
    obtain ⟨h1, h2⟩ := hv m x _ ((e.trans e2).trans p1) hm hY
    refine ⟨hw _, h1 _ (Ex.refl _) _ fun H3 e3 => ?_⟩
    have hle : acc.length ≤ n := by
      rw [dpAll_len p3, List.length_map]
      refine Nat.le_trans (List.length_filter_le _ _) ?_
      rw [List.length_range]
      omega
    cases hb : b m with
    | false =>
      refine ⟨p1.trans e3, hm, acc, e3 _ _ p2, ?_⟩
      rw [List.range_succ, List.filter_append, List.filter_cons, hb]
      simpa using dpAll_ex e3 _ p3
    | true =>
      refine h2 hb H3 e3 _ fun y H4 e4 hyr => ⟨acc, e4 _ _ (e3 _ _ p2), sz_lt (by omega), Ex.mut ((p1.trans e3).trans e4) hD, hm, _, upd_same, ?_⟩
      have e5 : ((List.range (m + 1)).filter b).map g = ((List.range m).filter b).map g ++ [g m] := by
        rw [List.range_succ, List.filter_append, List.filter_cons, hb, List.map_append]
        rfl
      rw [e5]
      have hall : nlAll (((List.range m).filter b).map g) = true := nlAll_mem fun r' hr' => by
        obtain ⟨c, h1, rfl⟩ := List.mem_map.mp hr'
        exact hn c (by have := List.mem_range.mp (List.mem_filter.mp h1).1; omega)
      exact dpAll_snoc (dpAll_updL (e4 _ _ (e3 _ _ p2)) _ hall (dpAll_ex (e3.trans e4) _ p3)) (dp_updL (e4 _ _ (e3 _ _ p2)) _ (hn m hm) hyr)
  · obtain ⟨p1, _, acc, p2, p3⟩ := p
    exact q Dl acc H' (fresh_back e2 hD) (e2.trans p1) p2 p3
/-- for x in a new list of data, while the list at pf changes -/
theorem q_forBut {j : Nat} {pf : Addr} {ys0 : List V} {ds : List PyData} {D : Ends} {tu tz : TS} (h : EvN K te σ H ds) (hn : nlAll ds = true) (hpf : H pf = some (.lst ys0))
    (k : ∀ H2, Ex H H2 → ∃ Pv : Nat → L2.St → Hp → Prop, Pv 0 σ H2 ∧ (∀ i σ' H', Pv i σ' H' → Ex (rem H2 pf) H') ∧
      (∀ i d x σ' H', ds[i]? = some d → Dp K H' x d → Pv i σ' H' → tu { D with nx := Pv (i + 1), ct := Pv (i + 1), bk := tz D } (σ'.set j (some x)) H') ∧ ∀ σ' H', Pv ds.length σ' H' → tz D σ' H') :
    tSeq (tFor (iList K te) (gName j) tu) tz D σ H := h H (Ex.refl H) _ fun p xs H2 hp e2 hx hd => by
  obtain ⟨Pv, h0, hG, hs, hdn⟩ := k H2 e2
  have hne : p ≠ pf := fun z => by
    rw [z, hpf] at hp
    cases hp
  have hpf2 := e2 _ _ hpf
  have hxr : (rem H2 pf) p = some (.lst xs) := by rw [rem_ne hne]; exact hx
  have hdr := dpAll_rem hpf2 _ hn hd
  have hl := dpAll_len hd
  refine ⟨p, rfl, ⟨xs, sq_of hx⟩, for_it (walk_list (K := K) (a := p) (xs := xs)) (D := { D with nx := tz D }) Pv h0 (fun i σ' H' _ q => sq_of (hG i σ' H' q _ _ hxr)) (fun i x σ' Hc H' hi q hy => ?_) fun σ' H' q => hdn σ' H' (by rw [← hl]; exact q)⟩
  obtain ⟨rfl, hy⟩ := hy
  obtain ⟨d, hdi, hdx⟩ := dpAll_at hdr hy
  exact hs i d x σ' _ hdi (dp_ex (hG i σ' _ q) _ hdx) q
end
end WR
set_option Elab.async false
set_option linter.all false
set_option maxRecDepth 100000
set_option maxHeartbeats 1000000
namespace WR
open PySem PySem.Spec PyProof.Rows L2 Evl
/-! ### [x for x in data if ..], [f(x) for x in data if ..] -/
section
variable {K : PySem.W.Frag} {σ : L2.St} {H : Hp} {ta tb te : TE} {tt : TT} {wi : TI} {vs : List Nat}
theorem en_dFl {j : Nat} {wi : TI} {vs : List Nat} {α : Type} {ks : List α} (b : α → Bool) (A : α → PyData) (h : Src K wi σ H (ks.map A)) (hl : ks.length ≤ 40000) (hw : ∀ x, wipe ((wipe σ vs).set j (some x)) vs = wipe σ vs)
    (hv : ∀ k x H1, Ex H H1 → k ∈ ks → Dp K H1 x (A k) → EvT tt ((wipe σ vs).set j (some x)) H1 (b k) ∧ EvD K te ((wipe σ vs).set j (some x)) H1 (A k)) (hg : ∀ k ∈ ks, nl (A k) = true) :
    EvN K (tLc wi (gName j) tt te vs) σ H ((ks.filter b).map A) := fun H1 e Q q => h H1 e _ fun J H2 G e2 hg' w Dl hD => by
  refine lc_it w (fun m H' => Ex H2 H' ∧ ∃ acc, H' Dl = some (.lst acc) ∧ DpAll K H' acc (((ks.take m).filter b).map A)) ⟨Ex.new hD, [], upd_same, by simpa using DpAll.nil⟩ (fun m H' _ p => hg' H' p.1) (fun m x H' H'' hm p hy => ?_) (fun H' p => ?_)
  · obtain ⟨rfl, d, hd, hx⟩ := hy
    obtain ⟨p1, acc, p2, p3⟩ := p
    rw [List.getElem?_map] at hd
    obtain ⟨k, hk, rfl⟩ := Option.map_eq_some_iff.mp hd
    have hkm := List.mem_of_getElem? hk
    have e3 : Ex H _ := (e.trans e2).trans p1
    obtain ⟨h1, h2⟩ := hv k x _ e3 hkm hx
    have htk : ks.take (m + 1) = ks.take m ++ [k] := by rw [List.take_add_one, hk]; rfl
    refine ⟨hw _, h1 _ (Ex.refl _) _ fun H3 e4 => ?_⟩
    have hle : acc.length ≤ ks.length := by
      rw [dpAll_len p3, List.length_map]
      exact Nat.le_trans (List.length_filter_le _ _) (by rw [List.length_take]; omega)
    cases hf : b k with
    | false =>
      show Ex H2 H3 ∧ _
      refine ⟨p1.trans e4, acc, e4 _ _ p2, ?_⟩
      rw [htk, List.filter_append, List.filter_cons, hf]
      simpa using dpAll_ex e4 _ p3
    | true =>
      show te _ H3 _
      refine h2 H3 e4 _ fun y H4 e5 hyr => ⟨acc, e5 _ _ (e4 _ _ p2), sz_lt (by omega), Ex.mut ((p1.trans e4).trans e5) hD, _, upd_same, ?_⟩
      have hlst : ((ks.take (m + 1)).filter b).map A = ((ks.take m).filter b).map A ++ [A k] := by
        rw [htk, List.filter_append, List.filter_cons, hf, List.map_append]
        rfl
      rw [hlst]
      have hall : nlAll (((ks.take m).filter b).map A) = true := nlAll_mem fun r' hr' => by
        obtain ⟨c, h1, rfl⟩ := List.mem_map.mp hr'
        exact hg c (List.mem_of_mem_take (List.mem_filter.mp h1).1)
      exact dpAll_snoc (dpAll_updL (e5 _ _ (e4 _ _ p2)) _ hall (dpAll_ex (e4.trans e5) _ p3)) (dp_updL (e5 _ _ (e4 _ _ p2)) _ (hg k hkm) hyr)
  · obtain ⟨p1, acc, p2, p3⟩ := p
    rw [List.length_map, List.take_length] at p3
    exact q Dl acc H' (fresh_back e2 hD) (e2.trans p1) p2 p3
theorem en_dFlG {j : Nat} {α : Type} {ks : List α} (b : α → Bool) (A g : α → PyData) (h : Src K wi σ H (ks.map A)) (hl : ks.length ≤ 40000) (hw : ∀ x, wipe ((wipe σ vs).set j (some x)) vs = wipe σ vs)
    (hv : ∀ k x H1, Ex H H1 → k ∈ ks → Dp K H1 x (A k) → EvT tt ((wipe σ vs).set j (some x)) H1 (b k) ∧ (b k = true → EvD K te ((wipe σ vs).set j (some x)) H1 (g k))) (hg : ∀ k ∈ ks, nl (g k) = true) :
    EvN K (tLc wi (gName j) tt te vs) σ H ((ks.filter b).map g) := fun H1 e Q q => h H1 e _ fun J H2 G e2 hg' w Dl hD => by
  refine lc_it w (fun m H' => Ex H2 H' ∧ ∃ acc, H' Dl = some (.lst acc) ∧ DpAll K H' acc (((ks.take m).filter b).map g)) ⟨Ex.new hD, [], upd_same, by simpa using DpAll.nil⟩ (fun m H' _ p => hg' H' p.1) (fun m x H' H'' hm p hy => ?_) (fun H' p => ?_)
  · obtain ⟨rfl, d, hd, hx⟩ := hy
    obtain ⟨p1, acc, p2, p3⟩ := p
    rw [List.getElem?_map] at hd
    obtain ⟨k, hk, rfl⟩ := Option.map_eq_some_iff.mp hd
    have hkm := List.mem_of_getElem? hk
    have e3 : Ex H _ := (e.trans e2).trans p1
    obtain ⟨h1, h2⟩ := hv k x _ e3 hkm hx
    have htk : ks.take (m + 1) = ks.take m ++ [k] := by rw [List.take_add_one, hk]; rfl
    refine ⟨hw _, h1 _ (Ex.refl _) _ fun H3 e4 => ?_⟩
    have hle : acc.length ≤ ks.length := by
      rw [dpAll_len p3, List.length_map]
      exact Nat.le_trans (List.length_filter_le _ _) (by rw [List.length_take]; omega)
    cases hf : b k with
    | false =>
      show Ex H2 H3 ∧ _
      refine ⟨p1.trans e4, acc, e4 _ _ p2, ?_⟩
      rw [htk, List.filter_append, List.filter_cons, hf]
      simpa using dpAll_ex e4 _ p3
    | true =>
      show te _ H3 _
      refine h2 hf H3 e4 _ fun y H4 e5 hyr => ⟨acc, e5 _ _ (e4 _ _ p2), sz_lt (by omega), Ex.mut ((p1.trans e4).trans e5) hD, _, upd_same, ?_⟩
      have hlst : ((ks.take (m + 1)).filter b).map g = ((ks.take m).filter b).map g ++ [g k] := by
        rw [htk, List.filter_append, List.filter_cons, hf, List.map_append]
        rfl
      rw [hlst]
      have hall : nlAll (((ks.take m).filter b).map g) = true := nlAll_mem fun r' hr' => by
        obtain ⟨c, h1, rfl⟩ := List.mem_map.mp hr'
        exact hg c (List.mem_of_mem_take (List.mem_filter.mp h1).1)
      exact dpAll_snoc (dpAll_updL (e5 _ _ (e4 _ _ p2)) _ hall (dpAll_ex (e4.trans e5) _ p3)) (dp_updL (e5 _ _ (e4 _ _ p2)) _ (hg k hkm) hyr)
  · obtain ⟨p1, acc, p2, p3⟩ := p
    rw [List.length_map, List.take_length] at p3
    exact q Dl acc H' (fresh_back e2 hD) (e2.trans p1) p2 p3
theorem en_lsR1 {n : Nat} (h1 : Ev ta σ H (nV n)) (hn : n ≤ 1000) : EvN K (tLstRg (tRg1 ta)) σ H (natDs (List.range n)) := fun H1 e Q q =>
  h1 H1 e _ fun H2 e2 => ⟨(n : Int), rfl, RgOk.of_le (by omega) (by omega) (by omega) (by omega), fun p hp => by
    rw [rgV_nat]
    exact q p _ _ (fresh_back e2 hp) (e2.trans (Ex.new hp)) upd_same (dpAll_nat _)⟩
end
end WR
set_option Elab.async false
set_option linter.all false
set_option maxRecDepth 100000
set_option maxHeartbeats 2000000
namespace WR
open PySem PySem.Spec PyProof.Rows L2 Evl

/-! ### distance -/
section
variable {K : PySem.W.Frag} {σ : L2.St} {H : Hp} {te : TE} {wi : TI} {vs : List Nat}
/-- [.. for a, b, c in triples] -/
theorem en_trip3 {i j m : Nat} {α : Type} {ks : List α} (A B C g : α → PyData) (h : Src K wi σ H (ks.map fun k => .tuple [A k, B k, C k])) (hl : ks.length ≤ 40000) (hw : ∀ x y z, wipe ((((wipe σ vs).set i (some x)).set j (some y)).set m (some z)) vs = wipe σ vs)
    (hv : ∀ k x y z H1, Ex H H1 → k ∈ ks → Dp K H1 x (A k) → Dp K H1 y (B k) → Dp K H1 z (C k) → EvD K te ((((wipe σ vs).set i (some x)).set j (some y)).set m (some z)) H1 (g k)) (hg : ∀ k ∈ ks, nl (g k) = true) :
    EvN K (tLc wi (gTup K 3 (gCons (gName i) (gCons (gName j) (gCons (gName m) gNil)))) tYes te vs) σ H (ks.map g) := fun H1 e Q q => h H1 e _ fun J H2 G e2 hg' w Dl hD => by
  refine lc_it w (fun n H' => Ex H2 H' ∧ ∃ acc, H' Dl = some (.lst acc) ∧ DpAll K H' acc ((ks.take n).map g)) ⟨Ex.new hD, [], upd_same, by simpa using DpAll.nil⟩ (fun n H' _ p => hg' H' p.1) (fun n x H' H'' hm p hy => ?_) (fun H' p => ?_)
  · obtain ⟨rfl, d, hd, hx⟩ := hy
    obtain ⟨p1, acc, p2, p3⟩ := p
    rw [List.getElem?_map] at hd
    obtain ⟨k, hk, rfl⟩ := Option.map_eq_some_iff.mp hd
    have hml := (List.getElem?_eq_some_iff.mp hk).1
    obtain ⟨a, xs, rfl, hs, hdx⟩ := dp_tup hx
    cases hdx with
    | cons d1 d2 =>
      cases d2 with
      | cons d2 d3 =>
        cases d3 with
        | cons d3 d4 =>
        cases d4
        refine ⟨a, _, rfl, hs, rfl, _, _, rfl, _, _, rfl, _, _, rfl, rfl, hw _ _ _, yes_ ?_⟩
        have e3 : Ex H _ := (e.trans e2).trans p1
        refine hv k _ _ _ _ e3 (List.mem_of_getElem? hk) d1 d2 d3 _ (Ex.refl _) _ fun y H4 e4 hyr => ⟨acc, e4 _ _ p2, sz_lt ?_, Ex.mut (p1.trans e4) hD, _, upd_same, ?_⟩
        · rw [dpAll_len p3, List.length_map, List.length_take]
          omega
        · have htk : (ks.take (n + 1)).map g = (ks.take n).map g ++ [g k] := by
            rw [List.take_add_one, hk, List.map_append]
            rfl
          rw [htk]
          have hall : nlAll ((ks.take n).map g) = true := nlAll_mem fun r' hr' => by
            obtain ⟨c, h1, rfl⟩ := List.mem_map.mp hr'
            exact hg c (List.mem_of_mem_take h1)
          exact dpAll_snoc (dpAll_updL (e4 _ _ p2) _ hall (dpAll_ex e4 _ p3)) (dp_updL (e4 _ _ p2) _ (hg k (List.mem_of_getElem? hk)) hyr)
  · obtain ⟨p1, acc, p2, p3⟩ := p
    rw [List.length_map, List.take_length] at p3
    exact q Dl acc H' (fresh_back e2 hD) (e2.trans p1) p2 p3
end
theorem part_len {l : Nat} {A B : List (List Nat)} (wA : Raw l A) (wB : Raw l B) : (partR l A B).length ≤ 1000 := by
  have h8 := wA.l8
  have hA := wA.n20
  have hB := wB.n20
  unfold partR
  refine Nat.le_trans (List.length_filter_le _ _) ?_
  unfold uniR
  rw [(srtR_perm _).length_eq]
  have : ∀ xs : List (List Int), (dedR xs).length ≤ xs.length := fun xs => by
    induction xs with
    | nil => exact Nat.le_refl _
    | cons x r ih =>
      unfold dedR
      split
      · rw [List.length_cons]
        omega
      · rw [List.length_cons, List.length_cons]
        omega
  have h := this (srtR (rowsI l A) ++ srtR (rowsI l B))
  rw [List.length_append, (srtR_perm _).length_eq, (srtR_perm _).length_eq] at h
  unfold rowsI at h ⊢
  rw [List.length_map, List.length_map, List.length_range, List.length_range] at h
  omega
abbrev nDist : List Str := ["one", "other", "times", "others", "_"]
section
variable {P : Program} {w : World} {K : PySem.W.Frag} {mg : Str → Option Value} {base : Heap}
end
end WR
-- auto
set_option Elab.async false
set_option linter.all false
set_option maxRecDepth 100000
set_option maxHeartbeats 2000000
namespace WR
open PySem PySem.Spec PyProof.Rows L2 Evl

/-! ### a match or None -/
theorem dp_matchN {K : PySem.W.Frag} {H : Hp} {y : V} {l : Nat} {A B : List (List Nat)} (h : Dp K H y (matchD l A B)) : decide (y = V.non) = !sameB l A B := by
  unfold matchD at h
  cases e : sameB l A B with
  | true =>
    rw [e, if_pos rfl] at h
    obtain ⟨a, xs, rfl, _⟩ := dp_tup h
    exact decide_eq_false fun z => by cases z
  | false =>
    rw [e, if_neg Bool.false_ne_true] at h
    cases h
    exact decide_eq_true rfl
section
variable {K : PySem.W.Frag} {σ : L2.St} {H : Hp} {ta tb : TE} {l : Nat} {A B : List (List Nat)}
theorem ev_isN {E : XK} (h : EvD K ta σ H (matchD l A B)) : Ev (tOp (fun x y H Q => y = .non ∧ Q (.bl (decide (x = .non))) H) ta (tC .non)) σ H (.bl (!sameB l A B)) := fun H1 e Q q =>
  h H1 e _ fun v H2 e2 hv => ⟨rfl, by rw [dp_matchN hv]; exact q H2 e2⟩
theorem ev_notN (h : EvD K ta σ H (matchD l A B)) : Ev (tOp (fun x y H Q => y = .non ∧ Q (.bl (!decide (x = .non))) H) ta (tC .non)) σ H (.bl (sameB l A B)) := fun H1 e Q q =>
  h H1 e _ fun v H2 e2 hv => ⟨rfl, by rw [dp_matchN hv, Bool.not_not]; exact q H2 e2⟩
theorem ev_notNN (h : EvD K ta σ H .none) : Ev (tOp (fun x y H Q => y = .non ∧ Q (.bl (!decide (x = .non))) H) ta (tC .non)) σ H (.bl false) := fun H1 e Q q =>
  h H1 e _ fun v H2 e2 hv => by
    cases hv
    exact ⟨rfl, q H2 e2⟩
end
end WR
set_option Elab.async false
set_option linter.all false
set_option maxRecDepth 100000
set_option maxHeartbeats 2000000
namespace WR
open PySem PySem.Spec PyProof.Rows L2 Evl

/-! ### check_leaves, is_alike, match -/
abbrev nMch : List Str := ["one", "other", "goals", "kind", "goal", "_"]
section
variable {K : PySem.W.Frag} {σ : L2.St} {H : Hp} {ta tb : TE} {D : Ends} {tz tu : TS}
/-- for x, y in zip(list, list), both new -/
theorem q_forZip {i j : Nat} {ks gs : List Nat} (h : EvN K ta σ H (natDs ks)) (h2 : ∀ H1, Ex H H1 → EvN K tb σ H1 (natDs gs)) (hlen : ks.length = gs.length) (Pv : Hp → Nat → L2.St → Hp → Prop)
    (h0 : ∀ H1, Ex H H1 → Pv H1 0 σ H1) (hG : ∀ H1 a xs, Ex H H1 → H a = none → H1 a = some (.lst xs) → ∀ m σ' H', Pv H1 m σ' H' → H' a = some (.lst xs))
    (hx : ∀ H1 m σ' H' H'', Ex H' H'' → Pv H1 m σ' H' → Pv H1 m σ' H'')
    (hs : ∀ H1 m k g σ' H', ks[m]? = some k → gs[m]? = some g → Pv H1 m σ' H' → tu { D with nx := Pv H1 (m + 1), ct := Pv H1 (m + 1), bk := tz D } ((σ'.set i (some (nV k))).set j (some (nV g))) H') (hd : ∀ H1 σ' H', Ex H H1 → Pv H1 ks.length σ' H' → tz D σ' H') :
    tSeq (tFor (iZip K (tCons ta (tCons tb tNil))) (gTup K 2 (gCons (gName i) (gCons (gName j) gNil))) tu) tz D σ H :=
  h H (Ex.refl H) _ fun a xs H1 ha0 e1 ha hda => (h2 H1 e1) H1 (Ex.refl H1) _ fun b ys H2 hb0 e2 hb hdb => by
    rw [nats_of hda] at ha
    rw [nats_of hdb] at hb
    have ha := e2 _ _ ha
    have hb0 := fresh_back e1 hb0
    have e12 := e1.trans e2
    have hn : (nVs ks).length = ks.length := by unfold nVs; rw [List.length_map]
    have hm : (nVs gs).length = gs.length := by unfold nVs; rw [List.length_map]
    refine ⟨a, b, nVs ks, nVs gs, rfl, sq_of ha, sq_of hb, for_it (walk_zip (K := K) (a := a) (b := b) (xs := nVs ks) (ys := nVs gs) (n := ks.length) (by rw [hn, hm]; omega)) (D := { D with nx := tz D }) (Pv H2) (h0 H2 e12) (fun m σ' H' _ P => ⟨sq_of (hG H2 a _ e12 ha0 ha m σ' H' P), sq_of (hG H2 b _ e12 hb0 hb m σ' H' P)⟩) (fun m x σ' Hc H' hm' P hy => ?_) fun σ' H' P => hd H2 σ' H' e12 P⟩
    obtain ⟨T, x1, y1, rfl, hT, rfl, hx1, hy1⟩ := hy
    obtain ⟨k, hk, rfl, _, _⟩ := nVs_get hx1
    obtain ⟨g, hg, rfl, _, _⟩ := nVs_get hy1
    have en := Ex.new (o := .tup [nV k, nV g]) hT
    exact ⟨T, _, rfl, st_of upd_same, rfl, _, _, rfl, _, _, rfl, rfl, hs H2 m k g σ' _ hk hg (hx H2 m σ' _ _ en P)⟩
end
section
variable {P : Program} {w : World} {K : PySem.W.Frag} {mg : Str → Option Value} {base : Heap}
end
end WR
-- auto
set_option Elab.async false
set_option linter.all false
set_option maxRecDepth 100000
set_option maxHeartbeats 2000000
namespace WR
open PySem PySem.Spec PyProof.Rows L2 Evl

/-! ### paper -/
def rowPap (l : Nat) (A B : List (List Nat)) (r : List Int) : PyData := .tuple [.str "row", tupI r, natD (cntR l A r), natD (cntR l B r)]
noncomputable def paperD (l : Nat) (A B : List (List Nat)) : PyData := if sameB l A B = true then .tuple [.str "match", matchD l A B] else match partR l A B with
  | [] => .none
  | r :: _ => rowPap l A B r
abbrev nPap : List Str := ["one", "other", "found"]
section
variable {P : Program} {w : World} {K : PySem.W.Frag} {mg : Str → Option Value} {base : Heap}
end

/-! ### nearest -/
theorem least_is : ∀ {ds : List Int}, ds ≠ [] → ∃ (i : Nat) (x : Int), ds[i]? = some x ∧ ∀ y ∈ ds, x ≤ y
  | [], h => absurd rfl h
  | [x], _ => ⟨0, x, rfl, fun y hy => by rw [List.mem_singleton.mp hy]; exact Int.le_refl x⟩
  | x :: y :: r, _ => by
    obtain ⟨i, z, h1, h2⟩ := least_is (ds := y :: r) (by simp)
    by_cases c : x ≤ z
    · exact ⟨0, x, rfl, fun w hw => by
        rcases List.mem_cons.mp hw with rfl | hw
        · exact Int.le_refl _
        · exact Int.le_trans c (h2 w hw)⟩
    · exact ⟨i + 1, z, h1, fun w hw => by
        rcases List.mem_cons.mp hw with rfl | hw
        · omega
        · exact h2 w hw⟩
def isLeast (ds : List Int) (i : Nat) : Bool := ds.all fun y => decide (ds.getD i 0 ≤ y)
/-- the first place of the least -/
def argI (ds : List Int) : Nat := ((List.range ds.length).find? (isLeast ds)).getD 0
theorem argI_spec {ds : List Int} (h : ds ≠ []) : ∃ x, ds[argI ds]? = some x ∧ (∀ y ∈ ds, x ≤ y) ∧ ∀ (k : Nat) (z : Int), k < argI ds → ds[k]? = some z → ¬ ∀ y ∈ ds, z ≤ y := by
  obtain ⟨i, x, h1, h2⟩ := least_is h
  have hi := (List.getElem?_eq_some_iff.mp h1).1
  have hget : ∀ {k : Nat} {z : Int}, ds[k]? = some z → ds.getD k 0 = z := fun hz => by
    rw [List.getD_eq_getElem?_getD, hz]
    rfl
  have hl : ∀ {k : Nat} {z : Int}, ds[k]? = some z → (isLeast ds k = true ↔ ∀ y ∈ ds, z ≤ y) := fun hz => by
    unfold isLeast
    rw [hget hz, List.all_eq_true]
    exact ⟨fun q y hy => of_decide_eq_true (q y hy), fun q y hy => decide_eq_true (q y hy)⟩
  cases hf : (List.range ds.length).find? (isLeast ds) with
  | none =>
    have := List.find?_eq_none.mp hf i (List.mem_range.mpr hi)
    exact absurd ((hl h1).mpr h2) this
  | some j =>
    obtain ⟨p1, as, bs, p2, p3⟩ := List.find?_eq_some_iff_append.mp hf
    have ha : argI ds = j := by
      unfold argI
      rw [hf]
      rfl
    have hjm : j < ds.length := List.mem_range.mp (List.mem_of_find?_eq_some hf)
    have hjs : ds[j]? = some ds[j] := List.getElem?_eq_getElem hjm
    rw [ha]
    have hasl : as.length = j := by
      have e : (List.range ds.length)[as.length]? = some j := by
        rw [p2]
        simp
      have := (List.getElem?_eq_some_iff.mp e).1
      rw [List.getElem?_range (by rw [List.length_range] at this; exact this)] at e
      exact Option.some.inj e
    refine ⟨_, hjs, (hl hjs).mp p1, fun k z hk hz q => ?_⟩
    have hka : k ∈ as := by
      have e : (List.range ds.length)[k]? = some k := List.getElem?_range (by omega)
      rw [p2, List.getElem?_append_left (by omega)] at e
      exact List.mem_of_getElem? e
    have := p3 k hka
    rw [(hl hz).mpr q] at this
    cases this
def spNear (K : PySem.W.Frag) : Sp := fun vs H Q _ => ∃ (v y : V) (l : Nat) (A : List (List Nat)) (Bs : List (List (List Nat))), vs = [v, y] ∧ Dp K H v (webD l A) ∧ Dp K H y (.tuple (Bs.map (webD l))) ∧ WebP l A ∧ (∀ B ∈ Bs, WebP l B) ∧ 1 ≤ Bs.length ∧ Bs.length ≤ 1000 ∧
  ∀ H', Ex H H' → Q (nV (argI (Bs.map (distI l A)))) H'
abbrev nNear : List Str := ["one", "some", "found", "other"]
section
variable {K : PySem.W.Frag} {σ : L2.St} {H : Hp} {ta tb : TE}
/-- ds.index(min(ds)) -/
theorem ev_argmin {l : Addr} {ds : List Int} (ha : Ev ta σ H (.ref l)) (hl : H l = some (.lst (ds.map V.int))) (hn : ds ≠ []) :
    Ev (tBM K "list" (rIndex K) ta (tCons (tCB (rMin K) (tCons ta tNil)) tNil)) σ H (nV (argI ds)) := fun H1 e Q q =>
  ha H1 e _ fun H2 e2 => ⟨.inl ⟨rfl, _, sq_of ((e.trans e2) _ _ hl)⟩, ha H2 (e.trans e2) _ fun H3 e3 => by
    have hl3 := ((e.trans e2).trans e3) _ _ hl
    obtain ⟨x, h1, h2, h3⟩ := argI_spec hn
    refine ⟨l, ds, rfl, sq_of hl3, List.length_pos_iff.mpr hn, fun m hm hmin => ?_⟩
    have hx := List.mem_of_getElem? h1
    obtain rfl : x = m := Int.le_antisymm (h2 m hm) (hmin x hx)
    have hflat : (ds.map V.int).all flatV = true := by
      rw [List.all_eq_true]
      intro y hy
      obtain ⟨n, _, rfl⟩ := List.mem_map.mp hy
      rfl
    refine ⟨l, ds.map V.int, .int x, argI ds, .int x, rfl, rfl, sq_of hl3, rfl, hflat, by rw [List.getElem?_map, h1]; rfl, by show (x == x) = true; simp, fun k z hk hz => ?_, q H3 (e2.trans e3)⟩
    rw [List.getElem?_map] at hz
    obtain ⟨n, hn2, rfl⟩ := Option.map_eq_some_iff.mp hz
    show (n == x) = false
    refine beq_eq_false_iff_ne.mpr fun z => h3 k n hk hn2 ?_
    rw [z]
    exact h2⟩
end
section
variable {P : Program} {w : World} {K : PySem.W.Frag} {mg : Str → Option Value} {base : Heap}
end
end WR
-- auto
set_option Elab.async false
set_option linter.all false
set_option maxRecDepth 100000
set_option maxHeartbeats 1000000
namespace WR
open PySem PySem.Spec PyProof.Rows L2 Evl
open PySem.W (dataLt dataLt_ints dataLt_tuple maxD maxD_ints minD minD_ints alike alikeAll AlikeAll max_list_data max_tuple_data min_tuple_data)

/-! ### max of rows, max and min of a row -/
theorem rowLt_key {d : Nat} : ∀ {a b : List Int}, a.length = d → b.length = d → TS.Bd bigB a → TS.Bd bigB b → decide (a < b) = decide (keyR a < keyR b) := fun {a} => by
  induction d generalizing a with
  | zero =>
    intro b h1 h2 _ _
    rw [List.length_eq_zero_iff.mp h1, List.length_eq_zero_iff.mp h2]
    simp
  | succ d ih =>
    intro b h1 h2 h3 h4
    cases a with
    | nil => cases h1
    | cons x a =>
      cases b with
      | nil => cases h2
      | cons y b =>
        have l1 : a.length = d := by simpa using h1
        have l2 : b.length = d := by simpa using h2
        refine decide_eq_decide.mpr ?_
        rw [List.cons_lt_cons_iff]
        have q := decide_eq_decide.mp (ih (a := a) (b := b) l1 l2 h3.tail h4.tail)
        rcases Int.lt_trichotomy x y with z | z | z
        · have := TS.code_lt (B := bigB) (l1.trans l2.symm) h3.tail h4.tail z
          exact ⟨fun _ => this, fun _ => .inl z⟩
        · subst z
          have := TS.code_same (B := bigB) (d := x) (l1.trans l2.symm)
          constructor
          · rintro (h | ⟨_, h⟩)
            · exact absurd h (Int.lt_irrefl _)
            · exact this.mpr (q.mp h)
          · intro h
            exact .inr ⟨rfl, q.mpr (this.mp h)⟩
        · have := TS.code_lt (B := bigB) (l2.trans l1.symm) h4.tail h3.tail z
          constructor
          · rintro (h | ⟨h, _⟩)
            · omega
            · omega
          · intro h
            have h' : TS.code bigB (x :: a) < TS.code bigB (y :: b) := h
            omega
theorem dataLt_row {d : Nat} {a b : List Int} (ha : RowOk d a) (hb : RowOk d b) : dataLt (tupI a) (tupI b) = decide (keyR a < keyR b) := by
  rw [← rowLt_key ha.1 hb.1 ha.2 hb.2, ← dataLt_ints]
  exact dataLt_tuple _ _
/-- the greatest of some rows -/
def maxR (x : List Int) : List (List Int) → List Int
  | [] => x
  | y :: r => maxR (if keyR x < keyR y then y else x) r
theorem maxR_mem {x : List Int} : ∀ {r : List (List Int)}, maxR x r = x ∨ maxR x r ∈ r := fun {r} => by
  induction r generalizing x with
  | nil => exact .inl rfl
  | cons y r ih =>
    unfold maxR
    split
    · rcases ih (x := y) with h | h
      · rw [h]
        exact .inr (List.mem_cons_self ..)
      · exact .inr (List.mem_cons_of_mem _ h)
    · rcases ih (x := x) with h | h
      · exact .inl h
      · exact .inr (List.mem_cons_of_mem _ h)
theorem maxR_ge {x : List Int} : ∀ {r : List (List Int)}, keyR x ≤ keyR (maxR x r) ∧ ∀ y ∈ r, keyR y ≤ keyR (maxR x r) := fun {r} => by
  induction r generalizing x with
  | nil => exact ⟨Int.le_refl _, fun y h => by cases h⟩
  | cons z r ih =>
    unfold maxR
    split
    · rename_i h
      obtain ⟨h1, h2⟩ := ih (x := z)
      refine ⟨by omega, fun y hy => ?_⟩
      rcases List.mem_cons.mp hy with rfl | hy
      · exact h1
      · exact h2 y hy
    · rename_i h
      obtain ⟨h1, h2⟩ := ih (x := x)
      refine ⟨h1, fun y hy => ?_⟩
      rcases List.mem_cons.mp hy with rfl | hy
      · omega
      · exact h2 y hy
theorem maxD_rows {d : Nat} {x : List Int} : ∀ {r : List (List Int)}, RowOk d x → (∀ y ∈ r, RowOk d y) → maxD (tupI x) (r.map tupI) = tupI (maxR x r) := fun {r} => by
  induction r generalizing x with
  | nil => exact fun _ _ => rfl
  | cons y r ih =>
    intro hx hr
    have hy := hr y (List.mem_cons_self ..)
    unfold maxD
    rw [List.map_cons, List.foldl_cons, dataLt_row hx hy]
    unfold maxR
    by_cases z : keyR x < keyR y
    · rw [if_pos (decide_eq_true z), if_pos z]
      exact ih hy fun y' h => hr y' (List.mem_cons_of_mem _ h)
    · rw [if_neg (by simpa using z), if_neg z]
      exact ih hx fun y' h => hr y' (List.mem_cons_of_mem _ h)
theorem alikeAll_intsR : ∀ {a b : List Int}, a.length = b.length → alikeAll (a.map PyData.int) (b.map PyData.int) = true
  | [], [], _ => rfl
  | x :: a, y :: b, h => by
    show (alike (.int x) (.int y) && alikeAll (a.map PyData.int) (b.map PyData.int)) = true
    rw [alikeAll_intsR (by simpa using h)]
    rfl
theorem alike_rows {d : Nat} {rs : List (List Int)} (h : ∀ r ∈ rs, r.length = d) : AlikeAll (rs.map tupI) := by
  refine ⟨fun x hx y hy => ?_, fun x hx => ?_⟩
  · obtain ⟨a, ha, rfl⟩ := List.mem_map.mp hx
    obtain ⟨b, hb, rfl⟩ := List.mem_map.mp hy
    exact alikeAll_intsR (by rw [h a ha, h b hb])
  · obtain ⟨a, ha, rfl⟩ := List.mem_map.mp hx
    intro z
    cases z
/-- max(list of data): the item itself -/
def rMaxDL (K : PySem.W.Frag) : List V → Hp → VK → Prop := fun vs H Q => ∃ (a : Addr) (xs : List V) (d : PyData) (ds : List PyData), vs = [.ref a] ∧ SqL K H a xs ∧ DpAll K H xs (d :: ds) ∧ AlikeAll (d :: ds) ∧ PyData.canLayAll0 (d :: ds) = true ∧ PyData.depthAll (d :: ds) ≤ 40 ∧
  ∀ (i : Nat) (x : V), xs[i]? = some x → (d :: ds)[i]? = some (maxD d ds) → Q x H
/-- max, min of a tuple of ints -/
def rMaxTI (K : PySem.W.Frag) : List V → Hp → VK → Prop := fun vs H Q => ∃ (a : Addr) (n : Int) (ns : List Int), vs = [.ref a] ∧ SqT K H a ((n :: ns).map V.int) ∧ Q (.int (ns.foldl max n)) H
def rMinTI (K : PySem.W.Frag) : List V → Hp → VK → Prop := fun vs H Q => ∃ (a : Addr) (n : Int) (ns : List Int), vs = [.ref a] ∧ SqT K H a ((n :: ns).map V.int) ∧ Q (.int (ns.foldl min n)) H
theorem reads_one {h : Heap} {v : Value} {d e : PyData} {as bs : List Addr} (h1 : d.canLay0 = true) (h2 : e.canLay0 = true) (r1 : Reads h v d as) (r2 : Reads h v e bs) : d = e :=
  (SeqAt.readOf_eq h1 r1).symm.trans (SeqAt.readOf_eq h2 r2)
theorem lay_at : ∀ {ds : List PyData}, PyData.canLayAll0 ds = true → ∀ d ∈ ds, d.canLay0 = true
  | [], _, d, hd => by cases hd
  | x :: ds, h, d, hd => by
    have h' : (x.canLay0 && PyData.canLayAll0 ds) = true := h
    rw [Bool.and_eq_true] at h'
    rcases List.mem_cons.mp hd with rfl | hd
    · exact h'.1
    · exact lay_at h'.2 d hd
theorem maxD_mem {d : PyData} : ∀ {ds : List PyData}, maxD d ds ∈ d :: ds := fun {ds} => by
  induction ds generalizing d with
  | nil => exact List.mem_cons_self ..
  | cons y ds ih =>
    show maxD (if dataLt d y = true then y else d) ds ∈ _
    split
    · exact List.mem_cons_of_mem _ (ih (d := y))
    · rcases List.mem_cons.mp (ih (d := d)) with h | h
      · rw [h]
        exact List.mem_cons_self ..
      · exact List.mem_cons_of_mem _ (List.mem_cons_of_mem _ h)
section
variable {X : Cx}
theorem cr_maxDL (calm : X.calm = true) (hu : X.A.units + 64 < cLine) : CallR X (.builtin "max") (rMaxDL X.K) := by
  intro pins s σ H vs us Q I r h
  obtain ⟨a, xs, d, ds, rfl, hs, hd, hal, hlay, hdep, q⟩ := h
  obtain ⟨its, rv, hl, _⟩ := I.list hs
  rw [Vals.ref1 r]
  obtain ⟨as, hr⟩ := Dp.readsAll I _ _ its hd rv
  refine max_list_data (I.ok.hd calm) hl.isList (show ReadsAll s.heap its.toArray.toList (d :: ds) as from hr) hal (by omega) fun i v h' tk bs hv hrd hk => ?_
  have hv' : its[i]? = some v := by simpa using hv
  obtain ⟨x, hx, rx⟩ : ∃ x, xs[i]? = some x ∧ RelV x v := by
    have hil := (List.getElem?_eq_some_iff.mp hv').1
    have hxl : i < xs.length := by rw [rv.length]; exact hil
    obtain ⟨u, hu', ru⟩ := rv.get (List.getElem?_eq_getElem hxl)
    rw [hv'] at hu'
    cases hu'
    exact ⟨_, List.getElem?_eq_getElem hxl, ru⟩
  obtain ⟨e, he, hxe⟩ := dpAll_at hd hx
  obtain ⟨cs, hre⟩ := Dp.reads I _ _ _ hxe rx
  have hee : e = maxD d ds := reads_one (lay_at hlay e (List.mem_of_getElem? he)) (lay_at hlay _ maxD_mem) (Reads.keeps hk hre) hrd
  exact ⟨x, H, I.kept hk, rx, q i x hx (by rw [← hee]; exact he)⟩
theorem alike_ints {ns : List Int} : AlikeAll (ns.map PyData.int) := by
  refine ⟨fun x hx y hy => ?_, fun x hx => ?_⟩
  · obtain ⟨a, ha, rfl⟩ := List.mem_map.mp hx
    obtain ⟨b, hb, rfl⟩ := List.mem_map.mp hy
    rfl
  · obtain ⟨a, ha, rfl⟩ := List.mem_map.mp hx
    intro z
    cases z
theorem lay_int (n : Int) : (PyData.int n).canLay0 = true := by simp [PyData.canLay0]
theorem cr_maxTI (calm : X.calm = true) (hu : X.A.units + 64 < cLine) : CallR X (.builtin "max") (rMaxTI X.K) := by
  intro pins s σ H vs us Q I r h
  obtain ⟨a, n, ns, rfl, hs, q⟩ := h
  obtain ⟨its, rv, hl, _⟩ := I.tuple hs
  rw [Vals.ref1 r]
  obtain ⟨as, hr⟩ := Dp.readsAll I _ _ its (dpAll_ints (K := X.K) (H := H) (n :: ns)) rv
  have hz := lay_ints (n :: ns)
  refine max_tuple_data (I.ok.hd calm) hl (show ReadsAll s.heap its.toArray.toList (PyData.int n :: ns.map PyData.int) as from hr) (alike_ints (ns := n :: ns)) (by have := hz.2; rw [List.map_cons] at this; omega) fun i v h' tk bs hv hrd hk => ?_
  rw [maxD_ints] at hrd
  have hv' : its[i]? = some v := by simpa using hv
  obtain ⟨x, hx, rx⟩ : ∃ x, ((n :: ns).map V.int)[i]? = some x ∧ RelV x v := by
    have hil := (List.getElem?_eq_some_iff.mp hv').1
    have hxl : i < ((n :: ns).map V.int).length := by rw [rv.length]; exact hil
    obtain ⟨u, hu', ru⟩ := rv.get (List.getElem?_eq_getElem hxl)
    rw [hv'] at hu'
    cases hu'
    exact ⟨_, List.getElem?_eq_getElem hxl, ru⟩
  obtain ⟨e, he, hxe⟩ := dpAll_at (dpAll_ints (K := X.K) (H := H) (n :: ns)) hx
  obtain ⟨cs, hre⟩ := Dp.reads I _ _ _ hxe rx
  rw [List.getElem?_map] at he
  obtain ⟨z, _, rfl⟩ := Option.map_eq_some_iff.mp he
  have hee := reads_one (lay_int z) (lay_int _) (Reads.keeps hk hre) hrd
  cases hee
  cases dp_int hxe
  exact ⟨_, H, I.kept hk, rx, q⟩
theorem cr_minTI (calm : X.calm = true) (hu : X.A.units + 64 < cLine) : CallR X (.builtin "min") (rMinTI X.K) := by
  intro pins s σ H vs us Q I r h
  obtain ⟨a, n, ns, rfl, hs, q⟩ := h
  obtain ⟨its, rv, hl, _⟩ := I.tuple hs
  rw [Vals.ref1 r]
  obtain ⟨as, hr⟩ := Dp.readsAll I _ _ its (dpAll_ints (K := X.K) (H := H) (n :: ns)) rv
  have hz := lay_ints (n :: ns)
  refine min_tuple_data (I.ok.hd calm) hl (show ReadsAll s.heap its.toArray.toList (PyData.int n :: ns.map PyData.int) as from hr) (alike_ints (ns := n :: ns)) (by have := hz.2; rw [List.map_cons] at this; omega) fun i v h' tk bs hv hrd hk => ?_
  rw [minD_ints] at hrd
  have hv' : its[i]? = some v := by simpa using hv
  obtain ⟨x, hx, rx⟩ : ∃ x, ((n :: ns).map V.int)[i]? = some x ∧ RelV x v := by
    have hil := (List.getElem?_eq_some_iff.mp hv').1
    have hxl : i < ((n :: ns).map V.int).length := by rw [rv.length]; exact hil
    obtain ⟨u, hu', ru⟩ := rv.get (List.getElem?_eq_getElem hxl)
    rw [hv'] at hu'
    cases hu'
    exact ⟨_, List.getElem?_eq_getElem hxl, ru⟩
  obtain ⟨e, he, hxe⟩ := dpAll_at (dpAll_ints (K := X.K) (H := H) (n :: ns)) hx
  obtain ⟨cs, hre⟩ := Dp.reads I _ _ _ hxe rx
  rw [List.getElem?_map] at he
  obtain ⟨z, _, rfl⟩ := Option.map_eq_some_iff.mp he
  have hee := reads_one (lay_int z) (lay_int _) (Reads.keeps hk hre) hrd
  cases hee
  cases dp_int hxe
  exact ⟨_, H, I.kept hk, rx, q⟩
end
section
variable {K : PySem.W.Frag} {σ : L2.St} {H : Hp} {te : TE}
theorem ed_maxRows {d : Nat} {x : List Int} {rs : List (List Int)} (h : EvD K te σ H (.list ((x :: rs).map tupI))) (hx : ∀ r ∈ x :: rs, RowOk d r) : EvD K (tCB (rMaxDL K) (tCons te tNil)) σ H (tupI (maxR x rs)) := fun H1 e Q q =>
  h H1 e _ fun v H2 e2 hv => by
    obtain ⟨a, xs, rfl, hs, hd⟩ := dp_lst hv
    have hl := lay_rows (x :: rs)
    refine ⟨a, xs, tupI x, rs.map tupI, rfl, hs, hd, alike_rows (rs := x :: rs) fun r hr => (hx r hr).1, hl.1, by have := hl.2; rw [List.map_cons] at this; omega, fun i y hy he => ?_⟩
    rw [maxD_rows (hx x (List.mem_cons_self ..)) fun y h => hx y (List.mem_cons_of_mem _ h)] at he
    obtain ⟨e', he', hye⟩ := dpAll_at hd hy
    rw [List.map_cons, he] at he'
    cases he'
    exact q y H2 e2 hye
theorem ev_maxRow {n : Int} {ns : List Int} (h : EvD K te σ H (tupI (n :: ns))) : Ev (tCB (rMaxTI K) (tCons te tNil)) σ H (.int (ns.foldl max n)) := fun H1 e Q q =>
  h H1 e _ fun v H2 e2 hv => by
    obtain ⟨a, xs, rfl, hs, hd⟩ := dp_tup hv
    rw [ints_of hd] at hs
    exact ⟨a, n, ns, rfl, hs, q H2 e2⟩
theorem ev_minRow {n : Int} {ns : List Int} (h : EvD K te σ H (tupI (n :: ns))) : Ev (tCB (rMinTI K) (tCons te tNil)) σ H (.int (ns.foldl min n)) := fun H1 e Q q =>
  h H1 e _ fun v H2 e2 hv => by
    obtain ⟨a, xs, rfl, hs, hd⟩ := dp_tup hv
    rw [ints_of hd] at hs
    exact ⟨a, n, ns, rfl, hs, q H2 e2⟩
end
theorem foldl_max_pos {n : Int} : ∀ {ns : List Int}, 0 < ns.foldl max n ↔ 0 < n ∨ ∃ m ∈ ns, 0 < m := fun {ns} => by
  induction ns generalizing n with
  | nil => exact ⟨fun h => .inl h, fun h => h.elim (fun z => z) fun ⟨m, hm, _⟩ => by cases hm⟩
  | cons x ns ih =>
    show 0 < ns.foldl max (max n x) ↔ _
    rw [ih]
    constructor
    · rintro (h | ⟨m, hm, h⟩)
      · by_cases z : 0 < n
        · exact .inl z
        · exact .inr ⟨x, List.mem_cons_self .., by omega⟩
      · exact .inr ⟨m, List.mem_cons_of_mem _ hm, h⟩
    · rintro (h | ⟨m, hm, h⟩)
      · exact .inl (by omega)
      · rcases List.mem_cons.mp hm with rfl | hm
        · exact .inl (by omega)
        · exact .inr ⟨m, hm, h⟩
theorem foldl_min_nn {n : Int} : ∀ {ns : List Int}, 0 ≤ ns.foldl min n ↔ 0 ≤ n ∧ ∀ m ∈ ns, 0 ≤ m := fun {ns} => by
  induction ns generalizing n with
  | nil => exact ⟨fun h => ⟨h, fun m hm => by cases hm⟩, fun h => h.1⟩
  | cons x ns ih =>
    show 0 ≤ ns.foldl min (min n x) ↔ _
    rw [ih]
    constructor
    · rintro ⟨h, h2⟩
      refine ⟨by omega, fun m hm => ?_⟩
      rcases List.mem_cons.mp hm with rfl | hm
      · omega
      · exact h2 m hm
    · rintro ⟨h, h2⟩
      have := h2 x (List.mem_cons_self ..)
      exact ⟨by omega, fun m hm => h2 m (List.mem_cons_of_mem _ hm)⟩
end WR
set_option Elab.async false
set_option linter.all false
set_option maxRecDepth 100000
set_option maxHeartbeats 2000000
namespace WR
open PySem PySem.Spec PyProof.Rows L2 Evl

/-! ### how far tallies are -/
def absI (i : Int) : Int := if i < 0 then -i else i
def farI (R S : List (List Int)) : Int := ((frs R).map fun r => absI ((cntL R r : Int) - (cntL S r : Int))).sum + (((frs S).filter fun r => !decide (r ∈ R)).map fun r => (cntL S r : Int)).sum
theorem cntL_srt {l : Nat} {A : List (List Nat)} {r : List Int} : cntL (srtR (rowsI l A)) r = cntR l A r := (srtR_perm _).countP_eq _
theorem far_dist {l : Nat} {A B : List (List Nat)} : farI (srtR (rowsI l A)) (srtR (rowsI l B)) = distI l A B := by
  have mA : ∀ r, r ∈ frs (srtR (rowsI l A)) ↔ r ∈ rowsI l A := fun r => (mem_frs _).trans (srtR_perm _).mem_iff
  have mB : ∀ r, r ∈ frs (srtR (rowsI l B)) ↔ r ∈ rowsI l B := fun r => (mem_frs _).trans (srtR_perm _).mem_iff
  let U := frs (srtR (rowsI l A)) ++ (frs (srtR (rowsI l B))).filter fun r => !decide (r ∈ srtR (rowsI l A))
  have hU : U.Nodup := by
    refine List.nodup_append.mpr ⟨nd_frs _, (nd_frs _).sublist List.filter_sublist, fun x hx y hy e => ?_⟩
    subst e
    have h1 := (List.mem_filter.mp hy).2
    rw [mem_frs] at hx
    rw [decide_eq_true hx] at h1
    cases h1
  have hd := dist_sum (l := l) (A := A) (B := B) hU (fun r hr => List.mem_append_left _ ((mA r).mpr hr)) fun r hr => by
    by_cases z : r ∈ srtR (rowsI l A)
    · exact List.mem_append_left _ ((mem_frs _).mpr z)
    · exact List.mem_append_right _ (List.mem_filter.mpr ⟨(mB r).mpr hr, by rw [decide_eq_false z]; rfl⟩)
  rw [hd]
  show _ = ((frs (srtR (rowsI l A)) ++ _).map _).sum
  rw [List.map_append, List.sum_append]
  unfold farI
  congr 1
  · congr 1
    refine List.map_congr_left fun r _ => ?_
    rw [cntL_srt, cntL_srt]
    rfl
  · congr 1
    refine List.map_congr_left fun r hr => ?_
    have h1 := (List.mem_filter.mp hr).2
    have h2 : r ∉ rowsI l A := fun z => by
      rw [decide_eq_true ((srtR_perm _).mem_iff.mpr z)] at h1
      cases h1
    rw [cntL_srt]
    unfold gapR
    rw [cnt_none h2]
    split <;> omega
def spFar (P : Program) (w : World) (K : PySem.W.Frag) : Sp := fun vs H Q _ => ∃ a b R S, vs = [.ref a, .ref b] ∧ DfD (rowTK P w K) H a (tlyM R) ∧ DfD (rowTK P w K) H b (tlyM S) ∧ R.length ≤ 1000 ∧ S.length ≤ 1000 ∧ ∀ H', Ex H H' → Q (.int (farI R S)) H'
abbrev nFar : List Str := ["one", "other", "shared", "row"]
theorem scFar : FnScope nFar ["one", "other"] (defScope s_far) := ⟨rfl, rfl, rfl, by decide +kernel, rfl, by decide +kernel, by decide +kernel⟩
section
variable {X : Cx} {κ : Type} [DecidableEq κ] {T : TK X.prog X.w X.K κ} {o i e f value : Expr} {pos pos' tpos apos cpos : Pos} {td ty tv tx : TE}
theorem pe_dfgetI (hu : X.A.units + 1 + T.sl < cLine) (ho : PE X o td) (hi : PE X i ty) (hs : NoSl i := by exact fun _ _ => rfl) : PE X (.Subscript o i pos) (tDfGet T td ty) := pe_dfget T hu ho hi hs
theorem pc_dfnotinI (hu : X.A.units + 1 + T.sl < cLine) (hi : PE X i ty) (ho : PE X o td) : PC X .NotIn i o (tDfIn T true ty td) := pc_dfnotin T hu hi ho
theorem pe_dfget2I (hu : X.A.units + 1 + T.sl < cLine) (ho : PE X o td) (he : PE X e ty) (hf : PE X f tx) (m : M2 X o "get" apos e f cpos) : PE X (.Call (.Attribute o "get" apos) [e, f] [] cpos) (tDfGet2 T td ty tx) := pe_dfget2 T hu ho he hf m
end
theorem sums_int {α : Type} {f : α → Int} (ks : List α) : (ks.map fun k => PyData.int (f k)) = (ks.map f).map PyData.int := by
  rw [List.map_map]
  rfl
section
variable {P : Program} {w : World} {K : PySem.W.Frag} {mg : Str → Option Value} {base : Heap}
abbrev tAbs (t : TE) : TE := tCB (fun xs H Q => ∃ i, xs = [.int i] ∧ Q (.int (if i < 0 then -i else i)) H) (tCons t tNil)
theorem ok_far {f : Addr} {fd : FuncData} (F : Fun K "far" "far" s_far f fd) (m1 : mg "sum" = none) (m2 : mg "abs" = none) :
    FnOk P w K mg base CX0 1 f fd ["one", "other"] (spFar P w K) := by
  refine F.ok scFar (fun vs H Q E h => ?_) (fun cdv A outer s H vs Q E hr h => ?_)
  · obtain ⟨a, b, R, S, rfl, _⟩ := h
    rfl
  obtain ⟨a, b, R, S, rfl, hA, hB, hR, hS, q⟩ := h
  have hu1 := hu_of hr
  refine ⟨_, pss_cons (ps_set (i := 2) scFar.nd rfl (.inl rfl) (pe_callB (r := rSum K) (cr_sum rfl) (by rfl) m1 (by decide +kernel) (pa_cons
      (pe_lc (own := [("row", 3)]) (g := gName 3) (tt := tYes) (te := tAbs (tOp (rI0 fun i j => .int (i - j)) (tDfGet (rowTK P w K) (tVar 0) (tVar 3)) (tDfGet2 (rowTK P w K) (tVar 1) (tVar 3) (tC (.int 0))))) rfl scFar.nd
        (pi_keysZ (rowTK P w K) (pv 0)) (blkOk_by (N := nFar) (sc := defScope s_far) (by decide +kernel))
        (fun _ _ _ _ _ => pg_name (i := 3) scFar.nd rfl (Or.inl rfl)) (fun _ _ _ _ _ => pts_nil)
        (fun _ _ _ _ _ => pe_callB call_abs (by rfl) m2 (by decide +kernel) (pa_cons (pe_op op_sub (pe_dfgetI (by exact hu1) (pv 0) (pv 3)) (pe_dfget2I (by exact hu1) (pv 1) (pv 3) pe_int ⟨rfl, rfl, rfl, rfl⟩)) pa_nil))) pa_nil)))
    (pss_one (ps_ret (pe_op op_add (pv 2) (pe_callB (r := rSum K) (cr_sum rfl) (by rfl) m1 (by decide +kernel) (pa_cons
      (pe_lc (own := [("row", 3)]) (g := gName 3) (tt := tB (tDfIn (rowTK P w K) true (tVar 3) (tVar 0))) (te := tDfGet (rowTK P w K) (tVar 1) (tVar 3)) rfl scFar.nd
        (pi_keysZ (rowTK P w K) (pv 1)) (blkOk_by (N := nFar) (sc := defScope s_far) (by decide +kernel))
        (fun _ _ _ _ _ => pg_name (i := 3) scFar.nd rfl (Or.inl rfl)) (fun _ _ _ _ _ => pts_one (pt_cmp (pc_dfnotinI (by exact hu1) (pv 3) (pv 0))))
        (fun _ _ _ _ _ => pe_dfgetI (by exact hu1) (pv 1) (pv 3))) pa_nil))))), ?_⟩
  let σ0 : L2.St := [some (.ref a), some (.ref b), none, none]
  have hkA : SrcS K (iKeysZ (rowTK P w K) (tVar 0)) σ0 H ((frs R).map tupI) := srcS_keysZ (kf := fun r => r) (vf := fun r => natD (cntL R r)) (ev_var rfl) hA
  have lA := len_frs R
  have lB := len_frs S
  refine q_asg (v := .int ((frs R).map fun r => absI ((cntL R r : Int) - (cntL S r : Int))).sum) (ev_sumI (K := K) (ns := (frs R).map fun r => absI ((cntL R r : Int) - (cntL S r : Int))) ?_) fun H1 e1 => ?_
  · rw [← sums_int]
    refine en_dMap (K := K) tupI (fun r => .int (absI ((cntL R r : Int) - (cntL S r : Int)))) hkA.src (by omega) (fun _ => rfl) (fun r x H2 e2 hr hx => ?_) fun _ _ => rfl
    have hrR := (mem_frs R).mp hr
    refine ed_i (ev_abs (ev_op (x := nV (cntL R r)) (y := nV (cntL S r)) (ev_i (K := K) (ed_dfget (k := keyI r) (ev_var rfl) (ec_row (r := r) (ed_var rfl hx)) (hA.ex e2) (by rw [tly_look, if_pos hrR]; rfl))) (ev_i (K := K) (ed_is (ed_dfget2 (k := keyI r) (d0 := natD 0) (ev_var rfl) (ec_row (r := r) (ed_var rfl hx)) (ed_i ev_c) (hB.ex e2)) tly_get)) rv_I0))
  · let σ1 : L2.St := [some (.ref a), some (.ref b), some (.int ((frs R).map fun r => absI ((cntL R r : Int) - (cntL S r : Int))).sum), none]
    show tRet _ _ σ1 H1
    have hkB : SrcS K (iKeysZ (rowTK P w K) (tVar 1)) σ1 H1 ((frs S).map tupI) := srcS_keysZ (kf := fun r => r) (vf := fun r => natD (cntL S r)) (ev_var rfl) (hB.ex e1)
    refine s_ret (v := .int (farI R S)) (ev_op (ev_var rfl) (ev_sumI (K := K) (ns := ((frs S).filter fun r => !decide (r ∈ R)).map fun r => (cntL S r : Int)) ?_) rv_I0) fun H2 e2 => q H2 (e1.trans e2)
    rw [← sums_int]
    refine en_dFlG (K := K) (fun r => !decide (r ∈ R)) tupI (fun r => .int (cntL S r : Int)) hkB.src (by omega) (fun _ => rfl) (fun r x H3 e3 hr hx => ⟨et_B (ev_is (ev_dfin (ng := true) (k := keyI r) (ev_var rfl) (ec_row (r := r) (ed_var rfl hx)) (hA.ex (e1.trans e3))) ?_), fun hb => ?_⟩) fun _ _ => rfl
    · congr 1
      rw [tly_look]
      by_cases z : r ∈ R
      · rw [if_pos z, decide_eq_true z]
        rfl
      · rw [if_neg z, decide_eq_false z]
        rfl
    · exact ed_dfget (k := keyI r) (ev_var rfl) (ec_row (r := r) (ed_var rfl hx)) (hB.ex (e1.trans e3)) (by rw [tly_look, if_pos ((mem_frs S).mp hr)]; rfl)
end
end WR
set_option Elab.async false
set_option linter.all false
set_option maxRecDepth 100000
set_option maxHeartbeats 2000000
namespace WR
open PySem PySem.Spec PyProof.Rows L2 Evl

/-! ### middle -/
theorem range_getD {α β : Type} (d : α) (f : α → β) : ∀ ws : List α, (List.range ws.length).map (fun i => f (ws.getD i d)) = ws.map f := fun ws => by
  refine List.ext_getElem? fun i => ?_
  rw [List.getElem?_map, List.getElem?_map]
  by_cases h : i < ws.length
  · rw [List.getElem?_range h, List.getElem?_eq_getElem h, Option.map_some, Option.map_some, List.getD_eq_getElem?_getD, List.getElem?_eq_getElem h]
    rfl
  · rw [List.getElem?_eq_none (by rw [List.length_range]; omega), List.getElem?_eq_none (by omega)]
    rfl
def sumsI (l : Nat) (ws : List (List (List Nat))) : List Int := ws.map fun A => (ws.map (distI l A)).sum
def spMid (K : PySem.W.Frag) : Sp := fun vs H Q _ => ∃ v l ws, vs = [v] ∧ Dp K H v (.tuple (ws.map (webD l))) ∧ (∀ A ∈ ws, Raw l A) ∧ ws ≠ [] ∧ ws.length ≤ 1000 ∧ ∀ H', Ex H H' → Q (nV (argI (sumsI l ws))) H'
abbrev nMid : List Str := ["some", "found", "sums", "one", "other"]
theorem scMid : FnScope nMid ["some"] (defScope s_middle) := ⟨rfl, rfl, rfl, by decide +kernel, rfl, by decide +kernel, by decide +kernel⟩
abbrev scMd1 : Scope := { kind := ScopeKind.function, names := [(Str.ofString ".0", NameKind.local), (Str.ofString "one", NameKind.cell), (Str.ofString "sum", NameKind.globalImplicit), (Str.ofString "found", NameKind.cell)], isGenerator := false, isCoroutine := false, more := [] }
section
variable {P : Program} {w : World} {K : PySem.W.Frag} {σ : L2.St} {H : Hp} {ta tb te : TE}
theorem ev_far {E : XK} {a b : Addr} {R S : List (List Int)} (h1 : Ev ta σ H (.ref a)) (h2 : Ev tb σ H (.ref b)) (hA : DfD (rowTK P w K) H a (tlyM R)) (hB : DfD (rowTK P w K) H b (tlyM S)) (hR : R.length ≤ 1000) (hS : S.length ≤ 1000) :
    Ev (tCall (spFar P w K) [] E (tCons ta (tCons tb tNil))) σ H (.int (farI R S)) := fun H1 e Q q =>
  h1 H1 e _ fun H2 e2 => h2 H2 (e.trans e2) _ fun H3 e3 => ⟨a, b, R, S, rfl, hA.ex ((e.trans e2).trans e3), hB.ex ((e.trans e2).trans e3), hR, hS, fun H4 e4 => q H4 ((e2.trans e3).trans e4)⟩
theorem q_tlys {E : XK} {i : Nat} {tz : TS} {D : Ends} {l : Nat} {ws : List (List (List Nat))} (h : EvD K te σ H (.tuple (ws.map (webD l)))) (hW : ∀ A ∈ ws, Raw l A) (hne : ws ≠ []) (hl : ws.length ≤ 1000)
    (k : ∀ p H1, H p = none → Ex H H1 → TlyAt P w K H1 p l ws → tz D (σ.set i (some (.ref p))) H1) : tSeq (tAsg (tCall (spTlys P w K) [] E (tCons te tNil)) (gName i)) tz D σ H :=
  h H (Ex.refl H) _ fun v H1 e1 hv => ⟨v, l, ws, rfl, hv, hW, hne, hl, fun p H2 hp e2 ht => k p H2 (fresh_back e1 hp) (e1.trans e2) ht⟩
end
section
variable {P : Program} {w : World} {K : PySem.W.Frag} {mg : Str → Option Value} {base : Heap}
abbrev tFarL (P : Program) (w : World) (K : PySem.W.Frag) : TE := tLc (iList K (tVar 1)) (gName 4) tYes (tCall (spFar P w K) [] E0 (tCons (tVar 3) (tCons (tVar 4) tNil))) [4]
theorem ok_mid {f fT fA : Addr} {fd fdT fdA : FuncData} (F : Fun K "middle" "middle" s_middle f fd)
    (FT : Fun K "tallies" "tallies" s_tallies fT fdT) (bT : Binds K fdT ["some"] []) (gT : mg "tallies" = some (.ref fT))
    (FA : Fun K "far" "far" s_far fA fdA) (bA : Binds K fdA ["one", "other"] []) (gA : mg "far" = some (.ref fA))
    (m1 : mg "sum" = none) (m2 : mg "min" = none)
    (GT : FnOk P w K mg base CX0 4 fT fdT ["some"] (spTlys P w K))
    (GA : FnOk P w K mg base CX0 1 fA fdA ["one", "other"] (spFar P w K)) :
    FnOk P w K mg base CX0 5 f fd ["some"] (spMid K) := by
  refine F.ok scMid (fun vs H Q E h => ?_) (fun cdv A outer s H vs Q E hr h => ?_)
  · obtain ⟨v, l, ws, rfl, _⟩ := h
    rfl
  obtain ⟨v, l, ws, rfl, hv, hW, hne, hl, q⟩ := h
  have r1 := hr.mono (show 1 ≤ 4 by decide)
  refine ⟨_, pss_cons (ps_set (i := 1) scMid.nd rfl (.inr rfl) (pe_call GT hr (by rfl) gT FT.kp bT .nil pass0 (pa_cons (pv 0) pa_nil)))
    (pss_cons (ps_setLc (i := 2) (own := [("one", 3)]) (g := gName 3) (tt := tYes) (te := tCB (rSum K) (tCons (tFarL P w K) tNil)) rfl scMid.nd rfl rfl (sw_true rfl rfl rfl (by decide +kernel))
      (pi_list (pv 1)) (blkOk_by (N := nMid) (sc := defScope s_middle) (by decide +kernel))
      (fun _ _ _ _ _ => pg_name (i := 3) scMid.nd rfl (Or.inr rfl)) (fun _ _ _ _ _ => pts_nil) (fun _ _ _ _ _ => pe_callB (cr_sum rfl) (by rfl) m1 (by decide +kernel) (pa_cons
        (pe_lc (own := [("other", 4)]) (g := gName 4) (tt := tYes) (te := tCall (spFar P w K) [] E0 (tCons (tVar 3) (tCons (tVar 4) tNil))) rfl scMid.nd
          (pi_list (pv 1)) (blkOk_by (N := nMid) (sc := scMd1) (by decide +kernel))
          (fun _ _ _ _ _ => pg_name (i := 4) scMid.nd rfl (Or.inl rfl)) (fun _ _ _ _ _ => pts_nil) (fun _ _ _ _ _ => pe_call GA r1 (by rfl) gA FA.kp bA .nil pass0 (pa_cons (pv 3) (pa_cons (pv 4) pa_nil)))) pa_nil)))
    (pss_one (ps_ret (pe_bm PySem.F.plainAttrs_list PySem.F.slot_list_index PySem.F.type_list_index mt_index (pv 2) (pa_cons (pe_callB (r := rMin K) (cr_min rfl) (by rfl) m2 (by decide +kernel) (pa_cons (pv 2) pa_nil)) pa_nil))))), ?_⟩
  refine q_tlys (ed_var rfl hv) hW hne hl fun p H1 hp e1 hT => ?_
  obtain ⟨ds, hp1, hdl, hF⟩ := hT
  let S (x1 x2 x3 : Option V) : L2.St := [some v, x1, x2, x3, none]
  have hdl2 : (ds.map V.ref).length = ws.length := by rw [List.length_map, hdl]
  have hat : ∀ {i : Nat} {x : V}, (ds.map V.ref)[i]? = some x → ∃ d, x = .ref d ∧ DfD (rowTK P w K) H1 d (tlyM (srtR (rowsI l (ws.getD i [])))) ∧ ws.getD i [] ∈ ws := fun {i x} hx => by
    rw [List.getElem?_map] at hx
    obtain ⟨d, hd, rfl⟩ := Option.map_eq_some_iff.mp hx
    have hi : i < ws.length := by
      rw [← hdl]
      exact (List.getElem?_eq_some_iff.mp hd).1
    have hg : ws[i]? = some (ws.getD i []) := by rw [List.getD_eq_getElem?_getD, List.getElem?_eq_getElem hi]; rfl
    exact ⟨d, rfl, hF i d _ hd hg, List.mem_of_getElem? hg⟩
  show tSeq _ _ _ (S (some (.ref p)) none none) H1
  have hsums : EvN K (tLc (iList K (tVar 1)) (gName 3) tYes (tCB (rSum K) (tCons (tFarL P w K) tNil)) [3]) (S (some (.ref p)) none none) H1 ((List.range (ds.map V.ref).length).map fun i => .int ((ws.map (distI l (ws.getD i []))).sum)) := by
    refine en_mapV (K := K) (fun i => .int ((ws.map (distI l (ws.getD i []))).sum)) (srcV_L (K := K) (ev_var rfl) hp1) (by omega) (fun _ => rfl) (fun i x H2 e2 hi hx => ?_) fun _ _ => rfl
    obtain ⟨d, rfl, hd, hm⟩ := hat hx
    refine ed_i (ev_sumI (K := K) ?_)
    have h2 : EvN K (tFarL P w K) (S (some (.ref p)) none (some (.ref d))) H2 ((List.range (ds.map V.ref).length).map fun j => .int (distI l (ws.getD i []) (ws.getD j []))) := by
      refine en_mapV (K := K) (fun j => .int (distI l (ws.getD i []) (ws.getD j []))) (srcV_L (K := K) (ev_var rfl) (e2 _ _ hp1)) (by omega) (fun _ => rfl) (fun j y H3 e3 hj hy => ?_) fun _ _ => rfl
      obtain ⟨d2, rfl, hd2, hm2⟩ := hat hy
      refine ed_i (ev_is (ev_far (K := K) (ev_var rfl) (ev_var rfl) (hd.ex (e2.trans e3)) (hd2.ex (e2.trans e3)) (by have := lot_len (hW _ hm); omega) (by have := lot_len (hW _ hm2); omega)) (by rw [far_dist]))
    rw [hdl2, range_getD [] (fun B => PyData.int (distI l (ws.getD i []) B)) ws] at h2
    rw [← sums_int]
    exact h2
  rw [hdl2, range_getD [] (fun A => PyData.int ((ws.map (distI l A)).sum)) ws] at hsums
  refine q_asgN (K := K) hsums fun pf xs H2 hpf e2 hx hd => ?_
  have hd : DpAll K H2 xs ((sumsI l ws).map PyData.int) := by
    unfold sumsI
    rw [List.map_map]
    exact hd
  rw [ints_of hd] at hx
  show tRet _ _ (S (some (.ref p)) (some (.ref pf)) none) H2
  refine s_ret (v := nV (argI (sumsI l ws))) (ev_argmin (K := K) (ev_var rfl) hx fun z => hne ?_) fun H3 e3 => q H3 ((e1.trans e2).trans e3)
  unfold sumsI at z
  exact List.map_eq_nil_iff.mp z
end
end WR
set_option Elab.async false
set_option linter.all false
set_option maxRecDepth 100000
set_option maxHeartbeats 2000000
namespace WR
open PySem PySem.Spec PyProof.Rows L2 Evl
open PySem.W (dataLt dataLt_ints dataLt_tuple minD minD_ints alike alikeAll AlikeAll min_list_data)

/-! ### the farthest pair: mathematics -/
abbrev Trp := Int × Nat × Nat
def ltP (a b : Trp) : Prop := a.1 < b.1 ∨ a.1 = b.1 ∧ (a.2.1 < b.2.1 ∨ a.2.1 = b.2.1 ∧ a.2.2 < b.2.2)
instance (a b : Trp) : Decidable (ltP a b) := by
  unfold ltP
  infer_instance
def trD (t : Trp) : PyData := tupI [t.1, (t.2.1 : Int), (t.2.2 : Int)]
theorem dataLt_trp (a b : Trp) : dataLt (trD a) (trD b) = decide (ltP a b) := by
  have h : dataLt (trD a) (trD b) = decide ([a.1, (a.2.1 : Int), (a.2.2 : Int)] < [b.1, (b.2.1 : Int), (b.2.2 : Int)]) := by
    rw [← dataLt_ints]
    exact dataLt_tuple _ _
  rw [h]
  refine decide_eq_decide.mpr ?_
  rw [List.cons_lt_cons_iff, List.cons_lt_cons_iff, List.cons_lt_cons_iff]
  unfold ltP
  constructor
  · rintro (h | ⟨h1, h | ⟨h2, h | ⟨_, h⟩⟩⟩)
    · exact .inl h
    · exact .inr ⟨h1, .inl (by omega)⟩
    · exact .inr ⟨h1, .inr ⟨by omega, by omega⟩⟩
    · exact absurd h (List.not_lt_nil _)
  · rintro (h | ⟨h1, h | ⟨h2, h⟩⟩)
    · exact .inl h
    · exact .inr ⟨h1, .inl (by omega)⟩
    · exact .inr ⟨h1, .inr ⟨by omega, .inl (by omega)⟩⟩
def minT (x : Trp) (r : List Trp) : Trp := r.foldl (fun a y => if ltP y a then y else a) x
theorem minD_trp : ∀ (r : List Trp) (x : Trp), minD (trD x) (r.map trD) = trD (minT x r)
  | [], _ => rfl
  | y :: r, x => by
    have ih := minD_trp r (if ltP y x then y else x)
    show (r.map trD).foldl _ (if dataLt (trD y) (trD x) = true then trD y else trD x) = trD (r.foldl _ (if ltP y x then y else x))
    rw [dataLt_trp]
    by_cases z : ltP y x
    · rw [if_pos (decide_eq_true z)]
      rw [if_pos z] at ih ⊢
      exact ih
    · rw [if_neg (by rw [decide_eq_false z]; decide)]
      rw [if_neg z] at ih ⊢
      exact ih
theorem minT_spec : ∀ (r : List Trp) (x : Trp), minT x r ∈ x :: r ∧ ∀ y ∈ x :: r, ¬ ltP y (minT x r)
  | [], x => ⟨List.mem_cons_self .., fun y hy => by
      rw [List.mem_singleton.mp hy]
      show ¬ ltP x x
      unfold ltP
      omega⟩
  | y :: r, x => by
    obtain ⟨h1, h2⟩ := minT_spec r (if ltP y x then y else x)
    have e : minT x (y :: r) = minT (if ltP y x then y else x) r := rfl
    rw [e]
    by_cases z : ltP y x
    · rw [if_pos z] at h1 h2 ⊢
      refine ⟨List.mem_cons_of_mem _ h1, fun u hu => ?_⟩
      rcases List.mem_cons.mp hu with e' | hu
      · have h0 := h2 y (List.mem_cons_self ..)
        rw [e']
        generalize minT y r = m at h0
        unfold ltP at z h0 ⊢
        omega
      · exact h2 u hu
    · rw [if_neg z] at h1 h2 ⊢
      refine ⟨?_, fun u hu => ?_⟩
      · rcases List.mem_cons.mp h1 with h | h
        · rw [h]
          exact List.mem_cons_self ..
        · exact List.mem_cons_of_mem _ (List.mem_cons_of_mem _ h)
      · have h0 := h2 x (List.mem_cons_self ..)
        rcases List.mem_cons.mp hu with e' | hu
        · rw [e']
          exact h0
        · rcases List.mem_cons.mp hu with e' | hu
          · rw [e']
            generalize minT x r = m at h0
            unfold ltP at z h0 ⊢
            omega
          · exact h2 u (List.mem_cons_of_mem _ hu)
/-- the first of the least among what S holds -/
def IsB (S : Trp → Prop) (t : Trp) : Prop := S t ∧ ∀ u, S u → ¬ ltP u t
theorem IsB.one {S : Trp → Prop} {t u : Trp} (h : IsB S t) (g : IsB S u) : t = u := by
  have h1 := h.2 u g.1
  have h2 := g.2 t h.1
  obtain ⟨a, b, c⟩ := t
  obtain ⟨a', b', c'⟩ := u
  unfold ltP at h1 h2
  simp only at h1 h2
  have : a = a' := by omega
  have : b = b' := by omega
  have : c = c' := by omega
  simp [*]
/-- the pairs -/
def trpL (l : Nat) (ws : List (List (List Nat))) (i j : Nat) : Trp := (-distI l (ws.getD i []) (ws.getD j []), i, j)
def trps (l : Nat) (ws : List (List (List Nat))) : List Trp := (List.range ws.length).flatMap fun j => (List.range j).map fun i => trpL l ws i j
def PrS (l : Nat) (ws : List (List (List Nat))) (t : Trp) : Prop := ∃ i j, i < j ∧ j < ws.length ∧ t = trpL l ws i j
theorem mem_trps {l : Nat} {ws : List (List (List Nat))} {t : Trp} : t ∈ trps l ws ↔ PrS l ws t := by
  unfold trps PrS
  rw [List.mem_flatMap]
  constructor
  · rintro ⟨j, hj, h⟩
    obtain ⟨i, hi, rfl⟩ := List.mem_map.mp h
    exact ⟨i, j, List.mem_range.mp hi, List.mem_range.mp hj, rfl⟩
  · rintro ⟨i, j, h1, h2, rfl⟩
    exact ⟨j, List.mem_range.mpr h2, List.mem_map.mpr ⟨i, List.mem_range.mpr h1, rfl⟩⟩
def apT (l : Nat) (ws : List (List (List Nat))) : Option Trp := match trps l ws with
  | [] => none
  | x :: r => some (minT x r)
theorem apT_none {l : Nat} {ws : List (List (List Nat))} (h : ∀ t, ¬ PrS l ws t) : apT l ws = none := by
  unfold apT
  cases e : trps l ws with
  | nil => rfl
  | cons x r => exact absurd (mem_trps.mp (e ▸ List.mem_cons_self ..)) (h x)
theorem apT_some {l : Nat} {ws : List (List (List Nat))} {t : Trp} (h : IsB (PrS l ws) t) : apT l ws = some t := by
  unfold apT
  cases e : trps l ws with
  | nil =>
    have := mem_trps.mpr h.1
    rw [e] at this
    cases this
  | cons x r =>
    obtain ⟨h1, h2⟩ := minT_spec r x
    refine congrArg some (IsB.one (S := PrS l ws) ⟨mem_trps.mp (e ▸ h1), fun u hu => h2 u ?_⟩ h)
    rw [← e]
    exact mem_trps.mpr hu
/-- what is told -/
def bstD : Option Trp → PyData
  | none => .none
  | some t => tupI [-t.1, (t.2.1 : Int), (t.2.2 : Int)]
end WR
set_option Elab.async false
set_option linter.all false
set_option maxRecDepth 100000
set_option maxHeartbeats 1000000
namespace WR
open PySem PySem.Spec PyProof.Rows L2 Evl

/-! ### l.count(x), l.remove(x) of lists of data -/
def rLCnt (K : PySem.W.Frag) : V → List V → Hp → VK → Prop := fun x xs H Q => ∃ (a : Addr) (y : V) (d : PyData) (ds : List PyData), x = .ref a ∧ xs = [y] ∧ Dp K H (.ref a) (.list ds) ∧ Dp K H y d ∧ SeqAt.shaped (.list ds) = true ∧ SeqAt.shaped d = true ∧ Q (.int ((ds.countP fun z => PyData.eqv z d : Nat) : Int)) H
def rLRem (K : PySem.W.Frag) : V → List V → Hp → VK → Prop := fun x xs H Q => ∃ (a : Addr) (y : V) (d : PyData) (ds : List PyData) (ys : List V) (j : Nat) (z : PyData), x = .ref a ∧ xs = [y] ∧ H a = some (.lst ys) ∧ DpAll K H ys ds ∧ Dp K H y d ∧ SeqAt.shaped (.list ds) = true ∧ SeqAt.shaped d = true ∧
  ds[j]? = some z ∧ PyData.eqv z d = true ∧ (∀ (m : Nat) (z' : PyData), m < j → ds[m]? = some z' → PyData.eqv z' d = false) ∧ Q .non (upd H a (.lst (ys.eraseIdx j)))
section
variable {X : Cx}
theorem mt_lcnt (hu : X.A.units + 65 < cLine) : MtR X "list.count" (rLCnt X.K) := by
  intro pins s σ H x xs v us Q I rx rxs h
  obtain ⟨a, y, d, ds, rfl, rfl, hl, hy, sl, sd, q⟩ := h
  cases rx
  cases rxs with
  | cons ry rt =>
    rename_i uy ut
    cases rt
    obtain ⟨bs, r1⟩ := Dp.reads I d y uy hy ry
    have hxs : PyData.canLayAll0 ds = true := SeqAt.canLay_of_shaped sl
    have hroom : X.A.units + 1 + min (PyData.depthAll ds) d.depth < cLine := room_in_shaped sd hu
    cases hl with
    | lst hs ha =>
      obtain ⟨its, rv, ⟨⟨cls, dd, data, sls⟩, n, ho, hc, hdn, hdt⟩, hlen⟩ := I.list hs
      simp only at hc hdt
      subst hc hdt
      obtain ⟨as, h4⟩ := Dp.readsAll I ds _ its ha rv
      have hmap : its.map (SeqAt.readOf s.heap) = ds := SeqAt.readsAll_map ds its as hxs h4
      have hcnt : its.toArray.toList.countP (fun u => PyData.eqv (SeqAt.readOf s.heap u) d) = ds.countP fun z => PyData.eqv z d := by
        rw [← hmap, List.countP_map]
        rfl
      refine call_meets PySem.F.slot_list_count ⟨_, ho, rfl⟩ PySem.F.entry_list_count (PySem.F.args_list_count_2 _ _)
        (SeqAt.list_countAt a its.toArray n dd sls uy fun u => PyData.eqv (SeqAt.readOf s.heap u) d) ⟨ho, SeqAt.items_eqAt (vs := its.toArray) (show ReadsAll s.heap its.toArray.toList ds as from h4) r1 hxs (SeqAt.canLay_of_shaped sd) hroom, ?_⟩
      rw [hcnt]
      exact ⟨.int _, H, I.tok _, ⟨_, rfl⟩, q⟩
theorem mt_lrem (hu : X.A.units + 65 < cLine) : MtR X "list.remove" (rLRem X.K) := by
  intro pins s σ H x xs v us Q I rx rxs h
  obtain ⟨a, y, d, ds, ys, j, z, rfl, rfl, hH, ha, hy, sl, sd, hz, hzj, hno, q⟩ := h
  cases rx
  cases rxs with
  | cons ry rt =>
    rename_i uy ut
    cases rt
    obtain ⟨bs, r1⟩ := Dp.reads I d y uy hy ry
    have hxs : PyData.canLayAll0 ds = true := SeqAt.canLay_of_shaped sl
    have hroom : X.A.units + 1 + min (PyData.depthAll ds) d.depth < cLine := room_in_shaped sd hu
    obtain ⟨zz, its, n, rv, hl, e⟩ := I.lstM hH
    obtain ⟨as, h4⟩ := Dp.readsAll I ds _ its ha rv
    have hn : its.length = ds.length := SeqAt.ReadsAll.length ds its as h4
    have hmap : its.map (SeqAt.readOf s.heap) = ds := SeqAt.readsAll_map ds its as hxs h4
    obtain ⟨hjd, _⟩ := List.getElem?_eq_some_iff.mp hz
    have hjl : j < its.length := by omega
    have hj : j < its.toArray.size := by simpa using hjl
    have at_ : ∀ (m : Nat) (hm : m < its.toArray.size) (z' : PyData), ds[m]? = some z' → SeqAt.readOf s.heap its.toArray[m] = z' := by
      intro m hm z' hz'
      have hml : m < its.length := by simpa using hm
      rw [← hmap, List.getElem?_map, List.getElem?_eq_getElem hml] at hz'
      have e1 : SeqAt.readOf s.heap its[m] = z' := Option.some.inj (show some (SeqAt.readOf s.heap its[m]) = some z' from hz')
      simpa using e1
    refine call_meets PySem.F.slot_list_remove ⟨_, e, rfl⟩ PySem.F.entry_list_remove (PySem.F.args_list_remove_2 _ _)
      (SeqAt.list_removeAt a its.toArray n none #[] uy (fun u => PyData.eqv (SeqAt.readOf s.heap u) d) j hj ?_ ?_ (by rw [List.size_toArray]; omega)) ⟨e, SeqAt.items_eqAt (vs := its.toArray) (show ReadsAll s.heap its.toArray.toList ds as from h4) r1 hxs (SeqAt.canLay_of_shaped sd) hroom, ?_⟩
    · show PyData.eqv (SeqAt.readOf s.heap its.toArray[j]) d = true
      rw [at_ j hj z hz]
      exact hzj
    · intro m hm hmj
      have hmd : m < ds.length := by omega
      show PyData.eqv (SeqAt.readOf s.heap its.toArray[m]) d = false
      rw [at_ m (by omega) _ (List.getElem?_eq_getElem hmd)]
      exact hno m _ hmj (List.getElem?_eq_getElem hmd)
    · refine ⟨.non, _, I.lset (its' := its.eraseIdx j) hH e ?_ (rv.eraseIdx j) ?_, rfl, q⟩
      · show its.toArray.eraseIdxIfInBounds j = (its.eraseIdx j).toArray
        rw [List.eraseIdxIfInBounds_toArray]
      · have := len_erase ys j
        omega
end
end WR
set_option Elab.async false
set_option linter.all false
set_option maxRecDepth 100000
set_option maxHeartbeats 1000000
namespace WR
open PySem PySem.Spec PyProof.Rows L2

/-! ### a set's table of any size: masks 2^k - 1 -/
def MaskP (m : Nat) : Prop := ∃ k, 3 ≤ k ∧ k ≤ 20 ∧ m + 1 = 2 ^ k
/-- the round of i -> 5 i + 1, without a modulus -/
def rd5 : Nat → Nat
  | 0 => 0
  | n + 1 => 5 * rd5 n + 1
theorem rd5_pow (n : Nat) : 5 ^ n = 4 * rd5 n + 1 := by
  induction n with
  | zero => rfl
  | succ n ih =>
    rw [Nat.pow_succ, ih]
    show _ = 4 * (5 * rd5 n + 1) + 1
    omega
theorem rd5_add (a b : Nat) : rd5 (a + b) = 5 ^ a * rd5 b + rd5 a := by
  induction a with
  | zero => simp [rd5]
  | succ a ih =>
    rw [show a + 1 + b = (a + b) + 1 by omega]
    show 5 * rd5 (a + b) + 1 = 5 ^ (a + 1) * rd5 b + (5 * rd5 a + 1)
    rw [ih, Nat.pow_succ, Nat.mul_add]
    have : 5 * (5 ^ a * rd5 b) = 5 ^ a * 5 * rd5 b := by rw [← Nat.mul_assoc, Nat.mul_comm 5 (5 ^ a)]
    omega
/-- at a power of two the round is that power, oddly often -/
theorem rd5_two : ∀ k, ∃ c, rd5 (2 ^ k) = 2 ^ k * (2 * c + 1)
  | 0 => ⟨0, rfl⟩
  | k + 1 => by
    obtain ⟨c, hc⟩ := rd5_two k
    have e : (2 : Nat) ^ (k + 1) = 2 ^ k + 2 ^ k := by rw [Nat.pow_succ]; omega
    have h := rd5_add (2 ^ k) (2 ^ k)
    rw [← e, rd5_pow] at h
    generalize rd5 (2 ^ k) = r at hc h
    refine ⟨c * (2 * r + 1) + r, ?_⟩
    have h2 : (4 * r + 1) * r + r = 2 * r * (2 * r + 1) := by
      rw [Nat.add_mul, Nat.mul_add, Nat.one_mul, Nat.mul_one]
      have : 4 * r * r = 2 * r * (2 * r) := by
        rw [show 4 * r = 2 * r + 2 * r by omega, Nat.add_mul, ← Nat.mul_add]
        congr 1
        omega
      omega
    rw [h, h2, hc]
    have h3 : 2 * (2 ^ k * (2 * c + 1)) = 2 ^ (k + 1) * (2 * c + 1) := by
      rw [Nat.pow_succ, ← Nat.mul_assoc, Nat.mul_comm 2 (2 ^ k)]
    rw [h3, Nat.mul_assoc]
    congr 1
    rw [← hc]
    rw [Nat.add_mul, Nat.one_mul, Nat.mul_assoc, Nat.mul_add 2]
    omega
theorem rd5_mod {k : Nat} (n : Nat) : rd5 (n + 2 ^ k) % 2 ^ (k + 1) = (rd5 n + 2 ^ k) % 2 ^ (k + 1) := by
  obtain ⟨c, hc⟩ := rd5_two k
  have h := rd5_add (2 ^ k) n
  rw [rd5_pow, hc] at h
  rw [Nat.add_comm n, h]
  have e : (2 : Nat) ^ (k + 1) = 2 ^ k * 2 := Nat.pow_succ ..
  have h2 : (4 * (2 ^ k * (2 * c + 1)) + 1) * rd5 n + 2 ^ k * (2 * c + 1) = rd5 n + 2 ^ k + 2 ^ (k + 1) * (2 * (2 * c + 1) * rd5 n + c) := by
    have h3 : 4 * (2 ^ k * (2 * c + 1)) * rd5 n = 2 ^ k * 2 * (2 * (2 * c + 1) * rd5 n) := by
      rw [show (4 : Nat) = 2 * 2 from rfl]
      simp only [Nat.mul_assoc, Nat.mul_left_comm]
    have h4 : 2 ^ k * (2 * c + 1) = 2 ^ k * 2 * c + 2 ^ k := by rw [Nat.mul_add, Nat.mul_one, Nat.mul_assoc]
    rw [e, Nat.add_mul, Nat.one_mul, h3, h4, Nat.mul_add (2 ^ k * 2)]
    omega
  rw [h2, Nat.add_mul_mod_self_left]
theorem rd5_all : ∀ (k j : Nat), j < 2 ^ k → ∃ b, b < 2 ^ k ∧ rd5 b % 2 ^ k = j
  | 0, j, h => ⟨0, by decide, by simp at h; subst h; rfl⟩
  | k + 1, j, h => by
    have e : (2 : Nat) ^ (k + 1) = 2 ^ k + 2 ^ k := by rw [Nat.pow_succ]; omega
    have p : 0 < (2 : Nat) ^ k := Nat.pow_pos (by decide)
    obtain ⟨b, hb, hr⟩ := rd5_all k (j % 2 ^ k) (Nat.mod_lt _ p)
    have key : rd5 b % 2 ^ (k + 1) = j ∨ (rd5 b + 2 ^ k) % 2 ^ (k + 1) = j := by
      have h1 := Nat.div_add_mod (rd5 b) (2 ^ k)
      have h2 := Nat.div_add_mod j (2 ^ k)
      rw [hr] at h1
      have hj2 : j / 2 ^ k < 2 := by
        refine (Nat.div_lt_iff_lt_mul p).mpr ?_
        omega
      have hml := Nat.mod_lt j p
      rw [show (2 : Nat) ^ (k + 1) = 2 ^ k * 2 from Nat.pow_succ ..]
      generalize rd5 b / 2 ^ k = u at h1
      generalize j / 2 ^ k = v at h2 hj2
      generalize j % 2 ^ k = r at h1 h2 hml
      generalize (2 : Nat) ^ k = P at p h1 h2 hml
      have hu := Nat.div_add_mod u 2
      generalize u / 2 = u2 at hu
      have hu2 : u % 2 = 0 ∨ u % 2 = 1 := by omega
      have val : ∀ q, q < 2 → (P * (2 * u2 + q) + r) % (P * 2) = P * q + r := fun q hq => by
        have : P * (2 * u2 + q) + r = P * 2 * u2 + (P * q + r) := by
          rw [Nat.mul_add, ← Nat.mul_assoc]
          omega
        rw [this, Nat.mul_add_mod]
        refine Nat.mod_eq_of_lt ?_
        rcases (show q = 0 ∨ q = 1 by omega) with rfl | rfl
        · omega
        · omega
      have hb0 : rd5 b = P * u + r := h1.symm
      have hv : v = 0 ∨ v = 1 := by omega
      rcases hu2 with z | z
      · have eu : u = 2 * u2 + 0 := by omega
        rcases hv with y | y
        · left
          rw [hb0, eu, val 0 (by decide)]
          rw [y] at h2
          omega
        · right
          have : rd5 b + P = P * (2 * u2 + 1) + r := by
            rw [hb0, eu, Nat.mul_add, Nat.mul_add]
            omega
          rw [this, val 1 (by decide)]
          rw [y] at h2
          omega
      · have eu : u = 2 * u2 + 1 := by omega
        rcases hv with y | y
        · right
          have : rd5 b + P = P * (2 * (u2 + 1) + 0) + r := by
            rw [hb0, eu, Nat.mul_add, Nat.mul_add]
            rw [show 2 * (u2 + 1) = 2 * u2 + 2 by omega, Nat.mul_add]
            omega
          have val2 : (P * (2 * (u2 + 1) + 0) + r) % (P * 2) = r := by
            have : P * (2 * (u2 + 1) + 0) + r = P * 2 * (u2 + 1) + r := by
              rw [Nat.add_zero, ← Nat.mul_assoc]
            rw [this, Nat.mul_add_mod]
            exact Nat.mod_eq_of_lt (by omega)
          rw [this, val2]
          rw [y] at h2
          omega
        · left
          rw [hb0, eu, val 1 (by decide)]
          rw [y] at h2
          omega
    rcases key with z | z
    · exact ⟨b, by omega, z⟩
    · exact ⟨b + 2 ^ k, by omega, by rw [rd5_mod]; exact z⟩
theorem rd5_lcg (m : Nat) : ∀ n, lcgN m n = rd5 n % (m + 1)
  | 0 => by simp [lcgN, rd5]
  | n + 1 => by
    show (lcgN m n * 5 + 1) % (m + 1) = (5 * rd5 n + 1) % (m + 1)
    rw [rd5_lcg m n, Nat.mul_comm 5, Nat.add_mod, Nat.mul_mod, Nat.mod_mod, ← Nat.mul_mod, ← Nat.add_mod]
theorem rd5_period {k : Nat} (n : Nat) : rd5 (2 ^ k + n) % 2 ^ k = rd5 n % 2 ^ k := by
  obtain ⟨c, hc⟩ := rd5_two k
  have h := rd5_add (2 ^ k) n
  rw [rd5_pow, hc] at h
  rw [h]
  have : (4 * (2 ^ k * (2 * c + 1)) + 1) * rd5 n + 2 ^ k * (2 * c + 1) = rd5 n + 2 ^ k * (4 * (2 * c + 1) * rd5 n + (2 * c + 1)) := by
    rw [Nat.add_mul, Nat.one_mul, Nat.mul_add (2 ^ k) (4 * (2 * c + 1) * rd5 n)]
    have h3 : 4 * (2 ^ k * (2 * c + 1)) * rd5 n = 2 ^ k * (4 * (2 * c + 1) * rd5 n) := by simp only [Nat.mul_assoc, Nat.mul_left_comm]
    rw [h3]
    omega
  rw [this, Nat.add_mul_mod_self_left]
/-- from anywhere each slot is met within a round -/
theorem lcgP_all {m : Nat} (hm : MaskP m) {i j : Nat} (hi : i ≤ m) (hj : j ≤ m) : ∃ n, n ≤ m ∧ lcgI m i n = j := by
  obtain ⟨k, _, _, e⟩ := hm
  obtain ⟨a, ha, ea⟩ := rd5_all k i (by omega)
  obtain ⟨b, hb, eb⟩ := rd5_all k j (by omega)
  rw [← e] at ha hb ea eb
  rw [← rd5_lcg] at ea eb
  rw [← ea]
  rcases Nat.lt_or_ge b a with z | z
  · refine ⟨b + (m + 1) - a, by omega, ?_⟩
    rw [lcgN_add, show a + (b + (m + 1) - a) = (m + 1) + b by omega, rd5_lcg, e, rd5_period, ← e, ← rd5_lcg]
    exact eb
  · refine ⟨b - a, by omega, ?_⟩
    rw [lcgN_add, show a + (b - a) = b by omega]
    exact eb
theorem meetP {m : Nat} (hm : MaskP m) (h : Int) {j : Nat} (hj : j ≤ m) : ∃ n, n ≤ m + 12 ∧ runI m (SetTable.bits h) n = j := by
  obtain ⟨k, hk, e⟩ := lcgP_all hm (runI_le m (SetTable.bits h) 12) hj
  exact ⟨12 + k, by omega, (runI_tail (bits_lt h) k).trans e⟩
theorem nthP {m : Nat} (hm : MaskP m) (h : Int) {j : Nat} (hj : j ≤ m) : ∃ k, k < 10 * SetTable.turns m ∧ L2.way m h k = j := by
  obtain ⟨n, hn, e⟩ := meetP hm h hj
  obtain ⟨k, hk, e2⟩ := run_nth m (SetTable.bits h) n
  refine ⟨k, by unfold SetTable.turns; omega, ?_⟩
  show (nth m (runAt m (SetTable.bits h % (m + 1)) (SetTable.bits h)) k).j = j
  rw [e2]
  exact e
theorem wayP_le {m : Nat} {h : Int} {k : Nat} : L2.way m h k ≤ m := by
  have hi : SetTable.bits h % (m + 1) ≤ m := Nat.le_of_lt_succ (Nat.mod_lt _ (Nat.succ_pos _))
  have r := runEnd_bd hi
  have q := nth_in k (runAt m (SetTable.bits h % (m + 1)) (SetTable.bits h)) (m := m) (by
    show SetTable.bits h % (m + 1) + (SetTable.runEnd m _ - _) ≤ m
    omega)
  have : L2.way m h k = (nth m (runAt m (SetTable.bits h % (m + 1)) (SetTable.bits h)) k).j := rfl
  omega
end WR
set_option Elab.async false
set_option linter.all false
set_option maxRecDepth 100000
set_option maxHeartbeats 1000000
namespace WR
open PySem PySem.Spec PyProof.Rows L2

/-! ### tables whose entries are found again, of any size -/
/-- the way of a hash up to (not with) its n-th place is all taken -/
def Full (t : SetTable) (h : Int) (n : Nat) : Prop := ∀ c, c < n → L2.way t.mask h c ∈ t.place.toList
structure TabP (t : SetTable) (hs : List Int) : Prop where
  asc : Ris t.place.toList
  clean : t.dummies = #[]
  size : t.place.size = hs.length
  mask : MaskP t.mask
  low : ∀ x ∈ t.place.toList, x ≤ t.mask
  found : ∀ (i : Nat) (h : Int) (j : Nat), hs[i]? = some h → t.place.toList[i]? = some j → ∃ n, L2.way t.mask h n = j ∧ Full t h n
section
variable {t : SetTable} {hs : List Int} {h : Int}
theorem TabP.gap (T : TabP t hs) (few : hs.length ≤ t.mask) (h : Int) : ∃ n, n < 10 * SetTable.turns t.mask ∧ L2.way t.mask h n ∉ t.place.toList ∧ Full t h n := by
  have short : t.place.toList.length < t.mask + 1 := by
    have := T.size
    rw [Array.length_toList]
    omega
  obtain ⟨j, hj, away⟩ := st_missing _ _ short
  obtain ⟨k, hk, e⟩ := nthP T.mask h (Nat.le_of_lt_succ hj)
  obtain ⟨n, hn, free, first⟩ := st_least (p := fun c => L2.way t.mask h c ∉ t.place.toList) k (by rw [e]; exact away)
  exact ⟨n, by omega, free, fun c hc => Classical.byContradiction fun z => first c hc z⟩
theorem TabP.ahead (T : TabP t hs) {n i j : Nat} (free : L2.way t.mask h n ∉ t.place.toList) (hi : hs[i]? = some h) (hj : t.place.toList[i]? = some j) : ∃ c, c < n ∧ L2.way t.mask h c = j := by
  obtain ⟨c, e, full⟩ := T.found i h j hi hj
  have inn : j ∈ t.place.toList := List.mem_of_getElem? hj
  rcases Nat.lt_or_ge c n with z | z
  · exact ⟨c, z, e⟩
  · exfalso
    rcases Nat.lt_or_ge n c with y | y
    · exact free (full n y)
    · have : n = c := by omega
      rw [this, e] at free
      exact free inn
theorem TabP.added (T : TabP t hs) {n : Nat} (free : L2.way t.mask h n ∉ t.place.toList) (full : Full t h n) :
    ∃ p, (t.put (L2.way t.mask h n)).2 = p ∧ SetTable.below t.place (L2.way t.mask h n) = p ∧ p ≤ hs.length ∧ TabP (t.put (L2.way t.mask h n)).1 (hs.take p ++ h :: hs.drop p) ∧
      (t.put (L2.way t.mask h n)).1.mask = t.mask ∧ (t.put (L2.way t.mask h n)).1.led = t.led ∧ (t.put (L2.way t.mask h n)).1.plain = t.plain ∧ (t.put (L2.way t.mask h n)).1.fill = hs.length + 1 := by
  have jm : L2.way t.mask h n ≤ t.mask := wayP_le
  obtain ⟨j, ej⟩ : ∃ j, j = L2.way t.mask h n := ⟨_, rfl⟩
  rw [← ej] at free jm ⊢
  obtain ⟨p, ep⟩ : ∃ p, p = SetTable.below t.place j := ⟨_, rfl⟩
  have pl : p ≤ t.place.size := by
    rw [ep]
    exact (below_cut T.asc j).1
  have len : t.place.toList.length = hs.length := (Array.length_toList).trans T.size
  have ph : p ≤ hs.length := T.size ▸ pl
  have new := put_place t j
  rw [← ep] at new
  have grew : (t.put j).1.place.size = hs.length + 1 := by
    have := congrArg List.length new
    rw [Array.length_toList, len_ins _ (by omega), len] at this
    exact this
  have still : ∀ {x : Nat}, x ∈ t.place.toList → x ∈ (t.put j).1.place.toList := fun hx => by
    rw [new]
    exact mem_ins.mpr (.inr hx)
  refine ⟨p, ep.symm, ep.symm, ph, ?_, rfl, rfl, rfl, ?_⟩
  · refine ⟨ris_insert T.asc (fun e => free (by rw [← Array.getElem?_toList] at e; exact List.mem_of_getElem? e)), put_dm T.clean j, by rw [len_ins _ ph]; exact grew, T.mask, fun x hx => ?_, fun i h2 j2 e1 e2 => ?_⟩
    · rw [new] at hx
      rcases mem_ins.mp hx with rfl | hx
      · exact jm
      · exact T.low x hx
    · rw [tins_get hs ph] at e1
      rw [new, tins_get _ (by omega)] at e2
      have old : ∀ i', hs[i']? = some h2 → t.place.toList[i']? = some j2 → ∃ n, L2.way t.mask h2 n = j2 ∧ ∀ c, c < n → L2.way t.mask h2 c ∈ (t.put j).1.place.toList := fun i' a b => by
        obtain ⟨n, y, f⟩ := T.found i' h2 j2 a b
        exact ⟨n, y, fun c hc => still (f c hc)⟩
      by_cases z : i < p
      · rw [if_pos z] at e1 e2
        exact old i e1 e2
      · rw [if_neg z] at e1 e2
        by_cases y : i = p
        · rw [if_pos y] at e1 e2
          cases e1
          cases e2
          exact ⟨n, ej.symm, fun c hc => still (full c hc)⟩
        · rw [if_neg y] at e1 e2
          exact old (i - 1) e1 e2
  · have dm : (t.put j).1.dummies.size = 0 := by
      rw [put_dm T.clean j]
      rfl
    have : (t.put j).1.fill = (t.put j).1.place.size + (t.put j).1.dummies.size := rfl
    omega
end
/-! ### laid anew -/
section
variable {m : Nat} {done : List Int} {owner : Array (Option Nat)}
theorem freeP (hm : MaskP m) (h : Int) {j : Nat} (hj : j ≤ m) (hf : oAt owner j = none) :
    ∃ n, SetTable.layClean.free m owner (SetTable.turns m) (SetTable.bits h % (m + 1)) (SetTable.bits h) = some (L2.way m h n) ∧ oAt owner (L2.way m h n) = none ∧ ∀ c, c < n → oAt owner (L2.way m h c) ≠ none := by
  obtain ⟨r, hr, e⟩ := meetP hm h hj
  let B := SetTable.bits h
  have there : L2.way m h (off m (B % (m + 1)) B r) = j := by
    have := congrArg SetTable.Probe.j (nth_off m r (B % (m + 1)) B)
    rw [itL_run] at this
    exact this.trans e
  obtain ⟨n, hn, free, first⟩ := st_least (p := fun c => oAt owner (L2.way m h c) = none) (off m (B % (m + 1)) B r) (by rw [there]; exact hf)
  refine ⟨n, free_spec m owner _ r _ _ n (by unfold SetTable.turns; omega) hn (fun c hc => ?_) ?_, free, fun c hc => first c hc⟩
  · cases z : oAt owner (nth m (runAt m (B % (m + 1)) B) c).j with
    | none => exact absurd z (first c hc)
    | some _ => rfl
  · exact Option.isNone_iff_eq_none.mpr free
theorem ownP (hm : MaskP m) (W : Own m done owner) (few : done.length ≤ m) (h : Int) :
    ∃ j, SetTable.layClean.free m owner (SetTable.turns m) (SetTable.bits h % (m + 1)) (SetTable.bits h) = some j ∧ Own m (done ++ [h]) (owner.setIfInBounds j (some done.length)) := by
  obtain ⟨ps, len, taken⟩ := W.ps
  obtain ⟨j0, hj0, away⟩ := st_missing ps (m + 1) (by omega)
  have open0 : oAt owner j0 = none := Classical.byContradiction fun z => away (taken j0 (by omega) z)
  obtain ⟨n, e, free, first⟩ := freeP hm h (Nat.le_of_lt_succ hj0) open0
  obtain ⟨j, ej⟩ : ∃ j, j = L2.way m h n := ⟨_, rfl⟩
  have jm : j ≤ m := ej ▸ wayP_le
  rw [← ej] at e free
  have inb : j < owner.size := by
    have := W.sz
    omega
  have here := oAt_set_self (owner := owner) (some done.length) inb
  have other : ∀ {i}, i ≠ j → oAt (owner.setIfInBounds j (some done.length)) i = oAt owner i := fun z => oAt_set_ne _ z
  have kept : ∀ {i}, oAt owner i ≠ none → oAt (owner.setIfInBounds j (some done.length)) i ≠ none := fun {i} z => by
    by_cases y : i = j
    · rw [y, here]
      simp
    · rw [other y]
      exact z
  refine ⟨j, e, (Array.size_setIfInBounds ..).trans W.sz, fun i k hi ek => ?_, fun k hk => ?_, j :: ps, by simp [len], fun i hi z => ?_⟩
  · by_cases y : i = j
    · rw [y, here] at ek
      cases ek
      exact ⟨h, n, by simp, by rw [y]; exact ej.symm, fun c hc => kept (first c hc)⟩
    · rw [other y] at ek
      obtain ⟨h2, n2, a, b, c⟩ := W.at_ i k hi ek
      exact ⟨h2, n2, by rw [List.getElem?_append_left (List.getElem?_eq_some_iff.mp a).1]; exact a, b, fun q hq => kept (c q hq)⟩
  · rcases Nat.lt_or_ge k done.length with y | y
    · obtain ⟨i, hi, ei⟩ := W.all k y
      exact ⟨i, hi, by rw [other (fun z => by rw [z, free] at ei; cases ei)]; exact ei⟩
    · have : k = done.length := by
        rw [List.length_append] at hk
        simp at hk
        omega
      exact ⟨j, jm, by rw [this]; exact here⟩
  · by_cases y : i = j
    · rw [y]
      exact List.mem_cons_self
    · rw [other y] at z
      exact List.mem_cons_of_mem _ (taken i hi z)
theorem foldP (hm : MaskP m) : ∀ (rest done : List Int) (owner : Array (Option Nat)), Own m done owner → done.length + rest.length ≤ m →
    ∃ o2, rest.foldl (stepF m) (some (owner, done.length)) = some (o2, (done ++ rest).length) ∧ Own m (done ++ rest) o2 := by
  intro rest
  induction rest with
  | nil =>
    intro done owner W _
    rw [List.append_nil]
    exact ⟨owner, rfl, W⟩
  | cons h rest ih =>
    intro done owner W few
    rw [List.length_cons] at few
    obtain ⟨j, e, W2⟩ := ownP hm W (by omega) h
    obtain ⟨o2, f, W3⟩ := ih _ _ W2 (by rw [List.length_append]; simp; omega)
    rw [show done ++ [h] ++ rest = done ++ h :: rest by simp] at f W3
    refine ⟨o2, ?_, W3⟩
    rw [List.foldl_cons, stepF_some e]
    rw [List.length_append, List.length_singleton] at f
    exact f
theorem laidP (t : SetTable) {hs : Array Int} {wanted M : Nat} (ew : SetTable.sizeAbove wanted - 1 = M) (hM : MaskP M) (few : hs.size ≤ M) :
    ∃ t2 order, t.relaid hs wanted = some (t2, order) ∧ order.toList.Perm (List.range hs.size) ∧ TabP t2 (order.toList.map fun i => hs.getD i 0) ∧ t2.mask = M ∧ t2.led = t.led ∧ t2.plain = t.plain := by
  obtain ⟨owner, f, W⟩ := foldP hM hs.toList [] _ (Own.init M) (by simpa using few)
  rw [List.nil_append] at W f
  have made : SetTable.layClean M hs = some owner := by
    rw [layClean_eq]
    exact congrArg (Option.map (·.1)) f
  obtain ⟨live, elive⟩ : ∃ live, live = liveOf M owner := ⟨_, rfl⟩
  have isLive : ∀ {j k}, (j, k) ∈ live ↔ j ≤ M ∧ oAt owner j = some k := fun {j k} => by
    rw [elive]
    exact mem_live W.sz
  have rising : Ris (live.map (·.1)) ∧ ∀ x ∈ live.map (·.1), x ∈ List.range (M + 1) := by
    rw [elive]
    exact ris_live (fun j => owner.getD j none) (List.range (M + 1)) List.pairwise_lt_range
  have once : (live.map (·.1)).Nodup := rising.1.imp fun z => Nat.ne_of_lt z
  have many : live.length = hs.size := by
    obtain ⟨ps, len, taken⟩ := W.ps
    have up : (live.map (·.1)).length ≤ ps.length := nat_nodup_len _ _ once fun x hx => by
      obtain ⟨⟨y, k⟩, hq, rfl⟩ := List.mem_map.mp hx
      obtain ⟨a, b⟩ := isLive.mp hq
      exact taken y a (by rw [b]; simp)
    have down : (List.range hs.size).length ≤ (live.map (·.2)).length := nat_nodup_len _ _ List.nodup_range fun k hk => by
      obtain ⟨j, a, b⟩ := W.all k (by rw [Array.length_toList]; exact List.mem_range.mp hk)
      exact List.mem_map.mpr ⟨(j, k), isLive.mpr ⟨a, b⟩, rfl⟩
    have len2 : ps.length = hs.size := len.trans Array.length_toList
    rw [List.length_map] at up
    rw [List.length_map, List.length_range] at down
    omega
  refine ⟨tabOf t M owner, ((liveOf M owner).map (·.2)).toArray, by rw [relaid_eq, ew, made]; rfl, ?_, ?_, rfl, rfl, rfl⟩
  · rw [← elive]
    refine perm_range _ _ (by simp [many]) fun k hk => ?_
    obtain ⟨j, a, b⟩ := W.all k (by rw [Array.length_toList]; exact hk)
    exact List.mem_map.mpr ⟨(j, k), isLive.mpr ⟨a, b⟩, rfl⟩
  · rw [← elive]
    have place : (tabOf t M owner).place.toList = live.map (·.1) := by
      rw [elive]
      rfl
    refine ⟨by rw [place]; exact rising.1, rfl, ?_, hM, fun x hx => ?_, fun i h j e1 e2 => ?_⟩
    · have := congrArg List.length place
      rw [Array.length_toList] at this
      rw [this]
      simp
    · rw [place] at hx
      exact Nat.le_of_lt_succ (List.mem_range.mp (rising.2 x hx))
    · rw [place, List.getElem?_map] at e2
      obtain ⟨⟨y, k⟩, hq, rfl⟩ := Option.map_eq_some_iff.mp e2
      rw [List.getElem?_map, show (List.map (fun x => x.2) live).toArray.toList = live.map (·.2) from rfl, List.getElem?_map, hq] at e1
      obtain ⟨a, b⟩ := isLive.mp (List.mem_of_getElem? hq)
      obtain ⟨h2, n, c1, c2, c3⟩ := W.at_ y k a b
      have eh : h2 = h := by
        have : hs.getD k 0 = h := Option.some.inj e1
        rw [← this, Array.getD_eq_getD_getElem?, ← Array.getElem?_toList, c1]
        rfl
      subst eh
      refine ⟨n, c2, fun c hc => ?_⟩
      rw [place]
      obtain ⟨k2, hk2⟩ := Option.ne_none_iff_exists'.mp (c3 c hc)
      exact List.mem_map.mpr ⟨(L2.way M h2 c, k2), isLive.mpr ⟨wayP_le, hk2⟩, rfl⟩
end
end WR
set_option Elab.async false
set_option linter.all false
set_option maxRecDepth 100000
set_option maxHeartbeats 1600000
namespace WR
open PySem PySem.Spec PyProof.Rows L2

/-! ### sets of objects that are told apart by a kind of keys, up to some thousands -/
structure SKind (P : Program) (w : World) (κ : Type) [DecidableEq κ] where
  kd : HeapKind P w κ
  st : kd.Stays
  val8 : ∀ {A : Around} {E : Value → Shared → Prop} {s : Shared} {k : κ} {a : Addr} {Q : Bool → Shared → Prop}, kd.is s.heap k a → Q true s → wpAny (model P w) A (hashByValue 8 (.ref a)) Q E s
  cls8 : ∀ {A : Around} {E : Value → Shared → Prop} {s : Shared} {k : κ} {a : Addr} {Q : Bool → Shared → Prop}, kd.is s.heap k a → Q false s → wpAny (model P w) A (ofAClassStatement 8 (.ref a)) Q E s
  roomy : ∀ A : Around, A.units + 9 < cLine → kd.room A
def MaskS (m : Nat) : Prop := m = 7 ∨ m = 31 ∨ m = 127 ∨ m = 511 ∨ m = 2047 ∨ m = 8191
theorem MaskS.p {m : Nat} (h : MaskS m) : MaskP m := by
  rcases h with rfl | rfl | rfl | rfl | rfl | rfl
  · exact ⟨3, by decide, by decide, by decide⟩
  · exact ⟨5, by decide, by decide, by decide⟩
  · exact ⟨7, by decide, by decide, by decide⟩
  · exact ⟨9, by decide, by decide, by decide⟩
  · exact ⟨11, by decide, by decide, by decide⟩
  · exact ⟨13, by decide, by decide, by decide⟩
/-- the next size, when a table is too full -/
theorem MaskS.next {m n : Nat} (h : MaskS m) (room : n * 5 < m * 3) (full : (n + 1) * 5 ≥ m * 3) (few : n + 1 ≤ 4000) : ∃ M, SetTable.sizeAbove (SetTable.grown (n + 1)) - 1 = M ∧ SetTable.sizeAbove (SetTable.grown (n + 1)) ≤ 8192 ∧ MaskS M ∧ (n + 1) * 5 < M * 3 := by
  rcases h with rfl | rfl | rfl | rfl | rfl | rfl
  · obtain rfl : n = 4 := by omega
    exact ⟨31, by decide +kernel, by decide +kernel, .inr (.inl rfl), by decide⟩
  · obtain rfl : n = 18 := by omega
    exact ⟨127, by decide +kernel, by decide +kernel, .inr (.inr (.inl rfl)), by decide⟩
  · obtain rfl : n = 76 := by omega
    exact ⟨511, by decide +kernel, by decide +kernel, .inr (.inr (.inr (.inl rfl))), by decide⟩
  · obtain rfl : n = 306 := by omega
    exact ⟨2047, by decide +kernel, by decide +kernel, .inr (.inr (.inr (.inr (.inl rfl)))), by decide⟩
  · obtain rfl : n = 1228 := by omega
    exact ⟨8191, by decide +kernel, by decide +kernel, .inr (.inr (.inr (.inr (.inr rfl)))), by decide⟩
  · omega
section
variable {P : Program} {w : World} {κ : Type} [DecidableEq κ] {S : SKind P w κ} {A : Around} {E : Value → Shared → Prop} {s : Shared}
/-- the entries -/
def ent (S : SKind P w κ) (L : List (Addr × κ)) : List (Int × Value) := L.map fun p => (S.kd.hash p.2, Value.ref p.1)
structure SetG (S : SKind P w κ) (h : Heap) (a : Addr) (L : List (Addr × κ)) (es : Array (Int × Value)) (ep : Nat) (t : SetTable) : Prop where
  at_ : ∃ o, h.get? a = some o ∧ o.ExactSet ∧ o.data = .set es ep t
  all : es.toList = ent S L
  tab : TabP t (L.map fun p => S.kd.hash p.2)
  msk : MaskS t.mask
  once : (L.map (·.2)).Nodup
  keys : ∀ p ∈ L, S.kd.is h p.2 p.1
  byV : t.plain = true
  led : w.params.followText "set-order" = true ∨ t.led = true
  room : L.length * 5 < t.mask * 3
  few : L.length ≤ 4000
variable {a : Addr} {L : List (Addr × κ)} {es : Array (Int × Value)} {ep : Nat} {t : SetTable}
theorem ent_len : (ent S L).length = L.length := List.length_map ..
theorem ent_at {i : Nat} {p : Addr × κ} (all : es.toList = ent S L) (h : L[i]? = some p) : es[i]? = some (S.kd.hash p.2, Value.ref p.1) := by
  rw [← Array.getElem?_toList, all]
  unfold ent
  rw [List.getElem?_map, h]
  rfl
theorem ent_size (all : es.toList = ent S L) : es.size = L.length := by
  rw [← Array.length_toList, all, ent_len]
theorem SetG.fit (G : SetG S s.heap a L es ep t) : t.fits es.size = true := by
  have z1 := G.tab.size
  have z2 := ent_size G.all
  have z3 := G.room
  rw [List.length_map] at z1
  have : t.fill = t.place.size := by
    unfold SetTable.fill
    rw [G.tab.clean]
    rfl
  unfold SetTable.fits
  rw [this, z1, z2, beq_self_eq_true, Bool.true_and]
  exact decide_eq_true (by omega)
theorem SetG.odd (G : SetG S s.heap a L es ep t) : t.gaveWay = false := by
  unfold SetTable.gaveWay
  rcases G.msk with z | z | z | z | z | z <;> rw [z] <;> rfl
theorem seenS {x : Addr} {k : κ} {ys : List Value} {Q : Bool → Shared → Prop} (hx : S.kd.is s.heap k x) (hy : ∀ y ∈ ys, ∃ c l, y = Value.ref c ∧ S.kd.is s.heap l c) (q : Q false s) : wpAny (model P w) A (searchCouldBeSeen (.ref x) ys) Q E s := by
  unfold searchCouldBeSeen
  refine wpAny_bind (wpAny_forIn_list _ (fun left r z => r.1 = none ∧ z = s ∧ ∀ y ∈ left, ∃ c l, y = Value.ref c ∧ S.kd.is s.heap l c) _ ?turn ?fin _ _ ⟨rfl, rfl, hy⟩)
  case turn =>
    rintro y left r z ⟨hr, rfl, all⟩
    obtain ⟨c, l, rfl, hc⟩ := all y List.mem_cons_self
    have more : ∀ y ∈ left, ∃ c l, y = Value.ref c ∧ S.kd.is z.heap l c := fun u hu => all u (List.mem_cons_of_mem _ hu)
    dsimp only
    by_cases same : (x == c || (carriedByValue (.ref x) && carriedByValue (.ref c))) = true
    · exact wp_if_pos same (wpAny_pure ⟨rfl, rfl, more⟩)
    · refine wp_if_neg same (wpAny_bind (S.kd.quiet hx ?_))
      simp only [Bool.not_true, Bool.false_eq_true, if_false]
      refine wpAny_bind (S.kd.quiet hc ?_)
      simp only [Bool.not_true, Bool.false_eq_true, if_false]
      refine wpAny_bind (S.cls8 hx ?_)
      simp only [Bool.false_eq_true, if_false]
      refine wpAny_bind (S.cls8 hc ?_)
      simp only [Bool.false_eq_true, if_false]
      exact wpAny_pure ⟨rfl, rfl, more⟩
  case fin =>
    rintro ⟨r1, r2⟩ z ⟨hr, rfl, _⟩
    cases (show r1 = none from hr)
    exact wpAny_pure q
/-- the state of a search behind c steps -/
abbrev stand (t : SetTable) (h : Int) (c : Nat) : SetTable.Probe := nth t.mask (runAt t.mask (SetTable.bits h % (t.mask + 1)) (SetTable.bits h)) c
theorem stand_add (t : SetTable) (h : Int) (c q : Nat) : nth t.mask (stand t h c) q = stand t h (c + q) := (nth_add t.mask c _ q).symm
theorem stand_j (t : SetTable) (h : Int) (c : Nat) : (stand t h c).j = L2.way t.mask h c := rfl
theorem stand_dm (t : SetTable) (h : Int) : ∀ c, (stand t h c).dummy = none
  | 0 => rfl
  | c + 1 => by
    have e : stand t h (c + 1) = adv t.mask (stand t h c) := nth_succ ..
    rw [e]
    unfold adv
    split
    · exact stand_dm t h c
    · exact stand_dm t h c
theorem findG (G : SetG S s.heap a L es ep t) {x : Addr} {k : κ} (hx : S.kd.is s.heap k x) (hu : A.units + 9 < cLine) {n : Nat} (short : n < 10 * SetTable.turns t.mask)
    (free : L2.way t.mask (S.kd.hash k) n ∉ t.place.toList) (full : Full t (S.kd.hash k) n) {Q : SetFound → Shared → Prop}
    (yes : k ∈ L.map (·.2) → Q (.there none) s) (no : k ∉ L.map (·.2) → Q (.free (L2.way t.mask (S.kd.hash k) n) false) s) :
    ∀ (fuel c : Nat) (sd : Option SetTable.Probe), sd.getD (t.probeStart (S.kd.hash k)) = stand t (S.kd.hash k) c → c ≤ n → n - c < fuel →
      (∀ (i : Nat) (p : Addr × κ), L[i]? = some p → p.2 = k → ∃ d, c ≤ d ∧ d < n ∧ t.place.toList[i]? = some (L2.way t.mask (S.kd.hash k) d)) →
      wpAny (model P w) A (setSearchFrom a (.ref x) (S.kd.hash k) true fuel sd) Q E s := by
  obtain ⟨h, eh⟩ : ∃ h, h = S.kd.hash k := ⟨_, rfl⟩
  rw [← eh] at free full no ⊢
  intro fuel
  induction fuel with
  | zero =>
    intro c _ _ _ z
    exact absurd z (Nat.not_lt_zero _)
  | succ fuel ih =>
    intro c sd esd hc hf left
    obtain ⟨ob, atA, exact_, data⟩ := G.at_
    rw [setSearchFrom_succ]
    refine wpAny_bind (wpAny_setState_of atA data G.fit ?_)
    dsimp only
    refine wp_if_neg (by rw [G.odd]; exact Bool.false_ne_true) ?_
    have met := go_spec t G.tab.asc G.tab.clean (fun i => (es[i]?.map (·.1)).getD 0) h (10 * SetTable.turns t.mask) (n - c) (stand t h c) (stand_dm t h c) (by omega)
      (fun q hq => by rw [stand_add, stand_j]; exact full (c + q) (by omega)) (by rw [stand_add, stand_j, show c + (n - c) = n by omega]; exact free)
    have hashAt : ∀ (i : Nat) (p : Addr × κ), L[i]? = some p → (es[i]?.map (·.1)).getD 0 = S.kd.hash p.2 := fun i p hp => by rw [ent_at G.all hp]; rfl
    have len : t.place.toList.length = L.length := by
      have := G.tab.size
      rw [List.length_map] at this
      rw [Array.length_toList]
      exact this
    rcases met with ⟨q, i, hq, hi, hh, before, e⟩ | ⟨before, e⟩
    · rw [stand_add, stand_j] at hi
      rw [stand_add, stand_add, stand_j] at e
      have e2 : t.probe (fun i => (es[i]?.map (·.1)).getD 0) h (sd.getD (t.probeStart h)) = some (.candidate (L2.way t.mask h (c + q)) i (stand t h (c + (q + 1)))) := by
        rw [esd]
        exact e
      rw [e2]
      dsimp only
      have il : i < L.length := by
        have := (List.getElem?_eq_some_iff.mp hi).1
        omega
      obtain ⟨p, hp⟩ : ∃ p, L[i]? = some p := ⟨_, List.getElem?_eq_getElem il⟩
      have pin : p ∈ L := List.mem_of_getElem? hp
      have onward : wpAny (model P w) A (searchRest a (.ref x) h true fuel es t (L2.way t.mask h (c + q)) i (stand t h (c + (q + 1)))) Q E s := by
        unfold searchRest
        rw [ent_at G.all hp]
        dsimp only
        refine wpAny_bind (wpAny_holding (S.kd.eqBool (S.roomy A hu) (G.keys p pin) hx ?_))
        refine wpAny_bind (wpAny_setState_of atA data G.fit ?_)
        dsimp only
        by_cases pk : p.2 = k
        · rw [decide_eq_true pk]
          exact wp_if_pos rfl (wpAny_pure (yes (List.mem_map.mpr ⟨p, pin, pk⟩)))
        · rw [decide_eq_false pk]
          refine wp_if_neg (by decide) ?_
          rw [sameMem]
          have here : t.slot (L2.way t.mask h (c + q)) = .live i := slot_live G.tab.asc hi
          simp only [if_true, here, ent_at G.all hp]
          refine wpAny_bind (wpAny_isSame_ref_self (wpAny_bind (wpAny_pure ?_)))
          simp only [if_true]
          refine wp_if_neg (by decide) (ih (c + (q + 1)) _ rfl (by omega) (by omega) fun i0 p0 h0 hk0 => ?_)
          obtain ⟨d, d1, d2, d3⟩ := left i0 p0 h0 hk0
          refine ⟨d, ?_, d2, d3⟩
          rcases Nat.lt_trichotomy d (c + q) with z | z | z
          · exfalso
            refine before (d - c) i0 (by omega) (by rw [stand_add, stand_j, show c + (d - c) = d by omega]; exact d3) ?_
            rw [hashAt i0 p0 h0, hk0, eh]
          · exfalso
            rw [z] at d3
            have two := slot_live G.tab.asc d3
            rw [here] at two
            cases two
            rw [hp] at h0
            cases h0
            exact pk hk0
          · omega
      by_cases lit : t.led = true
      · exact wp_if_neg (by simp [lit]) onward
      · refine wp_if_pos (by simp [lit]) (wpAny_bind (seenS hx (fun y hy => ?_) (wp_if_neg (by decide) onward)))
        obtain ⟨e3, he3, rfl⟩ := List.mem_map.mp hy
        have inE : e3 ∈ es.toList := by
          have := Array.mem_toList_iff.mp he3
          rw [Array.mem_filter] at this
          exact Array.mem_toList_iff.mpr this.1
        rw [G.all] at inE
        obtain ⟨p2, hp2, rfl⟩ := List.mem_map.mp inE
        exact ⟨p2.1, p2.2, rfl, G.keys p2 hp2⟩
    · rw [stand_add, stand_j, show c + (n - c) = n by omega] at e
      have e2 : t.probe (fun i => (es[i]?.map (·.1)).getD 0) h (sd.getD (t.probeStart h)) = some (.empty (L2.way t.mask h n) none) := by
        rw [esd]
        exact e
      rw [e2]
      dsimp only
      refine wpAny_pure (no fun hm => ?_)
      obtain ⟨p0, pin, pk⟩ := List.mem_map.mp hm
      obtain ⟨i0, h0⟩ := List.getElem?_of_mem pin
      obtain ⟨d, d1, d2, d3⟩ := left i0 p0 h0 pk
      refine before (d - c) i0 (by omega) (by rw [stand_add, stand_j, show c + (d - c) = d by omega]; exact d3) ?_
      rw [hashAt i0 p0 h0, pk, eh]
theorem searchG (G : SetG S s.heap a L es ep t) {x : Addr} {k : κ} (hx : S.kd.is s.heap k x) (hu : A.units + 9 < cLine) {Q : SetFound → Shared → Prop}
    (yes : k ∈ L.map (·.2) → Q (.there none) s)
    (no : ∀ n, k ∉ L.map (·.2) → L2.way t.mask (S.kd.hash k) n ∉ t.place.toList → Full t (S.kd.hash k) n → Q (.free (L2.way t.mask (S.kd.hash k) n) false) s) :
    wpAny (model P w) A (setSearch a (.ref x) (S.kd.hash k) true) Q E s := by
  have room := G.room
  obtain ⟨n, short, free, full⟩ := G.tab.gap (by rw [List.length_map]; omega) (S.kd.hash k)
  have low : n < 100000 := by
    refine Nat.lt_of_lt_of_le short ?_
    unfold SetTable.turns
    rcases G.msk with z | z | z | z | z | z <;> rw [z] <;> decide
  unfold setSearch
  refine findG G hx hu short free full yes (fun z => no n z free full) 100000 0 none rfl (Nat.zero_le _) (by omega) fun i p hp pk => ?_
  have len : t.place.toList.length = L.length := by
    have := G.tab.size
    rw [List.length_map] at this
    rw [Array.length_toList]
    exact this
  have il := (List.getElem?_eq_some_iff.mp hp).1
  have hj : t.place.toList[i]? = some (t.place.toList[i]'(by omega)) := List.getElem?_eq_getElem _
  obtain ⟨d, hd, e⟩ := G.tab.ahead free (i := i) (by rw [List.getElem?_map, hp, ← pk]; rfl) hj
  exact ⟨d, Nat.zero_le _, hd, by rw [hj, e]⟩
end
end WR
set_option Elab.async false
set_option linter.all false
set_option maxRecDepth 100000
set_option maxHeartbeats 1600000
namespace WR
open PySem PySem.Spec PyProof.Rows L2

/-! ### putting into such a set -/
section
variable {P : Program} {w : World} {κ : Type} [DecidableEq κ] {S : SKind P w κ} {A : Around} {E : Value → Shared → Prop} {s : Shared} {a : Addr} {L : List (Addr × κ)} {es : Array (Int × Value)} {ep : Nat} {t : SetTable}
theorem is_but {h h' : Heap} {k : κ} {b : Addr} {o : Obj} (x : S.kd.is h k b) (at_ : h.get? a = some o) (data : o.data = .set es ep t) (same : Heap.SameBut a h h') : S.kd.is h' k b :=
  S.st.stays (fun c u vs n hc hd => by
    refine (same.2 c fun z => ?_).trans hc
    rw [z, at_] at hc
    cases hc
    rw [data] at hd
    cases hd) x
theorem is_keep {h h' : Heap} {k : κ} {b : Addr} (x : S.kd.is h k b) (kept : ∀ c o, h.get? c = some o → h'.get? c = some o) : S.kd.is h' k b := S.st.stays (fun c u _ _ hc _ => kept c u hc) x
/-- the entries in another order -/
theorem ent_order {order : Array Nat} (all : es.toList = ent S L) (pm : order.toList.Perm (List.range L.length)) :
    ∃ L2 : List (Addr × κ), (order.filterMap (es[·]?)).toList = ent S L2 ∧ L2.Perm L ∧ (L2.map fun p => S.kd.hash p.2) = order.toList.map fun i => (es.map (·.1)).getD i 0 := by
  have low : ∀ i ∈ order.toList, i < L.length := fun i hi => List.mem_range.mp (pm.mem_iff.mp hi)
  refine ⟨order.toList.filterMap (L[·]?), ?_, ?_, ?_⟩
  · rw [Array.toList_filterMap]
    clear pm
    generalize order.toList = ord at low
    induction ord with
    | nil => rfl
    | cons i r ih =>
      have hi := List.getElem?_eq_getElem (low i List.mem_cons_self)
      rw [List.filterMap_cons_some (ent_at all hi), List.filterMap_cons_some hi, ih fun j hj => low j (List.mem_cons_of_mem _ hj)]
      rfl
  · refine (pm.filterMap _).trans ?_
    have : ∀ l : List (Addr × κ), (List.range l.length).filterMap (l[·]?) = l := fun l => by
      induction l with
      | nil => rfl
      | cons x r ih =>
        rw [List.length_cons, List.range_succ_eq_map, List.filterMap_cons_some (List.getElem?_cons_zero ..), List.filterMap_map]
        congr 1
    rw [this]
  · clear pm
    generalize order.toList = ord at low
    induction ord with
    | nil => rfl
    | cons i r ih =>
      have hi := List.getElem?_eq_getElem (low i List.mem_cons_self)
      rw [List.filterMap_cons_some hi, List.map_cons, List.map_cons, ih fun j hj => low j (List.mem_cons_of_mem _ hj)]
      congr 1
      rw [Array.getD_eq_getD_getElem?, Array.getElem?_map, ent_at all hi]
      rfl
theorem relayG {o : Obj} (at_ : s.heap.get? a = some o) (ex : o.ExactSet) (data : o.data = .set es ep t) (all : es.toList = ent S L) (hsz : t.place.size = es.size) (clean : t.dummies = #[]) (fits : es.size ≤ t.mask)
    (once : (L.map (·.2)).Nodup) (keys : ∀ p ∈ L, S.kd.is s.heap p.2 p.1) (byV : t.plain = true) (led : w.params.followText "set-order" = true ∨ t.led = true) (few : L.length ≤ 4000) {wanted M : Nat}
    (ew : SetTable.sizeAbove wanted - 1 = M) (hM : MaskS M) (low : SetTable.sizeAbove wanted ≤ 8192) (room : L.length * 5 < M * 3) {Q : Unit → Shared → Prop}
    (next : ∀ h' L' es' ep' t', Heap.SameBut a s.heap h' → SetG S h' a L' es' ep' t' → L'.Perm L → Q () { s with heap := h' }) : wpAny (model P w) A (setRelay a wanted) Q E s := by
  have el := ent_size all
  have fit : t.fits es.size = true := by
    unfold SetTable.fits SetTable.fill
    rw [clean, hsz, beq_self_eq_true, Bool.true_and]
    exact decide_eq_true fits
  obtain ⟨t2, order, made, pm, T, em, eled, epl⟩ := laidP t (hs := es.map (·.1)) (wanted := wanted) ew hM.p (by rw [Array.size_map]; omega)
  rw [Array.size_map, el] at pm
  obtain ⟨L2, all2, pm2, hashes⟩ := ent_order all pm
  rw [← hashes] at T
  have el2 := ent_size all2
  have eL := pm2.length_eq
  rw [setRelay_eq]
  refine wpAny_bind (wpAny_setState_of at_ data fit ?_)
  dsimp only
  refine wp_if_neg (by rw [sizeLine_eq]; omega) ?_
  rw [made]
  dsimp only
  refine wpAny_bind (wp_if_neg (by rw [el2, el, eL]; simp) (wpAny_pure ?_))
  dsimp only
  refine wpAny_storeSet_of at_ data (next _ L2 (order.filterMap (es[·]?)) (ep + 1) t2 (Heap.SameBut.update ..) ?_ pm2) (by rw [el2, sizeLine_eq]; omega)
  exact { at_ := ⟨_, store_at at_ data, ⟨ex.1, ex.2.1, ex.2.2⟩, rfl⟩, all := all2, tab := T, msk := by rw [em]; exact hM, once := (pm2.map (·.2)).nodup_iff.mpr once,
          keys := fun p hp => is_but (keys p (pm2.mem_iff.mp hp)) at_ data (Heap.SameBut.update ..), byV := epl.trans byV, led := by rw [eled]; exact led, room := by rw [eL, em]; exact room, few := by rw [eL]; exact few }
theorem addG (G : SetG S s.heap a L es ep t) {x : Addr} {k : κ} (hx : S.kd.is s.heap k x) (hu : A.units + 9 < cLine) (few : L.length + 1 ≤ 4000) {Q : Bool → Shared → Prop}
    (next : ∀ b h' L' es' ep' t', Heap.SameBut a s.heap h' → SetG S h' a L' es' ep' t' → (k ∈ L.map (·.2) → L' = L) → (k ∉ L.map (·.2) → L'.Perm ((x, k) :: L)) → Q b { s with heap := h' }) :
    wpAny (model P w) A (setAddHashed a (.ref x) (S.kd.hash k)) Q E s := by
  obtain ⟨o, at_, ex, data⟩ := G.at_
  have el := ent_size G.all
  unfold setAddHashed
  refine wpAny_holding ?_
  rw [show (100000 : Nat) = 99999 + 1 from rfl, setAddHashedIn_succ]
  refine wpAny_bind (wpAny_setState_of at_ data G.fit ?_)
  dsimp only
  refine wp_if_neg (by unfold byScan; simp [Value.scannable]) (wpAny_bind (searchG G hx hu (fun old => ?_) fun n new free full => ?_))
  · exact wpAny_pure (next false s.heap L es ep t (Heap.SameBut.refl ..) G (fun _ => rfl) fun z => absurd old z)
  · dsimp only
    refine wpAny_bind (wpAny_setState_of at_ data G.fit ?_)
    dsimp only
    obtain ⟨p, ep2, ebel, pl, T, em, eled, epl, efl⟩ := G.tab.added free full
    have byV1 : (t.put (L2.way t.mask (S.kd.hash k) n)).1.plain = true := epl.trans G.byV
    generalize t.put (L2.way t.mask (S.kd.hash k) n) = pt at ep2 T em eled epl efl byV1 ⊢
    obtain ⟨t1, p1⟩ := pt
    dsimp only at ep2 T em eled epl efl byV1 ⊢
    subst ep2
    refine wp_if_pos byV1 (wpAny_bind (S.val8 hx ?_))
    simp only [if_true]
    have pm := put_perm L p1 (x, k)
    have all1 : (SetTable.insertAt es p1 (S.kd.hash k, Value.ref x)).toList = ent S (L.take p1 ++ (x, k) :: L.drop p1) := by
      rw [SetTable.toList_insertAt, G.all]
      unfold ent
      rw [List.map_append, List.map_cons, List.map_take, List.map_drop]
    have T1 : TabP t1 ((L.take p1 ++ (x, k) :: L.drop p1).map fun p => S.kd.hash p.2) := by
      rw [List.map_append, List.map_cons, List.map_take, List.map_drop]
      exact T
    have once1 : ((L.take p1 ++ (x, k) :: L.drop p1).map (·.2)).Nodup := (pm.map (·.2)).nodup_iff.mpr (List.nodup_cons.mpr ⟨new, G.once⟩)
    clear T
    generalize SetTable.insertAt es p1 (S.kd.hash k, Value.ref x) = es1 at all1 ⊢
    generalize L.take p1 ++ (x, k) :: L.drop p1 = L1 at pm all1 T1 once1
    have lL : L1.length = L.length + 1 := pm.length_eq
    have lE : es1.size = L.length + 1 := (ent_size all1).trans lL
    refine wpAny_bind (wpAny_storeSet_of at_ data ?_ (by rw [lE, sizeLine_eq]; omega))
    have same : Heap.SameBut a s.heap (s.heap.update a (Obj.putSet es1 t1)) := Heap.SameBut.update ..
    have at1 := store_at (es' := es1) (t' := t1) at_ data
    generalize s.heap.update a (Obj.putSet es1 t1) = h1 at same at1 ⊢
    have keys1 : ∀ q ∈ L1, S.kd.is h1 q.2 q.1 := fun q hq => by
      rcases List.mem_cons.mp (pm.mem_iff.mp hq) with rfl | hq
      · exact is_but hx at_ data same
      · exact is_but (G.keys q hq) at_ data same
    have led1 : w.params.followText "set-order" = true ∨ t1.led = true := by
      rw [eled]
      exact G.led
    rw [List.length_map] at efl
    have msk1 : MaskS t1.mask := by
      rw [em]
      exact G.msk
    have toofull : t1.tooFull = decide ((L.length + 1) * 5 ≥ t.mask * 3) := by
      unfold SetTable.tooFull
      rw [efl, em]
    by_cases full1 : (L.length + 1) * 5 ≥ t.mask * 3
    · obtain ⟨M, ew, low, hM, room1⟩ := G.msk.next G.room full1 few
      have fits1 : es1.size ≤ t1.mask := by
        have := G.room
        rw [lE, em]
        omega
      have hsz1 : t1.place.size = es1.size := by
        have := T1.size
        rw [List.length_map] at this
        omega
      refine wp_if_pos (by rw [toofull, decide_eq_true full1]; rfl) (wpAny_bind ?_)
      rw [el]
      refine relayG (s := { s with heap := h1 }) at1 ⟨ex.1, ex.2.1, ex.2.2⟩ rfl all1 hsz1 T1.clean fits1 once1 keys1 byV1 led1 (by omega) ew hM low (by rw [lL]; exact room1) fun h2 L2 es2 ep2 t2 same2 G2 pm2 => ?_
      exact wpAny_pure (next true h2 L2 es2 ep2 t2 (same.trans same2) G2 (fun z => absurd z new) fun _ => pm2.trans pm)
    · refine wp_if_neg (by rw [toofull, decide_eq_false full1]; simp) (wpAny_pure ?_)
      exact next true h1 L1 es1 (ep + 1) t1 same
        { at_ := ⟨_, at1, ⟨ex.1, ex.2.1, ex.2.2⟩, rfl⟩, all := all1, tab := T1, msk := msk1, once := once1, keys := keys1, byV := byV1, led := led1, room := by rw [lL, em]; omega, few := by omega } (fun z => absurd z new) fun _ => pm
/-- what a set has got of the first i items -/
structure Had (ks : List (Addr × κ)) (i : Nat) (L : List (Addr × κ)) : Prop where
  from_ : ∀ p ∈ L, p ∈ ks.take i
  all : ∀ p ∈ ks.take i, p.2 ∈ L.map (·.2)
theorem Had.step {ks L L' : List (Addr × κ)} {i : Nat} {p : Addr × κ} (g : Had ks i L) (hp : ks[i]? = some p) (old : p.2 ∈ L.map (·.2) → L' = L) (new : p.2 ∉ L.map (·.2) → L'.Perm (p :: L)) : Had ks (i + 1) L' := by
  have tk : ks.take (i + 1) = ks.take i ++ [p] := by
    rw [List.take_add_one, hp]
    rfl
  by_cases z : p.2 ∈ L.map (·.2)
  · rw [old z]
    refine ⟨fun q hq => by rw [tk]; exact List.mem_append_left _ (g.from_ q hq), fun q hq => ?_⟩
    rw [tk] at hq
    rcases List.mem_append.mp hq with hq | hq
    · exact g.all q hq
    · rw [List.mem_singleton.mp hq]
      exact z
  · have pm := new z
    refine ⟨fun q hq => ?_, fun q hq => (pm.map (·.2)).mem_iff.mpr ?_⟩
    · rw [tk]
      rcases List.mem_cons.mp (pm.mem_iff.mp hq) with rfl | hq
      · exact List.mem_append_right _ (List.mem_singleton.mpr rfl)
      · exact List.mem_append_left _ (g.from_ q hq)
    · rw [tk] at hq
      rw [List.map_cons]
      rcases List.mem_append.mp hq with hq | hq
      · exact List.mem_cons_of_mem _ (g.all q hq)
      · rw [List.mem_singleton.mp hq]
        exact List.mem_cons_self
theorem SetG.keep {h h' : Heap} (G : SetG S h a L es ep t) (kept : ∀ o, h.get? a = some o → h'.get? a = some o) (keys : ∀ p ∈ L, S.kd.is h' p.2 p.1) : SetG S h' a L es ep t :=
  { G with at_ := let ⟨o, at_, r⟩ := G.at_; ⟨o, kept o at_, r⟩, keys := keys }
abbrev newSetG (w : World) : Obj := { cls := .type "set", dict := none, data := .set #[] 0 (.fresh 0 0 (!w.params.followText "set-order")) }
theorem freshG {h : Heap} (at_ : h.get? a = some (newSetG w)) : SetG S h a [] #[] 0 (.fresh 0 0 (!w.params.followText "set-order")) where
  at_ := ⟨_, at_, ⟨rfl, rfl, rfl⟩, rfl⟩
  all := rfl
  tab := ⟨List.Pairwise.nil, rfl, rfl, (show MaskS 7 from .inl rfl).p, fun x hx => (List.not_mem_nil hx).elim, fun i h j hi => by cases hi⟩
  msk := .inl rfl
  once := List.nodup_nil
  keys := fun p hp => (List.not_mem_nil hp).elim
  byV := rfl
  led := by
    cases e : w.params.followText "set-order"
    · exact .inr rfl
    · exact .inl rfl
  room := show 0 * 5 < 7 * 3 by decide
  few := show 0 ≤ 4000 by decide
end
end WR
set_option Elab.async false
set_option linter.all false
set_option maxRecDepth 100000
set_option maxHeartbeats 3200000
namespace WR
open PySem PySem.Spec PyProof.Rows L2 PySem.Calls

/-! ### set(xs) of a list or a tuple of such objects -/
section
variable {P : Program} {w : World} {κ : Type} [DecidableEq κ] {S : SKind P w κ} {A : Around} {E : Value → Shared → Prop} {s : Shared}
theorem updG {I : Addr} {fp wr : List Addr} {G : Array GenState → Array GenState → Prop} {n : Nat} {Y : Nat → Value → Prop} {St : Nat → Shared → Prop} {R : Result → Shared → Prop}
    (wk : WalksS P w A.in1 I fp wr G n Y St) (D : Addr) (alone : D ∉ fp) (ks : List (Addr × κ)) (many : n = ks.length) (few : ks.length ≤ 4000) (gives : ∀ i v, Y i v → ∃ p, ks[i]? = some p ∧ v = .ref p.1)
    (h0 : Heap) (keys : ∀ p ∈ ks, S.kd.is h0 p.2 p.1) (noD : h0.get? D = none) (noW : ∀ b ∈ wr, h0.get? b = none) (hu : A.in1.units + 9 < cLine) :
    ∀ (left i : Nat) (s : Shared), n - i = left → i ≤ n → St i s → (∀ b o, h0.get? b = some o → s.heap.get? b = some o) → (∃ L es ep t, SetG S s.heap D L es ep t ∧ Had ks i L ∧ L.length ≤ i) →
      (∀ s' L es ep t, Moved (D :: wr) G s s' → SetG S s'.heap D L es ep t → Had ks n L → (∀ b o, h0.get? b = some o → s'.heap.get? b = some o) → R (.ok (.ret .none)) s') →
      codeAny (model P w) A (.builtin "set.update.loop" ⟨[.ref D, .ref I], []⟩) R s := by
  have outW : D ∉ wr := fun z => alone (wk.sub _ z)
  have more : ∀ b ∈ wr, b ∈ D :: wr := fun b hb => List.mem_cons_of_mem _ hb
  have kept : ∀ {s s' : Shared}, Moved wr G s s' → (∀ b o, h0.get? b = some o → s.heap.get? b = some o) → ∀ b o, h0.get? b = some o → s'.heap.get? b = some o := fun mv k b o e =>
    mv.heap b o (fun hb => by rw [noW b hb] at e; cases e) (k b o e)
  intro left
  induction left with
  | zero =>
    rintro i s el hi here k ⟨L, es, ep, t, G0, g, _⟩ next
    obtain rfl : i = n := by omega
    refine codeAny_builtin PyProof.Rows.F.entry_set_update_loop ?_
    rw [Around.under_plainId PyProof.Rows.F.plain_set_update_loop _]
    show wpAny _ A.in1 (pyNext (.ref I) >>= _) _ _ s
    refine wpAny_bind (wk.done s _ _ here fun s' mv => ?_)
    have k' := kept mv k
    show wpAny _ A.in1 (ret Value.none) _ _ s'
    exact wpAny_pure (next s' L es ep t (mv.mono more) (G0.keep (fun o e => mv.heap D o outW e) fun p hp => is_keep (keys p (List.mem_of_mem_take (g.from_ p hp))) k') g k')
  | succ left ih =>
    rintro i s el hi here k ⟨L, es, ep, t, G0, g, short⟩ next
    have lt : i < n := by omega
    refine codeAny_builtin PyProof.Rows.F.entry_set_update_loop ?_
    rw [Around.under_plainId PyProof.Rows.F.plain_set_update_loop _]
    show wpAny _ A.in1 (pyNext (.ref I) >>= _) _ _ s
    refine wpAny_bind (wk.item i s _ _ lt here fun v s' hy here' mv => ?_)
    obtain ⟨p, hp, rfl⟩ := gives i v hy
    have k' := kept mv k
    have G1 : SetG S s'.heap D L es ep t := G0.keep (fun o e => mv.heap D o outW e) fun q hq => is_keep (keys q (List.mem_of_mem_take (g.from_ q hq))) k'
    have hx : S.kd.is s'.heap p.2 p.1 := is_keep (keys p (List.mem_of_getElem? hp)) k'
    show wpAny _ A.in1 (holding [Value.ref p.1] (setAdd D (.ref p.1)) >>= _) _ _ s'
    refine wpAny_bind (wpAny_holding ?_)
    unfold setAdd
    refine wpAny_holding (wpAny_bind (S.kd.pyHash (S.roomy _ hu) hx ?_))
    refine addG (s := { s' with toks := s'.toks + S.kd.draws p.2 }) G1 hx hu (by omega) fun b h' L' es' ep' t' same G2 old new => ?_
    have g2 := g.step hp old new
    have k2 : ∀ b o, h0.get? b = some o → h'.get? b = some o := fun b o e => (same.2 b (fun z => by rw [z, noD] at e; cases e)).trans (k' b o e)
    have short2 : L'.length ≤ i + 1 := by
      by_cases z : p.2 ∈ L.map (·.2)
      · rw [old z]
        omega
      · have := (new z).length_eq
        rw [List.length_cons] at this
        omega
    refine wpAny_pure ⟨plainId_quiet PyProof.Rows.F.plain_set_update_loop _, ih (i + 1) _ (by omega) lt (wk.frame _ s' _ _ here' (Nat.le_add_right _ _) fun b hb o e => ?_) k2 ⟨L', es', ep', t', G2, g2, short2⟩ fun z L2 es2 ep2 t2 mv2 G3 g3 k3 => ?_⟩
    · exact (same.2 b fun z => alone (z ▸ hb)).trans e
    · refine next z L2 es2 ep2 t2 (Moved.trans wk.gtrans ((mv.mono more).then_heap (Nat.le_add_right _ _) fun b o hb e => ?_) mv2) G3 g3 k3
      exact (same.2 b fun y => hb (y ▸ List.mem_cons_self)).trans e
/-- what set(..) of l begins with, and what is asked of its walk -/
theorem setTG {l : Addr} {its : Array Value} (ks : List (Addr × κ)) {Q : Value → Shared → Prop} (quiet : A.handled = none) (tup : s.heap.IsTuple l its ∨ s.heap.IsList l its)
    (same : its.toList = ks.map fun p => Value.ref p.1) (keys : ∀ p ∈ ks, S.kd.is s.heap p.2 p.1) (few : ks.length ≤ 4000) (hu : A.units + 13 < cLine)
    (done : ∀ (hp : Heap) (tk : Nat) L es ep t, SetG S hp s.heap.objs.size L es ep t → Had ks ks.length L → (∀ b o, s.heap.get? b = some o → hp.get? b = some o) → Q (.ref s.heap.objs.size) { s with heap := hp, toks := tk }) :
    wpAny (model P w) A (call (.type "set") [.ref l]) Q E s := by
  have size : its.size = ks.length := by
    have e := congrArg List.length same
    rwa [Array.length_toList, List.length_map] at e
  obtain ⟨_, _, order⟩ := PySem.F.called_set.mro
  have made := PySem.F.called_set.made
  have below := PySem.F.called_set.sub
  refine wpAny_call (codeAny_of_tree ?_)
  show wpAny _ _ (callAny (.type "set") ⟨[.ref l], []⟩) _ _ _
  refine wpAny_pure (And.intro (Code.quiet_builtin _ (by decide +kernel)) (codeAny_builtin PySem.F.entry_type_call ?_))
  rw [Around.under_plain (weight_type_call_type "set" ([.ref l] : List Value) []) rfl]
  have noType := PySem.F.called_set.notType
  have canMake := PySem.F.called_set.canCreate
  have checked := PySem.F.typeCall_set_1 (Value.ref l)
  repeat (any_goals (first | assumption | wp_step))
  refine codeAny_mono (code_set_led1 (Value.ref l) (E := E) (Q₁ := fun ob z => ob = .ref s.heap.objs.size ∧ z = { s with heap := s.heap.push (newSetG w) }) (And.intro rfl rfl)) fun res z hres => ?_
  rcases res with err | fl
  · exact hres
  cases fl
  case ret ob =>
    obtain ⟨rfl, rfl⟩ := hres
    have new : (s.heap.push (newSetG w)).get? s.heap.objs.size = some (newSetG w) := Heap.get?_push_size _ rfl
    have typ : Shared.TypeIs { s with heap := s.heap.push (newSetG w) } (.ref s.heap.objs.size) "set" := ⟨_, new, rfl⟩
    have lookI := PySem.F.called_set.init.lookup
    have bindI := PySem.F.called_set.init.bind (Value.ref s.heap.objs.size)
    repeat (any_goals (first | assumption | wp_step))
    refine codeAny_mono (codeAny_call_builtin (R := wants (fun r z => r = .none ∧ ∃ hp tk L es ep t, z = { s with heap := hp, toks := tk } ∧ SetG S hp s.heap.objs.size L es ep t ∧ Had ks ks.length L ∧ (∀ b o, s.heap.get? b = some o → hp.get? b = some o)) E)
      PySem.F.called_set.init.plain PySem.F.entry_set_init (check_set_init_1 typ ?_)) fun res2 z2 hres2 => ?_
    · have quiet3 : A.in1.in1.in1.handled = none := by simp [quiet]
      have big : (s.heap.push (newSetG w)).objs.size = s.heap.objs.size + 1 := Heap.size_push ..
      have value : ∀ (i : Nat) (v : Value), its[i]? = some v → ∃ p, ks[i]? = some p ∧ v = .ref p.1 := by
        intro i v hv
        rw [← Array.getElem?_toList, same, List.getElem?_map] at hv
        obtain ⟨p, hp, e⟩ := Option.map_eq_some_iff.mp hv
        exact ⟨p, hp, e.symm⟩
      have free : ∀ b, s.heap.objs.size ≤ b → s.heap.get? b = none := by
        intro b hb
        refine Option.eq_none_iff_forall_ne_some.mpr fun o e => ?_
        exact Nat.lt_irrefl _ (Nat.lt_of_lt_of_le (Heap.lt_size e) hb)
      rcases tup with tup | tup
      · obtain ⟨⟨cl, di, da, sl⟩, at_, isT, num, isS⟩ := tup
        simp only at isT isS
        subst isT isS
        have at2 : (s.heap.push (newSetG w)).get? l = some { cls := .type "tuple", dict := di, data := .seq its num, slots := sl } := Heap.get?_push_of_some _ at_
        have noSet := PySem.F.sub_tuple_set
        have noFrozen := PySem.F.sub_tuple_frozenset
        have noDict : (Value.type "tuple" == Value.type "dict") = false := by decide
        have tup2 : (s.heap.push (newSetG w)).IsTuple l its := ⟨_, at2, rfl, num, rfl⟩
        unfold Builtin.«set.__init__» noKeywords Builtin.Frozenset.updateFrom
        generalize wit : pyIter = PI
        wp_walk
        subst wit
        refine wpAny_pyIter_tuple tup2 (wpAny_bind (wpAny_runValue ?_))
        have lold : l < s.heap.objs.size := Heap.lt_size at_
        have apart : l ≠ (s.heap.push (newSetG w)).objs.size := by
          rw [big]
          exact Nat.ne_of_lt (Nat.lt_succ_of_lt lold)
        have alone : s.heap.objs.size ∉ [(s.heap.push (newSetG w)).objs.size, l] := by
          intro z
          rcases List.mem_cons.mp z with z | z
          · rw [big] at z
            exact absurd z (Nat.ne_of_lt (Nat.lt_succ_self _))
          · exact absurd (List.mem_singleton.mp z) (Nat.ne_of_gt lold)
        have old : ∀ b o, s.heap.get? b = some o → ((s.heap.push (newSetG w)).push (itOf l)).get? b = some o := fun b o e => Heap.get?_push_of_some _ (Heap.get?_push_of_some _ e)
        have set2 : ((s.heap.push (newSetG w)).push (itOf l)).get? s.heap.objs.size = some (newSetG w) := Heap.get?_push_of_some _ new
        refine updG (S := S) (Walks.tuple quiet3 _ l apart its).toS s.heap.objs.size alone ks size few value s.heap keys (free _ (Nat.le_refl _)) (fun b hb => free b ?_) (by show A.units + 1 + 1 + 1 + 9 < cLine; omega) (its.size - 0) 0 _ (Nat.sub_zero _ ▸ rfl) (Nat.zero_le _)
          (And.intro ⟨_, Heap.get?_push_size _ rfl, rfl, rfl⟩ (tup2.push _)) old ⟨[], #[], 0, _, freshG set2, ⟨fun p hp => (List.not_mem_nil hp).elim, fun p hp => by rw [List.take_zero] at hp; exact (List.not_mem_nil hp).elim⟩, Nat.le_refl _⟩ ?_
        · rw [List.mem_singleton.mp hb, big]
          exact Nat.le_succ _
        · rintro ⟨hp, gn, dr, tk, os⟩ L es ep t moved stands got kept
          obtain rfl : gn = s.gens := moved.gens
          obtain rfl : dr = s.drawn := moved.drawn
          obtain rfl : os = s.os := moved.os
          refine wpAny_pure ?_
          show wpAny _ _ (ret Value.none) _ _ _
          rw [size] at got
          exact wpAny_pure (And.intro rfl ⟨hp, tk, L, es, ep, t, rfl, stands, got, kept⟩)
      · obtain ⟨⟨cl, di, da, sl⟩, at_, isT, num, isS⟩ := tup
        simp only at isT isS
        subst isT isS
        have at2 : (s.heap.push (newSetG w)).get? l = some { cls := .type "list", dict := di, data := .seq its num, slots := sl } := Heap.get?_push_of_some _ at_
        have noSet := PySem.F.sub_list_set
        have noFrozen := PySem.F.sub_list_frozenset
        have noDict : (Value.type "list" == Value.type "dict") = false := by decide
        have lst2 : (s.heap.push (newSetG w)).IsList l its := ⟨_, at2, rfl, num, rfl⟩
        unfold Builtin.«set.__init__» noKeywords Builtin.Frozenset.updateFrom
        generalize wit : pyIter = PI
        wp_walk
        subst wit
        refine wpAny_pyIter_list lst2 (wpAny_bind (wpAny_runValue ?_))
        have lold : l < s.heap.objs.size := Heap.lt_size at_
        have apart : l ≠ (s.heap.push (newSetG w)).objs.size := by
          rw [big]
          exact Nat.ne_of_lt (Nat.lt_succ_of_lt lold)
        have alone : s.heap.objs.size ∉ [(s.heap.push (newSetG w)).objs.size, l] := by
          intro z
          rcases List.mem_cons.mp z with z | z
          · rw [big] at z
            exact absurd z (Nat.ne_of_lt (Nat.lt_succ_self _))
          · exact absurd (List.mem_singleton.mp z) (Nat.ne_of_gt lold)
        have old : ∀ b o, s.heap.get? b = some o → ((s.heap.push (newSetG w)).push { cls := .type "list_iterator", data := .fields #[.ref l, .int 0 0] }).get? b = some o := fun b o e => Heap.get?_push_of_some _ (Heap.get?_push_of_some _ e)
        have set2 : ((s.heap.push (newSetG w)).push { cls := .type "list_iterator", data := .fields #[.ref l, .int 0 0] }).get? s.heap.objs.size = some (newSetG w) := Heap.get?_push_of_some _ new
        refine updG (S := S) (Walks.list quiet3 _ l apart its).toS s.heap.objs.size alone ks size few value s.heap keys (free _ (Nat.le_refl _)) (fun b hb => free b ?_) (by show A.units + 1 + 1 + 1 + 9 < cLine; omega) (its.size - 0) 0 _ (Nat.sub_zero _ ▸ rfl) (Nat.zero_le _)
          (And.intro ⟨_, Heap.get?_push_size _ rfl, rfl, rfl⟩ (lst2.push _)) old ⟨[], #[], 0, _, freshG set2, ⟨fun p hp => (List.not_mem_nil hp).elim, fun p hp => by rw [List.take_zero] at hp; exact (List.not_mem_nil hp).elim⟩, Nat.le_refl _⟩ ?_
        · rw [List.mem_singleton.mp hb, big]
          exact Nat.le_succ _
        · rintro ⟨hp, gn, dr, tk, os⟩ L es ep t moved stands got kept
          obtain rfl : gn = s.gens := moved.gens
          obtain rfl : dr = s.drawn := moved.drawn
          obtain rfl : os = s.os := moved.os
          refine wpAny_pure ?_
          show wpAny _ _ (ret Value.none) _ _ _
          rw [size] at got
          exact wpAny_pure (And.intro rfl ⟨hp, tk, L, es, ep, t, rfl, stands, got, kept⟩)
    · rcases res2 with err | fl
      · exact hres2
      cases fl
      case ret r =>
        obtain ⟨rfl, hp, tk, L, es, ep, t, rfl, stands, got, kept⟩ := hres2
        repeat (any_goals (first | assumption | wp_step))
        exact done _ _ _ _ _ _ stands got kept
      all_goals exact hres2.elim
  all_goals exact hres.elim
end
end WR
set_option Elab.async false
set_option linter.all false
set_option maxRecDepth 100000
set_option maxHeartbeats 1600000
namespace WR
open PySem PySem.Spec PyProof.Rows L2 Evl

/-! ### sets of tuples of integers and of such tuples, of any depth up to eight -/
mutual
/-- an integer, or a tuple of such -/
def itD : PyData → Bool
  | .int _ => true
  | .tuple ds => itDs ds
  | _ => false
def itDs : List PyData → Bool
  | [] => true
  | d :: ds => itD d && itDs ds
end
mutual
def kyD : PyData → NestedKey
  | .int i => .num i
  | .tuple ds => .tup (kyDs ds)
  | _ => .none
def kyDs : List PyData → List NestedKey
  | [] => []
  | d :: ds => kyD d :: kyDs ds
end
mutual
def numK : NestedKey → Bool
  | .num _ => true
  | .tup ks => numKs ks
  | _ => false
def numKs : List NestedKey → Bool
  | [] => true
  | k :: ks => numK k && numKs ks
end
mutual
theorem ky_data : ∀ d : PyData, itD d = true → (kyD d).data = d
  | .int i, _ => rfl
  | .tuple ds, h => by
    show PyData.tuple (NestedKey.datas (kyDs ds)) = _
    rw [kys_data ds h]
  | .none, h => by cases h
  | .bool _, h => by cases h
  | .str _, h => by cases h
  | .list _, h => by cases h
  | .dict _, h => by cases h
theorem kys_data : ∀ ds : List PyData, itDs ds = true → NestedKey.datas (kyDs ds) = ds
  | [], _ => rfl
  | d :: ds, h => by
    have h : (itD d && itDs ds) = true := h
    rw [Bool.and_eq_true] at h
    show NestedKey.data (kyD d) :: NestedKey.datas (kyDs ds) = _
    rw [ky_data d h.1, kys_data ds h.2]
end
theorem ky_inj {a b : PyData} (ha : itD a = true) (hb : itD b = true) (e : kyD a = kyD b) : a = b := by
  rw [← ky_data a ha, ← ky_data b hb, e]
mutual
theorem ky_num : ∀ d : PyData, itD d = true → numK (kyD d) = true ∧ (kyD d).depth = d.depth
  | .int i, _ => ⟨rfl, by simp [kyD, NestedKey.depth, PyData.depth]⟩
  | .tuple ds, h => by
    obtain ⟨a, b⟩ := kys_num ds h
    exact ⟨a, by simp only [kyD, NestedKey.depth, PyData.depth, b]⟩
  | .none, h => by cases h
  | .bool _, h => by cases h
  | .str _, h => by cases h
  | .list _, h => by cases h
  | .dict _, h => by cases h
theorem kys_num : ∀ ds : List PyData, itDs ds = true → numKs (kyDs ds) = true ∧ NestedKey.depthAll (kyDs ds) = PyData.depthAll ds
  | [], _ => ⟨rfl, by simp [kyDs, NestedKey.depthAll, PyData.depthAll]⟩
  | d :: ds, h => by
    have h : (itD d && itDs ds) = true := h
    rw [Bool.and_eq_true] at h
    obtain ⟨a, b⟩ := ky_num d h.1
    obtain ⟨c, e⟩ := kys_num ds h.2
    exact ⟨by show (numK _ && numKs _) = true; rw [a, c]; rfl, by simp only [kyDs, NestedKey.depthAll, PyData.depthAll, b, e]⟩
end
/-! what the model asks of such keys -/
section
variable {P : Program} {w : World}
def AskAt (f : Nat → Value → Sem Bool) (r : Bool) (P : Program) (w : World) (n : Nat) (s : Shared) (v : Value) : Prop := ∀ (A : Around) (E : Value → Shared → Prop) (Q : Bool → Shared → Prop), Q r s → wpAny (model P w) A (f n v) Q E s
theorem hash_ref {n : Nat} {s : Shared} {a : Addr} {o : Obj} {vs : Array Value} {m : Nat} (at_ : s.heap.get? a = some o) (isT : o.cls = .type "tuple") (data : o.data = .seq vs m) (all : ∀ v ∈ vs.toList, AskAt hashByValue true P w n s v) : AskAt hashByValue true P w (n + 1) s (.ref a) := fun A E Q q => by
  have ty : s.TypeIs (.ref a) "tuple" := ⟨o, at_, isT⟩
  unfold hashByValue
  refine wpAny_bind (wpAny_specialOf ty PySem.F.slot_tuple_hash.lookup ?_)
  show wpAny _ _ (seqItems? (.ref a) >>= _) _ _ s
  refine wpAny_bind (wpAny_seqItems at_ data (wpAny_bind ?_))
  show wpAny _ _ (forIn vs _ _) _ _ s
  rw [← Array.forIn_toList]
  refine wpAny_forIn_list _ (fun left r z => r.1 = none ∧ z = s ∧ ∀ v ∈ left, AskAt hashByValue true P w n s v) _ ?_ ?_ _ _ ⟨rfl, rfl, all⟩
  · rintro v left r z ⟨hr, rfl, more⟩
    refine wpAny_bind (more v List.mem_cons_self _ _ _ ?_)
    simp only [Bool.not_true, Bool.false_eq_true, if_false]
    exact wpAny_pure ⟨rfl, rfl, fun u hu => more u (List.mem_cons_of_mem _ hu)⟩
  · rintro ⟨r1, r2⟩ z ⟨hr, rfl, _⟩
    cases (show r1 = none from hr)
    exact wpAny_pure q
theorem cls_ref {n : Nat} {s : Shared} {a : Addr} {o : Obj} {vs : Array Value} {m : Nat} (at_ : s.heap.get? a = some o) (isT : o.cls = .type "tuple") (data : o.data = .seq vs m) (all : ∀ v ∈ vs.toList, AskAt ofAClassStatement false P w n s v) : AskAt ofAClassStatement false P w (n + 1) s (.ref a) := fun A E Q q => by
  have ty : s.TypeIs (.ref a) "tuple" := ⟨o, at_, isT⟩
  unfold ofAClassStatement
  refine wpAny_bind (wpAny_typeOf ty ?_)
  dsimp only
  have e : (("tuple" : String) == "tuple") = true := by decide
  simp only [e, if_true, Bool.not_true, Bool.false_eq_true, if_false]
  refine wpAny_bind (wpAny_pure ?_)
  simp only [Bool.not_true, Bool.false_eq_true, if_false]
  refine wpAny_bind (wpAny_seqItems at_ data ?_)
  dsimp only
  refine wpAny_bind ?_
  show wpAny _ _ (forIn vs _ _) _ _ s
  rw [← Array.forIn_toList]
  refine wpAny_forIn_list _ (fun left r z => r.1 = none ∧ z = s ∧ ∀ v ∈ left, AskAt ofAClassStatement false P w n s v) _ ?_ ?_ _ _ ⟨rfl, rfl, all⟩
  · rintro v left r z ⟨hr, rfl, more⟩
    refine wpAny_bind (more v List.mem_cons_self _ _ _ ?_)
    simp only [Bool.false_eq_true, if_false]
    exact wpAny_pure ⟨rfl, rfl, fun u hu => more u (List.mem_cons_of_mem _ hu)⟩
  · rintro ⟨r1, r2⟩ z ⟨hr, rfl, _⟩
    cases (show r1 = none from hr)
    exact wpAny_pure q
mutual
theorem ask_key : ∀ (k : NestedKey) (v : Value) (n : Nat) (s : Shared), NestedIs s.heap k v → numK k = true → k.depth ≤ n → AskAt hashByValue true P w n s v ∧ AskAt ofAClassStatement false P w n s v
  | .none, _, _, _, _, h, _ => by cases h
  | .text _, _, _, _, _, h, _ => by cases h
  | .num i, _, n, s, x, _, _ => by
    have e1 : ∀ v : Value, (∀ m, hashByValue m v = pure true) → AskAt hashByValue true P w n s v := fun v e A E Q q => by
      rw [e]
      exact wpAny_pure q
    have e2 : ∀ v : Value, (∀ m, ofAClassStatement m v = pure false) → AskAt ofAClassStatement false P w n s v := fun v e A E Q q => by
      rw [e]
      exact wpAny_pure q
    cases x with
    | bool _ => exact ⟨e1 _ fun m => by cases m <;> rfl, e2 _ fun m => by cases m <;> rfl⟩
    | int i t => exact ⟨e1 _ fun m => by cases m <;> rfl, e2 _ fun m => by cases m <;> rfl⟩
  | .tup ks, _, n, s, x, h, hn => by
    cases x with
    | tup at_ isT data all =>
      simp only [NestedKey.depth] at hn
      cases n with
      | zero => omega
      | succ n =>
        have q := ask_keys ks _ n s all h (by omega)
        exact ⟨hash_ref at_ isT data fun v hv => (q v hv).1, cls_ref at_ isT data fun v hv => (q v hv).2⟩
theorem ask_keys : ∀ (ks : List NestedKey) (vs : List Value) (n : Nat) (s : Shared), NestedAll s.heap ks vs → numKs ks = true → NestedKey.depthAll ks ≤ n → ∀ v ∈ vs, AskAt hashByValue true P w n s v ∧ AskAt ofAClassStatement false P w n s v
  | [], _, n, s, x, _, _, v, hv => by
    cases x
    cases hv
  | k :: ks, _, n, s, x, h, hn, v, hv => by
    have h : (numK k && numKs ks) = true := h
    rw [Bool.and_eq_true] at h
    cases x with
    | cons x1 x2 =>
      simp only [NestedKey.depthAll] at hn
      rcases List.mem_cons.mp hv with rfl | hv
      · exact ask_key k _ n s x1 h.1 (by omega)
      · exact ask_keys ks _ n s x2 h.2 (by omega) v hv
end
end
/-- the kind -/
def numKind (P : Program) (w : World) : SKind P w NestedKey where
  kd := { nestedKind P w with
    is := fun h k a => (nestedKind P w).is h k a ∧ numK k = true
    inj := fun x y => (nestedKind P w).inj x.1 y.1
    keeps := fun x at_ d same => ⟨(nestedKind P w).keeps x.1 at_ d same, x.2⟩
    pyHash := fun hu x q => (nestedKind P w).pyHash hu x.1 q
    eqBool := fun hu x y q => (nestedKind P w).eqBool hu x.1 y.1 q
    quiet := fun x q => (nestedKind P w).quiet x.1 q }
  st := { stays := fun k x => ⟨nestedKind_stays.stays k x.1, x.2⟩, tuple := fun x => nestedKind_stays.tuple x.1 }
  val8 := fun x q => (ask_key _ _ 8 _ x.1.1 x.2 x.1.2).1 _ _ _ q
  cls8 := fun x q => (ask_key _ _ 8 _ x.1.1 x.2 x.1.2).2 _ _ _ q
  roomy := fun A h => show A.units + 8 < cLine by omega
/-! over the layer -/
section
variable {X : Cx} {pins : List (Addr × Obj)} {σ : L2.St} {H : Hp} {s : Shared}
mutual
theorem nested_dp (I : Inv X pins σ H s) : ∀ (d : PyData) (v : V) (u : Value), itD d = true → Dp X.K H v d → RelV v u → NestedIs s.heap (kyD d) u
  | .int i, _, _, _, h, r => by
    cases h
    obtain ⟨t, rfl⟩ := r
    exact NestedIs.int i t
  | .tuple ds, _, _, hi, h, r => by
    cases h with
    | tup hs ha =>
      cases r
      obtain ⟨its, rv, ⟨o, at_, isT, n, data⟩, _⟩ := I.tuple hs
      exact NestedIs.tup at_ isT data (by simpa using nested_dps I ds _ its hi ha rv)
  | .none, _, _, hi, _, _ => by cases hi
  | .bool _, _, _, hi, _, _ => by cases hi
  | .str _, _, _, hi, _, _ => by cases hi
  | .list _, _, _, hi, _, _ => by cases hi
  | .dict _, _, _, hi, _, _ => by cases hi
theorem nested_dps (I : Inv X pins σ H s) : ∀ (ds : List PyData) (vs : List V) (us : List Value), itDs ds = true → DpAll X.K H vs ds → Vals vs us → NestedAll s.heap (kyDs ds) us
  | [], _, _, _, h, r => by
    cases h
    cases r
    exact NestedAll.nil
  | d :: ds, _, _, hi, h, r => by
    have hi : (itD d && itDs ds) = true := hi
    rw [Bool.and_eq_true] at hi
    cases h with
    | cons h1 h2 =>
      cases r with
      | cons r1 r2 => exact NestedAll.cons (nested_dp I d _ _ hi.1 h1 r1) (nested_dps I ds _ _ hi.2 h2 r2)
end
end
/-- a tuple of integers and such tuples, not too deep -/
def TkD (d : PyData) : Prop := itD d = true ∧ d.depth ≤ 8 ∧ ∃ ds, d = .tuple ds
/-- the set, as its own object tells -/
structure SetE (P : Program) (w : World) (h : Heap) (a : Addr) (L : List (Addr × NestedKey)) : Prop where
  ex : ∃ (es : Array (Int × Value)) (ep : Nat) (t : SetTable), (∃ o, h.get? a = some o ∧ o.ExactSet ∧ o.data = .set es ep t) ∧ es.toList = ent (numKind P w) L ∧ TabP t (L.map fun p => (numKind P w).kd.hash p.2) ∧ MaskS t.mask ∧ (L.map (·.2)).Nodup ∧ t.plain = true ∧
    (w.params.followText "set-order" = true ∨ t.led = true) ∧ L.length * 5 < t.mask * 3 ∧ L.length ≤ 4000
def SetDO (P : Program) (w : World) (a : Addr) (L : List (Addr × NestedKey)) : HO := .ext fun h => SetE P w h a L
theorem setE_of {P : Program} {w : World} {h : Heap} {a : Addr} {L : List (Addr × NestedKey)} {es : Array (Int × Value)} {ep : Nat} {t : SetTable} (G : SetG (numKind P w) h a L es ep t) : SetE P w h a L :=
  ⟨es, ep, t, G.at_, G.all, G.tab, G.msk, G.once, G.byV, G.led, G.room, G.few⟩
theorem SetE.full {P : Program} {w : World} {h : Heap} {a : Addr} {L : List (Addr × NestedKey)} (x : SetE P w h a L) (keys : ∀ p ∈ L, (numKind P w).kd.is h p.2 p.1) : ∃ es ep t, SetG (numKind P w) h a L es ep t := by
  obtain ⟨es, ep, t, h1, h2, h3, h4, h5, h6, h7, h8, h9⟩ := x.ex
  exact ⟨es, ep, t, h1, h2, h3, h4, h5, keys, h6, h7, h8, h9⟩
theorem setDO_new {P : Program} {w : World} {H : Hp} {h : Heap} {a : Addr} {L : List (Addr × NestedKey)} (x : SetE P w h a L) : ObjOk P w H h a (SetDO P w a L) := by
  obtain ⟨_, _, _, ⟨o, at_, _⟩, _⟩ := x.ex
  refine ⟨x, ⟨o, at_⟩, fun h1 h2 p k => ?_⟩
  obtain ⟨es, ep, t, ⟨o2, at2, r⟩, q⟩ := SetE.ex p
  exact ⟨es, ep, t, ⟨o2, k o2 at2, r⟩, q⟩
/-- set(xs), xs a list or a tuple of such tuples -/
def rSetD (K : PySem.W.Frag) (P : Program) (w : World) : List V → Hp → VK → Prop := fun vs H Q => ∃ (l : Addr) (xs : List V) (ds : List PyData), vs = [V.ref l] ∧ (SqT K H l xs ∨ SqL K H l xs) ∧ DpAll K H xs ds ∧ (∀ d ∈ ds, TkD d) ∧ ds.length ≤ 4000 ∧
  ∀ (a : Addr) (L : List (Addr × PyData)), H a = none → (∀ p ∈ L, Dp K H (.ref p.1) p.2 ∧ p.2 ∈ ds) → (∀ d ∈ ds, d ∈ L.map (·.2)) → (L.map (·.2)).Nodup → L.length ≤ 4000 → Q (.ref a) (upd H a (SetDO P w a (L.map fun p => (p.1, kyD p.2))))
theorem tk_refs {K : PySem.W.Frag} {H : Hp} : ∀ {xs : List V} {ds : List PyData}, DpAll K H xs ds → (∀ d ∈ ds, TkD d) → ∃ ks : List (Addr × PyData), xs = ks.map (fun p => V.ref p.1) ∧ ds = ks.map (·.2) ∧ ∀ p ∈ ks, Dp K H (.ref p.1) p.2
  | _, _, .nil, _ => ⟨[], rfl, rfl, fun p hp => (List.not_mem_nil hp).elim⟩
  | _, _, .cons (v := v) (d := d) h1 h2, hk => by
    obtain ⟨ks, e1, e2, e3⟩ := tk_refs h2 fun d hd => hk d (List.mem_cons_of_mem _ hd)
    obtain ⟨_, _, es, rfl⟩ := hk d List.mem_cons_self
    obtain ⟨a, ys, rfl, _, _⟩ := dp_tup h1
    refine ⟨(a, .tuple es) :: ks, by rw [List.map_cons, ← e1], by rw [List.map_cons, ← e2], fun p hp => ?_⟩
    rcases List.mem_cons.mp hp with rfl | hp
    · exact h1
    · exact e3 p hp
theorem cr_setD {X : Cx} (calm : X.calm = true) (hu : X.A.units + 64 < cLine) : CallR X (.type "set") (rSetD X.K X.prog X.w) := by
  intro pins s σ H vs us Q I r h
  obtain ⟨l, xs, ds, rfl, hl, hd, hk, few, q⟩ := h
  rw [Vals.ref1 r]
  obtain ⟨ks, rfl, rfl, hks⟩ := tk_refs hd hk
  have free : H s.heap.objs.size = none := I.hok.fresh (Nat.le_refl _)
  rw [List.length_map] at few
  have hk2 : ∀ p ∈ ks, TkD p.2 := fun p hp => hk _ (List.mem_map.mpr ⟨p, hp, rfl⟩)
  have keys : ∀ p ∈ ks.map (fun p => (p.1, kyD p.2)), (numKind X.prog X.w).kd.is s.heap p.2 p.1 := fun p hp => by
    obtain ⟨y, hy, rfl⟩ := List.mem_map.mp hp
    have t := hk2 y hy
    obtain ⟨a, b⟩ := ky_num y.2 t.1
    exact ⟨⟨nested_dp I y.2 _ _ t.1 (hks y hy) rfl, by rw [b]; exact t.2.1⟩, a⟩
  have body : ∀ its : Array Value, (s.heap.IsTuple l its ∨ s.heap.IsList l its) → its.toList = (ks.map fun p => (p.1, kyD p.2)).map (fun p => Value.ref p.1) → wpAny (model X.prog X.w) X.A (call (.type "set") [.ref l]) (fun v s' => EP X pins σ Q v s') X.xe s := fun its ht same => by
    refine setTG (S := numKind X.prog X.w) (ks.map fun p => (p.1, kyD p.2)) (I.ok.hd calm) ht same keys (by rw [List.length_map]; exact few) (by omega) fun hp tk L es ep t G g kept => ?_
    -- the entries are some of what was given
    have sub : ∀ p ∈ L, p ∈ ks.map fun p => (p.1, kyD p.2) := fun p hp => List.mem_of_mem_take (g.from_ p hp)
    have back : ∀ M : List (Addr × NestedKey), (∀ p ∈ M, p ∈ ks.map fun p => (p.1, kyD p.2)) → ∃ N : List (Addr × PyData), M = N.map (fun p => (p.1, kyD p.2)) ∧ ∀ p ∈ N, p ∈ ks := fun M => by
      induction M with
      | nil => exact fun _ => ⟨[], rfl, fun p hp => (List.not_mem_nil hp).elim⟩
      | cons x M ih =>
        intro hM
        obtain ⟨N, e, hN⟩ := ih fun p hp => hM p (List.mem_cons_of_mem _ hp)
        obtain ⟨p, hp, rfl⟩ := List.mem_map.mp (hM x List.mem_cons_self)
        exact ⟨p :: N, by rw [List.map_cons, ← e], fun y hy => by
          rcases List.mem_cons.mp hy with rfl | hy
          · exact hp
          · exact hN y hy⟩
    obtain ⟨N, rfl, hN⟩ := back L sub
    refine ⟨.ref s.heap.objs.size, upd H s.heap.objs.size (SetDO X.prog X.w s.heap.objs.size (N.map fun p => (p.1, kyD p.2))), I.laid (t' := tk) kept (Nat.le_refl _) (setDO_new (setE_of G)), rfl, q _ N free (fun p hp => ⟨hks p (hN p hp), List.mem_map.mpr ⟨p, hN p hp, rfl⟩⟩) (fun d hd => ?_) ?_ ?_⟩
    · obtain ⟨p, hp, rfl⟩ := List.mem_map.mp hd
      have := g.all (p.1, kyD p.2) (by rw [List.take_length]; exact List.mem_map.mpr ⟨p, hp, rfl⟩)
      rw [List.map_map] at this
      obtain ⟨y, hy, e⟩ := List.mem_map.mp this
      refine List.mem_map.mpr ⟨y, hy, ?_⟩
      exact ky_inj (hk2 y (hN y hy)).1 (hk2 p hp).1 e
    · have once := G.once
      rw [List.map_map] at once
      exact L2.nodup_of_map (f := kyD) (by rw [List.map_map]; exact once)
    · have := G.few
      rw [List.length_map] at this
      exact this
  rcases hl with hl | hl
  · obtain ⟨its, rv, tup, _⟩ := I.tuple hl
    refine body _ (.inl tup) ?_
    have := refs_of_vals (ks := ks.map fun p => (p.1, ([] : List Int))) (us := its) (by rw [List.map_map]; exact rv)
    rw [List.map_map] at this
    rw [List.map_map]
    exact this
  · obtain ⟨its, rv, pl, _⟩ := I.list hl
    refine body _ (.inr pl.isList) ?_
    have := refs_of_vals (ks := ks.map fun p => (p.1, ([] : List Int))) (us := its) (by rw [List.map_map]; exact rv)
    rw [List.map_map] at this
    rw [List.map_map]
    exact this
end WR
set_option Elab.async false
set_option linter.all false
set_option maxRecDepth 100000
set_option maxHeartbeats 1000000
namespace WR
open PySem PySem.Spec PyProof.Rows L2 Evl


/-! ### sorted(d), the keys of d tuples of integers, of any lengths (none empty) -/
def rSortDz (P : Program) (w : World) (K : PySem.W.Frag) : List V → Hp → VK → Prop := fun vs H Q => ∃ (a : Addr) (es : List (List L2.Key × Addr × V)) (bs : List (Int × List Int)), vs = [V.ref a] ∧ DZ (rowTK P w K) H a es ∧
  es.map (·.1) = bs.map (fun b => keyI (b.1 :: b.2)) ∧ bs.length ≤ 100000 ∧
  ∀ (ys : List V) (p : Addr), DpAll K H ys ((bs.mergeSort (PySem.W.dataLe false encP)).map encP) → H p = none → Q (.ref p) (upd H p (.lst ys))
theorem each_at {α β : Type} {R : α → β → Prop} : ∀ {xs : List α} {ys : List β}, xs.length = ys.length → (∀ (j : Nat) x y, xs[j]? = some x → ys[j]? = some y → R x y) → PySem.W.EachIs R xs ys
  | [], [], _, _ => .nil
  | [], _ :: _, h, _ => by cases h
  | _ :: _, [], h, _ => by cases h
  | x :: xs, y :: ys, h, f => .cons (f 0 x y rfl rfl) (each_at (Nat.succ.inj h) fun j a b h1 h2 => f (j + 1) a b h1 h2)
section
variable {prog : Program} {w : World} {A : Around} {E : Value → Shared → Prop} {s : Shared} {T : String} {r d : Addr} {n : Nat} {P : Nat → Value → Prop} {OK : Heap → Prop}
open PySem.Calls PyProof.V in
/-- what a source holds, gathered in a new list; the heap has grown (after the library's kdu_collect, which does not say so) -/
theorem collect_grows {R : List Value → Shared → Prop} (K : PySem.W.KdlSrc prog w T r d n P OK) (hh : A.handled = none) (hok : OK s.heap) (hn : n ≤ sizeLine)
    (h : ∀ (h' : Heap) (tk : Nat) (acc : Array Value), s.heap.objs.size ≤ h'.objs.size → (∀ b o, s.heap.get? b = some o → h'.get? b = some o) → ItemsOf P acc n → R acc.toList { s with heap := h', toks := tk }) :
    wpAny (model prog w) A (collect (.ref r)) R E s := by
  have hlt := K.there _ hok
  unfold collect
  refine wpAny_bind (wpAny_runValue (codeAny_builtin entry_proto_collect' ?_))
  rw [Around.under_plainId PySem.F.plain_proto_collect _]
  show wpAny _ A.in1 (newList [] >>= fun l => again (.builtin "list.__iadd__" ⟨[l, .ref r], []⟩)) _ _ s
  refine wpAny_bind (wpAny_newObj_type ?_)
  refine wpAny_pure ⟨plainId_quiet PySem.F.plain_list_iadd _, codeAny_builtin entry_list_iadd' ?_⟩
  rw [Around.under_plainId PySem.F.plain_list_iadd _]
  have hS₁ : (s.heap.push { cls := .type "list", data := .seq ([] : List Value).toArray }).get? s.heap.objs.size = some { cls := .type "list", data := .seq #[] } := Heap.get?_push_size _ rfl
  show wpAny _ A.in1 (Builtin.List.listExtendWith (.ref s.heap.objs.size) (.ref r) (.ref s.heap.objs.size)) _ _ _
  have key := PySem.W.kdl_extend (A := A) (s := { s with heap := s.heap.push { cls := .type "list", data := .seq ([] : List Value).toArray } })
    (R := fun (q : Result) (s' : Shared) => ∃ (h' : Heap) (tk : Nat) (ac : Array Value) (c' : Nat), q = .ok (.ret (.ref s.heap.objs.size)) ∧ s' = { s with heap := h', toks := tk } ∧
      (∀ b o, s.heap.get? b = some o → h'.get? b = some o) ∧ h'.get? s.heap.objs.size = some { cls := .type "list", dict := none, data := .seq ac c', slots := #[] } ∧ ItemsOf P ac n)
    K hh (K.keep _ _ hok fun b _ o e => Heap.get?_push_of_some _ e) s.heap.objs.size (Nat.ne_of_gt hlt.1) (Nat.ne_of_gt hlt.2) (.ref s.heap.objs.size) 0 hS₁
    (fun h' tk ac c' hk hS' hac => ⟨h', tk, ac, c', rfl, rfl, fun b o e => hk b o (Nat.ne_of_lt (Heap.lt_size e)) (Heap.get?_push_of_some _ e), hS', hac⟩) hn
  refine wpAny_mono key (fun fin s' x => ?_) fun e s' x => ?_
  · cases fin with
    | done f =>
      obtain ⟨h', tk, ac, c', e, rfl, hk, hS', hac⟩ := x
      cases e
      show wpAny _ A (load s.heap.objs.size >>= _) _ _ _
      exact wpAny_bind (wpAny_load hS' (wpAny_pure (h h' tk ac (Nat.le_of_lt (Heap.lt_size hS')) hk hac)))
    | again c₁ =>
      refine ⟨x.1, codeAny_mono x.2 fun q s₂ y => ?_⟩
      obtain ⟨h', tk, ac, c', rfl, rfl, hk, hS', hac⟩ := y
      show wpAny _ A (load s.heap.objs.size >>= _) _ _ _
      exact wpAny_bind (wpAny_load hS' (wpAny_pure (h h' tk ac (Nat.le_of_lt (Heap.lt_size hS')) hk hac)))
  · obtain ⟨_, _, _, _, e', _⟩ := x
    cases e'
end
open PySem.Calls PyProof.V in
theorem cr_sortDz {X : Cx} (hc : X.calm = true) (hu : X.A.units + 64 < cLine) : CallR X (.builtin "sorted") (rSortDz X.prog X.w X.K) := by
  intro pins s σ H vs us Q I r h
  obtain ⟨a, es, bs, rfl, hd, hk, hl, q⟩ := h
  rw [Vals.ref1 r]
  obtain ⟨lo, xs, zr, hdo⟩ := dz_of I hd
  obtain ⟨ents, ep, raw, hsz, hen⟩ := hdo.raw
  have lk : es.length = xs.length := Paired.length zr
  have lb : es.length = bs.length := by
    have := congrArg List.length hk
    rwa [List.length_map, List.length_map] at this
  have hh : X.A.in1.handled = none := I.ok.hd hc
  refine call_function_entry kind_sorted plain_sorted entry_sorted (args_sorted1 _) ?_
  unfold Builtin.«sorted»
  refine wpAny_bind (m := checkCount "sorted" 1 1 _) (wpAny_pure ?_)
  refine wpAny_bind (collect_grows (A := X.A.in1) (PySem.KdlSrc.rawDict (es := ents) (ep := ep) lo) hh raw (sz_of (by omega)) fun h' tk acc le0 hkp hacc => ?_)
  have hal : acc.toList.length = ents.size := by rw [Array.length_toList]; exact hacc.1
  refine wpAny_bind (wpAny_newList ?_ (by rw [hal]; exact sz_of (by omega)))
  -- each key is a tuple of integers
  have hat : ∀ (j : Nat) (v : Value) (b : Int × List Int), acc.toList[j]? = some v → bs[j]? = some b → ∃ x, RelV x v ∧ Dp X.K H x (encP b) := fun j v b h1 h2 => by
    obtain ⟨hj, ev⟩ := hacc.2 j v (by rw [← Array.getElem?_toList]; exact h1)
    obtain ⟨y, hy, e1, e2, _⟩ := hen j hj
    obtain ⟨z, hzj, r1, r2, r3⟩ := L2.DX.pget zr hy
    have hc2 := hd.cells z (List.mem_of_getElem? hzj)
    have hkey : z.1 = keyI (b.1 :: b.2) := by
      have h3 := congrArg (fun l => l[j]?) hk
      simp only [List.getElem?_map, hzj, h2, Option.map_some] at h3
      exact Option.some.inj h3
    rw [hkey] at hc2
    have hc2 : SqT X.K H z.2.1 ((keyI (b.1 :: b.2)).map kV) := hc2
    rw [keyI_kV] at hc2
    refine ⟨.ref z.2.1, ?_, .tup hc2 (dpAll_ints _)⟩
    rw [ev, e1]
    show Value.ref y.2.1 = Value.ref z.2.1
    rw [r2]
  have e := each_at (R := fun v b => ∃ x, RelV x v ∧ Dp X.K H x (encP b)) (xs := acc.toList) (ys := bs) (by omega) hat
  have hD : (h'.push { cls := .type "list", data := .seq acc.toList.toArray }).get? h'.objs.size = some (seqObj "list" acc.toList.toArray 0) := Heap.get?_push_size _ rfl
  have keep1 : ∀ b o, s.heap.get? b = some o → (h'.push { cls := .type "list", data := .seq acc.toList.toArray }).get? b = some o := fun b o q => Heap.get?_push_of_some _ (hkp b o q)
  have er : PySem.W.EachIs (fun v b => ∃ as, Reads (h'.push { cls := .type "list", data := .seq acc.toList.toArray }) v (encP b) as ∧ h'.objs.size ∉ as) acc.toList bs := e.mono fun v b ⟨x, h1, h2⟩ => by
    obtain ⟨as, rd⟩ := Dp.reads I (encP b) x v h2 h1
    refine ⟨as, Reads.keeps keep1 rd, fun z => ?_⟩
    obtain ⟨o, ho⟩ := PyProof.On.reads_mem_get rd _ z
    exact Nat.lt_irrefl _ (Heap.lt_size (hkp _ _ ho))
  have hg : wpAny (model X.prog X.w) X.A.in1 (call (.builtin "list.sort") [.ref h'.objs.size]) (fun _ s' => EP X pins σ Q (.ref h'.objs.size) s') X.xe { s with heap := h'.push { cls := .type "list", data := .seq acc.toList.toArray }, toks := tk } := by
    refine PySem.W.list_sort_data (R := fun v b => ∃ x, RelV x v ∧ Dp X.K H x (encP b)) hD e er (PySem.W.AllAlike.of fun b b' => alike_tupI _ _) (PySem.W.Sortable.tuples fun b => ⟨_, _, rfl⟩) (sz_of hl) (fun b _ => ?_) fun out h1 h2 => ?_
    · have := depth_tupI (b.1 :: b.2)
      show X.A.units + 1 + 1 + (tupI (b.1 :: b.2)).depth < cLine
      omega
    · obtain ⟨ys, v1, v2⟩ := each_out h2
      obtain ⟨c, hat2⟩ := sortedHeap_at (vs := acc.toList) (out := out.toArray) hD
      have hyl : ys.length ≤ sizeLine := by
        rw [v1.length, h1]
        exact sz_of hl
      refine ⟨.ref _, upd H h'.objs.size (.lst ys), I.laid (t' := tk) (fun b o q => ?_) le0 ⟨hyl, out, c, v1, hat2⟩, rfl, q ys _ v2 (I.hok.fresh le0)⟩
      have hlt := Heap.lt_size (hkp b o q)
      rw [sortedHeap_old (Nat.ne_of_lt hlt) (Heap.lt_size (keep1 b o q))]
      exact keep1 b o q
  refine wpAny_bind (wpAny_holding (wpAny_mono hg (fun _ s' x => ?_) fun _ _ e => e))
  exact wpAny_pure ⟨_, rfl, x⟩
section
variable {P : Program} {w : World} {K : PySem.W.Frag} {σ : L2.St} {H : Hp} {te : TE}
theorem en_sortDz {a : Addr} {m : List (List L2.Key × PyData)} {bs : List (Int × List Int)} (h : Ev te σ H (.ref a)) (hd : DzD (rowTK P w K) H a m) (hk : m.map (·.1) = bs.map fun b => keyI (b.1 :: b.2)) (hl : bs.length ≤ 100000) :
    EvN K (tCB (rSortDz P w K) (tCons te tNil)) σ H ((bs.mergeSort (PySem.W.dataLe false encP)).map encP) := fun H1 e Q q =>
  h H1 e _ fun H2 e2 => by
    obtain ⟨es, hz, hp⟩ := hd.ex (e.trans e2)
    have hke : es.map (·.1) = m.map (·.1) := by
      clear hk hd hz
      induction hp with
      | nil => rfl
      | cons a1 a2 ih => rw [List.map_cons, List.map_cons, a1.1, ih]
    exact ⟨a, es, bs, rfl, hz, hke.trans hk, hl, fun ys p hy hp => q p ys _ (fresh_back e2 hp) (e2.trans (Ex.new hp)) upd_same (dpAll_ex (Ex.new hp) _ hy)⟩
end
end WR
set_option Elab.async false
set_option linter.all false
set_option maxRecDepth 100000
set_option maxHeartbeats 1600000
namespace WR
open PySem PySem.Spec PyProof.Rows L2 Evl

/-! ### sorted(set(..)) of such tuples -/
abbrev idD : PyData → PyData := id
/-- may be sorted: tuples that hold something, all alike; or one thing at most -/
def SrtOk (ds : List PyData) : Prop := ((∀ d ∈ ds, ∃ x r, d = .tuple (x :: r)) ∨ ds.length ≤ 1) ∧ ∀ a ∈ ds, ∀ b ∈ ds, PySem.W.alike a b = true
theorem perm_back {α β : Type} (f : α → β) {vs us : List β} (h : vs.Perm us) : ∀ L : List α, us = L.map f → ∃ L1 : List α, vs = L1.map f ∧ L1.Perm L := by
  induction h with
  | nil =>
    intro L e
    cases L with
    | nil => exact ⟨[], rfl, List.Perm.refl _⟩
    | cons _ _ => cases e
  | cons x _ ih =>
    intro L e
    cases L with
    | nil => cases e
    | cons y L =>
      rw [List.map_cons] at e
      obtain ⟨e1, e2⟩ := List.cons.inj e
      obtain ⟨L1, a, b⟩ := ih L e2
      exact ⟨y :: L1, by rw [List.map_cons, ← a, e1], b.cons y⟩
  | swap x y l =>
    intro L e
    match L, e with
    | a :: b :: L, e =>
      rw [List.map_cons, List.map_cons] at e
      obtain ⟨e1, e2⟩ := List.cons.inj e
      obtain ⟨e2, e3⟩ := List.cons.inj e2
      exact ⟨b :: a :: L, by rw [List.map_cons, List.map_cons, ← e1, ← e2, ← e3], List.Perm.swap ..⟩
  | trans _ _ ih1 ih2 =>
    intro L e
    obtain ⟨L2, a, b⟩ := ih2 L e
    obtain ⟨L1, c, d⟩ := ih1 L2 a
    exact ⟨L1, c, d.trans b⟩
section
variable {P : Program} {w : World} {A : Around} {E : Value → Shared → Prop} {s : Shared}
open PySem.Calls in
/-- list.sort of such -/
theorem sort_short {a : Addr} {vs : List Value} {n : Nat} {Q : Value → Shared → Prop} (at_ : s.heap.get? a = some (seqObj "list" vs.toArray n)) (few : vs.length ≤ 1) (q : Q .none { s with heap := sortedHeap s.heap a vs vs.toArray }) :
    wpAny (model P w) A (call (.builtin "list.sort") [.ref a]) Q E s := by
  refine wpAny_call_entry slot_list_sort ⟨_, at_, rfl⟩ entry_list_sort ?_ (args_list_sort _)
  refine SK.plain_sort (r := fun _ => 0) at_ (by omega) (fun z => by omega) fun ps out h1 h2 _ => ?_
  have e : out = vs.toArray := by
    refine Array.toList_inj.mp ?_
    rw [h1]
    show ps.map Prod.snd = vs
    match vs, few, h2 with
    | [], _, h2 =>
      rw [List.Perm.eq_nil h2]
      rfl
    | [v], _, h2 =>
      rw [List.perm_singleton.mp h2]
      rfl
  rw [e]
  exact ⟨_, rfl, q⟩
end
/-- sorted(s), s such a set -/
def rSortSD (K : PySem.W.Frag) (P : Program) (w : World) : List V → Hp → VK → Prop := fun vs H Q => ∃ (a : Addr) (L : List (Addr × PyData)), vs = [V.ref a] ∧ H a = some (SetDO P w a (L.map fun p => (p.1, kyD p.2))) ∧ (∀ p ∈ L, Dp K H (.ref p.1) p.2 ∧ TkD p.2) ∧ SrtOk (L.map (·.2)) ∧ L.length ≤ 4000 ∧
  ∀ (ys : List V) (p : Addr), DpAll K H ys ((L.map (·.2)).mergeSort (PySem.W.dataLe false idD)) → H p = none → Q (.ref p) (upd H p (.lst ys))
theorem each_snd {K : PySem.W.Frag} {H : Hp} : ∀ {L : List (Addr × PyData)}, (∀ p ∈ L, Dp K H (.ref p.1) p.2) → PySem.W.EachIs (fun v b => ∃ x, RelV x v ∧ Dp K H x (idD b)) (L.map fun p => Value.ref p.1) (L.map (·.2))
  | [], _ => .nil
  | p :: L, h => .cons ⟨.ref p.1, rfl, h p List.mem_cons_self⟩ (each_snd fun q hq => h q (List.mem_cons_of_mem _ hq))
theorem each_vals {K : PySem.W.Frag} {H : Hp} : ∀ {us : List Value} {bs : List PyData}, PySem.W.EachIs (fun v b => ∃ x, RelV x v ∧ Dp K H x (idD b)) us bs → ∃ ys, Vals ys us ∧ DpAll K H ys bs
  | _, _, .nil => ⟨[], .nil, .nil⟩
  | _, _, .cons ⟨x, h1, h2⟩ hr => by
    obtain ⟨ys, a, b⟩ := each_vals hr
    exact ⟨x :: ys, .cons h1 a, .cons h2 b⟩
mutual
theorem toks_inj : ∀ x y : PyData, PySem.W.alike x y = true → itD x = true → itD y = true → ∀ l m, PySem.W.keyToks x ++ l = PySem.W.keyToks y ++ m → x = y ∧ l = m
  | .int a, .int b, _, _, _, l, m, e => by
    simp only [PySem.W.keyToks, List.cons_append, List.nil_append] at e
    obtain ⟨e1, e2⟩ := List.cons.inj e
    exact ⟨by rw [Sum.inl.inj e1], e2⟩
  | .tuple xs, .tuple ys, h, hx, hy, l, m, e => by
    simp only [PySem.W.keyToks] at e
    obtain ⟨e1, e2⟩ := toksAll_inj xs ys (by simpa [PySem.W.alike] using h) hx hy l m e
    exact ⟨by rw [e1], e2⟩
  | .int _, .tuple _, h, _, _, _, _, _ => by simp [PySem.W.alike] at h
  | .tuple _, .int _, h, _, _, _, _, _ => by simp [PySem.W.alike] at h
  | .none, _, _, hx, _, _, _, _ => by cases hx
  | .bool _, _, _, hx, _, _, _, _ => by cases hx
  | .str _, _, _, hx, _, _, _, _ => by cases hx
  | .list _, _, _, hx, _, _, _, _ => by cases hx
  | .dict _, _, _, hx, _, _, _, _ => by cases hx
  | .int _, .none, _, _, hy, _, _, _ => by cases hy
  | .int _, .bool _, _, _, hy, _, _, _ => by cases hy
  | .int _, .str _, _, _, hy, _, _, _ => by cases hy
  | .int _, .list _, _, _, hy, _, _, _ => by cases hy
  | .int _, .dict _, _, _, hy, _, _, _ => by cases hy
  | .tuple _, .none, _, _, hy, _, _, _ => by cases hy
  | .tuple _, .bool _, _, _, hy, _, _, _ => by cases hy
  | .tuple _, .str _, _, _, hy, _, _, _ => by cases hy
  | .tuple _, .list _, _, _, hy, _, _, _ => by cases hy
  | .tuple _, .dict _, _, _, hy, _, _, _ => by cases hy
theorem toksAll_inj : ∀ xs ys : List PyData, PySem.W.alikeAll xs ys = true → itDs xs = true → itDs ys = true → ∀ l m, PySem.W.keyToksAll xs ++ l = PySem.W.keyToksAll ys ++ m → xs = ys ∧ l = m
  | [], [], _, _, _, l, m, e => by
    simp only [PySem.W.keyToksAll, List.cons_append, List.nil_append] at e
    exact ⟨rfl, (List.cons.inj e).2⟩
  | [], y :: ys, _, _, _, l, m, e => by
    simp only [PySem.W.keyToksAll, List.cons_append, List.nil_append] at e
    have := Sum.inl.inj (List.cons.inj e).1
    cases this
  | x :: xs, [], _, _, _, l, m, e => by
    simp only [PySem.W.keyToksAll, List.cons_append, List.nil_append] at e
    have := Sum.inl.inj (List.cons.inj e).1
    cases this
  | x :: xs, y :: ys, h, hx, hy, l, m, e => by
    obtain ⟨h1, h2⟩ := PySem.W.alike_all_cons h
    have hx : (itD x && itDs xs) = true := hx
    have hy : (itD y && itDs ys) = true := hy
    rw [Bool.and_eq_true] at hx hy
    simp only [PySem.W.keyToksAll, List.cons_append, List.append_assoc] at e
    obtain ⟨a, b⟩ := toks_inj x y h1 hx.1 hy.1 _ _ (List.cons.inj e).2
    obtain ⟨c, d⟩ := toksAll_inj xs ys h2 hx.2 hy.2 l m b
    exact ⟨by rw [a, c], d⟩
end
theorem le_anti {a b : PyData} (h : PySem.W.alike a b = true) (ha : itD a = true) (hb : itD b = true) (h1 : PySem.W.dataLe false idD a b = true) (h2 : PySem.W.dataLe false idD b a = true) : a = b := by
  have e1 : (!PyProof.Rows.lexLt itemOrd (PySem.W.keyToks b) (PySem.W.keyToks a)) = true := h1
  have e2 : (!PyProof.Rows.lexLt itemOrd (PySem.W.keyToks a) (PySem.W.keyToks b)) = true := h2
  rw [Bool.not_eq_true'] at e1 e2
  have e := (listOrd itemOrd).total _ _ e2 e1
  exact (toks_inj a b h ha hb [] [] (by rw [List.append_nil, List.append_nil]; exact e)).1
theorem srtD_pw (ds : List PyData) : (ds.mergeSort (PySem.W.dataLe false idD)).Pairwise fun a b => PySem.W.dataLe false idD a b = true := by
  have T := PySem.W.sortLe_total (listOrd itemOrd) false PySem.W.keyToks
  exact List.pairwise_mergeSort T.trans (fun a b => by rw [Bool.or_eq_true]; exact T.total a b) ds
/-- what stands in order, each once, with the same things, is the same -/
theorem srtD_one {ds es : List PyData} (hd : ∀ d ∈ ds, itD d = true) (hal : ∀ a ∈ ds, ∀ b ∈ ds, PySem.W.alike a b = true) (n1 : ds.Nodup) (n2 : es.Nodup) (same : ∀ d, d ∈ ds ↔ d ∈ es) : ds.mergeSort (PySem.W.dataLe false idD) = es.mergeSort (PySem.W.dataLe false idD) := by
  have pm : ds.Perm es := (List.perm_ext_iff_of_nodup n1 n2).mpr same
  have p1 := List.mergeSort_perm ds (PySem.W.dataLe false idD)
  have p2 := List.mergeSort_perm es (PySem.W.dataLe false idD)
  refine List.Perm.eq_of_pairwise (le := fun a b => PySem.W.dataLe false idD a b = true) (fun a b ha hb h1 h2 => ?_) (srtD_pw ds) (srtD_pw es) ((p1.trans pm).trans p2.symm)
  have ha := p1.mem_iff.mp ha
  have hb := (same b).mpr (p2.mem_iff.mp hb)
  exact le_anti (hal a ha b hb) (hd a ha) (hd b hb) h1 h2
open PySem.Calls PyProof.V in
theorem cr_sortSD {X : Cx} (calm : X.calm = true) (hu : X.A.units + 64 < cLine) : CallR X (.builtin "sorted") (rSortSD X.K X.prog X.w) := by
  intro pins s σ H vs us Q I r h
  obtain ⟨a, L, rfl, ha, hk, ⟨srt, alk⟩, few, q⟩ := h
  rw [Vals.ref1 r]
  have keys : ∀ p ∈ L.map (fun p => (p.1, kyD p.2)), (numKind X.prog X.w).kd.is s.heap p.2 p.1 := fun p hp => by
    obtain ⟨y, hy, rfl⟩ := List.mem_map.mp hp
    obtain ⟨hd, t⟩ := hk y hy
    obtain ⟨n1, n2⟩ := ky_num y.2 t.1
    exact ⟨⟨nested_dp I y.2 _ _ t.1 hd rfl, by rw [n2]; exact t.2.1⟩, n1⟩
  obtain ⟨es, ep, t, G⟩ := SetE.full (show SetE X.prog X.w s.heap a _ from (I.hok a _ ha).1) keys
  obtain ⟨o, at_, ex, data⟩ := G.at_
  have el := ent_size G.all
  rw [List.length_map] at el
  refine call_function_entry kind_sorted plain_sorted entry_sorted (args_sorted1 _) ?_
  unfold Builtin.«sorted»
  refine wpAny_bind (m := checkCount "sorted" 1 1 _) (wpAny_pure ?_)
  refine wpAny_bind (collect_set (A := X.A.in1) (I.ok.hd calm) ⟨o, at_, ex.1, data⟩ G.fit (by unfold scanBound; omega) G.tab.asc G.led fun s1 us k1 le0 g1 o1 pm => ?_)
  have refs : es.toList.map (·.2) = L.map fun p => Value.ref p.1 := by
    rw [G.all]
    unfold ent
    rw [List.map_map, List.map_map]
    rfl
  obtain ⟨L1, rfl, pm1⟩ := perm_back (fun p : Addr × PyData => Value.ref p.1) pm L refs
  have hk1 : ∀ p ∈ L1, Dp X.K H (.ref p.1) p.2 ∧ TkD p.2 := fun p hp => hk p (pm1.mem_iff.mp hp)
  have ul : (L1.map fun p => Value.ref p.1).length ≤ 4000 := by
    rw [List.length_map, pm1.length_eq]
    exact few
  have el1 : L1.length ≤ 4000 := by rwa [List.length_map] at ul
  refine wpAny_bind (wpAny_newList ?_ (sz_of (by omega)))
  generalize hvs : (L1.map fun p => Value.ref p.1) = vs at ul ⊢
  have e := each_snd fun p hp => (hk1 p hp).1
  rw [hvs] at e
  have hD : (s1.heap.push { cls := .type "list", data := .seq vs.toArray }).get? s1.heap.objs.size = some (seqObj "list" vs.toArray 0) := Heap.get?_push_size _ rfl
  have keep1 : ∀ b o, s.heap.get? b = some o → (s1.heap.push { cls := .type "list", data := .seq vs.toArray }).get? b = some o := fun b o q => Heap.get?_push_of_some _ (k1 b o q)
  have er : PySem.W.EachIs (fun v b => ∃ as, Reads (s1.heap.push { cls := .type "list", data := .seq vs.toArray }) v (idD b) as ∧ s1.heap.objs.size ∉ as) vs (L1.map (·.2)) := e.mono fun v b ⟨x, h1, h2⟩ => by
    obtain ⟨as, rd⟩ := Dp.reads I (idD b) x v h2 h1
    refine ⟨as, Reads.keeps keep1 rd, fun z => ?_⟩
    obtain ⟨o, ho⟩ := PyProof.On.reads_mem_get rd _ z
    exact Nat.lt_irrefl _ (Heap.lt_size (k1 _ _ ho))
  have mem1 : ∀ d ∈ L1.map (·.2), d ∈ L.map (·.2) := fun d hd => by
    obtain ⟨p, hp, rfl⟩ := List.mem_map.mp hd
    exact List.mem_map.mpr ⟨p, pm1.mem_iff.mp hp, rfl⟩
  have it1 : ∀ d ∈ L1.map (·.2), itD d = true := fun d hd => by
    obtain ⟨p, hp, rfl⟩ := List.mem_map.mp hd
    exact (hk1 p hp).2.1
  have sameSort : (L1.map (·.2)).mergeSort (PySem.W.dataLe false idD) = (L.map (·.2)).mergeSort (PySem.W.dataLe false idD) := by
    have p1 := List.mergeSort_perm (L1.map (·.2)) (PySem.W.dataLe false idD)
    have p2 := List.mergeSort_perm (L.map (·.2)) (PySem.W.dataLe false idD)
    refine List.Perm.eq_of_pairwise (le := fun a b => PySem.W.dataLe false idD a b = true) (fun a b ha hb h1 h2 => ?_) (srtD_pw _) (srtD_pw _) ((p1.trans (pm1.map _)).trans p2.symm)
    have ha := p1.mem_iff.mp ha
    have hb := ((pm1.map (·.2)).mem_iff).mpr (p2.mem_iff.mp hb)
    exact le_anti (alk a (mem1 a ha) b (mem1 b hb)) (it1 a ha) (it1 b hb) h1 h2
  have hg : wpAny (model X.prog X.w) X.A.in1 (call (.builtin "list.sort") [.ref s1.heap.objs.size]) (fun _ s' => EP X pins σ Q (.ref s1.heap.objs.size) s') X.xe { s1 with heap := s1.heap.push { cls := .type "list", data := .seq vs.toArray } } := by
    have fin : ∀ out : List Value, out.length = vs.length → PySem.W.EachIs (fun v b => ∃ x, RelV x v ∧ Dp X.K H x (idD b)) out ((L1.map (·.2)).mergeSort (PySem.W.dataLe false idD)) →
        EP X pins σ Q (.ref s1.heap.objs.size) { s1 with heap := sortedHeap (s1.heap.push { cls := .type "list", data := .seq vs.toArray }) s1.heap.objs.size vs out.toArray } := fun out h1 h2 => by
      obtain ⟨ys, v1, v2⟩ := each_vals h2
      rw [sameSort] at v2
      obtain ⟨c, hat2⟩ := sortedHeap_at (vs := vs) (out := out.toArray) hD
      have hyl : ys.length ≤ sizeLine := by
        rw [v1.length, h1]
        exact sz_of (by omega)
      have kept : ∀ b o, s.heap.get? b = some o → (sortedHeap (s1.heap.push { cls := .type "list", data := .seq vs.toArray }) s1.heap.objs.size vs out.toArray).get? b = some o := fun b o q => by
        rw [sortedHeap_old (Nat.ne_of_lt (Heap.lt_size (k1 b o q))) (Heap.lt_size (keep1 b o q))]
        exact keep1 b o q
      have hn : H s1.heap.objs.size = none := I.hok.fresh le0
      have J : L2.Inv X pins σ (upd H s1.heap.objs.size (.lst ys)) { s with heap := sortedHeap (s1.heap.push { cls := .type "list", data := .seq vs.toArray }) s1.heap.objs.size vs out.toArray, gens := s1.gens, drawn := s1.drawn, toks := s1.toks } :=
        I.call (ch := []) (Un.laid kept le0 hn) (I.hok.laid kept le0 ⟨hyl, out, c, v1, hat2⟩) (by rw [g1]; exact I.bare) (fun _ z => nomatch z)
      have es : ({ s1 with heap := sortedHeap (s1.heap.push { cls := .type "list", data := .seq vs.toArray }) s1.heap.objs.size vs out.toArray } : Shared) = { s with heap := sortedHeap (s1.heap.push { cls := .type "list", data := .seq vs.toArray }) s1.heap.objs.size vs out.toArray, gens := s1.gens, drawn := s1.drawn, toks := s1.toks } := by
        cases s1
        cases s
        cases o1
        rfl
      rw [es]
      exact ⟨.ref _, _, J, rfl, q ys _ v2 hn⟩
    rcases srt with srt | srt
    · refine PySem.W.list_sort_data (R := fun v b => ∃ x, RelV x v ∧ Dp X.K H x (idD b)) hD e er (fun a ha b hb => ?_) (.inl fun d hd => ?_) (sz_of (by rw [List.length_map]; omega)) (fun b hb => ?_) fun out h1 h2 => fin out (by rw [h1, ← hvs, List.length_map, List.length_map]) h2
      · rw [List.map_id] at ha hb
        exact alk a (mem1 a ha) b (mem1 b hb)
      · rw [List.map_id] at hd
        exact srt d (mem1 d hd)
      · obtain ⟨p, hp, rfl⟩ := List.mem_map.mp hb
        have := (hk1 p hp).2.2.1
        show X.A.units + 1 + 1 + (idD p.2).depth < cLine
        show X.A.units + 1 + 1 + p.2.depth < cLine
        omega
    · rw [List.length_map] at srt
      have l1 : L1.length ≤ 1 := by rw [pm1.length_eq]; exact srt
      refine sort_short hD (by rw [← hvs, List.length_map]; exact l1) (fin vs rfl ?_)
      have : (L1.map (·.2)).mergeSort (PySem.W.dataLe false idD) = L1.map (·.2) := by
        match L1, l1 with
        | [], _ => exact List.mergeSort_nil
        | [p], _ => exact List.mergeSort_singleton _
      rw [this]
      exact e
  refine wpAny_bind (wpAny_holding (wpAny_mono hg (fun _ s' x => ?_) fun _ _ e => e))
  exact wpAny_pure ⟨_, rfl, x⟩
end WR
set_option Elab.async false
set_option linter.all false
set_option maxRecDepth 100000
set_option maxHeartbeats 1000000
namespace WR
open PySem PySem.Spec PyProof.Rows L2 Evl

/-! ### sorted(set(..)) as data -/
/-- each once -/
noncomputable def ddD : List PyData → List PyData
  | [] => []
  | d :: r => @ite _ (d ∈ ddD r) (Classical.propDecidable _) (ddD r) (d :: ddD r)
theorem mem_ddD {x : PyData} : ∀ {ds : List PyData}, x ∈ ddD ds ↔ x ∈ ds
  | [] => Iff.rfl
  | d :: r => by
    have ih := mem_ddD (x := x) (ds := r)
    unfold ddD
    split
    · rename_i h
      rw [ih]
      refine ⟨fun z => List.mem_cons_of_mem _ z, fun z => ?_⟩
      rcases List.mem_cons.mp z with rfl | z
      · exact mem_ddD.mp h
      · exact z
    · rw [List.mem_cons, List.mem_cons, ih]
theorem nd_ddD : ∀ {ds : List PyData}, (ddD ds).Nodup
  | [] => List.nodup_nil
  | d :: r => by
    unfold ddD
    split
    · exact nd_ddD
    · rename_i h
      exact List.nodup_cons.mpr ⟨h, nd_ddD⟩
noncomputable def srtSet (ds : List PyData) : List PyData := (ddD ds).mergeSort (PySem.W.dataLe false idD)
theorem mem_srtSet {x : PyData} {ds : List PyData} : x ∈ srtSet ds ↔ x ∈ ds := by
  unfold srtSet
  rw [(List.mergeSort_perm _ _).mem_iff, mem_ddD]
theorem nd_srtSet {ds : List PyData} : (srtSet ds).Nodup := (List.mergeSort_perm _ _).nodup_iff.mpr nd_ddD
/-- what may be put into a set and sorted: all hold something, or all are one -/
structure SrtDs (ds : List PyData) : Prop where
  tk : ∀ d ∈ ds, TkD d
  full : (∀ d ∈ ds, ∃ x r, d = .tuple (x :: r)) ∨ ∃ d0, ∀ d ∈ ds, d = d0
  alk : ∀ a ∈ ds, ∀ b ∈ ds, PySem.W.alike a b = true
theorem SrtDs.ok {ds es : List PyData} (h : SrtDs ds) (nd : es.Nodup) (sub : ∀ d ∈ es, d ∈ ds) : SrtOk es := by
  refine ⟨?_, fun a ha b hb => h.alk a (sub a ha) b (sub b hb)⟩
  rcases h.full with f | ⟨d0, f⟩
  · exact .inl fun d hd => f d (sub d hd)
  · right
    match es, nd, sub with
    | [], _, _ => exact Nat.zero_le _
    | [a], _, _ => exact Nat.le_refl _
    | a :: b :: r, nd, sub =>
      have e1 := f a (sub a (by simp))
      have e2 := f b (sub b (by simp))
      rw [e1, e2] at nd
      exact absurd (List.mem_cons_self) (List.nodup_cons.mp nd).1
theorem srtSet_of {ds es : List PyData} (h : SrtDs ds) (nd : es.Nodup) (same : ∀ d, d ∈ es ↔ d ∈ ds) : es.mergeSort (PySem.W.dataLe false idD) = srtSet ds := by
  refine srtD_one (fun d hd => (h.tk d ((same d).mp hd)).1) (fun a ha b hb => h.alk a ((same a).mp ha) b ((same b).mp hb)) nd nd_ddD fun d => ?_
  rw [mem_ddD]
  exact same d
theorem srtSet_congr {ds es : List PyData} (h : SrtDs ds) (same : ∀ d, d ∈ ds ↔ d ∈ es) : srtSet ds = srtSet es := by
  refine srtD_one (fun d hd => (h.tk d (mem_ddD.mp hd)).1) (fun a ha b hb => h.alk a (mem_ddD.mp ha) b (mem_ddD.mp hb)) nd_ddD nd_ddD fun d => ?_
  rw [mem_ddD, mem_ddD]
  exact same d
section
variable {P : Program} {w : World} {K : PySem.W.Frag} {σ : L2.St} {H : Hp} {te : TE} {ds : List PyData}
theorem srt_vals {xs : List V} {l : Addr} {H3 : Hp} (hl : SqT K H3 l xs ∨ SqL K H3 l xs) (hd : DpAll K H3 xs ds) (hk : SrtDs ds) (few : ds.length ≤ 4000) (Q : VK) (q : ∀ p ys H4, H3 p = none → Ex H3 H4 → H4 p = some (.lst ys) → DpAll K H4 ys (srtSet ds) → Q (.ref p) H4) :
    rSetD K P w [.ref l] H3 fun x H4 => rSortSD K P w [x] H4 Q := by
  refine ⟨l, xs, ds, rfl, hl, hd, hk.tk, few, fun a L ha hL all once fewL => ?_⟩
  have e4 := Ex.new (o := SetDO P w a (L.map fun p => (p.1, kyD p.2))) ha
  have same : ∀ d, d ∈ L.map (·.2) ↔ d ∈ ds := fun d => ⟨fun z => by
    obtain ⟨p, hp, rfl⟩ := List.mem_map.mp z
    exact (hL p hp).2, all d⟩
  refine ⟨a, L, rfl, upd_same, fun p hp => ⟨dp_ex e4 _ (hL p hp).1, hk.tk _ (hL p hp).2⟩, hk.ok once fun d hd => (same d).mp hd, fewL, fun ys p hy hp => ?_⟩
  rw [srtSet_of hk once same] at hy
  have e5 := Ex.new (o := HO.lst ys) hp
  exact q p ys _ (fresh_back e4 hp) (e4.trans e5) upd_same (dpAll_ex e5 _ hy)
/-- sorted(set(list)) -/
theorem en_sortSet (h : EvD K te σ H (.list ds)) (hk : SrtDs ds) (few : ds.length ≤ 4000) : EvN K (tCB (rSortSD K P w) (tCons (tCB (rSetD K P w) (tCons te tNil)) tNil)) σ H (srtSet ds) := fun H1 e Q q =>
  h H1 e _ fun v H3 e3 hv => by
    obtain ⟨l, xs, rfl, hs, hd⟩ := dp_lst hv
    exact srt_vals (P := P) (w := w) (.inr hs) hd hk few Q fun p ys H4 hp e4 hy hdy => q p ys H4 (fresh_back e3 hp) (e3.trans e4) hy hdy
/-- sorted(set(tuple)) -/
theorem en_sortSetT (h : EvD K te σ H (.tuple ds)) (hk : SrtDs ds) (few : ds.length ≤ 4000) : EvN K (tCB (rSortSD K P w) (tCons (tCB (rSetD K P w) (tCons te tNil)) tNil)) σ H (srtSet ds) := fun H1 e Q q =>
  h H1 e _ fun v H3 e3 hv => by
    obtain ⟨l, xs, rfl, hs, hd⟩ := dp_tup hv
    exact srt_vals (P := P) (w := w) (.inl hs) hd hk few Q fun p ys H4 hp e4 hy hdy => q p ys H4 (fresh_back e3 hp) (e3.trans e4) hy hdy
end
/-! what is alike -/
theorem alike_ints2 (a b : List Int) : PySem.W.alikeAll (a.map PyData.int) (b.map PyData.int) = true := PySem.W.alike_ints a b
theorem alike_rowsT : ∀ as bs : List (List Int), PySem.W.alikeAll (as.map tupI) (bs.map tupI) = true
  | [], _ => by simp [PySem.W.alikeAll]
  | _ :: _, [] => by simp [PySem.W.alikeAll]
  | a :: as, b :: bs => by
    rw [List.map_cons, List.map_cons, PySem.W.alikeAll, alike_tupI, alike_rowsT as bs]
    rfl
theorem alike_tree (as bs : List (List Int)) : PySem.W.alike (.tuple (as.map tupI)) (.tuple (bs.map tupI)) = true := by
  simp only [PySem.W.alike]
  exact alike_rowsT as bs
theorem it_ints : ∀ ns : List Int, itDs (ns.map PyData.int) = true
  | [] => rfl
  | _ :: r => by
    show (true && itDs (r.map PyData.int)) = true
    rw [it_ints r]
    rfl
theorem it_rows : ∀ rs : List (List Int), itDs (rs.map tupI) = true
  | [] => rfl
  | a :: r => by
    show (itDs (a.map PyData.int) && itDs (r.map tupI)) = true
    rw [it_ints, it_rows r]
    rfl
theorem tk_row (r : List Int) : TkD (tupI r) := ⟨it_ints r, by have := depth_tupI r; omega, _, rfl⟩
theorem depth_rows : ∀ rs : List (List Int), PyData.depthAll (rs.map tupI) ≤ 1
  | [] => Nat.zero_le _
  | a :: r => by
    have h1 := depth_tupI a
    have h2 := depth_rows r
    rw [List.map_cons]
    simp only [PyData.depthAll]
    omega
theorem tk_tree (rs : List (List Int)) : TkD (.tuple (rs.map tupI)) := ⟨it_rows rs, by have := depth_rows rs; simp only [PyData.depth]; omega, _, rfl⟩
theorem srt_rows {rs : List (List Int)} (h : ∀ r ∈ rs, r ≠ []) : SrtDs (rs.map tupI) where
  tk := fun d hd => by
    obtain ⟨r, _, rfl⟩ := List.mem_map.mp hd
    exact tk_row r
  full := .inl fun d hd => by
    obtain ⟨r, hr, rfl⟩ := List.mem_map.mp hd
    cases r with
    | nil => exact absurd rfl (h _ hr)
    | cons x r => exact ⟨_, _, rfl⟩
  alk := fun a ha b hb => by
    obtain ⟨r, _, rfl⟩ := List.mem_map.mp ha
    obtain ⟨r2, _, rfl⟩ := List.mem_map.mp hb
    exact alike_tupI _ _
end WR
set_option Elab.async false
set_option linter.all false
set_option maxRecDepth 100000
set_option maxHeartbeats 1000000
namespace WR
open PySem PySem.Spec PyProof.Rows L2 Evl

/-! ### rows taken apart: what the program computes -/
def unlR (rows : List (List Int)) : List (List Int) := srtR (dedR rows)
def withinB (a b : List Int) : Bool := (a.zip b).all fun p => decide (p.1 ≤ p.2)
def subR (a b : List Int) : List Int := (a.zip b).map fun p => p.1 - p.2
def posR (a : List Int) : Bool := a.any fun x => decide (0 < x)
def leafR (l x : Nat) : List Int := (List.range l).map fun a => if a = x then (1 : Int) else 0
def lowR (rows : List (List Int)) (r : List Int) : List (List Int) := (unlR rows).filter fun o => !decide (o = r) && withinB o r
def candR (lower : List (List Int)) (left : List Int) : List (List Int) := lower.filter fun o => withinB o left
def topR : List (List Int) → List Int
  | [] => []
  | x :: rs => maxR x rs
def takeS (lower : List (List Int)) : Nat → List Int → List (List Int) → Option (List (List Int))
  | 0, _, _ => none
  | n + 1, left, tk => if posR left = true then (if topR (candR lower left) ∈ tk then none else takeS lower n (subR left (topR (candR lower left))) (tk ++ [topR (candR lower left)])) else some tk
def takeR (rows : List (List Int)) (r : List Int) : Option (List (List Int)) := (takeS (lowR rows r) ((lowR rows r).length + 1) r []).map srtR
theorem nd_sub_len {α : Type} [DecidableEq α] : ∀ {a b : List α}, a.Nodup → (∀ x ∈ a, x ∈ b) → a.length ≤ b.length
  | [], _, _, _ => Nat.zero_le _
  | x :: a, b, hn, hs => by
    rw [List.nodup_cons] at hn
    have hx := hs x (List.mem_cons_self ..)
    have := nd_sub_len (a := a) (b := b.erase x) hn.2 fun y hy => (List.mem_erase_of_ne fun z => hn.1 (by rw [← z]; exact hy)).mpr (hs y (List.mem_cons_of_mem _ hy))
    rw [List.length_erase_of_mem hx] at this
    have := List.length_pos_of_mem hx
    rw [List.length_cons]
    omega
theorem mem_unlR {rows : List (List Int)} {x : List Int} : x ∈ unlR rows ↔ x ∈ rows := by
  unfold unlR
  rw [(srtR_perm _).mem_iff, mem_dedR]
theorem nd_unlR {rows : List (List Int)} : (unlR rows).Nodup := (srtR_perm _).nodup_iff.mpr nd_dedR
theorem dedR_len : ∀ xs : List (List Int), (dedR xs).length ≤ xs.length
  | [] => Nat.le_refl _
  | x :: r => by
    have ih := dedR_len r
    unfold dedR
    split
    · rw [List.length_cons]
      omega
    · rw [List.length_cons, List.length_cons]
      omega
theorem unlR_len (rows : List (List Int)) : (unlR rows).length ≤ rows.length := by
  unfold unlR
  rw [(srtR_perm _).length_eq]
  exact dedR_len _
theorem withinB_iff {a b : List Int} (h : a.length = b.length) : withinB a b = true ↔ ∀ (i : Nat) (x y : Int), a[i]? = some x → b[i]? = some y → x ≤ y := by
  unfold withinB
  rw [List.all_eq_true]
  constructor
  · intro hh i x y hx hy
    exact of_decide_eq_true (hh (x, y) (List.mem_of_getElem? (i := i) (List.getElem?_zip_eq_some.mpr ⟨hx, hy⟩)))
  · intro hh p hp
    obtain ⟨i, hi, e⟩ := List.mem_iff_getElem.mp hp
    have e2 : (a.zip b)[i]? = some (p.1, p.2) := by rw [List.getElem?_eq_getElem hi, e]
    obtain ⟨h1, h2⟩ := List.getElem?_zip_eq_some.mp e2
    exact decide_eq_true (hh i _ _ h1 h2)
theorem subR_len {a b : List Int} (h : a.length = b.length) : (subR a b).length = a.length := by
  unfold subR
  rw [List.length_map, List.length_zip]
  omega
theorem subR_at {a b : List Int} {i : Nat} {x y : Int} (hx : a[i]? = some x) (hy : b[i]? = some y) : (subR a b)[i]? = some (x - y) := by
  unfold subR
  have h : (a.zip b)[i]? = some (x, y) := List.getElem?_zip_eq_some.mpr ⟨hx, hy⟩
  rw [List.getElem?_map, h]
  rfl
theorem leafR_len {l x : Nat} : (leafR l x).length = l := by unfold leafR; rw [List.length_map, List.length_range]
theorem leafR_at {l x i : Nat} (h : i < l) : (leafR l x)[i]? = some (if i = x then 1 else 0) := by
  unfold leafR
  rw [List.getElem?_map, List.getElem?_range h]
  rfl
/-- what is left while rows are taken off -/
structure LeftOk (l : Nat) (r left : List Int) : Prop where
  len : left.length = l
  nn : ∀ (i : Nat) (x : Int), left[i]? = some x → 0 ≤ x
  le : ∀ (i : Nat) (x y : Int), left[i]? = some x → r[i]? = some y → x ≤ y
theorem LeftOk.start {l : Nat} {r : List Int} (h : RowOk l r) : LeftOk l r r :=
  ⟨h.1, fun i x hx => (h.2 x (List.mem_of_getElem? hx)).1, fun i x y hx hy => by rw [hx] at hy; cases hy; exact Int.le_refl _⟩
theorem LeftOk.sub {l : Nat} {r left g : List Int} (h : LeftOk l r left) (hg : RowOk l g) (hw : withinB g left = true) : LeftOk l r (subR left g) := by
  have e : left.length = g.length := by rw [h.len, hg.1]
  have at_ : ∀ (i : Nat) (z : Int), (subR left g)[i]? = some z → ∃ x y, left[i]? = some x ∧ g[i]? = some y ∧ z = x - y := fun i z hz => by
    have hi := (List.getElem?_eq_some_iff.mp hz).1
    rw [subR_len e] at hi
    have h1 : left[i]? = some left[i] := List.getElem?_eq_getElem hi
    have h2 : g[i]? = some (g[i]'(by omega)) := List.getElem?_eq_getElem (by omega)
    refine ⟨_, _, h1, h2, ?_⟩
    have := subR_at h1 h2
    rw [hz] at this
    exact Option.some.inj this
  refine ⟨by rw [subR_len e, h.len], fun i z hz => ?_, fun i z y hz hy => ?_⟩
  · obtain ⟨x, y, hx, hy, rfl⟩ := at_ i z hz
    have := (withinB_iff e.symm).mp hw i y x hy hx
    omega
  · obtain ⟨x, w, hx, hw', rfl⟩ := at_ i z hz
    have h1 := h.le i x y hx hy
    have h2 := (hg.2 w (List.mem_of_getElem? hw')).1
    omega
theorem posR_at {a : List Int} (h : posR a = true) : ∃ (i : Nat) (x : Int), a[i]? = some x ∧ 0 < x := by
  unfold posR at h
  obtain ⟨x, hx, h2⟩ := List.any_eq_true.mp h
  obtain ⟨i, hi⟩ := List.mem_iff_getElem?.mp hx
  exact ⟨i, x, hi, of_decide_eq_true h2⟩
theorem leafR_ok {l x : Nat} : RowOk l (leafR l x) := by
  refine ⟨leafR_len, fun m hm => ?_⟩
  unfold leafR at hm
  obtain ⟨a, _, rfl⟩ := List.mem_map.mp hm
  have : (1 : Int) < bigB := by decide
  split <;> omega
/-- there is always a row that can be taken off -/
theorem cand_ne {l : Nat} {rows : List (List Int)} {r left : List Int} (hl : ∀ x, x < l → leafR l x ∈ rows) (hr : ∀ x, x < l → r ≠ leafR l x) (hrl : r.length = l) (h : LeftOk l r left) (hp : posR left = true) : candR (lowR rows r) left ≠ [] := by
  obtain ⟨i, x, hx, h0⟩ := posR_at hp
  have hi : i < l := by
    have := (List.getElem?_eq_some_iff.mp hx).1
    rw [h.len] at this
    exact this
  have hwi : ∀ b : List Int, b.length = l → (∀ (j : Nat) (y : Int), b[j]? = some y → 0 ≤ y) → (∀ y, b[i]? = some y → 1 ≤ y) → withinB (leafR l i) b = true := fun b hb h0 h1 => by
    refine (withinB_iff (by rw [leafR_len, hb])).mpr fun j u y hu hy => ?_
    have hj : j < l := by
      have := (List.getElem?_eq_some_iff.mp hu).1
      rw [leafR_len] at this
      exact this
    rw [leafR_at hj] at hu
    cases hu
    by_cases e : j = i
    · subst e
      rw [if_pos rfl]
      exact h1 y hy
    · rw [if_neg e]
      exact h0 j y hy
  have hm : leafR l i ∈ candR (lowR rows r) left := by
    refine List.mem_filter.mpr ⟨List.mem_filter.mpr ⟨mem_unlR.mpr (hl i hi), ?_⟩, hwi left h.len h.nn fun y hy => by rw [hx] at hy; cases hy; omega⟩
    rw [Bool.and_eq_true]
    refine ⟨by rw [decide_eq_false (fun e => hr i hi e.symm)]; rfl, hwi r hrl (fun j y hy => ?_) fun y hy => ?_⟩
    · have hj : j < l := by
        have := (List.getElem?_eq_some_iff.mp hy).1
        omega
      have h2 : left[j]? = some (left[j]'(by rw [h.len]; exact hj)) := List.getElem?_eq_getElem (by rw [h.len]; exact hj)
      have h3 := h.le j _ y h2 hy
      have h4 := h.nn j _ h2
      omega
    · have := h.le i x y hx hy
      omega
  intro z
  rw [z] at hm
  cases hm
theorem topR_mem {xs : List (List Int)} (h : xs ≠ []) : topR xs ∈ xs := by
  cases xs with
  | nil => exact absurd rfl h
  | cons x rs =>
    rcases maxR_mem (x := x) (r := rs) with z | z
    · show maxR x rs ∈ x :: rs
      rw [z]
      exact List.mem_cons_self ..
    · exact List.mem_cons_of_mem _ z
theorem topR_ge {xs : List (List Int)} : ∀ y ∈ xs, keyR y ≤ keyR (topR xs) := fun y hy => by
  cases xs with
  | nil => cases hy
  | cons x rs =>
    obtain ⟨h1, h2⟩ := maxR_ge (x := x) (r := rs)
    rcases List.mem_cons.mp hy with rfl | hy
    · exact h1
    · exact h2 y hy
theorem cand_mem {lower : List (List Int)} {left g : List Int} (h : g ∈ candR lower left) : g ∈ lower ∧ withinB g left = true := List.mem_filter.mp h
theorem low_mem {rows : List (List Int)} {r g : List Int} (h : g ∈ lowR rows r) : g ∈ rows ∧ g ≠ r ∧ withinB g r = true := by
  obtain ⟨a, b⟩ := List.mem_filter.mp h
  rw [Bool.and_eq_true, Bool.not_eq_true', decide_eq_false_iff_not] at b
  exact ⟨mem_unlR.mp a, b.1, b.2⟩
theorem nd_low {rows : List (List Int)} {r : List Int} : (lowR rows r).Nodup := nd_unlR.sublist List.filter_sublist
end WR
set_option Elab.async false
set_option linter.all false
set_option maxRecDepth 100000
set_option maxHeartbeats 2000000
namespace WR
open PySem PySem.Spec PyProof.Rows L2 Evl

/-! ### the law's own distance -/
def spLDist (K : PySem.W.Frag) : Sp := fun vs H Q _ => ∃ v w l A B, vs = [v, w] ∧ Dp K H v (webD l A) ∧ Dp K H w (webD l B) ∧ Raw l A ∧ Raw l B ∧ ∀ H', Ex H H' → Q (.int (distI l A B)) H'
abbrev nLDist : List Str := ["_law_one_here", "_law_other", "_law_rows_here", "_law_others", "_law_row"]
theorem scLDist : FnScope nLDist ["_law_one_here", "_law_other"] (defScope s_law_distance) := ⟨rfl, rfl, rfl, by decide +kernel, rfl, by decide +kernel, by decide +kernel⟩
theorem rows_pre {α : Type} (f : α → PyData) : ∀ {ds : List PyData}, (∀ d ∈ ds, ∃ r, d = f r) → ∃ U : List α, ds = U.map f
  | [], _ => ⟨[], rfl⟩
  | d :: ds, h => by
    obtain ⟨r, hr⟩ := h d (List.mem_cons_self ..)
    obtain ⟨U, hU⟩ := rows_pre f (ds := ds) fun x hx => h x (List.mem_cons_of_mem _ hx)
    exact ⟨r :: U, by rw [hr, hU]; rfl⟩
theorem tupI_inj2 {a b : List Int} (h : tupI a = tupI b) : a = b := by
  have h1 : a.map PyData.int = b.map PyData.int := by
    injection h
  exact (List.map_inj_right fun x y e => by injection e).mp h1
/-- the rows of a sorted set of rows -/
theorem srt_pre {rows : List (List Int)} : ∃ U : List (List Int), srtSet (rows.map tupI) = U.map tupI ∧ U.Nodup ∧ ∀ r, r ∈ U ↔ r ∈ rows := by
  obtain ⟨U, hU⟩ := rows_pre tupI (ds := srtSet (rows.map tupI)) fun d hd => by
    obtain ⟨r, _, rfl⟩ := List.mem_map.mp (mem_srtSet.mp hd)
    exact ⟨r, rfl⟩
  have inj : Function.Injective tupI := fun a b h => tupI_inj2 h
  refine ⟨U, hU, ?_, fun r => ?_⟩
  · have := nd_srtSet (ds := rows.map tupI)
    rw [hU] at this
    exact (List.pairwise_map.mp this).imp fun h e => h (by rw [e])
  · have h1 : tupI r ∈ srtSet (rows.map tupI) ↔ tupI r ∈ rows.map tupI := mem_srtSet
    rw [hU] at h1
    have e1 : ∀ l : List (List Int), tupI r ∈ l.map tupI ↔ r ∈ l := fun l => by
      rw [List.mem_map]
      exact ⟨fun ⟨x, hx, e⟩ => by rw [← tupI_inj2 e]; exact hx, fun h => ⟨r, h, rfl⟩⟩
    rw [e1, e1] at h1
    exact h1
section
variable {K : PySem.W.Frag} {σ : L2.St} {H : Hp} {ta tb te : TE}
theorem en_catLL {p q : Addr} {ds es : List PyData} (ha : Ev ta σ H (.ref p)) (hb : Ev tb σ H (.ref q)) (hp : LD K H p ds) (hq : LD K H q es) (hl : ds.length + es.length ≤ 100000) : EvN K (tOp rCat ta tb) σ H (ds ++ es) := fun H1 e Q c =>
  ha H1 e _ fun H2 e2 => hb H2 (e.trans e2) _ fun H3 e3 => by
    have e23 := e2.trans e3
    obtain ⟨xs, h1, h2⟩ := hp.ex (e.trans e23)
    obtain ⟨ys, h3, h4⟩ := hq.ex (e.trans e23)
    refine ⟨p, q, xs, ys, rfl, rfl, h1, h3, sz_of (by rw [dpAll_len h2, dpAll_len h4]; exact hl), fun r hr => c r _ _ (fresh_back e23 hr) (e23.trans (Ex.new hr)) upd_same (dpAll_ex (Ex.new hr) _ (dpAll_app h2 h4))⟩
theorem ev_cntR {rows : List (List Int)} {r : List Int} (ha : EvD K ta σ H (.list (rows.map tupI))) (hb : EvD K tb σ H (tupI r)) : Ev (tBM K "list" (rLCnt K) ta (tCons tb tNil)) σ H (nV (cntL rows r)) := fun H1 e Q q =>
  ha H1 e _ fun v H2 e2 hv => by
    obtain ⟨a, xs, rfl, hs, hd⟩ := dp_lst hv
    refine ⟨.inl ⟨rfl, xs, hs⟩, hb H2 (e.trans e2) _ fun y H3 e3 hy => ⟨a, y, tupI r, rows.map tupI, rfl, rfl, dp_ex e3 _ hv, hy, shaped_rowsL rows, shaped_tupI r, ?_⟩⟩
    have hc : ((rows.map tupI).countP fun z => PyData.eqv z (tupI r)) = cntL rows r := by
      unfold cntL
      rw [List.countP_map]
      congr 1
      funext x
      exact eqv_tupI x r
    rw [hc]
    exact q H3 (e2.trans e3)
end
section
variable {P : Program} {w : World} {K : PySem.W.Frag} {mg : Str → Option Value} {base : Heap}
theorem ok_ldist {f fR : Addr} {fd fdR : FuncData} (F : Fun K "_law_distance" "_law_distance" s_law_distance f fd)
    (FR : Fun K "_law_rows" "_law_rows" sLRows fR fdR) (bR : Binds K fdR ["_law_web_here"] []) (gR : mg "_law_rows" = some (.ref fR))
    (m1 : mg "sum" = none) (m2 : mg "abs" = none) (m3 : mg "sorted" = none) (m4 : mg "set" = none)
    (GR : FnOk P w K mg base CX0 1 fR fdR ["_law_web_here"] (spRowsX K)) :
    FnOk P w K mg base CX0 2 f fd ["_law_one_here", "_law_other"] (spLDist K) := by
  refine F.ok scLDist (fun vs H Q E h => ?_) (fun cdv Ar outer s H vs Q E hr h => ?_)
  · obtain ⟨v, w, l, A, B, rfl, _⟩ := h
    rfl
  obtain ⟨v, wv, l, A, B, rfl, hv, hw, wA, wB, q⟩ := h
  have hu := hr.units
  refine ⟨_, pss_cons (ps_asg (pe_tup (pa_cons (pe_call GR hr (by rfl) gR FR.kp bR .nil pass0 (pa_cons (pv 0) pa_nil)) (pa_cons (pe_call GR hr (by rfl) gR FR.kp bR .nil pass0 (pa_cons (pv 1) pa_nil)) pa_nil)))
      (pg_tup rfl (pgs_cons (pg_name (i := 2) scLDist.nd rfl (.inr rfl)) (pgs_cons (pg_name (i := 3) scLDist.nd rfl (.inr rfl)) pgs_nil))))
    (pss_one (ps_ret (pe_callB (r := rSum K) (cr_sum rfl) (by rfl) m1 (by decide +kernel) (pa_cons
      (pe_lc (own := [("_law_row", 4)]) (g := gName 4) (tt := tYes) (te := tAbs (tOp (rI0 fun i j => .int (i - j)) (tBM K "list" (rLCnt K) (tVar 2) (tCons (tVar 4) tNil)) (tBM K "list" (rLCnt K) (tVar 3) (tCons (tVar 4) tNil)))) rfl scLDist.nd
        (pi_list (pe_callB (r := rSortSD K P w) (cr_sortSD rfl hu) (by rfl) m3 (by decide +kernel) (pa_cons (pe_callTy (r := rSetD K P w) (cr_setD rfl hu) (by rfl) m4 (by decide +kernel) (pa_cons (pe_op (r := rCat) op_cat (pv 2) (pv 3)) pa_nil)) pa_nil)))
        (blkOk_by (N := nLDist) (sc := defScope s_law_distance) (by decide +kernel))
        (fun _ _ _ _ _ => pg_name (i := 4) scLDist.nd rfl (Or.inl rfl)) (fun _ _ _ _ _ => pts_nil)
        (fun _ _ _ _ _ => pe_callB call_abs (by rfl) m2 (by decide +kernel) (pa_cons (pe_op op_sub
          (pe_bm PySem.F.plainAttrs_list PySem.F.slot_list_count PySem.F.type_list_count (mt_lcnt (hu65_of hr)) (pv 2) (pa_cons (pv 4) pa_nil))
          (pe_bm PySem.F.plainAttrs_list PySem.F.slot_list_count PySem.F.type_list_count (mt_lcnt (hu65_of hr)) (pv 3) (pa_cons (pv 4) pa_nil))) pa_nil))) pa_nil)))), ?_⟩
  have h8 := wA.l8
  have hA20 := wA.n20
  have hB20 := wB.n20
  have nA : (rowsI l A).length = l + A.length := by unfold rowsI; rw [List.length_map, List.length_range]
  have nB : (rowsI l B).length = l + B.length := by unfold rowsI; rw [List.length_map, List.length_range]
  refine ⟨v, rfl, v, l, A, rfl, hv, wA, fun p1 k1 H1 hp1 e1 hL1 hK1 hr1 => ⟨wv, rfl, wv, l, B, rfl, dp_ex e1 _ hw, wB, fun p2 k2 H2 hp2 e2 hL2 hK2 hr2 => ⟨by show 2 ≤ sizeLine; decide, fun t ht => ⟨t, _, rfl, st_of upd_same, rfl, _, _, rfl, _, _, rfl, rfl, ?_⟩⟩⟩⟩
  have en := Ex.new (o := .tup [.ref p1, .ref p2]) ht
  have l1 : LD K (upd H2 t (.tup [.ref p1, .ref p2])) p1 ((rowsI l A).map tupI) := ⟨_, en _ _ (e2 _ _ hL1), by rw [← hr1]; exact KR.dp ((hK1.ex e2).ex en)⟩
  have l2 : LD K (upd H2 t (.tup [.ref p1, .ref p2])) p2 ((rowsI l B).map tupI) := ⟨_, en _ _ hL2, by rw [← hr2]; exact KR.dp (hK2.ex en)⟩
  have e03 := (e1.trans e2).trans en
  generalize upd H2 t (.tup [.ref p1, .ref p2]) = H3 at l1 l2 e03
  let S : L2.St := [some v, some wv, some (.ref p1), some (.ref p2), none]
  dsimp only
  show tRet _ _ S H3
  have hne : ∀ r ∈ rowsI l A ++ rowsI l B, r ≠ [] := fun r hr z => by
    have h1 := wA.l1
    have : RowOk l r := by
      rcases List.mem_append.mp hr with h | h
      · exact rowsI_ok wA r h
      · exact rowsI_ok wB r h
    have h2 := this.1
    rw [z] at h2
    simp at h2
    omega
  obtain ⟨U, hU, hnd, hmem⟩ := srt_pre (rows := rowsI l A ++ rowsI l B)
  have hsrt : EvN K (tCB (rSortSD K P w) (tCons (tCB (rSetD K P w) (tCons (tOp rCat (tVar 2) (tVar 3)) tNil)) tNil)) S H3 (U.map tupI) := by
    rw [← hU]
    refine en_sortSet (K := K) (P := P) (w := w) ?_ (srt_rows hne) (by rw [List.length_map, List.length_append]; omega)
    rw [List.map_append]
    exact ed_n (en_catLL (K := K) (ev_var rfl) (ev_var rfl) l1 l2 (by rw [List.length_map, List.length_map]; omega))
  have hUl : U.length ≤ 100 := by
    have h1 : U.length ≤ (rowsI l A ++ rowsI l B).length := nd_sub_len hnd fun r hr => (hmem r).mp hr
    rw [List.length_append] at h1
    omega
  refine s_ret (v := .int (distI l A B)) (ev_is (ev_sumI (K := K) (ns := U.map (gapR l A B)) ?_) ?_) fun H4 e4 => q H4 (e03.trans e4)
  · rw [← sums_int]
    refine en_dMap (K := K) tupI (fun r => .int (gapR l A B r)) (src_L (ed_n hsrt)) (by omega) (fun _ => rfl) (fun r x H5 e5 hr hx => ?_) fun _ _ => rfl
    exact ed_i (ev_abs (ev_op (x := nV (cntL (rowsI l A) r)) (y := nV (cntL (rowsI l B) r)) (ev_cntR (K := K) (ed_var rfl (l1.ex e5).dp) (ed_var rfl hx)) (ev_cntR (K := K) (ed_var rfl (l2.ex e5).dp) (ed_var rfl hx)) rv_I0))
  · rw [dist_sum hnd (fun r hr => (hmem r).mpr (List.mem_append_left _ hr)) fun r hr => (hmem r).mpr (List.mem_append_right _ hr)]
end
end WR
set_option Elab.async false
set_option linter.all false
set_option maxRecDepth 100000
set_option maxHeartbeats 2000000
namespace WR
open PySem PySem.Spec PyProof.Rows L2 Evl

/-! ### the law's own farthest pair -/
theorem ev_ldist {K : PySem.W.Frag} {σ : L2.St} {H : Hp} {ta tb : TE} {E : XK} {l : Nat} {A B : List (List Nat)} (h1 : EvD K ta σ H (webD l A)) (h2 : EvD K tb σ H (webD l B)) (wA : Raw l A) (wB : Raw l B) :
    Ev (tCall (spLDist K) [] E (tCons ta (tCons tb tNil))) σ H (.int (distI l A B)) := fun H1 e Q q =>
  h1 H1 e _ fun v H2 e2 hv => h2 H2 (e.trans e2) _ fun w H3 e3 hw => ⟨v, w, l, A, B, rfl, dp_ex e3 _ hv, hw, wA, wB, fun H4 e4 => q H4 ((e2.trans e3).trans e4)⟩
/-- the pairs ahead of (i, j) -/
def PrA (l : Nat) (ws : List (List (List Nat))) (i j : Nat) (t : Trp) : Prop := ∃ a b, a < b ∧ b < ws.length ∧ (a < i ∨ a = i ∧ b < j) ∧ t = trpL l ws a b
def BsA (l : Nat) (ws : List (List (List Nat))) (i j : Nat) : Option Trp → Prop
  | none => ∀ t, ¬ PrA l ws i j t
  | some t => IsB (PrA l ws i j) t
theorem prA_step {l i j : Nat} {ws : List (List (List Nat))} {t : Trp} (h1 : i < j) (h2 : j < ws.length) : PrA l ws i (j + 1) t ↔ PrA l ws i j t ∨ t = trpL l ws i j := by
  constructor
  · rintro ⟨a, b, h3, h4, h5, rfl⟩
    by_cases z : a = i ∧ b = j
    · rw [z.1, z.2]
      exact .inr rfl
    · exact .inl ⟨a, b, h3, h4, by omega, rfl⟩
  · rintro (⟨a, b, h3, h4, h5, rfl⟩ | rfl)
    · exact ⟨a, b, h3, h4, by omega, rfl⟩
    · exact ⟨i, j, h1, h2, by omega, rfl⟩
theorem prA_row {l i : Nat} {ws : List (List (List Nat))} {t : Trp} : PrA l ws i ws.length t ↔ PrA l ws (i + 1) (i + 2) t := by
  constructor
  · rintro ⟨a, b, h3, h4, h5, rfl⟩
    exact ⟨a, b, h3, h4, by omega, rfl⟩
  · rintro ⟨a, b, h3, h4, h5, rfl⟩
    exact ⟨a, b, h3, h4, by omega, rfl⟩
theorem BsA.iff {l i j i' j' : Nat} {ws : List (List (List Nat))} {o : Option Trp} (h : BsA l ws i j o) (e : ∀ t, PrA l ws i j t ↔ PrA l ws i' j' t) : BsA l ws i' j' o := by
  cases o with
  | none => exact fun t ht => h t ((e t).mpr ht)
  | some t => exact ⟨(e t).mp h.1, fun u hu => h.2 u ((e u).mpr hu)⟩
/-- the better of the best and the next pair -/
def nextB (l : Nat) (ws : List (List (List Nat))) (i j : Nat) (o : Option Trp) : Bool := match o with
  | none => true
  | some t => decide (-t.1 < distI l (ws.getD i []) (ws.getD j []))
theorem BsA.step {l i j : Nat} {ws : List (List (List Nat))} {o : Option Trp} (h : BsA l ws i j o) (h1 : i < j) (h2 : j < ws.length) : BsA l ws i (j + 1) (if nextB l ws i j o = true then some (trpL l ws i j) else o) := by
  cases o with
  | none =>
    rw [if_pos (show nextB l ws i j none = true from rfl)]
    refine ⟨(prA_step h1 h2).mpr (.inr rfl), fun u hu => ?_⟩
    rcases (prA_step h1 h2).mp hu with g | g
    · exact absurd g (h u)
    · rw [g]
      unfold ltP
      omega
  | some t =>
    obtain ⟨g1, g2⟩ := h
    by_cases z : nextB l ws i j (some t) = true
    · rw [if_pos z]
      have z : -t.1 < distI l (ws.getD i []) (ws.getD j []) := of_decide_eq_true z
      refine ⟨(prA_step h1 h2).mpr (.inr rfl), fun u hu => ?_⟩
      rcases (prA_step h1 h2).mp hu with g | g
      · have := g2 u g
        unfold ltP at this ⊢
        show ¬ (u.1 < -distI l (ws.getD i []) (ws.getD j []) ∨ u.1 = -distI l (ws.getD i []) (ws.getD j []) ∧ _)
        omega
      · rw [g]
        unfold ltP
        omega
    · rw [if_neg z]
      have z : ¬ -t.1 < distI l (ws.getD i []) (ws.getD j []) := fun y => z (decide_eq_true y)
      refine ⟨(prA_step h1 h2).mpr (.inl g1), fun u hu => ?_⟩
      rcases (prA_step h1 h2).mp hu with g | g
      · exact g2 u g
      · rw [g]
        obtain ⟨a, b, h3, h4, h5, rfl⟩ := g1
        unfold ltP trpL
        simp only
        unfold trpL at z
        simp only at z
        omega
theorem BsA.start {l : Nat} {ws : List (List (List Nat))} : BsA l ws 0 1 none := fun t ⟨a, b, h3, h4, h5, _⟩ => by omega
theorem BsA.done {l i j : Nat} {ws : List (List (List Nat))} {o : Option Trp} (h : BsA l ws i j o) (hi : ws.length ≤ i + 1) (hj : i < j) : o = apT l ws := by
  have e : ∀ t, PrA l ws i j t ↔ PrS l ws t := fun t => by
    constructor
    · rintro ⟨a, b, h3, h4, h5, rfl⟩
      exact ⟨a, b, h3, h4, rfl⟩
    · rintro ⟨a, b, h3, h4, rfl⟩
      exact ⟨a, b, h3, h4, by omega, rfl⟩
  cases o with
  | none => exact (apT_none fun t ht => h t ((e t).mpr ht)).symm
  | some t => exact (apT_some ⟨(e t).mp h.1, fun u hu => h.2 u ((e u).mpr hu)⟩).symm
def spLApt (K : PySem.W.Frag) : Sp := fun vs H Q _ => ∃ v l ws, vs = [v] ∧ Dp K H v (.tuple (ws.map (webD l))) ∧ (∀ A ∈ ws, Raw l A) ∧ ws ≠ [] ∧ ws.length ≤ 100 ∧ ∀ r H', Ex H H' → Dp K H' r (bstD (apT l ws)) → Q r H'
abbrev nLApt : List Str := ["_law_some", "_law_best", "_law_i", "_law_j", "_law_far"]
theorem scLApt : FnScope nLApt ["_law_some"] (defScope s_law_apart) := ⟨rfl, rfl, rfl, by decide +kernel, rfl, by decide +kernel, by decide +kernel⟩
theorem dp_bst {K : PySem.W.Frag} {H : Hp} {y : V} {o : Option Trp} (h : Dp K H y (bstD o)) : decide (y = V.non) = o.isNone := by
  cases o with
  | none =>
    cases dp_non h
    rfl
  | some t =>
    obtain ⟨a, xs, rfl, _⟩ := dp_tup h
    rfl
section
variable {P : Program} {w : World} {K : PySem.W.Frag} {mg : Str → Option Value} {base : Heap}
theorem ok_lapt {f fD : Addr} {fd fdD : FuncData} (F : Fun K "_law_apart" "_law_apart" s_law_apart f fd)
    (FD : Fun K "_law_distance" "_law_distance" s_law_distance fD fdD) (bD : Binds K fdD ["_law_one_here", "_law_other"] []) (gD : mg "_law_distance" = some (.ref fD))
    (m1 : mg "range" = none) (m3 : mg "len" = none)
    (GD : FnOk P w K mg base CX0 2 fD fdD ["_law_one_here", "_law_other"] (spLDist K)) :
    FnOk P w K mg base CX0 3 f fd ["_law_some"] (spLApt K) := by
  refine F.ok scLApt (fun vs H Q E h => ?_) (fun cdv A outer s H vs Q E hr h => ?_)
  · obtain ⟨v, l, ws, rfl, _⟩ := h
    rfl
  obtain ⟨v, l, ws, rfl, hv, hW, hne, hl, q⟩ := h
  have hu := hr.units
  refine ⟨_, pss_cons (ps_set (i := 1) scLApt.nd rfl (.inl rfl) pe_non)
    (pss_cons (ps_for PassesOwn.never rfl (pi_range1 (by rfl) m1 (pa_cons (pe_callB (r := rLenS K) call_len_seq (by rfl) m3 PySem.boot_len (pa_cons (pv 0) pa_nil)) pa_nil)) (pg_name (i := 2) scLApt.nd rfl (.inl rfl))
      (pss_one (ps_for PassesOwn.never rfl (pi_range2 (by rfl) m1 (pa_cons (pe_op op_add (pv 2) pe_int) (pa_cons (pe_callB (r := rLenS K) call_len_seq (by rfl) m3 PySem.boot_len (pa_cons (pv 0) pa_nil)) pa_nil))) (pg_name (i := 3) scLApt.nd rfl (.inl rfl))
        (pss_cons (ps_set (i := 4) scLApt.nd rfl (.inl rfl) (pe_call GD hr (by rfl) gD FD.kp bD .nil pass0 (pa_cons (pe_ix (r := rIxT K) ix_tup (pv 0) (pv 2) (fun _ _ => rfl)) (pa_cons (pe_ix (r := rIxT K) ix_tup (pv 0) (pv 3) (fun _ _ => rfl)) pa_nil))))
        (pss_one (ps_if (pw_or (pt_cmp (pc_isN (pv 1))) (pw_or1 (pt_cmpR op_gt (pv 4) (pe_ix (r := rIxT K) ix_tup (pv 1) pe_int (fun _ _ => rfl)) (nomark _)))).pt
          (pss_one (ps_set (i := 1) scLApt.nd rfl (.inl rfl) (pe_tup (pa_cons (pv 4) (pa_cons (pv 2) (pa_cons (pv 3) pa_nil)))))) pss_nil))))))
    (pss_one (ps_ret (pv 1)))), ?_⟩
  let S (x1 x2 x3 x4 : Option V) : L2.St := [some v, x1, x2, x3, x4]
  refine q_asg (v := .non) ev_c fun H1 e1 => ?_
  show tSeq (tFor _ _ _) _ _ (S (some .non) none none none) H1
  have hlen : ∀ {x1 x2 x3 x4 : Option V} {H' : Hp}, Ex H H' → Ev (tCB (rLenS K) (tCons (tVar 0) tNil)) (S x1 x2 x3 x4) H' (.int (ws.length : Int)) := fun {x1 x2 x3 x4 H'} e => ev_is (ed_lenT (K := K) (ds := ws.map (webD l)) (ed_var rfl (dp_ex e _ hv))) (by rw [List.length_map])
  have hsrc := srcS_R1 (K := K) (ea_cons (hlen (x1 := some .non) (x2 := none) (x3 := none) (x4 := none) (H' := H) (Ex.refl H)) ea_nil) (by omega)
  rw [Int.toNat_natCast] at hsrc
  have hwi : ∀ {i : Nat} {H' : Hp} {s : Nat} {σ : L2.St}, i < ws.length → Ex H H' → σ[0]? = some (some v) → σ[s]? = some (some (nV i)) → EvD K (tOp (rIxT K) (tVar 0) (tVar s)) σ H' (webD l (ws.getD i [])) ∧ Raw l (ws.getD i []) := fun {i H' s σ} hi e h0 h1 => by
    have hg : ws[i]? = some (ws.getD i []) := by rw [List.getD_eq_getElem?_getD, List.getElem?_eq_getElem hi]; rfl
    exact ⟨ed_ixT (n := i) (ds := ws.map (webD l)) (ed_var h0 (dp_ex e _ hv)) (ed_i (ev_var h1)) rfl (by rw [List.getElem?_map, hg]; rfl), hW _ (List.mem_of_getElem? hg)⟩
  refine q_forS (K := K) (H0 := H) (ds := rngD 0 ws.length) e1 hsrc (fun i σ' H' => Ex H H' ∧ ∃ b x2 x3 x4 o, σ' = S (some b) x2 x3 x4 ∧ Dp K H' b (bstD o) ∧ BsA l ws i (i + 1) o) (fun H2 e2 => ⟨e1.trans e2, _, _, _, _, none, rfl, .non, BsA.start⟩) (fun i σ' H' p => p.1) (fun i d x σ' H' hi hx hP => ?_) fun σ' H' hP => ?_
  · obtain ⟨e2, b, x2, x3, x4, o, rfl, hb, hO⟩ := hP
    have hin : i < ws.length := by
      have := (List.getElem?_eq_some_iff.mp hi).1
      rw [rngD_len] at this
      exact this
    rw [rngD_at hin] at hi
    cases hi
    cases dp_int hx
    have hei : V.int (0 + (i : Int)) = nV i := by
      show V.int _ = V.int _
      congr 1
      omega
    rw [hei]
    show tFor _ _ _ _ (S (some b) (some (nV i)) x3 x4) H'
    have h2 := srcS_R2 (K := K) (σ := S (some b) (some (nV i)) x3 x4) (H := H') (lo := (i : Int) + 1) (n := (ws.length : Int)) (ta := tCons (tOp (rI0 fun i j => .int (i + j)) (tVar 2) (tC (.int 1))) (tCons (tCB (rLenS K) (tCons (tVar 0) tNil)) tNil)) (ea_cons (ev_op (x := nV i) (y := .int 1) (ev_var rfl) ev_c rv_I0) (ea_cons (hlen e2) ea_nil)) (by omega)
    have hn2 : ((ws.length : Int) - ((i : Int) + 1)).toNat = ws.length - (i + 1) := by omega
    rw [hn2] at h2
    refine s_forS (H0 := H') (ds := rngD ((i : Int) + 1) (ws.length - (i + 1))) (Ex.refl H') h2 (fun j σ' H5 => Ex H' H5 ∧ ∃ b x3 x4 o, σ' = S (some b) (some (nV i)) x3 x4 ∧ Dp K H5 b (bstD o) ∧ BsA l ws i (i + 1 + j) o) (fun H5 e5 => ⟨e5, _, _, _, o, rfl, dp_ex e5 _ hb, hO⟩) (fun j σ' H5 p => p.1) (fun j d y σ' H5 hj hy hP => ?_) fun σ' H5 hP => ?_
    · obtain ⟨e5, b5, y3, y4, o5, rfl, hb5, hO5⟩ := hP
      have hjn : j < ws.length - (i + 1) := by
        have := (List.getElem?_eq_some_iff.mp hj).1
        rw [rngD_len] at this
        exact this
      rw [rngD_at hjn] at hj
      cases hj
      cases dp_int hy
      have hej : V.int ((i : Int) + 1 + (j : Int)) = nV (i + 1 + j) := by
        show V.int _ = V.int _
        congr 1
      rw [hej]
      show tSeq _ _ _ (S (some b5) (some (nV i)) (some (nV (i + 1 + j))) y4) H5
      have hjw : i + 1 + j < ws.length := by omega
      obtain ⟨wi1, wi2⟩ := hwi (s := 2) (σ := S (some b5) (some (nV i)) (some (nV (i + 1 + j))) y4) hin (e2.trans e5) rfl rfl
      obtain ⟨wj1, wj2⟩ := hwi (s := 3) (σ := S (some b5) (some (nV i)) (some (nV (i + 1 + j))) y4) hjw (e2.trans e5) rfl rfl
      refine q_asg (v := .int (distI l (ws.getD i []) (ws.getD (i + 1 + j) []))) (ev_ldist (K := K) wi1 wj1 wi2 wj2) fun H6 e6 => ?_
      have hb6 := dp_ex e6 _ hb5
      show tIfS _ _ _ _ (S (some b5) (some (nV i)) (some (nV (i + 1 + j))) (some (.int (distI l (ws.getD i []) (ws.getD (i + 1 + j) []))))) H6
      have hstep := hO5.step (show i < i + 1 + j by omega) hjw
      refine s_if (b := nextB l ws i (i + 1 + j) o5) ?_ (fun hb7 H7 e7 => ?_) fun hb7 H7 e7 => ?_
      · cases o5 with
        | none =>
          refine et_or (a := true) (b := true) (et_B ?_) fun z => by cases z
          cases dp_non hb6
          exact fun H8 e8 Q8 q8 => ⟨_, rfl, q8 H8 (Ex.refl H8)⟩
        | some t =>
          refine et_or (a := false) (b := nextB l ws i (i + 1 + j) (some t)) (et_B fun H8 e8 Q8 q8 => ⟨_, rfl, ?_⟩) fun _ => (et_test (ev_op (x := .int (distI l (ws.getD i []) (ws.getD (i + 1 + j) []))) (y := .int (-t.1)) (ev_var rfl) (ev_i (K := K) (ed_ixT (n := 0) (ds := [.int (-t.1), natD t.2.1, natD t.2.2]) (ed_var rfl hb6) (ed_i ev_c) rfl rfl)) rv_I0))
          show Q8 (V.bl (decide (b5 = V.non))) H8
          rw [dp_bst hb6]
          exact q8 H8 (Ex.refl H8)
      · rw [if_pos hb7] at hstep
        refine s_asgD (K := K) (d := bstD (some (trpL l ws i (i + 1 + j)))) ?_ fun u H8 e8 hu => ⟨((e5.trans e6).trans e7).trans e8, u, _, _, _, rfl, hu, hstep⟩
        refine ed_is (ed_tup (ds := [.int (distI l (ws.getD i []) (ws.getD (i + 1 + j) [])), natD i, natD (i + 1 + j)]) (eda_cons (ed_i (ev_var rfl)) (eda_cons (ed_i (ev_var rfl)) (eda_cons (ed_i (ev_var rfl)) eda_nil))) (by simp)) ?_
        show _ = tupI [- -distI l (ws.getD i []) (ws.getD (i + 1 + j) []), (i : Int), ((i + 1 + j : Nat) : Int)]
        rw [Int.neg_neg]
        rfl
      · rw [if_neg (by rw [hb7]; decide)] at hstep
        exact ⟨(e5.trans e6).trans e7, b5, _, _, o5, rfl, dp_ex e7 _ hb6, hstep⟩
    · obtain ⟨e5, b5, y3, y4, o5, rfl, hb5, hO5⟩ := hP
      rw [rngD_len] at hO5
      refine ⟨e2.trans e5, b5, _, y3, y4, o5, rfl, hb5, ?_⟩
      rw [show i + 1 + (ws.length - (i + 1)) = ws.length by omega] at hO5
      exact hO5.iff fun t => prA_row
  · obtain ⟨e2, b, x2, x3, x4, o, rfl, hb, hO⟩ := hP
    rw [rngD_len] at hO
    refine s_retD (K := K) (d := bstD o) (ed_var rfl hb) fun r H3 e3 hr3 => q r H3 (e2.trans e3) ?_
    rw [← hO.done (by omega) (by omega)]
    exact hr3
end
end WR
set_option Elab.async false
set_option linter.all false
set_option maxRecDepth 100000
set_option maxHeartbeats 2000000
namespace WR
open PySem PySem.Spec PyProof.Rows L2 Evl
open PySem.W (dataLt dataLt_ints dataLt_tuple minD minD_ints alike alikeAll AlikeAll min_list_data)

/-! ### min(list of data) -/
def rMinDL (K : PySem.W.Frag) : List V → Hp → VK → Prop := fun vs H Q => ∃ (a : Addr) (xs : List V) (d : PyData) (ds : List PyData), vs = [.ref a] ∧ SqL K H a xs ∧ DpAll K H xs (d :: ds) ∧ AlikeAll (d :: ds) ∧ PyData.canLayAll0 (d :: ds) = true ∧ PyData.depthAll (d :: ds) ≤ 40 ∧
  ∀ (i : Nat) (x : V), xs[i]? = some x → (d :: ds)[i]? = some (minD d ds) → Q x H
theorem minD_mem {d : PyData} : ∀ {ds : List PyData}, minD d ds ∈ d :: ds := fun {ds} => by
  induction ds generalizing d with
  | nil => exact List.mem_cons_self ..
  | cons y ds ih =>
    show minD (if dataLt y d = true then y else d) ds ∈ _
    split
    · exact List.mem_cons_of_mem _ (ih (d := y))
    · rcases List.mem_cons.mp (ih (d := d)) with h | h
      · rw [h]
        exact List.mem_cons_self ..
      · exact List.mem_cons_of_mem _ (List.mem_cons_of_mem _ h)
section
variable {X : Cx}
theorem cr_minDL (calm : X.calm = true) (hu : X.A.units + 64 < cLine) : CallR X (.builtin "min") (rMinDL X.K) := by
  intro pins s σ H vs us Q I r h
  obtain ⟨a, xs, d, ds, rfl, hs, hd, hal, hlay, hdep, q⟩ := h
  obtain ⟨its, rv, hl, _⟩ := I.list hs
  rw [Vals.ref1 r]
  obtain ⟨as, hr⟩ := Dp.readsAll I _ _ its hd rv
  refine min_list_data (I.ok.hd calm) hl.isList (show ReadsAll s.heap its.toArray.toList (d :: ds) as from hr) hal (by omega) fun i v h' tk bs hv hrd hk => ?_
  have hv' : its[i]? = some v := by simpa using hv
  obtain ⟨x, hx, rx⟩ : ∃ x, xs[i]? = some x ∧ RelV x v := by
    have hil := (List.getElem?_eq_some_iff.mp hv').1
    have hxl : i < xs.length := by rw [rv.length]; exact hil
    obtain ⟨u, hu', ru⟩ := rv.get (List.getElem?_eq_getElem hxl)
    rw [hv'] at hu'
    cases hu'
    exact ⟨_, List.getElem?_eq_getElem hxl, ru⟩
  obtain ⟨e, he, hxe⟩ := dpAll_at hd hx
  obtain ⟨cs, hre⟩ := Dp.reads I _ _ _ hxe rx
  have hee : e = minD d ds := reads_one (lay_at hlay e (List.mem_of_getElem? he)) (lay_at hlay _ minD_mem) (Reads.keeps hk hre) hrd
  exact ⟨x, H, I.kept hk, rx, q i x hx (by rw [← hee]; exact he)⟩
end
section
variable {K : PySem.W.Frag} {σ : L2.St} {H : Hp} {te : TE}
theorem trps_rows (ts : List Trp) : ts.map trD = (ts.map fun t => [t.1, (t.2.1 : Int), (t.2.2 : Int)]).map tupI := by
  rw [List.map_map]
  rfl
theorem ed_minTrp {x : Trp} {r : List Trp} (h : EvD K te σ H (.list ((x :: r).map trD))) : EvD K (tCB (rMinDL K) (tCons te tNil)) σ H (trD (minT x r)) := fun H1 e Q q =>
  h H1 e _ fun v H2 e2 hv => by
    obtain ⟨a, xs, rfl, hs, hd⟩ := dp_lst hv
    have hl := lay_rows ((x :: r).map fun t => [t.1, (t.2.1 : Int), (t.2.2 : Int)])
    rw [← trps_rows] at hl
    have hal : AlikeAll ((x :: r).map trD) := by
      rw [trps_rows]
      exact alike_rows (d := 3) fun q hq => by
        obtain ⟨t, _, rfl⟩ := List.mem_map.mp hq
        rfl
    refine ⟨a, xs, trD x, r.map trD, rfl, hs, hd, hal, hl.1, by have := hl.2; rw [List.map_cons] at this; omega, fun i y hy he => ?_⟩
    rw [minD_trp] at he
    obtain ⟨e', he', hye⟩ := dpAll_at hd hy
    rw [List.map_cons, he] at he'
    cases he'
    exact q y H2 e2 hye
end
/-! ### apart -/
def spApt (K : PySem.W.Frag) : Sp := fun vs H Q _ => ∃ v l ws, vs = [v] ∧ Dp K H v (.tuple (ws.map (webD l))) ∧ (∀ A ∈ ws, Raw l A) ∧ ws ≠ [] ∧ ws.length ≤ 100 ∧ ∀ r H', Ex H H' → Dp K H' r (bstD (apT l ws)) → Q r H'
abbrev nApt : List Str := ["some", "found", "told", "least", "one", "other"]
theorem scApt : FnScope nApt ["some"] (defScope s_apart) := ⟨rfl, rfl, rfl, by decide +kernel, rfl, by decide +kernel, by decide +kernel⟩
theorem ed_neg {K : PySem.W.Frag} {σ : L2.St} {H : Hp} {te : TE} {i : Int} (h : Ev te σ H (.int i)) : Ev (tUn (rU fun i => .int (-i)) te) σ H (.int (-i)) := fun H1 e Q q => h H1 e _ fun H2 e2 => ⟨i, rfl, q H2 e2⟩
theorem q_unp3 {K : PySem.W.Frag} {σ : L2.St} {H : Hp} {te : TE} {tz : TS} {D : Ends} {i j m : Nat} {d1 d2 d3 : PyData} (h : EvD K te σ H (.tuple [d1, d2, d3])) (k : ∀ u v w H1, Ex H H1 → Dp K H1 u d1 → Dp K H1 v d2 → Dp K H1 w d3 → tz D (((σ.set i (some u)).set j (some v)).set m (some w)) H1) :
    tSeq (tAsg te (gTup K 3 (gCons (gName i) (gCons (gName j) (gCons (gName m) gNil))))) tz D σ H := h H (Ex.refl H) _ fun v H1 e hv => by
  obtain ⟨a, xs, rfl, hs, hd⟩ := dp_tup hv
  cases hd with
  | cons h1 hd =>
    cases hd with
    | cons h2 hd =>
      cases hd with
      | cons h3 hd =>
        cases hd
        exact ⟨a, _, rfl, hs, rfl, _, _, rfl, _, _, rfl, _, _, rfl, rfl, k _ _ _ H1 e h1 h2 h3⟩
section
variable {P : Program} {w : World} {K : PySem.W.Frag} {mg : Str → Option Value} {base : Heap}
abbrev tTrp (P : Program) (w : World) (K : PySem.W.Frag) : TE := tTup (tCons (tUn (rU fun i => .int (-i)) (tCall (spFar P w K) [] E0 (tCons (tOp (rIxL K) (tVar 1) (tVar 4)) (tCons (tOp (rIxL K) (tVar 1) (tVar 5)) tNil)))) (tCons (tVar 4) (tCons (tVar 5) tNil)))
theorem ok_apt {f fT fA : Addr} {fd fdT fdA : FuncData} (F : Fun K "apart" "apart" s_apart f fd)
    (FT : Fun K "tallies" "tallies" s_tallies fT fdT) (bT : Binds K fdT ["some"] []) (gT : mg "tallies" = some (.ref fT))
    (FA : Fun K "far" "far" s_far fA fdA) (bA : Binds K fdA ["one", "other"] []) (gA : mg "far" = some (.ref fA))
    (m1 : mg "range" = none) (m2 : mg "min" = none) (m3 : mg "len" = none)
    (GT : FnOk P w K mg base CX0 4 fT fdT ["some"] (spTlys P w K))
    (GA : FnOk P w K mg base CX0 1 fA fdA ["one", "other"] (spFar P w K)) :
    FnOk P w K mg base CX0 5 f fd ["some"] (spApt K) := by
  refine F.ok scApt (fun vs H Q E h => ?_) (fun cdv A outer s H vs Q E hr h => ?_)
  · obtain ⟨v, l, ws, rfl, _⟩ := h
    rfl
  obtain ⟨v, l, ws, rfl, hv, hW, hne, hl, q⟩ := h
  have r1 := hr.mono (show 1 ≤ 4 by decide)
  have hu := hr.units
  refine ⟨_, pss_cons (ps_set (i := 1) scApt.nd rfl (.inr rfl) (pe_call GT hr (by rfl) gT FT.kp bT .nil pass0 (pa_cons (pv 0) pa_nil)))
    (pss_cons (ps_setLc2 (i := 2) (own := [("other", 5), ("one", 4)]) (vs1 := [4]) (g := gName 5) (tt := tYes) (g1 := gName 4) (tt1 := tYes) (te := tTrp P w K) rfl scApt.nd rfl rfl (sw_true rfl rfl rfl (by decide +kernel))
      (pi_range1 (by rfl) m1 (pa_cons (pe_callB (r := rLenS K) call_len_seq (by rfl) m3 PySem.boot_len (pa_cons (pv 1) pa_nil)) pa_nil)) (blkOk_by (N := nApt) (sc := defScope s_apart) (by decide +kernel)) (by decide)
      (fun _ _ _ _ _ => pg_name (i := 5) scApt.nd rfl (Or.inl rfl)) (fun _ _ _ _ _ => pts_nil)
      (fun _ _ _ _ _ => pi_range1 (by rfl) m1 (pa_cons (pv 5) pa_nil)) (fun _ _ _ _ _ => pg_name (i := 4) scApt.nd rfl (Or.inl rfl)) (fun _ _ _ _ _ => pts_nil)
      (fun _ _ _ _ _ => pe_tup (pa_cons (pe_un un_neg (pe_call GA r1 (by rfl) gA FA.kp bA .nil pass0 (pa_cons (pe_ix (r := rIxL K) ix_list (pv 1) (pv 4) (fun _ _ => rfl)) (pa_cons (pe_ix (r := rIxL K) ix_list (pv 1) (pv 5) (fun _ _ => rfl)) pa_nil)))) (pa_cons (pv 4) (pa_cons (pv 5) pa_nil)))))
    (pss_cons (ps_if (pt_cmpR op_eq (pe_callB (r := rLenS K) call_len_seq (by rfl) m3 PySem.boot_len (pa_cons (pv 2) pa_nil)) pe_int (nomark _)) (pss_one (ps_ret pe_non)) pss_nil)
    (pss_cons (ps_asg (pe_callB (r := rMinDL K) (cr_minDL rfl hu) (by rfl) m2 (by decide +kernel) (pa_cons (pv 2) pa_nil)) (pg_tup rfl (pgs_cons (pg_name (i := 3) scApt.nd rfl (.inl rfl)) (pgs_cons (pg_name (i := 4) scApt.nd rfl (.inl rfl)) (pgs_cons (pg_name (i := 5) scApt.nd rfl (.inl rfl)) pgs_nil)))))
    (pss_one (ps_ret (pe_tup (pa_cons (pe_un un_neg (pv 3)) (pa_cons (pv 4) (pa_cons (pv 5) pa_nil))))))))), ?_⟩
  refine q_tlys (ed_var rfl hv) hW hne (by omega) fun p H1 hp e1 hT => ?_
  obtain ⟨ds, hp1, hdl, hF⟩ := hT
  let S (x1 x2 x3 x4 x5 : Option V) : L2.St := [some v, x1, x2, x3, x4, x5]
  have hdl2 : (ds.map V.ref).length = ws.length := by rw [List.length_map, hdl]
  have hat : ∀ {i : Nat}, i < ws.length → ∃ d, ds[i]? = some d ∧ DfD (rowTK P w K) H1 d (tlyM (srtR (rowsI l (ws.getD i [])))) ∧ ws.getD i [] ∈ ws := fun {i} hi => by
    have hd : ds[i]? = some ds[i] := List.getElem?_eq_getElem (by omega)
    have hg : ws[i]? = some (ws.getD i []) := by rw [List.getD_eq_getElem?_getD, List.getElem?_eq_getElem hi]; rfl
    exact ⟨_, hd, hF i _ _ hd hg, List.mem_of_getElem? hg⟩
  show tSeq _ _ _ (S (some (.ref p)) none none none none) H1
  have hlen : ∀ {x2 x3 x4 x5 : Option V} {H' : Hp}, Ex H1 H' → EvA (tCons (tCB (rLenS K) (tCons (tVar 1) tNil)) tNil) (S (some (.ref p)) x2 x3 x4 x5) H' [.int (ws.length : Int)] := fun {x2 x3 x4 x5 H'} e => ea_cons (ev_is (ev_len (K := K) (ev_var rfl) (sq_of (e _ _ hp1))) (by rw [hdl2])) ea_nil
  have hsrc := srcS_R1 (K := K) (hlen (x2 := none) (x3 := none) (x4 := none) (x5 := none) (Ex.refl H1)) (by omega)
  rw [Int.toNat_natCast] at hsrc
  have hb : ((List.range ws.length).flatMap fun j => (List.range j).map fun i => trD (trpL l ws i j)).length ≤ 100000 := by
    rw [List.length_flatMap]
    have : ∀ n, ((List.range n).map fun j => ((List.range j).map fun i => trD (trpL l ws i j)).length).sum ≤ n * n := fun n => by
      induction n with
      | zero => exact Nat.le_refl _
      | succ n ih =>
        rw [List.range_succ, List.map_append, List.sum_append]
        simp only [List.map_cons, List.map_nil, List.sum_cons, List.sum_nil, List.length_map, List.length_range] at ih ⊢
        have : (n + 1) * (n + 1) = n * n + 2 * n + 1 := by
          rw [Nat.add_mul, Nat.mul_add]
          omega
        omega
    have h1 := this ws.length
    have h2 : ws.length * ws.length ≤ 100 * 100 := Nat.mul_le_mul hl hl
    omega
  have hr5 : ∀ {i : Nat} {x : V}, (∃ d, (rngD 0 ws.length)[i]? = some d ∧ Dp K H1 x d) → i < ws.length ∧ x = nV i := fun {i x} h => by
    obtain ⟨d, h1, h2⟩ := h
    have hi : i < ws.length := by
      have := (List.getElem?_eq_some_iff.mp h1).1
      rw [rngD_len] at this
      exact this
    rw [rngD_at hi] at h1
    cases h1
    cases dp_int h2
    exact ⟨hi, by show V.int _ = V.int _; congr 1; omega⟩
  have hlc := en_flatV (K := K) (te := tTrp P w K) (a := 5) (b := 4) (vs := [5, 4]) (vs1 := [4]) (n := (rngD 0 ws.length).length) (m := fun j => j) (wi1 := iRng1 (tCons (tVar 5) tNil)) (Z := fun j x i y => i < j ∧ y = nV i) (fun j i => trD (trpL l ws i j)) hsrc.v (by rw [rngD_len]; exact hb)
    (fun _ => rfl) (fun _ _ => rfl) (fun j x hj hY => ?_) (fun j x i y H2 e2 hj hi hY hZ => ?_) (fun _ _ _ _ => nl_tupI _)
  rotate_left
  · obtain ⟨hjn, rfl⟩ := hr5 hY
    have h2 := srcS_R1 (K := K) (σ := (wipe (S (some (.ref p)) none none none none) [5, 4]).set 5 (some (nV j))) (H := H1) (n := (j : Int)) (ta := tCons (tVar 5) tNil) (ea_cons (ev_var rfl) ea_nil) (by omega)
    rw [Int.toNat_natCast] at h2
    have h3 := h2.v
    rw [rngD_len] at h3
    refine fun H2 e2 R k => h3 H2 e2 R fun J H3 G e3 hg wk => k J H3 G e3 hg (wk.mono (fun H h => h) fun i Hc y H' hi hG hy => ⟨hy.1, ?_⟩)
    obtain ⟨_, d, h4, h5⟩ := hy
    rw [rngD_at hi] at h4
    cases h4
    cases dp_int h5
    exact ⟨hi, by show V.int _ = V.int _; congr 1; omega⟩
  · obtain ⟨hjn, rfl⟩ := hr5 hY
    obtain ⟨_, rfl⟩ := hZ
    obtain ⟨d1, a1, a2, a3⟩ := hat (i := i) (by omega)
    obtain ⟨d2, b1, b2, b3⟩ := hat (i := j) hjn
    have hix : ∀ {s : Nat} {k : Nat} {d : Addr}, ds[k]? = some d → (wipe ((wipe (S (some (.ref p)) none none none none) [5, 4]).set 5 (some (nV j))) [4]).set 4 (some (nV i)) = S (some (.ref p)) none none (some (nV i)) (some (nV j)) → (S (some (.ref p)) none none (some (nV i)) (some (nV j)))[s]? = some (some (nV k)) → Ev (tOp (rIxL K) (tVar 1) (tVar s)) (S (some (.ref p)) none none (some (nV i)) (some (nV j))) H2 (.ref d) := fun {s k d} hd _ hs =>
      fun H3 e3 Q q => ⟨.ref p, rfl, _, hs, p, _, _, _, rfl, rfl, sq_of ((e2.trans e3) _ _ hp1), atI_nat (by rw [List.getElem?_map, hd]; rfl), q H3 (Ex.refl H3)⟩
    show EvD K _ (S (some (.ref p)) none none (some (nV i)) (some (nV j))) H2 (trD (trpL l ws i j))
    refine ed_tup (ds := [.int (-distI l (ws.getD i []) (ws.getD j [])), natD i, natD j]) (eda_cons (ed_i (ed_neg (K := K) (ev_is (ev_far (K := K) (hix a1 rfl rfl) (hix b1 rfl rfl) (a2.ex e2) (b2.ex e2) (by have := lot_len (hW _ a3); omega) (by have := lot_len (hW _ b3); omega)) (by rw [far_dist])))) (eda_cons (ed_i (ev_var rfl)) (eda_cons (ed_i (ev_var rfl)) eda_nil))) (by simp)
  rw [rngD_len] at hlc
  have hmm : ((List.range ws.length).flatMap fun j => (List.range j).map fun i => trD (trpL l ws i j)) = (trps l ws).map trD := by
    unfold trps
    rw [List.map_flatMap]
    congr 1
    funext j
    rw [List.map_map]
    rfl
  rw [hmm] at hlc hb
  refine q_asgLD (K := K) hlc fun pt H2 hpt e2 hL => ?_
  show tSeq _ _ _ (S (some (.ref p)) (some (.ref pt)) none none none) H2
  obtain ⟨xt, hx1, hx2⟩ := id hL
  have hxl := dpAll_len hx2
  rw [List.length_map] at hxl
  refine q_when (b := decide (trps l ws = [])) (et_test (ev_is (ev_op (ev_len (K := K) (ev_var rfl) (sq_of hx1)) ev_c (rv_eq rfl)) ?_)) (fun hb3 H3 e3 => ?_) fun hb3 H3 e3 => ?_
  · show V.bl (decide (V.int (xt.length : Int) = V.int 0)) = _
    rw [dec_int, hxl]
    congr 1
    refine decide_eq_decide.mpr ⟨fun h => List.length_eq_zero_iff.mp (by omega), fun h => by rw [h]; rfl⟩
  · have hz := of_decide_eq_true hb3
    refine s_retD (K := K) (d := .none) (ed_ev ev_c .non) fun r H4 e4 hr4 => q r H4 ((e1.trans e2).trans (e3.trans e4)) ?_
    unfold apT
    rw [hz]
    exact hr4
  · have hz := of_decide_eq_false hb3
    obtain ⟨x, r, hxr⟩ := List.exists_cons_of_ne_nil hz
    have hap : apT l ws = some (minT x r) := by
      unfold apT
      rw [hxr]
    have hL3 := hL.ex e3
    rw [hxr] at hL3
    refine q_unp3 (K := K) (d1 := .int (minT x r).1) (d2 := natD (minT x r).2.1) (d3 := natD (minT x r).2.2) (ed_minTrp (K := K) (ed_var rfl hL3.dp)) fun u y z H4 e4 hu4 hy4 hz4 => ?_
    cases dp_int hu4
    cases dp_int hy4
    cases dp_int hz4
    show tRet _ _ (S (some (.ref p)) (some (.ref pt)) (some (.int (minT x r).1)) (some (nV (minT x r).2.1)) (some (nV (minT x r).2.2))) H4
    refine s_retD (K := K) (d := bstD (apT l ws)) ?_ fun r5 H5 e5 hr5 => q r5 H5 ((e1.trans e2).trans ((e3.trans e4).trans e5)) hr5
    rw [hap]
    exact ed_tup (ds := [.int (-(minT x r).1), natD (minT x r).2.1, natD (minT x r).2.2]) (eda_cons (ed_i (ed_neg (K := K) (ev_var rfl))) (eda_cons (ed_i (ev_var rfl)) (eda_cons (ed_i (ev_var rfl)) eda_nil))) (by simp)
end
end WR
set_option Elab.async false
set_option linter.all false
set_option maxRecDepth 100000
set_option maxHeartbeats 2000000
namespace WR
open PySem PySem.Spec PyProof.Rows L2 Evl

/-! ### a heap without some of its lists -/
def off (H : Hp) : List Addr → Hp
  | [] => H
  | a :: as => rem (off H as) a
theorem off_in {H : Hp} {q : Addr} : ∀ {as : List Addr}, q ∈ as → off H as q = none
  | a :: as, h => by
    show rem (off H as) a q = none
    by_cases z : q = a
    · rw [z]
      exact rem_self
    · rw [rem_ne z]
      rcases List.mem_cons.mp h with h | h
      · exact absurd h z
      · exact off_in h
theorem off_out {H : Hp} {q : Addr} : ∀ {as : List Addr}, q ∉ as → off H as q = H q
  | [], _ => rfl
  | a :: as, h => by
    show rem (off H as) a q = _
    rw [rem_ne fun z => h (by rw [z]; exact List.mem_cons_self ..)]
    exact off_out fun z => h (List.mem_cons_of_mem _ z)
theorem off_ex {H : Hp} : ∀ {as : List Addr}, Ex (off H as) H
  | [] => Ex.refl H
  | a :: as => (rem_ex : Ex (rem (off H as) a) (off H as)).trans off_ex
theorem Bs.off {B H : Hp} {dk L : Addr} {ns : List Int} {N : Int} (b : Bs B H dk L ns N) : ∀ {as : List Addr}, (∀ a ∈ as, B a = none) → Bs B (WR.off H as) dk L ns N
  | [], _ => b
  | a :: as, h => (Bs.off b fun x hx => h x (List.mem_cons_of_mem _ hx)).rem (h a (List.mem_cons_self ..))
theorem dpAll_off {K : PySem.W.Frag} {H : Hp} {vs : List V} {ds : List PyData} (n : nlAll ds = true) (hd : DpAll K H vs ds) : ∀ {as : List Addr}, as.Nodup → (∀ a ∈ as, ∃ ys, H a = some (.lst ys)) → DpAll K (off H as) vs ds
  | [], _, _ => hd
  | a :: as, nd, h => by
    rw [List.nodup_cons] at nd
    obtain ⟨ys, hy⟩ := h a (List.mem_cons_self ..)
    exact dpAll_rem (l := a) (ys := ys) (by rw [off_out nd.1]; exact hy) _ n (dpAll_off n hd nd.2 fun x hx => h x (List.mem_cons_of_mem _ hx))
theorem LD.off {K : PySem.W.Frag} {H : Hp} {p : Addr} {ds : List PyData} (n : nlAll ds = true) (h : LD K H p ds) {as : List Addr} (nd : as.Nodup) (ha : ∀ a ∈ as, ∃ ys, H a = some (.lst ys)) (hp : p ∉ as) : LD K (off H as) p ds := by
  obtain ⟨xs, h1, h2⟩ := h
  exact ⟨xs, by rw [off_out hp]; exact h1, dpAll_off n h2 nd ha⟩
theorem KdAt.lsts {H : Hp} {p : Addr} {rs : List Addr} {kk : List (List Nat)} (k : KdAt H p rs kk) : (p :: rs).Nodup ∧ ∀ a ∈ p :: rs, ∃ ys, H a = some (.lst ys) := by
  refine ⟨List.nodup_cons.mpr ⟨k.np, k.nd⟩, fun a ha => ?_⟩
  rcases List.mem_cons.mp ha with rfl | ha
  · exact ⟨_, k.at_⟩
  · obtain ⟨i, hi, e⟩ := List.mem_iff_getElem.mp ha
    have h1 : rs[i]? = some a := by rw [List.getElem?_eq_getElem hi, e]
    have h2 : i < kk.length := by rw [← k.len]; exact hi
    exact ⟨_, k.row i a _ h1 (List.getElem?_eq_getElem h2)⟩
/-- a base in which all stands but these lists -/
theorem Kds.own {B H : Hp} {dk L p : Addr} {ns : List Int} {N : Int} {rs : List Addr} {kk : List (List Nat)} (b : Bs B H dk L ns N) (k : Kds B H p rs kk) : Bs B (WR.off H (p :: rs)) dk L ns N ∧ Bs (WR.off H (p :: rs)) H dk L ns N ∧ Kds (WR.off H (p :: rs)) H p rs kk := by
  have hb : ∀ a ∈ p :: rs, B a = none := fun a ha => by
    rcases List.mem_cons.mp ha with rfl | ha
    · exact k.bp
    · exact k.br a ha
  have hx := b.off (as := p :: rs) hb
  obtain ⟨x, y, z, d, hn⟩ := b.deck
  refine ⟨hx, ⟨(rem_ex : Ex (WR.rem (WR.off H (p :: rs)) dk) _).trans off_ex, b.deck, ?_, ?_⟩, k.kd, off_in (List.mem_cons_self ..), fun r hr => off_in (List.mem_cons_of_mem _ hr)⟩
  · obtain ⟨x, y, z, d, hn⟩ := hx.deck
    exact ⟨_, d.at_⟩
  · obtain ⟨x, y, z, d, hn⟩ := hx.deck
    exact ⟨_, d.ls⟩
theorem Kds.back {B B1 H : Hp} {dk L p : Addr} {ns : List Int} {N : Int} {rs : List Addr} {kk : List (List Nat)} (b : Bs B B1 dk L ns N) (k : Kds B1 H p rs kk) : Kds B H p rs kk := ⟨k.kd, b.new k.bp, fun r hr => b.new (k.br r hr)⟩
/-! lists of lists as data -/
theorem lay_natsL : ∀ kk : List (List Nat), PyData.canLayAll0 (kk.map fun ks => PyData.list (natDs ks)) = true ∧ PyData.depthAll (kk.map fun ks => PyData.list (natDs ks)) ≤ 1
  | [] => ⟨rfl, by simp [PyData.depthAll]⟩
  | ks :: kk => by
    obtain ⟨h1, h2⟩ := lay_natsL kk
    have e : natDs ks = (ks.map fun (k : Nat) => (k : Int)).map PyData.int := by
      unfold natDs
      rw [List.map_map]
      rfl
    have q := lay_ints (ks.map fun (k : Nat) => (k : Int))
    constructor
    · simp only [List.map_cons, PyData.canLayAll0, PyData.canLay0, e, q.1, h1, Bool.and_self]
    · simp only [List.map_cons, PyData.depthAll, PyData.depth, e, q.2]
      omega
theorem shaped_natsL (kk : List (List Nat)) : SeqAt.shaped (.list (kk.map fun ks => PyData.list (natDs ks))) = true := by
  have q := lay_natsL kk
  have q2 := q.2
  show (PyData.canLay0 (.list (kk.map fun ks => PyData.list (natDs ks))) && decide (PyData.depth (.list (kk.map fun ks => PyData.list (natDs ks))) ≤ 64)) = true
  simp only [PyData.canLay0, PyData.depth, q.1, Bool.true_and]
  exact decide_eq_true (by omega)
theorem KdAt.dp {K : PySem.W.Frag} {H : Hp} {p : Addr} {rs : List Addr} {kk : List (List Nat)} (k : KdAt H p rs kk) : Dp K H (.ref p) (.list (kk.map fun ks => PyData.list (natDs ks))) := by
  refine .lst (sq_of k.at_) ?_
  have hl := k.len
  have hr := k.row
  clear k
  induction rs generalizing kk with
  | nil =>
    cases kk with
    | nil => exact .nil
    | cons _ _ => cases hl
  | cons r rs ih =>
    cases kk with
    | nil => cases hl
    | cons ks kk =>
      refine .cons (.lst (sq_of (hr 0 r ks rfl rfl)) (dpAll_nat ks)) (ih (by simpa using hl) fun i r' ks' h1 h2 => hr (i + 1) r' ks' (by simpa using h1) (by simpa using h2))
section
variable {K : PySem.W.Frag} {σ : L2.St} {H : Hp} {ta tb te t1 : TE} {dk L : Addr} {ns : List Int} {D : Ends} {tu tw tz : TS}
theorem et_kdNil {p : Addr} {rs : List Addr} {kk : List (List Nat)} (h : Ev ta σ H (.ref p)) (k : KdAt H p rs kk) : EvT (tTest (tOp (rEqD K) ta (tLst tNil))) σ H kk.isEmpty :=
  et_test fun H0 e0 Q q => h H0 e0 _ fun H1 e1 => ⟨by show 0 ≤ sizeLine; decide, fun l hl => ⟨.list (kk.map fun ks => PyData.list (natDs ks)), .list [], (k.ex ((e0.trans e1).trans (Ex.new hl))).dp, .lst (sq_of upd_same) .nil, shaped_natsL _, shaped_natsL [], by
    rw [eqv_listNil, List.isEmpty_map]
    exact q _ (e1.trans (Ex.new hl))⟩⟩
/-- if a or draw(deck, m) == 0: .. else: .. -/
theorem s_orDraw {E : XK} {t : TT} {a : Bool} {m : Nat} {N : Int} {Hb : Hp} (h : EvT t σ H a) (h1 : ∀ H1, Ev t1 σ H1 (.ref dk)) (hm : ∀ H1, Ev tb σ H1 (nV m)) (hB : Bs Hb H dk L ns N) (hN : N ≤ 900000000) (m1 : 1 ≤ m) (m2 : m ≤ 1000000000)
    (k : ∀ b H2, Bs H H2 dk L ns (N + 1) → (a = true → b = true) → if b = true then tu D σ H2 else tw D σ H2) :
    tIfS (tOr t (tTest (tOp rEq (tCall spDraw [] E (tCons t1 (tCons tb tNil))) (tC (.int 0))))) tu tw D σ H := h H (Ex.refl H) _ fun H1 e1 => by
  have b1 : Bs H H1 dk L ns N := (Bs.rfl hB.deck).more e1
  cases a with
  | true => exact k true H1 (b1.wk (by omega)) fun z => rfl
  | false => exact ev_draw (h1 H1) (hm H1) b1.deck (by omega) m1 m2 H1 (Ex.refl H1) _ fun r H2 hr b2 => ⟨rfl, _, rfl, k _ H2 (b1.tr b2) fun z => by cases z⟩
/-- if draw(deck, m) == 0: .. else: .. -/
theorem s_ifDraw {E : XK} {m : Nat} {N : Int} {Hb : Hp} (h1 : ∀ H1, Ev t1 σ H1 (.ref dk)) (hm : ∀ H1, Ev tb σ H1 (nV m)) (hB : Bs Hb H dk L ns N) (hN : N ≤ 900000000) (m1 : 1 ≤ m) (m2 : m ≤ 1000000000)
    (k : ∀ b H2, Bs H H2 dk L ns (N + 1) → if b = true then tu D σ H2 else tw D σ H2) :
    tIfS (tTest (tOp rEq (tCall spDraw [] E (tCons t1 (tCons tb tNil))) (tC (.int 0)))) tu tw D σ H :=
  ev_draw (h1 H) (hm H) hB.deck (by omega) m1 m2 H (Ex.refl H) _ fun r H2 hr b2 => ⟨rfl, _, rfl, k _ H2 b2⟩
end
end WR
set_option Elab.async false
set_option linter.all false
set_option maxRecDepth 100000
set_option maxHeartbeats 4000000
namespace WR
open PySem PySem.Spec PyProof.Rows L2 Evl

/-! ### _law_webs -/
def spWebs (K : PySem.W.Frag) : Sp := fun vs H Q _ => ∃ dk L ns N mx, vs = [.ref dk, nV mx] ∧ Dk H dk L ns N ∧ N ≤ 300000000 ∧ mx ≤ 9 ∧
  ∀ H' v l ws, Bs H H' dk L ns (N + 1400) → 1 ≤ l → l ≤ 6 → ws ≠ [] → ws.length ≤ 12 → (∀ A ∈ ws, WebP l A) → Dp K H' v (.tuple (ws.map (webD l))) → Q v H'
abbrev nWbs : List Str := ["_law_deck_here", "_law_mixes", "_law_leaves", "_law_found", "_law_kids_here", "_law_k", "_law_some"]
theorem scWbs : FnScope nWbs ["_law_deck_here", "_law_mixes"] (defScope s_law_webs) := ⟨rfl, rfl, rfl, by decide +kernel, rfl, by decide +kernel, by decide +kernel⟩
theorem nl_webs {l : Nat} : ∀ ws : List (List (List Nat)), nlAll (ws.map (webD l)) = true
  | [] => rfl
  | A :: ws => by
    show (nl (webD l A) && nlAll (ws.map (webD l))) = true
    rw [nl_webA, nl_webs ws]
    rfl
section
variable {P : Program} {w : World} {K : PySem.W.Frag} {mg : Str → Option Value} {base : Heap}
/-- what is so between the turns -/
structure WbI (K : PySem.W.Frag) (B H : Hp) (dk L fnd : Addr) (ns : List Int) (N : Int) (l : Nat) (ws : List (List (List Nat))) (p : Addr) (rs : List Addr) (kk : List (List Nat)) : Prop where
  bs : Bs B H dk L ns N
  fb : B fnd = none
  ld : LD K H fnd (ws.map (webD l))
  wp : ∀ A ∈ ws, WebP l A
  kd : Kds B H p rs kk
  fp : fnd ∉ p :: rs
structure WbK (l : Nat) (kk : List (List Nat)) : Prop where
  gen : Gen l kk.length (rowAt kk)
  len : kk.length ≤ l + 20
theorem ok_lwebs {f fW fC fM fN : Addr} {fd fdW fdC fdM fdN : FuncData} (F : Fun K "_law_webs" "_law_webs" s_law_webs f fd)
    (FW : Fun K "_law_draw" "_law_draw" sDraw fW fdW) (bW : Binds K fdW ["_law_deck_here", "_law_many"] []) (gW : mg "_law_draw" = some (.ref fW))
    (FC : Fun K "_law_kids" "_law_kids" sLKids fC fdC) (bC : Binds K fdC ["_law_deck_here", "_law_leaves", "_law_mixes"] []) (gC : mg "_law_kids" = some (.ref fC))
    (FM : Fun K "_law_mix" "_law_mix" sLMix fM fdM) (bM : Binds K fdM ["_law_deck_here", "_law_kids_here"] []) (gM : mg "_law_mix" = some (.ref fM))
    (FN : Fun K "_law_numbered" "_law_numbered" sNumb fN fdN) (bN : Binds K fdN ["_law_deck_here", "_law_kids_here", "_law_leaves"] []) (gN : mg "_law_numbered" = some (.ref fN))
    (m1 : mg "range" = none) (m2 : mg "list" = none) (m3 : mg "len" = none) (m4 : mg "tuple" = none)
    (GW : FnOk P w K mg base CX0 1 fW fdW ["_law_deck_here", "_law_many"] spDraw)
    (GC : FnOk P w K mg base CX0 4 fC fdC ["_law_deck_here", "_law_leaves", "_law_mixes"] (spLKids K))
    (GM : FnOk P w K mg base CX0 3 fM fdM ["_law_deck_here", "_law_kids_here"] (spMix K))
    (GN : FnOk P w K mg base CX0 3 fN fdN ["_law_deck_here", "_law_kids_here", "_law_leaves"] (spNumb K)) :
    FnOk P w K mg base CX0 5 f fd ["_law_deck_here", "_law_mixes"] (spWebs K) := by
  refine F.ok scWbs (fun vs H Q E h => ?_) (fun cdv A outer s H vs Q E hr h => ?_)
  · obtain ⟨dk, L, ns, N, mx, rfl, _⟩ := h
    rfl
  obtain ⟨dk, L, ns, N, mx, rfl, hD, hN, hmx, q⟩ := h
  have r1 := hr.mono (show 1 ≤ 4 by decide)
  have r3 := hr.mono (show 3 ≤ 4 by decide)
  have hu := hr.units
  apply Exists.intro
  apply And.intro
  case left =>
    refine' pss_cons (ps_par3 (i := 2) (j := 3) (l := 4) rfl scWbs.nd rfl rfl rfl (by decide) (by decide) (by decide) rfl rfl rfl
      (pa_cons (pe_op op_add pe_int (pe_call GW r1 (by rfl) gW FW.kp bW .nil pass0 (pa_cons (pv 0) (pa_cons pe_int pa_nil)))) (pa_cons (pe_lst pa_nil) (pa_cons (pe_lst pa_nil) pa_nil))) rfl) ?r0
    case' r0 => skip
    refine' pss_cons (ps_for PassesOwn.never rfl (pi_range1 (by rfl) m1 (pa_cons (pe_op op_add pe_int (pe_call GW r1 (by rfl) gW FW.kp bW .nil pass0 (pa_cons (pv 0) (pa_cons pe_int pa_nil)))) pa_nil)) (pg_name (i := 5) scWbs.nd rfl (.inl rfl)) ?b0) ?r1
    case' b0 =>
      refine' pss_cons (ps_if (pw_or (pt_cmpR (op_eqD hu) (pv 4) (pe_lst pa_nil) (nomark _)) (pw_or1 (pt_cmpR op_eq (pe_call GW r1 (by rfl) gW FW.kp bW .nil pass0 (pa_cons (pv 0) (pa_cons pe_int pa_nil))) pe_int (nomark _)))).pt ?c1 ?c2) ?b1
      case' c1 => exact pss_one (ps_set (i := 4) scWbs.nd rfl (.inl rfl) (pe_call GC hr (by rfl) gC FC.kp bC .nil pass0 (pa_cons (pv 0) (pa_cons (pv 2) (pa_cons (pv 1) pa_nil)))))
      case' c2 =>
        refine' pss_one (ps_if (pt_cmpR op_eq (pe_call GW r1 (by rfl) gW FW.kp bW .nil pass0 (pa_cons (pv 0) (pa_cons pe_int pa_nil))) pe_int (nomark _)) ?d1 pss_nil)
        case' d1 =>
          refine' pss_cons (ps_setLc (i := 4) (own := [("_law_some", 6)]) (g := gName 6) (tt := tYes) (te := tCB (fun xs H Q => ∃ p ys, xs = [.ref p] ∧ (SqL K H p ys ∨ SqT K H p ys) ∧ ∀ l, H l = none → Q (.ref l) (upd H l (.lst ys))) (tCons (tVar 6) tNil)) rfl scWbs.nd rfl rfl (sw_true rfl rfl rfl (by decide +kernel))
            (pi_list (pv 4)) (blkOk_by (N := nWbs) (sc := defScope s_law_webs) (by decide +kernel))
            (fun _ _ _ _ _ => pg_name (i := 6) scWbs.nd rfl (Or.inl rfl)) (fun _ _ _ _ _ => pts_nil) (fun _ _ _ _ _ => pe_callTy call_list_of (by rfl) m2 (by decide +kernel) (pa_cons (pv 6) pa_nil))) ?d2
          case' d2 =>
            exact pss_one (ps_if (pt_cmpR op_lt (pe_op op_sub (pe_callB (r := rLenS K) call_len_seq (by rfl) m3 PySem.boot_len (pa_cons (pv 4) pa_nil)) (pv 2)) pe_int (nomark _))
              (pss_one (ps_expr (pe_call GM r3 (by rfl) gM FM.kp bM .nil pass0 (pa_cons (pv 0) (pa_cons (pv 4) pa_nil))))) pss_nil)
      case' b1 =>
        exact pss_one (ps_expr (pe_bm PySem.F.plainAttrs_list PySem.F.slot_list_append PySem.F.type_list_append mt_append (pv 3) (pa_cons (pe_call GN r3 (by rfl) gN FN.kp bN .nil pass0 (pa_cons (pv 0) (pa_cons (pv 4) (pa_cons (pv 2) pa_nil)))) pa_nil)))
    case' r1 => skip
    exact pss_one (ps_ret (pe_callTy call_tuple_of (by rfl) m4 (by decide +kernel) (pa_cons (pv 3) pa_nil)))
  case right =>
    let S (x2 x3 x4 x5 : Option V) : L2.St := [some (.ref dk), some (nV mx), x2, x3, x4, x5, none]
    have dr : EvR (tCall spDraw [] E0 (tCons (tVar 0) (tCons (tC (nV 6)) tNil))) (S none none none none) H dk L ns N 6 := ev_draw (ev_var rfl) ev_c hD (by omega) (by decide) (by decide)
    refine dr H (Ex.refl H) _ fun r H1 hr6 b1 => ⟨1, (r : Int), rfl, rfl, ?_⟩
    have er : V.int (1 + (r : Int)) = nV (r + 1) := by
      show V.int _ = V.int _
      congr 1
      omega
    refine ⟨by show 0 ≤ sizeLine; decide, fun fnd hf => ⟨by show 0 ≤ sizeLine; decide, fun p0 hp0 => ⟨_, _, _, rfl, ?_⟩⟩⟩
    have e2 := (Ex.new (o := .lst []) hf).trans (Ex.new (o := .lst []) hp0)
    have b2 := b1.more e2
    have hfd : upd (upd H1 fnd (.lst [])) p0 (.lst []) fnd = some (.lst []) := Ex.new (o := .lst []) hp0 _ _ upd_same
    have hpd : upd (upd H1 fnd (.lst [])) p0 (.lst []) p0 = some (.lst []) := upd_same
    have hne : fnd ≠ p0 := fun z => by
      rw [← z, upd_same] at hp0
      cases hp0
    have hfB : H fnd = none := b1.new hf
    have hpB : H p0 = none := (b1.more (Ex.new (o := .lst []) hf)).new hp0
    generalize upd (upd H1 fnd (.lst [])) p0 (.lst []) = H2 at b2 hfd hpd
    dsimp only
    show tSeq (tFor _ _ _) _ _ (S (some (.int (1 + (r : Int)))) (some (.ref fnd)) (some (.ref p0)) none) H2
    rw [er]
    generalize hl : r + 1 = l
    have l1 : 1 ≤ l := by omega
    have l6 : l ≤ 6 := by omega
    have dr2 : EvR (tCall spDraw [] E0 (tCons (tVar 0) (tCons (tC (nV 12)) tNil))) (S (some (nV l)) (some (.ref fnd)) (some (.ref p0)) none) H2 dk L ns (N + 1) 12 := ev_draw (ev_var rfl) ev_c b2.deck (by omega) (by decide) (by decide)
    refine dr2 H2 (Ex.refl H2) _ fun r2 H3 hr12 b3 => ⟨1, (r2 : Int), rfl, rfl, ?_⟩
    have b03 := b2.tr b3
    have dkne : ∀ {q : Addr}, H q = none → q ≠ dk := fun h => hD.ne h
    have hfd3 : H3 fnd = some (.lst []) := b3.ex _ _ (by rw [rem_ne (dkne hfB)]; exact hfd)
    have hpd3 : H3 p0 = some (.lst []) := b3.ex _ _ (by rw [rem_ne (dkne hpB)]; exact hpd)
    refine ⟨1 + (r2 : Int), rfl, by omega, by omega, for_range (lo := 0) (n := (1 + (r2 : Int)).toNat) (fun i σ' H' => ∃ ws p rs kk x5, σ' = S (some (nV l)) (some (.ref fnd)) (some (.ref p)) x5 ∧ ws.length = i ∧ WbI K H H' dk L fnd ns (N + 2 + 110 * i) l ws p rs kk ∧ (i ≠ 0 → WbK l kk) ∧ (i = 0 → kk = []))
      ⟨[], p0, [], [], none, rfl, rfl, ⟨b03.wk (by omega), hfB, ⟨[], hfd3, .nil⟩, (fun A h => by cases h), ⟨⟨hpd3, rfl, List.nodup_nil, List.not_mem_nil, fun i r ks h _ => by cases h⟩, hpB, fun r h => by cases h⟩, by simpa using hne⟩, fun z => absurd rfl z, fun _ => rfl⟩ (fun i σ' H' hi hP => ?_) fun σ' H' hP => ?_⟩
    · obtain ⟨ws, p, rs, kk, x5, rfl, hwl, I, hk, hk0⟩ := hP
      have hi12 : i < 12 := by omega
      show tSeq (tIfS _ _ _) _ _ (S (some (nV l)) (some (.ref fnd)) (some (.ref p)) (some (.int (0 + (i : Int))))) H'
      generalize some (V.int (0 + (i : Int))) = x5'
      -- the kids are numbered, the web put down
      have fin : ∀ {D : Ends} {p2 : Addr} {rs2 : List Addr} {kk2 : List (List Nat)} {H2 : Hp} {c : Int}, c ≤ 85 → WbI K H H2 dk L fnd ns (N + 2 + 110 * i + c) l ws p2 rs2 kk2 → WbK l kk2 →
          (∀ ws p rs kk H', ws.length = i + 1 → WbI K H H' dk L fnd ns (N + 2 + 110 * (i + 1 : Nat)) l ws p rs kk → WbK l kk → D.nx (S (some (nV l)) (some (.ref fnd)) (some (.ref p)) x5') H') →
          tDrop (tBM K "list" rAppend (tVar 3) (tCons (tCall (spNumb K) [] E0 (tCons (tVar 0) (tCons (tVar 4) (tCons (tVar 2) tNil)))) tNil)) D (S (some (nV l)) (some (.ref fnd)) (some (.ref p2)) x5') H2 := fun {D p2 rs2 kk2 H2 c} hc I2 k2 kx => by
        obtain ⟨o1, o2, o3⟩ := Kds.own I2.bs I2.kd
        obtain ⟨l1', l2'⟩ := I2.kd.kd.lsts
        have ldo := I2.ld.off (nl_webs ws) l1' l2' I2.fp
        obtain ⟨xs, hx1, hx2⟩ := I2.ld
        refine ⟨.ref fnd, rfl, .inl ⟨rfl, xs, sq_of hx1⟩, .ref dk, rfl, .ref p2, rfl, nV l, rfl, dk, p2, _, L, ns, _, rs2, kk2, l, rfl, o2, by omega, o3, k2.gen, by omega, k2.len, fun H4 v inner b4 kd4 hv nd => ?_⟩
        have ld4 := Bs.ld o1.deck b4 (dkne I2.fb) (nl_webs ws) ldo
        obtain ⟨ys, hy1, hy2⟩ := ld4
        have b04 := o1.tr b4
        have kd04 := Kds.back o1 kd4
        have hf4 : fnd ∉ p2 :: rs2 := I2.fp
        refine ⟨fnd, ys, v, rfl, rfl, hy1, sz_lt (by rw [dpAll_len hy2, List.length_map]; omega), ?_⟩
        refine kx (ws ++ [inner]) p2 rs2 kk2 _ (by rw [List.length_append, hwl]; rfl) ⟨(b04.upd I2.fb).wk (by omega), I2.fb, ⟨_, upd_same, ?_⟩, fun A hA => ?_, kd04.other hf4, hf4⟩ k2
        · rw [List.map_append]
          exact dpAll_snoc (dpAll_updL hy1 _ (nl_webs ws) hy2) (dp_updL hy1 _ (nl_webA _ _) hv)
        · rcases List.mem_append.mp hA with h | h
          · exact I2.wp A h
          · rw [List.mem_singleton.mp h]
            exact nd.drawn.web l1 (by omega)
      refine s_orDraw (Hb := H) (m := 3) (N := N + 2 + 110 * i) (a := kk.isEmpty) (et_kdNil (K := K) (ev_var rfl) I.kd.kd) (fun _ => ev_var rfl) (fun _ => ev_c) I.bs (by omega) (by decide) (by decide) fun b H4 b4 hb => ?_
      have b04 := I.bs.tr b4
      have ld4 := Bs.ld I.bs.deck b4 (dkne I.fb) (nl_webs ws) I.ld
      have kd4 := I.kd.draw I.bs b4.ex
      cases b with
      | true =>
        rw [if_pos rfl]
        refine ⟨.ref dk, rfl, nV l, rfl, nV mx, rfl, dk, L, ns, _, l, mx, rfl, b04.deck, by omega, l1, by omega, by omega, fun H5 p5 rs5 kk5 b5 kd5 g5 n5 => ?_⟩
        have fH4 : ∃ o, H4 fnd = some o := by obtain ⟨xs, h1, _⟩ := ld4; exact ⟨_, h1⟩
        refine fin (c := 1 + 41 + 4 * mx) (by omega) ⟨(b04.tr b5).wk (by omega), I.fb, Bs.ld b04.deck b5 (dkne I.fb) (nl_webs ws) ld4, I.wp, Kds.back b04 kd5, fun z => ?_⟩ ⟨g5, n5⟩ fun ws' p' rs' kk' H' h1 h2 h3 => ⟨ws', p', rs', kk', _, rfl, h1, h2, fun _ => h3, fun z => absurd z (by omega)⟩
        obtain ⟨o, ho⟩ := fH4
        rcases List.mem_cons.mp z with z | z
        · rw [z, kd5.bp] at ho
          cases ho
        · rw [kd5.br _ z] at ho
          cases ho
      | false =>
        rw [if_neg Bool.false_ne_true]
        have hne0 : kk ≠ [] := fun z => by
          rw [z] at hb
          exact absurd (hb rfl) (by decide)
        have hi0 : i ≠ 0 := fun z => hne0 (hk0 z)
        have k0 := hk hi0
        refine s_ifDraw (Hb := H) (m := 2) (N := N + 2 + 110 * i + 1) (fun _ => ev_var rfl) (fun _ => ev_c) b04 (by omega) (by decide) (by decide) fun b2 H5 b5 => ?_
        have b05 := b04.tr b5
        have ld5 := Bs.ld b04.deck b5 (dkne I.fb) (nl_webs ws) ld4
        have kd5 := kd4.draw b04 b5.ex
        cases b2 with
        | false =>
          rw [if_neg Bool.false_ne_true]
          refine fin (c := 2) (by omega) ⟨b05.wk (by omega), I.fb, ld5, I.wp, kd5, I.fp⟩ k0 fun ws' p' rs' kk' H' h1 h2 h3 => ⟨ws', p', rs', kk', _, rfl, h1, h2, fun _ => h3, fun z => absurd z (by omega)⟩
        | true =>
          rw [if_pos rfl]
          have hkl := k0.len
          refine ⟨.ref p, rfl, p, rfl, ⟨rs.map V.ref, sq_of kd5.kd.at_⟩, fun D2 hD2 => ?_⟩
          refine lc_list (K := K) (a := p) (xs := rs.map V.ref) (fun j H' => ∃ rs2, Ex H5 H' ∧ Kds H5 H' D2 rs2 (kk.take j)) ⟨[], Ex.new hD2, ⟨upd_same, by rw [List.take_zero]; rfl, List.nodup_nil, List.not_mem_nil, fun i r ks h _ => by cases h⟩, hD2, fun r h => by cases h⟩
            (fun j H' _ hP => by obtain ⟨_, e, _⟩ := hP; exact sq_of (e _ _ kd5.kd.at_)) (fun j x H' hx hP => ?_) fun H6 hP => ?_
          · obtain ⟨rs2, e6, k6⟩ := hP
            rw [List.getElem?_map] at hx
            obtain ⟨r, hr5, rfl⟩ := Option.map_eq_some_iff.mp hx
            have hil : j < kk.length := by
              rw [← kd5.kd.len]
              exact (List.getElem?_eq_some_iff.mp hr5).1
            have hrow := kd5.kd.row j r _ hr5 (rowAt_get hil)
            refine ⟨rfl, yes_ ?_⟩
            refine ⟨.ref r, rfl, r, nVs (rowAt kk j), rfl, .inl (sq_of (e6 _ _ hrow)), fun r2 hr2 => ?_⟩
            have e7 := Ex.new (o := .lst (nVs (rowAt kk j))) hr2
            have k7 := k6.ex e7
            have hlr : rs2.length = j := by rw [k6.kd.len, List.length_take]; omega
            refine ⟨rs2.map V.ref, k7.kd.at_, sz_lt (by rw [List.length_map]; omega), rs2 ++ [r2], Ex.mut (e6.trans e7) hD2, ?_⟩
            rw [show rs2.map V.ref ++ [V.ref r2] = (rs2 ++ [r2]).map V.ref by rw [List.map_append]; rfl, List.take_add_one, rowAt_get hil]
            exact k7.app upd_same (k6.kd.fresh hr2) (fresh_back e6 hr2)
          · obtain ⟨rs2, e6, k6⟩ := hP
            rw [List.length_map, kd5.kd.len, List.take_length] at k6
            have b6 : Bs H5 H6 dk L ns (N + 2 + 110 * i + 1 + 1) := (Bs.rfl b05.deck).more e6
            obtain ⟨xs5, hx5, hd5⟩ := ld5
            have fn5 : fnd ∉ D2 :: rs2 := fun z => by
              rcases List.mem_cons.mp z with z | z
              · rw [z, k6.bp] at hx5
                cases hx5
              · rw [k6.br _ z] at hx5
                cases hx5
            dsimp only
            show tIfS _ _ _ _ (S (some (nV l)) (some (.ref fnd)) (some (.ref D2)) x5') H6
            refine s_if (b := decide (((kk.length : Int) - (l : Int)) < 18)) (et_test (ev_op (x := .int ((kk.length : Int) - (l : Int))) (ev_op (x := nV kk.length) (y := nV l) (ev_is (ev_len (K := K) (ev_var rfl) (sq_of k6.kd.at_)) (by rw [List.length_map, k6.kd.len]; rfl)) (ev_var rfl) rv_I0) ev_c rv_I0)) (fun hb H7 e7 => ?_) fun hb H7 e7 => ?_
            · have hb := of_decide_eq_true hb
              refine ⟨.ref dk, rfl, .ref D2, rfl, dk, D2, H5, L, ns, _, rs2, kk, l, rfl, b6.more e7, by omega, k6.ex e7, k0.gen, by omega, by omega, fun H8 rs8 kk8 b8 kd8 g8 n8 => ?_⟩
              refine fin (c := 6) (by omega) ⟨(b05.tr b8).wk (by omega), I.fb, Bs.ld b05.deck b8 (dkne I.fb) (nl_webs ws) ⟨xs5, hx5, hd5⟩, I.wp, Kds.back b05 kd8, fun z => ?_⟩ ⟨g8, by omega⟩ fun ws' p' rs' kk' H' h1 h2 h3 => ⟨ws', p', rs', kk', _, rfl, h1, h2, fun _ => h3, fun z => absurd z (by omega)⟩
              rcases List.mem_cons.mp z with z | z
              · rw [z, kd8.bp] at hx5
                cases hx5
              · rw [kd8.br _ z] at hx5
                cases hx5
            · refine fin (c := 2) (by omega) ⟨((b05.more (e6.trans e7))).wk (by omega), I.fb, LD.ex ⟨xs5, hx5, hd5⟩ (e6.trans e7), I.wp, Kds.back b05 (k6.ex e7), fn5⟩ k0 fun ws' p' rs' kk' H' h1 h2 h3 => ⟨ws', p', rs', kk', _, rfl, h1, h2, fun _ => h3, fun z => absurd z (by omega)⟩
    · obtain ⟨ws, p, rs, kk, x5, rfl, hwl, I, hk, hk0⟩ := hP
      refine s_retD (K := K) (d := .tuple (ws.map (webD l))) (ed_tupL (K := K) (ed_ev (ev_var rfl) I.ld.dp)) fun v H4 e4 hv => ?_
      refine q H4 v l ws ((I.bs.more e4).wk (by omega)) l1 l6 (fun z => by rw [z] at hwl; simp at hwl; omega) (by omega) I.wp hv
end
end WR
set_option Elab.async false
set_option linter.all false
set_option maxRecDepth 100000
set_option maxHeartbeats 4000000
namespace WR
open PySem PySem.Spec PyProof.Rows L2 Evl

/-! ### the law k77 -/
theorem sm_nat5v {k : Nat} (h : k < 32) : Sm 5 0 (natD k) := sm_intB (by show (k : Int).natAbs < _; have : (32 : Nat) < 10 ^ 45 := by decide
                                                                         omega) (by show (k : Int).natAbs < 2 ^ 5; omega) (by decide) (by decide)
theorem sm_webV {l : Nat} {inner : List (List Nat)} (hw : Raw l inner) : Sm 8000 3 (webD l inner) := by
  have h8 := hw.l8
  have h20 := hw.n20
  have h1 : Sm 3620 2 (.tuple (inner.map kidsD)) := sm_tup (n := 20) (w := 180) (dp := 1) (fun d hd => by
    obtain ⟨ks, hks, rfl⟩ := List.mem_map.mp hd
    exact sm_tup (w := 5) (dp := 0) (n := 30) (fun d hd => by
      obtain ⟨k, hk, rfl⟩ := List.mem_map.mp hd
      exact sm_nat5v (by have := raw_lt hw hks k hk; omega)) (by rw [List.length_map]; exact hw.len ks hks)) (by rw [List.length_map]; exact h20)
  exact (sm_tup (ds := [natD l, .tuple (inner.map kidsD)]) (n := 2) (w := 3620) (dp := 2) (fun d hd => by
    rcases List.mem_cons.mp hd with rfl | hd
    · exact (sm_nat5v (by omega)).up (by omega) (by omega)
    · rw [List.mem_singleton.mp hd]
      exact h1) (by simp)).up (by decide) (by decide)
theorem sm_webs {l : Nat} {ws : List (List (List Nat))} (hW : ∀ A ∈ ws, Raw l A) (hn : ws.length ≤ 12) : Sm 96012 4 (.tuple (ws.map (webD l))) :=
  sm_tup (w := 8000) (dp := 3) (n := 12) (fun d hd => by
    obtain ⟨B, hB, rfl⟩ := List.mem_map.mp hd
    exact sm_webV (hW B hB)) (by rw [List.length_map]; exact hn)
theorem dist_le56 {l : Nat} {A B : List (List Nat)} (wA : Raw l A) (wB : Raw l B) : distI l A B ≤ 56 := by
  have := dist_le (l := l) (A := A) (B := B)
  have h1 := wA.l8
  have h2 := wA.n20
  have h3 := wB.n20
  omega
theorem argI_lt {ds : List Int} (h : ds ≠ []) : argI ds < ds.length := by
  obtain ⟨x, h1, _⟩ := argI_spec h
  exact (List.getElem?_eq_some_iff.mp h1).1
theorem apT_in {l : Nat} {ws : List (List (List Nat))} {t : Trp} (h : apT l ws = some t) : PrS l ws t := by
  unfold apT at h
  cases e : trps l ws with
  | nil =>
    rw [e] at h
    cases h
  | cons x r =>
    rw [e] at h
    injection h with h
    rw [← h]
    exact mem_trps.mp (e ▸ (minT_spec r x).1)
theorem sm_bst {l : Nat} {ws : List (List (List Nat))} (hW : ∀ A ∈ ws, Raw l A) (hn : ws.length ≤ 12) : Sm 130 1 (bstD (apT l ws)) := by
  cases h : apT l ws with
  | none => exact sm_none.up (by decide) (by decide)
  | some t =>
    obtain ⟨i, j, h1, h2, rfl⟩ := apT_in h
    have hm : ∀ {k : Nat}, k < ws.length → Raw l (ws.getD k []) := fun {k} hk => by
      have hg : ws[k]? = some (ws.getD k []) := by rw [List.getD_eq_getElem?_getD, List.getElem?_eq_getElem hk]; rfl
      exact hW _ (List.mem_of_getElem? hg)
    have hd := dist_le56 (hm (show i < ws.length by omega)) (hm h2)
    have hn0 := dist_nn (l := l) (A := ws.getD i []) (B := ws.getD j [])
    show Sm 130 1 (tupI [- -distI l (ws.getD i []) (ws.getD j []), (i : Int), (j : Int)])
    have e : tupI [- -distI l (ws.getD i []) (ws.getD j []), (i : Int), (j : Int)] = .tuple [.int (- -distI l (ws.getD i []) (ws.getD j [])), natD i, natD j] := rfl
    rw [e]
    have s1 : Sm 41 0 (.int (- -distI l (ws.getD i []) (ws.getD j []))) := sm_int (by rw [Int.neg_neg]; omega)
    have s2 : Sm 41 0 (natD i) := sm_nat (by omega)
    have s3 : Sm 41 0 (natD j) := sm_nat (by omega)
    exact (smL_cons s1 (Nat.le_refl 0) (smL_cons s2 (Nat.le_refl 0) (smL_cons s3 (Nat.le_refl 0) smL_nil))).tup.up (by decide) (by decide)
section
variable {K : PySem.W.Frag} {σ : L2.St} {H : Hp} {te : TE} {tz : TS} {D : Ends}
theorem ev_mid {E : XK} {l : Nat} {ws : List (List (List Nat))} (h : EvD K te σ H (.tuple (ws.map (webD l)))) (hW : ∀ A ∈ ws, Raw l A) (hne : ws ≠ []) (hl : ws.length ≤ 1000) :
    Ev (tCall (spMid K) [] E (tCons te tNil)) σ H (nV (argI (sumsI l ws))) := fun H1 e Q q => h H1 e _ fun v H2 e2 hv => ⟨v, l, ws, rfl, hv, hW, hne, hl, fun H3 e3 => q H3 (e2.trans e3)⟩
theorem ed_apt {E : XK} {l : Nat} {ws : List (List (List Nat))} (h : EvD K te σ H (.tuple (ws.map (webD l)))) (hW : ∀ A ∈ ws, Raw l A) (hne : ws ≠ []) (hl : ws.length ≤ 100) :
    EvD K (tCall (spApt K) [] E (tCons te tNil)) σ H (bstD (apT l ws)) := fun H1 e Q q => h H1 e _ fun v H2 e2 hv => ⟨v, l, ws, rfl, hv, hW, hne, hl, fun r H3 e3 hr => q r H3 (e2.trans e3) hr⟩
theorem ed_lapt {E : XK} {l : Nat} {ws : List (List (List Nat))} (h : EvD K te σ H (.tuple (ws.map (webD l)))) (hW : ∀ A ∈ ws, Raw l A) (hne : ws ≠ []) (hl : ws.length ≤ 100) :
    EvD K (tCall (spLApt K) [] E (tCons te tNil)) σ H (bstD (apT l ws)) := fun H1 e Q q => h H1 e _ fun v H2 e2 hv => ⟨v, l, ws, rfl, hv, hW, hne, hl, fun r H3 e3 hr => q r H3 (e2.trans e3) hr⟩
theorem q_webs {E : XK} {t1 t2 : TE} {i mx : Nat} {dk L : Addr} {ns : List Int} {N : Int} (h1 : Ev t1 σ H (.ref dk)) (h2 : Ev t2 σ H (nV mx)) (hD : Dk H dk L ns N) (hN : N ≤ 300000000) (hm : mx ≤ 9)
    (k : ∀ H' v l ws, Bs H H' dk L ns (N + 1400) → 1 ≤ l → l ≤ 6 → ws ≠ [] → ws.length ≤ 12 → (∀ A ∈ ws, WebP l A) → Dp K H' v (.tuple (ws.map (webD l))) → tz D (σ.set i (some v)) H') :
    tSeq (tAsg (tCall (spWebs K) [] E (tCons t1 (tCons t2 tNil))) (gName i)) tz D σ H :=
  h1 H (Ex.refl H) _ fun H1 e1 => h2 H1 e1 _ fun H2 e2 => ⟨dk, L, ns, N, mx, rfl, hD.ex (e1.trans e2), hN, hm, fun H3 v l ws b a1 a2 a3 a4 a5 a6 => k H3 v l ws (((Bs.rfl hD).more (e1.trans e2)).tr b) a1 a2 a3 a4 a5 a6⟩
end
abbrev nLaw : List Str := ["_law_script", "_law_deck_here", "_law_turn", "_law_some", "_law_held", "_law_sums", "_law_due", "_law_web_here", "_law_other"]
theorem scLaw : FnScope nLaw ["_law_script"] (defScope sLaw) := ⟨rfl, rfl, rfl, by decide +kernel, rfl, by decide +kernel, by decide +kernel⟩
abbrev scLw1 : Scope := { kind := ScopeKind.function, names := [(Str.ofString ".0", NameKind.local), (Str.ofString "_law_web_here", NameKind.cell), (Str.ofString "sum", NameKind.globalImplicit), (Str.ofString "_law_some", NameKind.cell)], isGenerator := false, isCoroutine := false, more := [] }
def spLaw (K : PySem.W.Frag) : Sp := fun vs H Q _ => ∃ (a : Addr) (ns : List Int), vs = [.ref a] ∧ SqL K H a (ns.map V.int) ∧ ns.length ≤ 63 ∧ ∀ H', Q (.bl true) H'
section
variable {P : Program} {w : World} {K : PySem.W.Frag} {mg : Str → Option Value} {base : Heap}
abbrev tInner (K : PySem.W.Frag) : TE := tLc (iTup K (tVar 3)) (gName 8) tYes (tCall (spLDist K) [] E0 (tCons (tVar 7) (tCons (tVar 8) tNil))) [8]
theorem runs_law {f fD fP fT fL fM fA : Addr} {fd fdD fdP fdT fdL fdM fdA : FuncData} (F : Fun K "law" "law" sLaw f fd)
    (FD : Fun K "_law_deck" "_law_deck" sDeck fD fdD) (bD : Binds K fdD ["_law_script"] []) (gD : mg "_law_deck" = some (.ref fD))
    (FP : Fun K "_law_webs" "_law_webs" s_law_webs fP fdP) (bP : Binds K fdP ["_law_deck_here", "_law_mixes"] []) (gP : mg "_law_webs" = some (.ref fP))
    (FT : Fun K "_law_distance" "_law_distance" s_law_distance fT fdT) (bT : Binds K fdT ["_law_one_here", "_law_other"] []) (gT : mg "_law_distance" = some (.ref fT))
    (FL : Fun K "_law_apart" "_law_apart" s_law_apart fL fdL) (bL : Binds K fdL ["_law_some"] []) (gL : mg "_law_apart" = some (.ref fL))
    (FM : Fun K "middle" "middle" s_middle fM fdM) (bM : Binds K fdM ["some"] []) (gM : mg "middle" = some (.ref fM))
    (FA : Fun K "apart" "apart" s_apart fA fdA) (bA : Binds K fdA ["some"] []) (gA : mg "apart" = some (.ref fA))
    (m1 : mg "range" = none) (m2 : mg "repr" = none) (m3 : mg "sum" = none) (m4 : mg "min" = none)
    (GD : FnOk P w K mg base CX0 1 fD fdD ["_law_script"] (spDeck K))
    (GP : FnOk P w K mg base CX0 5 fP fdP ["_law_deck_here", "_law_mixes"] (spWebs K))
    (GT : FnOk P w K mg base CX0 2 fT fdT ["_law_one_here", "_law_other"] (spLDist K))
    (GL : FnOk P w K mg base CX0 3 fL fdL ["_law_some"] (spLApt K))
    (GM : FnOk P w K mg base CX0 5 fM fdM ["some"] (spMid K))
    (GA : FnOk P w K mg base CX0 5 fA fdA ["some"] (spApt K)) :
    RunsG P w K mg base f fd "_law_script" (spLaw K) := by
  refine runsG_of (k := 5) F scLaw ⟨rfl, by decide, by decide⟩ fun cdv s H v Q hr h => ?_
  obtain ⟨a, ns, ev, hS, hlen, q⟩ := h
  cases ev
  have r1 := hr.mono (show 1 ≤ 5 by decide)
  have r2 := hr.mono (show 2 ≤ 5 by decide)
  have r3 := hr.mono (show 3 ≤ 5 by decide)
  have hu := hr.units
  apply Exists.intro
  apply And.intro
  case left =>
    refine' pss_cons (ps_set (i := 1) scLaw.nd rfl (.inl rfl) (pe_call GD r1 (by rfl) gD FD.kp bD .nil pass0 (pa_cons (pv 0) pa_nil))) ?r0
    case' r0 => skip
    refine' pss_cons (ps_for PassesOwn.never rfl (pi_range1 (by rfl) m1 (pa_cons pe_int pa_nil)) (pg_name (i := 2) scLaw.nd rfl (.inl rfl)) ?b0) ?r1
    case' b0 =>
      refine' pss_cons (ps_set (i := 3) scLaw.nd rfl (.inr rfl) (pe_call GP hr (by rfl) gP FP.kp bP .nil pass0 (pa_cons (pv 1) (pa_cons pe_int pa_nil)))) ?b1
      case' b1 => skip
      refine' pss_cons (ps_set (i := 4) scLaw.nd rfl (.inl rfl) (pe_callB (call_reprA rfl hu) (by rfl) m2 (by decide +kernel) (pa_cons (pv 3) pa_nil))) ?b2
      case' b2 => skip
      refine' pss_cons (ps_setLc (i := 5) (own := [("_law_web_here", 7)]) (g := gName 7) (tt := tYes) (te := tCB (rSum K) (tCons (tInner K) tNil)) rfl scLaw.nd rfl rfl (sw_true rfl rfl rfl (by decide +kernel))
        (pi_tup (pv 3)) (blkOk_by (N := nLaw) (sc := defScope sLaw) (by decide +kernel))
        (fun _ _ _ _ _ => pg_name (i := 7) scLaw.nd rfl (Or.inr rfl)) (fun _ _ _ _ _ => pts_nil) (fun _ _ _ _ _ => pe_callB (cr_sum rfl) (by rfl) m3 (by decide +kernel) (pa_cons
          (pe_lc (own := [("_law_other", 8)]) (g := gName 8) (tt := tYes) (te := tCall (spLDist K) [] E0 (tCons (tVar 7) (tCons (tVar 8) tNil))) rfl scLaw.nd
            (pi_tup (pv 3)) (blkOk_by (N := nLaw) (sc := scLw1) (by decide +kernel))
            (fun _ _ _ _ _ => pg_name (i := 8) scLaw.nd rfl (Or.inl rfl)) (fun _ _ _ _ _ => pts_nil) (fun _ _ _ _ _ => pe_call GT r2 (by rfl) gT FT.kp bT .nil pass0 (pa_cons (pv 7) (pa_cons (pv 8) pa_nil)))) pa_nil))) ?b3
      case' b3 => skip
      refine' pss_cons (ps_set (i := 6) scLaw.nd rfl (.inl rfl) (pe_lst (pa_cons (pe_bm PySem.F.plainAttrs_list PySem.F.slot_list_index PySem.F.type_list_index mt_index (pv 5) (pa_cons (pe_callB (r := rMin K) (cr_min rfl) (by rfl) m4 (by decide +kernel) (pa_cons (pv 5) pa_nil)) pa_nil))
        (pa_cons (pe_call GL r3 (by rfl) gL FL.kp bL .nil pass0 (pa_cons (pv 3) pa_nil)) pa_nil)))) ?b4
      case' b4 => skip
      refine' pss_cons (ps_if (pw_or (pt_cmpR op_ne (pe_callB (call_reprA rfl hu) (by rfl) m2 (by decide +kernel) (pa_cons (pe_lst (pa_cons (pe_call GM hr (by rfl) gM FM.kp bM .nil pass0 (pa_cons (pv 3) pa_nil)) (pa_cons (pe_call GA hr (by rfl) gA FA.kp bA .nil pass0 (pa_cons (pv 3) pa_nil)) pa_nil))) pa_nil)) (pe_callB (call_reprA rfl hu) (by rfl) m2 (by decide +kernel) (pa_cons (pv 6) pa_nil)) (nomark _))
        (pw_or1 (pt_cmpR op_ne (pe_callB (call_reprA rfl hu) (by rfl) m2 (by decide +kernel) (pa_cons (pe_lst (pa_cons (pe_call GM hr (by rfl) gM FM.kp bM .nil pass0 (pa_cons (pv 3) pa_nil)) (pa_cons (pe_call GA hr (by rfl) gA FA.kp bA .nil pass0 (pa_cons (pv 3) pa_nil)) pa_nil))) pa_nil)) (pe_callB (call_reprA rfl hu) (by rfl) m2 (by decide +kernel) (pa_cons (pv 6) pa_nil)) (nomark _)))).pt (pss_one (ps_ret pe_bl)) pss_nil) ?b5
      case' b5 => skip
      exact pss_one (ps_if (pt_cmpR op_ne (pe_callB (call_reprA rfl hu) (by rfl) m2 (by decide +kernel) (pa_cons (pv 3) pa_nil)) (pv 4) (nomark _)) (pss_one (ps_ret pe_bl)) pss_nil)
    case' r1 => skip
    exact pss_one (ps_ret pe_bl)
  case right =>
    refine q_deck (K := K) (ev_var rfl) hS hlen fun dk Lk H1 hdk _ e1 hD => ?_
    let S (x2 x3 x4 x5 x6 : Option V) : L2.St := [some (.ref a), some (.ref dk), x2, x3, x4, x5, x6, none, none]
    show tSeq (tFor _ _ _) _ _ (S none none none none none) H1
    refine q_forR1 (n := 5) (ea_cons ev_c ea_nil) (by decide) (fun i σ' H' => (∃ x2 x3 x4 x5 x6, σ' = S x2 x3 x4 x5 x6) ∧ Dk H' dk Lk ns (1400 * i)) (fun H2 e2 => ⟨⟨_, _, _, _, _, rfl⟩, by simpa using hD.ex e2⟩) (fun i σ' H' hi hP => ?_) fun σ' H' hP => ?_
    · obtain ⟨⟨x2, x3, x4, x5, x6, rfl⟩, hD⟩ := hP
      show tSeq _ _ _ (S (some (.int (i : Int))) x3 x4 x5 x6) H'
      refine q_webs (K := K) (mx := 6) (ev_var rfl) ev_c hD (by omega) (by decide) fun H2 v l ws hB l1 l6 hne hn12 hW hv => ?_
      have hR : ∀ A ∈ ws, Raw l A := fun A hA => (hW A hA).raw
      let T (x4 x5 x6 : Option V) : L2.St := S (some (.int (i : Int))) (some v) x4 x5 x6
      show tSeq _ _ _ (T x4 x5 x6) H2
      have iW : ∀ {x4 x5 x6 : Option V} {H' : Hp}, Ex H2 H' → EvD K (tVar 3) (T x4 x5 x6) H' (.tuple (ws.map (webD l))) := fun e => ed_var rfl (dp_ex e _ hv)
      have hsm := (sm_webs hR hn12).ok (by decide) (by decide)
      refine q_asg (ev_repr (K := K) (iW (Ex.refl _)) hsm) fun H3 e3 => ?_
      generalize hheld : (PyData.tuple (ws.map (webD l))).shown = held
      show tSeq _ _ _ (T (some (.str held)) x5 x6) H3
      have hsums : EvN K (tLc (iTup K (tVar 3)) (gName 7) tYes (tCB (rSum K) (tCons (tInner K) tNil)) [7]) (T (some (.str held)) x5 x6) H3 (ws.map fun A => .int ((ws.map (distI l A)).sum)) := by
        refine en_dMap (K := K) (webD l) (fun A => .int ((ws.map (distI l A)).sum)) (src_T (iW e3)) (by omega) (fun _ => rfl) (fun A x H4 e4 hA hx => ?_) fun _ _ => rfl
        refine ed_i (ev_sumI (K := K) ?_)
        have h2 : EvN K (tInner K) ([some (.ref a), some (.ref dk), some (.int (i : Int)), some v, some (.str held), x5, x6, some x, none]) H4 (ws.map fun B => .int (distI l A B)) := by
          refine en_dMap (K := K) (webD l) (fun B => .int (distI l A B)) (src_T (ed_var rfl (dp_ex (e3.trans e4) _ hv))) (by omega) (fun _ => rfl) (fun B y H5 e5 hB hy => ?_) fun _ _ => rfl
          exact ed_i (ev_ldist (K := K) (ed_var rfl (dp_ex e5 _ hx)) (ed_var rfl hy) (hR A hA) (hR B hB))
        rw [← sums_int]
        exact h2
      refine q_asgN (K := K) hsums fun pf xs H4 hpf e4 hx hd => ?_
      have hd : DpAll K H4 xs ((sumsI l ws).map PyData.int) := by
        unfold sumsI
        rw [List.map_map]
        exact hd
      rw [ints_of hd] at hx
      have hsne : sumsI l ws ≠ [] := fun z => hne (List.map_eq_nil_iff.mp z)
      have e24 := e3.trans e4
      show tSeq _ _ _ (T (some (.str held)) (some (.ref pf)) x6) H4
      refine q_asgD (K := K) (d := .list [natD (argI (sumsI l ws)), bstD (apT l ws)]) (ed_n (ed_lst (eda_cons (ed_i (ev_argmin (K := K) (ev_var rfl) hx hsne)) (eda_cons (ed_lapt (K := K) (iW e24) hR hne (by omega)) eda_nil)) (by simp))) fun vt H5 e5 hvt => ?_
      have e25 := e24.trans e5
      have hlt := argI_lt hsne
      have hsl : (sumsI l ws).length = ws.length := List.length_map ..
      have hok : okR (.list [natD (argI (sumsI l ws)), bstD (apT l ws)]) = true := (smL_cons (sm_nat (by omega)) (show 0 ≤ 1 by decide) (smL_cons (sm_bst hR hn12) (Nat.le_refl 1) smL_nil)).lst.ok (by decide) (by decide)
      show tSeq _ _ _ (T (some (.str held)) (some (.ref pf)) (some vt)) H5
      have hL : ∀ {H' : Hp}, Ex H5 H' → EvD K (tLst (tCons (tCall (spMid K) [] E0 (tCons (tVar 3) tNil)) (tCons (tCall (spApt K) [] E0 (tCons (tVar 3) tNil)) tNil))) (T (some (.str held)) (some (.ref pf)) (some vt)) H' (.list [natD (argI (sumsI l ws)), bstD (apT l ws)]) := fun e =>
        ed_n (ed_lst (eda_cons (ed_i (ev_mid (K := K) (iW (e25.trans e)) hR hne (by omega))) (eda_cons (ed_apt (K := K) (iW (e25.trans e)) hR hne (by omega)) eda_nil)) (by simp))
      refine q_when (b := false || false) (et_or (et_reprNe (K := K) (hL (Ex.refl _)) (ed_var rfl hvt) hok) fun _ => et_reprNe (K := K) (hL (Ex.refl _)) (ed_var rfl hvt) hok) (fun z => by cases z) fun _ H6 e6 => ?_
      show tIfS _ _ _ _ (T (some (.str held)) (some (.ref pf)) (some vt)) H6
      refine s_when (b := false) (et_test (ev_is (ev_op (ev_repr (K := K) (iW (e25.trans e6)) hsm) (ev_var (v := .str held) rfl) (rv_ne rfl)) ?_)) (fun z => by cases z) fun _ H7 e7 => ?_
      · rw [hheld]
        show V.bl (!decide (V.str _ = V.str _)) = _
        rw [decide_eq_true rfl]
        rfl
      · exact ⟨⟨_, _, _, _, _, rfl⟩, ((hB.more (e25.trans (e6.trans e7))).wk (by omega)).deck⟩
    · obtain ⟨⟨x2, x3, x4, x5, x6, rfl⟩, hD⟩ := hP
      exact s_ret (v := .bl true) ev_c fun H3 _ => q H3
end
end WR
set_option Elab.async false
set_option linter.all false
set_option maxRecDepth 100000
set_option maxHeartbeats 4000000
namespace WR
open PySem PySem.Spec PyProof.Rows L2 Evl
/-! ### what the top has written -/
theorem all_mk {l : PySem.W.OpenLaw} {w : World} {K : PySem.W.Frag} {h : Heap} {mg : Str → Option Value} {fa : Addr} (X : K.In h) (G : h.Ns mainGlobals mg) (hfa : mg "law" = some (.ref fa))
    {f1 : Addr} {od1 an1 : Option Addr} {sl1 : Array (Option Value)} {oc1 kV1 dc1 pm1 cd1 ct1 : Value}
    (a1 : PySem.W.nsIn K mainGlobals "rows_of" = some (some (.ref f1)))
    (l1 : K.lookup f1 = some ⟨oc1, od1, .func (PySem.W.fnOf "rows_of" "rows_of" (defArgs sRowsOf) (defBody sRowsOf) (defScope sRowsOf) .none kV1 dc1 pm1 an1 cd1 ct1), sl1⟩)
    (c1 : PySem.W.codeIn K cd1 "rows_of" = true) (k1 : PySem.W.keepIn K (.ref f1) = true)
    {f2 : Addr} {od2 an2 : Option Addr} {sl2 : Array (Option Value)} {oc2 kV2 dc2 pm2 cd2 ct2 : Value}
    (a2 : PySem.W.nsIn K mainGlobals "leaf_row" = some (some (.ref f2)))
    (l2 : K.lookup f2 = some ⟨oc2, od2, .func (PySem.W.fnOf "leaf_row" "leaf_row" (defArgs sLeafRow) (defBody sLeafRow) (defScope sLeafRow) .none kV2 dc2 pm2 an2 cd2 ct2), sl2⟩)
    (c2 : PySem.W.codeIn K cd2 "leaf_row" = true) (k2 : PySem.W.keepIn K (.ref f2) = true)
    {f3 : Addr} {od3 an3 : Option Addr} {sl3 : Array (Option Value)} {oc3 kV3 dc3 pm3 cd3 ct3 : Value}
    (a3 : PySem.W.nsIn K mainGlobals "lot" = some (some (.ref f3)))
    (l3 : K.lookup f3 = some ⟨oc3, od3, .func (PySem.W.fnOf "lot" "lot" (defArgs sLot) (defBody sLot) (defScope sLot) .none kV3 dc3 pm3 an3 cd3 ct3), sl3⟩)
    (c3 : PySem.W.codeIn K cd3 "lot" = true) (k3 : PySem.W.keepIn K (.ref f3) = true)
    {f4 : Addr} {od4 an4 : Option Addr} {sl4 : Array (Option Value)} {oc4 kV4 dc4 pm4 cd4 ct4 : Value}
    (a4 : PySem.W.nsIn K mainGlobals "check_leaves" = some (some (.ref f4)))
    (l4 : K.lookup f4 = some ⟨oc4, od4, .func (PySem.W.fnOf "check_leaves" "check_leaves" (defArgs s_check_leaves) (defBody s_check_leaves) (defScope s_check_leaves) .none kV4 dc4 pm4 an4 cd4 ct4), sl4⟩)
    (c4 : PySem.W.codeIn K cd4 "check_leaves" = true) (k4 : PySem.W.keepIn K (.ref f4) = true)
    {f5 : Addr} {od5 an5 : Option Addr} {sl5 : Array (Option Value)} {oc5 kV5 dc5 pm5 cd5 ct5 : Value}
    (a5 : PySem.W.nsIn K mainGlobals "middle" = some (some (.ref f5)))
    (l5 : K.lookup f5 = some ⟨oc5, od5, .func (PySem.W.fnOf "middle" "middle" (defArgs s_middle) (defBody s_middle) (defScope s_middle) .none kV5 dc5 pm5 an5 cd5 ct5), sl5⟩)
    (c5 : PySem.W.codeIn K cd5 "middle" = true) (k5 : PySem.W.keepIn K (.ref f5) = true)
    {f6 : Addr} {od6 an6 : Option Addr} {sl6 : Array (Option Value)} {oc6 kV6 dc6 pm6 cd6 ct6 : Value}
    (a6 : PySem.W.nsIn K mainGlobals "apart" = some (some (.ref f6)))
    (l6 : K.lookup f6 = some ⟨oc6, od6, .func (PySem.W.fnOf "apart" "apart" (defArgs s_apart) (defBody s_apart) (defScope s_apart) .none kV6 dc6 pm6 an6 cd6 ct6), sl6⟩)
    (c6 : PySem.W.codeIn K cd6 "apart" = true) (k6 : PySem.W.keepIn K (.ref f6) = true)
    {f7 : Addr} {od7 an7 : Option Addr} {sl7 : Array (Option Value)} {oc7 kV7 dc7 pm7 cd7 ct7 : Value}
    (a7 : PySem.W.nsIn K mainGlobals "tallies" = some (some (.ref f7)))
    (l7 : K.lookup f7 = some ⟨oc7, od7, .func (PySem.W.fnOf "tallies" "tallies" (defArgs s_tallies) (defBody s_tallies) (defScope s_tallies) .none kV7 dc7 pm7 an7 cd7 ct7), sl7⟩)
    (c7 : PySem.W.codeIn K cd7 "tallies" = true) (k7 : PySem.W.keepIn K (.ref f7) = true)
    {f8 : Addr} {od8 an8 : Option Addr} {sl8 : Array (Option Value)} {oc8 kV8 dc8 pm8 cd8 ct8 : Value}
    (a8 : PySem.W.nsIn K mainGlobals "tally_of" = some (some (.ref f8)))
    (l8 : K.lookup f8 = some ⟨oc8, od8, .func (PySem.W.fnOf "tally_of" "tally_of" (defArgs s_tally_of) (defBody s_tally_of) (defScope s_tally_of) .none kV8 dc8 pm8 an8 cd8 ct8), sl8⟩)
    (c8 : PySem.W.codeIn K cd8 "tally_of" = true) (k8 : PySem.W.keepIn K (.ref f8) = true)
    {f9 : Addr} {od9 an9 : Option Addr} {sl9 : Array (Option Value)} {oc9 kV9 dc9 pm9 cd9 ct9 : Value}
    (a9 : PySem.W.nsIn K mainGlobals "far" = some (some (.ref f9)))
    (l9 : K.lookup f9 = some ⟨oc9, od9, .func (PySem.W.fnOf "far" "far" (defArgs s_far) (defBody s_far) (defScope s_far) .none kV9 dc9 pm9 an9 cd9 ct9), sl9⟩)
    (c9 : PySem.W.codeIn K cd9 "far" = true) (k9 : PySem.W.keepIn K (.ref f9) = true)
    {f10 : Addr} {od10 an10 : Option Addr} {sl10 : Array (Option Value)} {oc10 kV10 dc10 pm10 cd10 ct10 : Value}
    (a10 : PySem.W.nsIn K mainGlobals "_law_deck" = some (some (.ref f10)))
    (l10 : K.lookup f10 = some ⟨oc10, od10, .func (PySem.W.fnOf "_law_deck" "_law_deck" (defArgs sDeck) (defBody sDeck) (defScope sDeck) .none kV10 dc10 pm10 an10 cd10 ct10), sl10⟩)
    (c10 : PySem.W.codeIn K cd10 "_law_deck" = true) (k10 : PySem.W.keepIn K (.ref f10) = true)
    {f11 : Addr} {od11 an11 : Option Addr} {sl11 : Array (Option Value)} {oc11 kV11 dc11 pm11 cd11 ct11 : Value}
    (a11 : PySem.W.nsIn K mainGlobals "_law_draw" = some (some (.ref f11)))
    (l11 : K.lookup f11 = some ⟨oc11, od11, .func (PySem.W.fnOf "_law_draw" "_law_draw" (defArgs sDraw) (defBody sDraw) (defScope sDraw) .none kV11 dc11 pm11 an11 cd11 ct11), sl11⟩)
    (c11 : PySem.W.codeIn K cd11 "_law_draw" = true) (k11 : PySem.W.keepIn K (.ref f11) = true)
    {f12 : Addr} {od12 an12 : Option Addr} {sl12 : Array (Option Value)} {oc12 kV12 dc12 pm12 cd12 ct12 : Value}
    (a12 : PySem.W.nsIn K mainGlobals "_law_one" = some (some (.ref f12)))
    (l12 : K.lookup f12 = some ⟨oc12, od12, .func (PySem.W.fnOf "_law_one" "_law_one" (defArgs sOne) (defBody sOne) (defScope sOne) .none kV12 dc12 pm12 an12 cd12 ct12), sl12⟩)
    (c12 : PySem.W.codeIn K cd12 "_law_one" = true) (k12 : PySem.W.keepIn K (.ref f12) = true)
    {f13 : Addr} {od13 an13 : Option Addr} {sl13 : Array (Option Value)} {oc13 kV13 dc13 pm13 cd13 ct13 : Value}
    (a13 : PySem.W.nsIn K mainGlobals "_law_tree" = some (some (.ref f13)))
    (l13 : K.lookup f13 = some ⟨oc13, od13, .func (PySem.W.fnOf "_law_tree" "_law_tree" (defArgs sLTree) (defBody sLTree) (defScope sLTree) .none kV13 dc13 pm13 an13 cd13 ct13), sl13⟩)
    (c13 : PySem.W.codeIn K cd13 "_law_tree" = true) (k13 : PySem.W.keepIn K (.ref f13) = true)
    {f14 : Addr} {od14 an14 : Option Addr} {sl14 : Array (Option Value)} {oc14 kV14 dc14 pm14 cd14 ct14 : Value}
    (a14 : PySem.W.nsIn K mainGlobals "_law_ups" = some (some (.ref f14)))
    (l14 : K.lookup f14 = some ⟨oc14, od14, .func (PySem.W.fnOf "_law_ups" "_law_ups" (defArgs sUps) (defBody sUps) (defScope sUps) .none kV14 dc14 pm14 an14 cd14 ct14), sl14⟩)
    (c14 : PySem.W.codeIn K cd14 "_law_ups" = true) (k14 : PySem.W.keepIn K (.ref f14) = true)
    {f15 : Addr} {od15 an15 : Option Addr} {sl15 : Array (Option Value)} {oc15 kV15 dc15 pm15 cd15 ct15 : Value}
    (a15 : PySem.W.nsIn K mainGlobals "_law_down" = some (some (.ref f15)))
    (l15 : K.lookup f15 = some ⟨oc15, od15, .func (PySem.W.fnOf "_law_down" "_law_down" (defArgs sDown) (defBody sDown) (defScope sDown) .none kV15 dc15 pm15 an15 cd15 ct15), sl15⟩)
    (c15 : PySem.W.codeIn K cd15 "_law_down" = true) (k15 : PySem.W.keepIn K (.ref f15) = true)
    {f16 : Addr} {od16 an16 : Option Addr} {sl16 : Array (Option Value)} {oc16 kV16 dc16 pm16 cd16 ct16 : Value}
    (a16 : PySem.W.nsIn K mainGlobals "_law_mix" = some (some (.ref f16)))
    (l16 : K.lookup f16 = some ⟨oc16, od16, .func (PySem.W.fnOf "_law_mix" "_law_mix" (defArgs sLMix) (defBody sLMix) (defScope sLMix) .none kV16 dc16 pm16 an16 cd16 ct16), sl16⟩)
    (c16 : PySem.W.codeIn K cd16 "_law_mix" = true) (k16 : PySem.W.keepIn K (.ref f16) = true)
    {f17 : Addr} {od17 an17 : Option Addr} {sl17 : Array (Option Value)} {oc17 kV17 dc17 pm17 cd17 ct17 : Value}
    (a17 : PySem.W.nsIn K mainGlobals "_law_numbered" = some (some (.ref f17)))
    (l17 : K.lookup f17 = some ⟨oc17, od17, .func (PySem.W.fnOf "_law_numbered" "_law_numbered" (defArgs sNumb) (defBody sNumb) (defScope sNumb) .none kV17 dc17 pm17 an17 cd17 ct17), sl17⟩)
    (c17 : PySem.W.codeIn K cd17 "_law_numbered" = true) (k17 : PySem.W.keepIn K (.ref f17) = true)
    {f18 : Addr} {od18 an18 : Option Addr} {sl18 : Array (Option Value)} {oc18 kV18 dc18 pm18 cd18 ct18 : Value}
    (a18 : PySem.W.nsIn K mainGlobals "_law_kids" = some (some (.ref f18)))
    (l18 : K.lookup f18 = some ⟨oc18, od18, .func (PySem.W.fnOf "_law_kids" "_law_kids" (defArgs sLKids) (defBody sLKids) (defScope sLKids) .none kV18 dc18 pm18 an18 cd18 ct18), sl18⟩)
    (c18 : PySem.W.codeIn K cd18 "_law_kids" = true) (k18 : PySem.W.keepIn K (.ref f18) = true)
    {f19 : Addr} {od19 an19 : Option Addr} {sl19 : Array (Option Value)} {oc19 kV19 dc19 pm19 cd19 ct19 : Value}
    (a19 : PySem.W.nsIn K mainGlobals "_law_rows" = some (some (.ref f19)))
    (l19 : K.lookup f19 = some ⟨oc19, od19, .func (PySem.W.fnOf "_law_rows" "_law_rows" (defArgs sLRows) (defBody sLRows) (defScope sLRows) .none kV19 dc19 pm19 an19 cd19 ct19), sl19⟩)
    (c19 : PySem.W.codeIn K cd19 "_law_rows" = true) (k19 : PySem.W.keepIn K (.ref f19) = true)
    {f20 : Addr} {od20 an20 : Option Addr} {sl20 : Array (Option Value)} {oc20 kV20 dc20 pm20 cd20 ct20 : Value}
    (a20 : PySem.W.nsIn K mainGlobals "_law_webs" = some (some (.ref f20)))
    (l20 : K.lookup f20 = some ⟨oc20, od20, .func (PySem.W.fnOf "_law_webs" "_law_webs" (defArgs s_law_webs) (defBody s_law_webs) (defScope s_law_webs) .none kV20 dc20 pm20 an20 cd20 ct20), sl20⟩)
    (c20 : PySem.W.codeIn K cd20 "_law_webs" = true) (k20 : PySem.W.keepIn K (.ref f20) = true)
    {f21 : Addr} {od21 an21 : Option Addr} {sl21 : Array (Option Value)} {oc21 kV21 dc21 pm21 cd21 ct21 : Value}
    (a21 : PySem.W.nsIn K mainGlobals "_law_distance" = some (some (.ref f21)))
    (l21 : K.lookup f21 = some ⟨oc21, od21, .func (PySem.W.fnOf "_law_distance" "_law_distance" (defArgs s_law_distance) (defBody s_law_distance) (defScope s_law_distance) .none kV21 dc21 pm21 an21 cd21 ct21), sl21⟩)
    (c21 : PySem.W.codeIn K cd21 "_law_distance" = true) (k21 : PySem.W.keepIn K (.ref f21) = true)
    {f22 : Addr} {od22 an22 : Option Addr} {sl22 : Array (Option Value)} {oc22 kV22 dc22 pm22 cd22 ct22 : Value}
    (a22 : PySem.W.nsIn K mainGlobals "_law_apart" = some (some (.ref f22)))
    (l22 : K.lookup f22 = some ⟨oc22, od22, .func (PySem.W.fnOf "_law_apart" "_law_apart" (defArgs s_law_apart) (defBody s_law_apart) (defScope s_law_apart) .none kV22 dc22 pm22 an22 cd22 ct22), sl22⟩)
    (c22 : PySem.W.codeIn K cd22 "_law_apart" = true) (k22 : PySem.W.keepIn K (.ref f22) = true)
    {f23 : Addr} {od23 an23 : Option Addr} {sl23 : Array (Option Value)} {oc23 kV23 dc23 pm23 cd23 ct23 : Value}
    (a23 : PySem.W.nsIn K mainGlobals "law" = some (some (.ref f23)))
    (l23 : K.lookup f23 = some ⟨oc23, od23, .func (PySem.W.fnOf "law" "law" (defArgs sLaw) (defBody sLaw) (defScope sLaw) .none kV23 dc23 pm23 an23 cd23 ct23), sl23⟩)
    (c23 : PySem.W.codeIn K cd23 "law" = true) (k23 : PySem.W.keepIn K (.ref f23) = true)
    (z1 : PySem.W.nsIn K mainGlobals "list" = some none)
    (z2 : PySem.W.nsIn K mainGlobals "int" = some none)
    (z3 : PySem.W.nsIn K mainGlobals "abs" = some none)
    (z4 : PySem.W.nsIn K mainGlobals "len" = some none)
    (z5 : PySem.W.nsIn K mainGlobals "range" = some none)
    (z6 : PySem.W.nsIn K mainGlobals "min" = some none)
    (z7 : PySem.W.nsIn K mainGlobals "dict" = some none)
    (z8 : PySem.W.nsIn K mainGlobals "tuple" = some none)
    (z9 : PySem.W.nsIn K mainGlobals "sorted" = some none)
    (z10 : PySem.W.nsIn K mainGlobals "sum" = some none)
    (z11 : PySem.W.nsIn K mainGlobals "set" = some none)
    (z12 : PySem.W.nsIn K mainGlobals "repr" = some none)
    : ∃ fd : FuncData, (∀ (s : Shared) (u : Value), BindsTo s fd ⟨[u], []⟩ [("_law_script", u)]) ∧ ∀ base : Heap, K.In base → base.Ns mainGlobals mg → RunsG l.prog w K mg base fa fd "_law_script" (spLaw K) := by
  have e := hfa.symm.trans (PySem.W.mg_of X G a23)
  cases e
  have F1 := fun_mk (st := sRowsOf) l1 c1 k1
  have b1 := F1.binds (ps := ["web"]) fun _ _ _ _ _ _ us hl => match us, hl with | [_], _ => rfl
  have g1 := PySem.W.mg_of X G a1
  have F2 := fun_mk (st := sLeafRow) l2 c2 k2
  have b2 := F2.binds (ps := ["leaves", "leaf"]) fun _ _ _ _ _ _ us hl => match us, hl with | [_, _], _ => rfl
  have g2 := PySem.W.mg_of X G a2
  have F3 := fun_mk (st := sLot) l3 c3 k3
  have b3 := F3.binds (ps := ["web"]) fun _ _ _ _ _ _ us hl => match us, hl with | [_], _ => rfl
  have g3 := PySem.W.mg_of X G a3
  have F4 := fun_mk (st := s_check_leaves) l4 c4 k4
  have b4 := F4.binds (ps := ["one", "other"]) fun _ _ _ _ _ _ us hl => match us, hl with | [_, _], _ => rfl
  have g4 := PySem.W.mg_of X G a4
  have F5 := fun_mk (st := s_middle) l5 c5 k5
  have b5 := F5.binds (ps := ["some"]) fun _ _ _ _ _ _ us hl => match us, hl with | [_], _ => rfl
  have g5 := PySem.W.mg_of X G a5
  have F6 := fun_mk (st := s_apart) l6 c6 k6
  have b6 := F6.binds (ps := ["some"]) fun _ _ _ _ _ _ us hl => match us, hl with | [_], _ => rfl
  have g6 := PySem.W.mg_of X G a6
  have F7 := fun_mk (st := s_tallies) l7 c7 k7
  have b7 := F7.binds (ps := ["some"]) fun _ _ _ _ _ _ us hl => match us, hl with | [_], _ => rfl
  have g7 := PySem.W.mg_of X G a7
  have F8 := fun_mk (st := s_tally_of) l8 c8 k8
  have b8 := F8.binds (ps := ["value"]) fun _ _ _ _ _ _ us hl => match us, hl with | [_], _ => rfl
  have g8 := PySem.W.mg_of X G a8
  have F9 := fun_mk (st := s_far) l9 c9 k9
  have b9 := F9.binds (ps := ["one", "other"]) fun _ _ _ _ _ _ us hl => match us, hl with | [_, _], _ => rfl
  have g9 := PySem.W.mg_of X G a9
  have F10 := fun_mk (st := sDeck) l10 c10 k10
  have b10 := F10.binds (ps := ["_law_script"]) fun _ _ _ _ _ _ us hl => match us, hl with | [_], _ => rfl
  have g10 := PySem.W.mg_of X G a10
  have F11 := fun_mk (st := sDraw) l11 c11 k11
  have b11 := F11.binds (ps := ["_law_deck_here", "_law_many"]) fun _ _ _ _ _ _ us hl => match us, hl with | [_, _], _ => rfl
  have g11 := PySem.W.mg_of X G a11
  have F12 := fun_mk (st := sOne) l12 c12 k12
  have b12 := F12.binds (ps := ["_law_deck_here", "_law_items"]) fun _ _ _ _ _ _ us hl => match us, hl with | [_, _], _ => rfl
  have g12 := PySem.W.mg_of X G a12
  have F13 := fun_mk (st := sLTree) l13 c13 k13
  have b13 := F13.binds (ps := ["_law_deck_here", "_law_leaves"]) fun _ _ _ _ _ _ us hl => match us, hl with | [_, _], _ => rfl
  have g13 := PySem.W.mg_of X G a13
  have F14 := fun_mk (st := sUps) l14 c14 k14
  have b14 := F14.binds (ps := ["_law_kids_here", "_law_kind"]) fun _ _ _ _ _ _ us hl => match us, hl with | [_, _], _ => rfl
  have g14 := PySem.W.mg_of X G a14
  have F15 := fun_mk (st := sDown) l15 c15 k15
  have b15 := F15.binds (ps := ["_law_kids_here", "_law_kind"]) fun _ _ _ _ _ _ us hl => match us, hl with | [_, _], _ => rfl
  have g15 := PySem.W.mg_of X G a15
  have F16 := fun_mk (st := sLMix) l16 c16 k16
  have b16 := F16.binds (ps := ["_law_deck_here", "_law_kids_here"]) fun _ _ _ _ _ _ us hl => match us, hl with | [_, _], _ => rfl
  have g16 := PySem.W.mg_of X G a16
  have F17 := fun_mk (st := sNumb) l17 c17 k17
  have b17 := F17.binds (ps := ["_law_deck_here", "_law_kids_here", "_law_leaves"]) fun _ _ _ _ _ _ us hl => match us, hl with | [_, _, _], _ => rfl
  have g17 := PySem.W.mg_of X G a17
  have F18 := fun_mk (st := sLKids) l18 c18 k18
  have b18 := F18.binds (ps := ["_law_deck_here", "_law_leaves", "_law_mixes"]) fun _ _ _ _ _ _ us hl => match us, hl with | [_, _, _], _ => rfl
  have g18 := PySem.W.mg_of X G a18
  have F19 := fun_mk (st := sLRows) l19 c19 k19
  have b19 := F19.binds (ps := ["_law_web_here"]) fun _ _ _ _ _ _ us hl => match us, hl with | [_], _ => rfl
  have g19 := PySem.W.mg_of X G a19
  have F20 := fun_mk (st := s_law_webs) l20 c20 k20
  have b20 := F20.binds (ps := ["_law_deck_here", "_law_mixes"]) fun _ _ _ _ _ _ us hl => match us, hl with | [_, _], _ => rfl
  have g20 := PySem.W.mg_of X G a20
  have F21 := fun_mk (st := s_law_distance) l21 c21 k21
  have b21 := F21.binds (ps := ["_law_one_here", "_law_other"]) fun _ _ _ _ _ _ us hl => match us, hl with | [_, _], _ => rfl
  have g21 := PySem.W.mg_of X G a21
  have F22 := fun_mk (st := s_law_apart) l22 c22 k22
  have b22 := F22.binds (ps := ["_law_some"]) fun _ _ _ _ _ _ us hl => match us, hl with | [_], _ => rfl
  have g22 := PySem.W.mg_of X G a22
  have F23 := fun_mk (st := sLaw) l23 c23 k23
  have q_list := PySem.W.mg_none_of X G z1
  have q_int := PySem.W.mg_none_of X G z2
  have q_abs := PySem.W.mg_none_of X G z3
  have q_len := PySem.W.mg_none_of X G z4
  have q_range := PySem.W.mg_none_of X G z5
  have q_min := PySem.W.mg_none_of X G z6
  have q_dict := PySem.W.mg_none_of X G z7
  have q_tuple := PySem.W.mg_none_of X G z8
  have q_sorted := PySem.W.mg_none_of X G z9
  have q_sum := PySem.W.mg_none_of X G z10
  have q_set := PySem.W.mg_none_of X G z11
  have q_repr := PySem.W.mg_none_of X G z12
  refine ⟨PySem.W.fnOf "law" "law" (defArgs sLaw) (defBody sLaw) (defScope sLaw) .none kV23 dc23 pm23 an23 cd23 ct23, fun s v => .of_eq rfl, fun base _ _ => ?_⟩
  have G10 := ok_deck (P := l.prog) (w := w) (mg := mg) (base := base) F10 q_list
  have G11 := ok_draw (P := l.prog) (w := w) (mg := mg) (base := base) F11 q_int q_abs q_len
  have G12 := ok_one (P := l.prog) (w := w) (mg := mg) (base := base) F12 F11 b11 g11 q_len G11
  have G13 := ok_tree (P := l.prog) (w := w) (mg := mg) (base := base) F13 F11 b11 g11 F12 b12 g12 q_range q_list q_len q_min G11 G12
  have G14 := ok_ups (P := l.prog) (w := w) (mg := mg) (base := base) F14 q_range q_len
  have G15 := ok_down (P := l.prog) (w := w) (mg := mg) (base := base) F15
  have G16 := ok_mix (P := l.prog) (w := w) (mg := mg) (base := base) F16 F11 b11 g11 F12 b12 g12 F14 b14 g14 F15 b15 g15 q_range q_len G11 G12 G14 G15
  have G18 := ok_lkids (P := l.prog) (w := w) (mg := mg) (base := base) F18 F11 b11 g11 F13 b13 g13 F16 b16 g16 q_range q_len G11 G13 G16
  have G17 := ok_numb (P := l.prog) (w := w) (mg := mg) (base := base) F17 F12 b12 g12 q_range q_list q_len q_dict q_tuple q_sorted G12
  have G20 := ok_lwebs (P := l.prog) (w := w) (mg := mg) (base := base) F20 F11 b11 g11 F18 b18 g18 F16 b16 g16 F17 b17 g17 q_range q_list q_len q_tuple G11 G18 G16 G17
  have G19 := ok_lrowsX (P := l.prog) (w := w) (mg := mg) (base := base) F19 q_range q_tuple q_sum q_int
  have G21 := ok_ldist (P := l.prog) (w := w) (mg := mg) (base := base) F21 F19 b19 g19 q_sum q_abs q_sorted q_set G19
  have G22 := ok_lapt (P := l.prog) (w := w) (mg := mg) (base := base) F22 F21 b21 g21 q_range q_len G21
  have G4 := ok_check (P := l.prog) (w := w) (mg := mg) (base := base) F4
  have G2 := ok_leafrow (P := l.prog) (w := w) (mg := mg) (base := base) F2 q_range q_tuple
  have G1 := ok_rowsof (P := l.prog) (w := w) (mg := mg) (base := base) F1 F2 b2 g2 q_range q_tuple q_sum G2
  have G3 := ok_lotZ (P := l.prog) (w := w) (mg := mg) (base := base) F3 F1 b1 g1 q_tuple q_sorted G1
  have G8 := ok_tly (P := l.prog) (w := w) (mg := mg) (base := base) F8
  have G7 := ok_tlys (P := l.prog) (w := w) (mg := mg) (base := base) F7 F4 b4 g4 F3 b3 g3 F8 b8 g8 G4 G3 G8
  have G9 := ok_far (P := l.prog) (w := w) (mg := mg) (base := base) F9 q_sum q_abs
  have G5 := ok_mid (P := l.prog) (w := w) (mg := mg) (base := base) F5 F7 b7 g7 F9 b9 g9 q_sum q_min G7 G9
  have G6 := ok_apt (P := l.prog) (w := w) (mg := mg) (base := base) F6 F7 b7 g7 F9 b9 g9 q_range q_min q_len G7 G9
  exact runs_law F23 F10 b10 g10 F20 b20 g20 F21 b21 g21 F22 b22 g22 F5 b5 g5 F6 b6 g6 q_range q_repr q_sum q_min G10 G20 G21 G22 G5 G6
end WR
open PySem PySem.W PyProof.Rows
set_option maxHeartbeats 0 in
theorem PySem.Challenge.cw_wayrows_k77_webs_amid_others_holds : PySem.Challenge.rw_wayrows_k77_webs_amid_others.Holds := by
  w_on; o_law; k_head; (case hw => w_witness2)
  k_fill
  refine WR.walk_ofG (l := PySem.Challenge.rw_wayrows_k77_webs_amid_others) (n := 63) (x := "_law_script") (sp := WR.spLaw) rfl (by decide) rfl (fun w h Y => PySem.W.kIn_of Y) ?F (fun _ _ a ns hl _ hS => ⟨a, ns, rfl, hS, hl, fun _ => rfl⟩)
  case F =>
    intro w mg fa h KX G hmg
    refine' WR.all_mk KX G hmg ?a1 ?l1 ?c1 ?k1 ?a2 ?l2 ?c2 ?k2 ?a3 ?l3 ?c3 ?k3 ?a4 ?l4 ?c4 ?k4 ?a5 ?l5 ?c5 ?k5 ?a6 ?l6 ?c6 ?k6 ?a7 ?l7 ?c7 ?k7 ?a8 ?l8 ?c8 ?k8 ?a9 ?l9 ?c9 ?k9 ?a10 ?l10 ?c10 ?k10 ?a11 ?l11 ?c11 ?k11 ?a12 ?l12 ?c12 ?k12 ?a13 ?l13 ?c13 ?k13 ?a14 ?l14 ?c14 ?k14 ?a15 ?l15 ?c15 ?k15 ?a16 ?l16 ?c16 ?k16 ?a17 ?l17 ?c17 ?k17 ?a18 ?l18 ?c18 ?k18 ?a19 ?l19 ?c19 ?k19 ?a20 ?l20 ?c20 ?k20 ?a21 ?l21 ?c21 ?k21 ?a22 ?l22 ?c22 ?k22 ?a23 ?l23 ?c23 ?k23 ?z1 ?z2 ?z3 ?z4 ?z5 ?z6 ?z7 ?z8 ?z9 ?z10 ?z11 ?z12
    (case a1 => k_is)
    (case l1 => k_is)
    (case c1 => k_is)
    (case k1 => k_is)
    (case a2 => k_is)
    (case l2 => k_is)
    (case c2 => k_is)
    (case k2 => k_is)
    (case a3 => k_is)
    (case l3 => k_is)
    (case c3 => k_is)
    (case k3 => k_is)
    (case a4 => k_is)
    (case l4 => k_is)
    (case c4 => k_is)
    (case k4 => k_is)
    (case a5 => k_is)
    (case l5 => k_is)
    (case c5 => k_is)
    (case k5 => k_is)
    (case a6 => k_is)
    (case l6 => k_is)
    (case c6 => k_is)
    (case k6 => k_is)
    (case a7 => k_is)
    (case l7 => k_is)
    (case c7 => k_is)
    (case k7 => k_is)
    (case a8 => k_is)
    (case l8 => k_is)
    (case c8 => k_is)
    (case k8 => k_is)
    (case a9 => k_is)
    (case l9 => k_is)
    (case c9 => k_is)
    (case k9 => k_is)
    (case a10 => k_is)
    (case l10 => k_is)
    (case c10 => k_is)
    (case k10 => k_is)
    (case a11 => k_is)
    (case l11 => k_is)
    (case c11 => k_is)
    (case k11 => k_is)
    (case a12 => k_is)
    (case l12 => k_is)
    (case c12 => k_is)
    (case k12 => k_is)
    (case a13 => k_is)
    (case l13 => k_is)
    (case c13 => k_is)
    (case k13 => k_is)
    (case a14 => k_is)
    (case l14 => k_is)
    (case c14 => k_is)
    (case k14 => k_is)
    (case a15 => k_is)
    (case l15 => k_is)
    (case c15 => k_is)
    (case k15 => k_is)
    (case a16 => k_is)
    (case l16 => k_is)
    (case c16 => k_is)
    (case k16 => k_is)
    (case a17 => k_is)
    (case l17 => k_is)
    (case c17 => k_is)
    (case k17 => k_is)
    (case a18 => k_is)
    (case l18 => k_is)
    (case c18 => k_is)
    (case k18 => k_is)
    (case a19 => k_is)
    (case l19 => k_is)
    (case c19 => k_is)
    (case k19 => k_is)
    (case a20 => k_is)
    (case l20 => k_is)
    (case c20 => k_is)
    (case k20 => k_is)
    (case a21 => k_is)
    (case l21 => k_is)
    (case c21 => k_is)
    (case k21 => k_is)
    (case a22 => k_is)
    (case l22 => k_is)
    (case c22 => k_is)
    (case k22 => k_is)
    (case a23 => k_is)
    (case l23 => k_is)
    (case c23 => k_is)
    (case k23 => k_is)
    (case z1 => k_is)
    (case z2 => k_is)
    (case z3 => k_is)
    (case z4 => k_is)
    (case z5 => k_is)
    (case z6 => k_is)
    (case z7 => k_is)
    (case z8 => k_is)
    (case z9 => k_is)
    (case z10 => k_is)
    (case z11 => k_is)
    (case z12 => k_is)
