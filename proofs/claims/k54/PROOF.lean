import PyProof.Rows.All
import Wide.All
import OpenK.AllK
import Wide.FinOn
import HandS.ForMost
import HandS.IsInst
import PyProof.ReprRoads
import HandS.Evl
import HandS.Walk
import HandS.Conv
import HandS.TupAny
import HandS.Deep
import HandS.SortInts
import HandS.Dict
import HandS.More
import HandS.Style
import HandS.SetFor
import PyProof.ReprLen
import PyProof.FitsInt
import HandS.Iter
import HandS.Zip
import KE.DataCmp
import KE.SortData
import HandS.WordsList
import HandS.TupSets
import HandS.DictComp
import HandS.ExcInit
import HandS.ForExc
import HandS.WordsExc
import PyProof.EnumIter
import PyProof.EnumStmt
import PyProof.EnumMake
import PyProof.ListNew
import HandS.OwnIter
import HandS.ListItems
import PySem.Challenge.RW_wayrows_k54_links_struck
set_option Elab.async false
set_option linter.all false
set_option maxRecDepth 100000
/-! repr of data, and the law's own def run at the caller's own surroundings (where no repr is under way) -/
namespace WR
open PySem PySem.Spec PyProof.Rows L2

section
variable {X : Cx}
/-- repr(x), x a list or tuple of data -/
def rReprD (K : PySem.W.Frag) : List V → Hp → VK → Prop := fun xs H Q =>
  ∃ (a : Addr) (d : PyData), xs = [.ref a] ∧ Dp K H (.ref a) d ∧ d.showable = true ∧ d.hasDict = false ∧ d.shown.length ≤ sizeLine ∧ d.depth ≤ 40 ∧ Q (.str d.shown) H
theorem call_reprD (hg : X.A.guards = some []) (hu : X.A.units + 64 < cLine) : CallR X (.builtin "repr") (rReprD X.K) := by
  intro pins s σ H xs us Q I r h
  obtain ⟨a, d, rfl, hd, hs, hn, hz, hdp, q⟩ := h
  obtain ⟨u, rfl, rfl⟩ := vals1 r
  obtain ⟨as, rd⟩ := Dp.reads I d _ _ hd rfl
  refine repr_of_reads' rd hs (fun z => ?_) hg (by omega) (fun b o e => e) (fun h' t tk hk => ?_) hz
  · rw [hn] at z
    cases z
  · exact ⟨.str d.shown, H, I.kept hk, ⟨t, rfl⟩, q⟩
end
end WR
set_option Elab.async false
set_option linter.all false
set_option maxRecDepth 100000
/-! the law's own def, run at callerA alone: there nothing is being shown by repr, so repr may be called in it -/
namespace WR
open PySem PySem.Spec PyProof.Rows L2

/-- the promise of the law's own def, at the law's caller alone -/
def RunsG (P : Program) (w : World) (K : PySem.W.Frag) (mg : Str → Option Value) (base : Heap)
    (fa : Addr) (fd : FuncData) (x : Str) (sp : Sp) : Prop :=
  ∀ (s : Shared) (H : Hp) (u : Value) (v : V) (Q : VK), Env0 P w K mg base callerA [] s H →
    BindsTo s fd ⟨[u], []⟩ [(x, u)] → RelV v u → sp [v] H Q (fun _ _ _ => False) →
    codeAny (model P w) callerA (.call (.ref fa) ⟨[u], []⟩) (CR CX0 [] P w H s Q (fun _ _ _ => False)) s

section
variable {P : Program} {w : World} {K : PySem.W.Frag} {mg : Str → Option Value} {base : Heap}
theorem runsG_of {q : Str} {st : Stmt} {f : Addr} {fd : FuncData} {N : List Str} {x : Str} {k : Nat} {sp : Sp}
    (F : Fun K q q st f fd) (S : FnScope N [x] (defScope st)) (hk : Room (k + 1) callerA)
    (body : ∀ (cdv : Value) (s : Shared) (H : Hp) (v : V) (Q : VK),
      Room k (callerA.deeper (envOfC q (defScope st) s.heap.objs.size f cdv)) → sp [v] H Q (fun _ _ _ => False) →
      ∃ t, PSs (cxOf CX0 P w K mg base N q (defScope st) f cdv callerA [] s H (fun _ _ _ => False)).nox (defBody st) t ∧
        t { nx := fun _ H' => Q .non H', rt := Q } (start N [v]) H) :
    RunsG P w K mg base f fd x sp := by
  intro s H u v Q e0 hb rv hsp
  obtain ⟨oc, od, kV, doc, pm, an, cdv, ct, osl, rfl, lk, hcd⟩ := F.ex
  have inn : K.In s.heap :=
    e0.mod.kin.keeps fun b o e => (e0.bs b o e).1
  have nol : s.heap.NoLimit :=
    e0.mod.nolimit.keeps fun b o e => (e0.bs b o e).1
  have kinds : ∀ y ∈ [(x, u)], (defScope st).names.lookup y.1 = some .local ∨
      ((defScope st).names.lookup y.1 = some .cell ∧
        ((cellsFrom (s.heap.objs.size + 1) (defScope st).names []).lookup y.1).isSome = true) := by
    intro y hy
    rw [List.mem_singleton] at hy
    subst hy
    cases S.par x (List.mem_singleton.mpr rfl) with
    | inl z => exact .inl z
    | inr z => exact .inr ⟨z, PySem.W.cellsFrom_some _ _ _ (.inl z)⟩
  refine codeAny_call_function hk.depth (inn _ _ lk) rfl S.co S.gen rfl
    (PySem.W.codeRec_of inn hcd) (hb _ _ _ _ ?_)
  refine wpAny_newFunctionEnv_cells S.kind kinds fun env he s1 z => ?_
  subst he
  refine ⟨nol.keeps z.toInCall.keep, codeAny_func ?_⟩
  obtain ⟨t, ht, hq⟩ := body cdv s H v Q (hk.deeper _) hsp
  have J := inv_start (CX := CX0) (E := fun _ _ _ => False) (vs := [v]) (us := [u]) S hk.hd e0 rfl (.cons rv .nil) z
  refine wpAny_mono (ht.nox.run [] s1 (start N [v]) H _ J hq) (fun fl s' hs => ?_) (fun e s' hs => hs)
  cases fl with
  | ret u' =>
    obtain ⟨v', σ', H', I', r', q'⟩ := hs
    exact ⟨v', H', I'.os, I'.bare, I'.base, I'.hok, r', q'⟩
  | next =>
    obtain ⟨σ', H', I', q'⟩ := hs
    exact ⟨V.non, H', I'.os, I'.bare, I'.base, I'.hok, rfl, q'⟩
  | brk =>
    obtain ⟨_, _, _, no⟩ := hs
    exact no.elim
  | cont =>
    obtain ⟨_, _, _, no⟩ := hs
    exact no.elim
end

theorem law_callG {P : Program} {w : World} {K : PySem.W.Frag} {mg mb : Str → Option Value} {fa a : Addr}
    {fd : FuncData} {x : Str} {sp : Sp} {s₁ : Shared} {vs : List Value} {ns : List Int}
    (KX : K.In s₁.heap) (hns : s₁.heap.Ns mainGlobals mg) (hb : s₁.heap.Ns builtinsNs mb)
    (hbb : ∀ x : Str, x ≠ "__name__" → mb x = bootBuiltins x) (hlim : s₁.heap.NoLimit) (hg : s₁.gens = #[])
    (ha : s₁.heap.get? a = some { cls := .type "list", data := .seq vs.toArray }) (hi : IntsAre vs ns)
    (hl : ns.length ≤ sizeLine)
    (F : ∀ base : Heap, K.In base → base.Ns mainGlobals mg → RunsG P w K mg base fa fd x sp)
    (hbind : ∀ (s : Shared) (u : Value), BindsTo s fd ⟨[u], []⟩ [(x, u)])
    (hsp : ∀ H : Hp, Only H → SqL K H a (ns.map V.int) → sp [.ref a] H (fun v _ => v = .bl true) fun _ _ _ => False) :
    codeAny (model P w) callerA (.call (.ref fa) ⟨[.ref a], []⟩)
      (fun r s' => r = .ok (.ret (.bool true)) ∧ OldK s₁.heap s'.heap ∧ s'.os = s₁.os ∧ AllBare s'.gens) s₁ := by
  have main : ∀ H : Hp, Only H → SqL K H a (ns.map V.int) → HOk P w H s₁.heap →
      (∀ b, H b = none ∨ b = a) → (H a = none ∨ K.lookup a = none) →
      codeAny (model P w) callerA (.call (.ref fa) ⟨[.ref a], []⟩)
        (fun r s' => r = .ok (.ret (.bool true)) ∧ OldK s₁.heap s'.heap ∧ s'.os = s₁.os ∧ AllBare s'.gens) s₁ := by
    intro H hO hS hok hA hK
    have dictFree : ∀ {b : Addr} {o : Obj} {es : Array DictEntry} {ep : Nat},
        s₁.heap.get? b = some o → o.data = .dict es ep → H b = none := by
      intro b o es ep e d
      rcases hA b with n | rfl
      · exact n
      · rw [ha] at e
        cases e
        cases (show Data.seq vs.toArray _ = Data.dict es ep from d)
    have nsK : ∀ {b : Addr} {m : Str → Option Value}, s₁.heap.Ns b m → (hidT s₁.heap H).Ns b m :=
      fun {b m} ⟨o, es, ep, e, d, r⟩ => ⟨o, es, ep, hidT_get e (dictFree e d), d, r⟩
    have kinB : K.In (hidT s₁.heap H) := by
      intro b o e
      refine hidT_get (KX b o e) ?_
      rcases hA b with n | rfl
      · exact n
      · rcases hK with n | n
        · exact n
        · rw [n] at e
          cases e
    have modB : Mod K mg (hidT s₁.heap H) := by
      obtain ⟨mc, h1, h2⟩ := hlim
      exact ⟨kinB, nsK hns, ⟨mb, nsK hb, hbb⟩, ⟨mc, nsK h1, h2⟩⟩
    have env : Env0 P w K mg (hidT s₁.heap H) callerA [] s₁ H :=
      ⟨rfl, modB, fun b o e => of_hidT e, Nat.le_of_eq (hidT_size _ _), trivial, (fun b hb => by cases hb), hok, .of_eq hg⟩
    have run := F _ kinB (nsK hns) s₁ H (.ref a) (.ref a) (fun v _ => v = .bl true) env (hbind s₁ (.ref a)) rfl (hsp H hO hS)
    refine codeAny_mono run fun r s' h => ?_
    match r, h with
    | .error e, h => exact (show False from h).elim
    | .ok .next, h => exact (show False from h).elim
    | .ok .brk, h => exact (show False from h).elim
    | .ok .cont, h => exact (show False from h).elim
    | .ok (.ret u), h =>
      obtain ⟨v, H', os, bare, un, hok', rv, qv⟩ := h
      have qv' : v = .bl true := qv
      subst qv'
      have ru : u = Value.bool true := rv
      subst ru
      refine ⟨rfl, OldK.of_keep fun b o e => ?_, os, bare⟩
      rcases hO b with n | ⟨ob, ys, n⟩
      · exact un.keep b o e n (by intro z; cases z) (by simp)
      · obtain ⟨e1, _⟩ := hok b _ n
        obtain ⟨e2, _⟩ := hok' b _ (un.frzs b ob _ n)
        rw [e] at e1
        cases e1
        exact e2
  have rvs : Vals (ns.map V.int) vs := vals_ints hi
  have lenV : vs.length = ns.length := hi.length
  by_cases hk : ∃ o, K.lookup a = some o
  · obtain ⟨o, hk⟩ := hk
    have e := KX a o hk
    rw [ha] at e
    cases e
    refine main (fun _ => none) (fun _ => .inl rfl) (.inr ⟨_, vs.toArray, _, hk, rfl, rfl, rfl, ?_, by simpa using rvs⟩)
      (fun b u z => by cases (show (none : Option HO) = some u from z)) (fun b => .inl rfl) (.inl rfl)
    rw [List.size_toArray, lenV]
    exact hl
  · have hn : K.lookup a = none := by
      cases z : K.lookup a with
      | none => rfl
      | some o => exact absurd ⟨o, z⟩ hk
    let O : HO := .frz { cls := .type "list", data := .seq vs.toArray } (.lst (ns.map V.int))
    refine main (fun b => if b = a then some O else none) (fun b => ?_) (.inl (.inr ⟨_, if_pos rfl⟩)) (fun b u z => ?_)
      (fun b => ?_) (.inr hn)
    · by_cases hb : b = a
      · exact .inr ⟨_, _, if_pos hb⟩
      · exact .inl (if_neg hb)
    · by_cases hb : b = a
      · cases (if_pos hb).symm.trans z
        subst hb
        exact ⟨ha, by rw [List.length_map]; exact hl, vs, _, rvs, ha⟩
      · cases (if_neg hb).symm.trans z
    · by_cases hb : b = a
      · exact .inr hb
      · exact .inl (if_neg hb)

theorem walk_ofG {l : PySem.W.OpenLaw} {n : Nat} {q : Program} {loose : List Str}
    {XP : (Str → Option Value) → Heap → Prop} {YP : World → Heap → Prop} {d : DefRec}
    {K : Params → PySem.W.Frag} {sp : PySem.W.Frag → Sp} {x : Str}
    (hn : l.most = some n) (hn2 : n ≤ sizeLine) (hdf : d.params.defaults = [])
    (hY : ∀ (w : World) (h : Heap), YP w h → (K w.params).In h)
    (F : ∀ (w : World) (mg : Str → Option Value) (fa : Addr) (h : Heap), (K w.params).In h → h.Ns mainGlobals mg →
      mg d.name = some (.ref fa) →
      ∃ fd : FuncData, (∀ (s : Shared) (u : Value), BindsTo s fd ⟨[u], []⟩ [(x, u)]) ∧
        ∀ base : Heap, (K w.params).In base → base.Ns mainGlobals mg →
          RunsG l.prog w (K w.params) mg base fa fd x (sp (K w.params)))
    (hsp : ∀ (K : PySem.W.Frag) (H : Hp) (a : Addr) (ns : List Int), ns.length ≤ n → Only H →
      SqL K H a (ns.map V.int) → sp K [.ref a] H (fun v _ => v = .bl true) fun _ _ _ => False) :
    PySem.W.WalkO q loose XP YP l.row.toRowW d [] (fun f vs => PySem.call f vs) := by
  apply Att.attach_call hn hdf
  intro w s₀ s₁ mg mb fa o pm cd doc a vs ns G Y ho hd hcd hmg hobj hints hlen hg
  have KX := hY w _ Y
  obtain ⟨fd, hb, hF⟩ := F w mg fa _ KX G.T.g hmg
  exact law_callG KX G.T.g G.T.b G.T.builtins G.T.nolimit hg hobj hints (Nat.le_trans hlen hn2) hF hb
    (fun H hO hS => hsp _ H a ns hlen hO hS)
end WR
set_option Elab.async false
set_option linter.all false
set_option maxRecDepth 100000
set_option maxHeartbeats 1000000
/-! readings upon data: what evaluates to which datum, wherever the heap has grown -/
namespace WR
open PySem PySem.Spec PyProof.Rows L2 Evl

/-! ### data in a heap that grows -/
mutual
theorem dp_ex {K : PySem.W.Frag} {H H' : Hp} (e : Ex H H') : ∀ {v : V} (d : PyData), Dp K H v d → Dp K H' v d
  | _, .none, h => by cases h; exact .non
  | _, .bool _, h => by cases h; exact .bl _
  | _, .int _, h => by cases h; exact .int _
  | _, .str _, h => by cases h; exact .str _
  | _, .list ds, h => by
    cases h with
    | lst a b => exact .lst (ex_l e a) (dpAll_ex e ds b)
  | _, .tuple ds, h => by
    cases h with
    | tup a b => exact .tup (ex_t e a) (dpAll_ex e ds b)
  | _, .dict _, h => by cases h
theorem dpAll_ex {K : PySem.W.Frag} {H H' : Hp} (e : Ex H H') : ∀ {vs : List V} (ds : List PyData), DpAll K H vs ds → DpAll K H' vs ds
  | _, [], h => by cases h; exact .nil
  | _, d :: ds, h => by
    cases h with
    | cons a b => exact .cons (dp_ex e d a) (dpAll_ex e ds b)
end
section
variable {K : PySem.W.Frag} {H H' : Hp}
theorem dpAll_len : ∀ {vs : List V} {ds : List PyData}, DpAll K H vs ds → vs.length = ds.length
  | _, [], h => by cases h; rfl
  | _, _ :: _, h => by
    cases h with
    | cons a b => simp [dpAll_len b]
theorem dpAll_at : ∀ {vs : List V} {ds : List PyData} {i : Nat} {v : V}, DpAll K H vs ds → vs[i]? = some v → ∃ d, ds[i]? = some d ∧ Dp K H v d
  | _, [], _, _, h, e => by cases h; simp at e
  | _, _ :: _, 0, _, h, e => by
    cases h with
    | cons a b => exact ⟨_, rfl, by simp at e; rw [← e]; exact a⟩
  | _, _ :: _, i + 1, _, h, e => by
    cases h with
    | cons a b =>
      obtain ⟨d, h1, h2⟩ := dpAll_at (i := i) b (by simpa using e)
      exact ⟨d, by simpa using h1, h2⟩
theorem dpAll_at' : ∀ {vs : List V} {ds : List PyData} {i : Nat} {d : PyData}, DpAll K H vs ds → ds[i]? = some d → ∃ v, vs[i]? = some v ∧ Dp K H v d
  | _, [], _, _, h, e => by simp at e
  | _, _ :: _, 0, _, h, e => by
    cases h with
    | cons a b => exact ⟨_, rfl, by simp at e; rw [← e]; exact a⟩
  | _, _ :: _, i + 1, _, h, e => by
    cases h with
    | cons a b =>
      obtain ⟨v, h1, h2⟩ := dpAll_at' (i := i) b (by simpa using e)
      exact ⟨v, by simpa using h1, h2⟩
theorem dpAll_snoc : ∀ {vs : List V} {ds : List PyData} {v : V} {d : PyData}, DpAll K H vs ds → Dp K H v d → DpAll K H (vs ++ [v]) (ds ++ [d])
  | _, [], _, _, h, a => by cases h; exact .cons a .nil
  | _, _ :: _, _, _, h, a => by
    cases h with
    | cons b c => exact .cons b (dpAll_snoc c a)
theorem dpAll_app : ∀ {vs ws : List V} {ds es : List PyData}, DpAll K H vs ds → DpAll K H ws es → DpAll K H (vs ++ ws) (ds ++ es)
  | _, _, [], _, h, a => by cases h; exact a
  | _, _, _ :: _, _, h, a => by
    cases h with
    | cons b c => exact .cons b (dpAll_app c a)
theorem dpAll_drop : ∀ {vs : List V} {ds : List PyData} (n : Nat), DpAll K H vs ds → DpAll K H (vs.drop n) (ds.drop n)
  | _, _, 0, h => by simpa using h
  | _, [], n + 1, h => by cases h; exact .nil
  | _, _ :: _, n + 1, h => by
    cases h with
    | cons a b => exact dpAll_drop n b
theorem dpAll_take : ∀ {vs : List V} {ds : List PyData} (n : Nat), DpAll K H vs ds → DpAll K H (vs.take n) (ds.take n)
  | _, _, 0, h => .nil
  | _, [], n + 1, h => by cases h; exact .nil
  | _, _ :: _, n + 1, h => by
    cases h with
    | cons a b => exact .cons a (dpAll_take n b)
theorem dpAll_ints : ∀ (ns : List Int), DpAll K H (ns.map V.int) (ns.map PyData.int)
  | [] => .nil
  | _ :: ns => .cons (.int _) (dpAll_ints ns)
theorem dpAll_bls : ∀ (ns : List Bool), DpAll K H (ns.map V.bl) (ns.map PyData.bool)
  | [] => .nil
  | _ :: ns => .cons (.bl _) (dpAll_bls ns)
theorem ints_of : ∀ {vs : List V} {ns : List Int}, DpAll K H vs (ns.map PyData.int) → vs = ns.map V.int
  | _, [], h => by cases h; rfl
  | _, _ :: ns, h => by
    cases h with
    | cons a b => cases a; rw [ints_of b]; rfl
theorem bls_of : ∀ {vs : List V} {ns : List Bool}, DpAll K H vs (ns.map PyData.bool) → vs = ns.map V.bl
  | _, [], h => by cases h; rfl
  | _, _ :: ns, h => by
    cases h with
    | cons a b => cases a; rw [bls_of b]; rfl
theorem dp_tup {v : V} {ds : List PyData} (h : Dp K H v (.tuple ds)) : ∃ a xs, v = .ref a ∧ SqT K H a xs ∧ DpAll K H xs ds := by
  cases h with
  | tup a b => exact ⟨_, _, rfl, a, b⟩
theorem dp_lst {v : V} {ds : List PyData} (h : Dp K H v (.list ds)) : ∃ a xs, v = .ref a ∧ SqL K H a xs ∧ DpAll K H xs ds := by
  cases h with
  | lst a b => exact ⟨_, _, rfl, a, b⟩
theorem dp_int {v : V} {i : Int} (h : Dp K H v (.int i)) : v = .int i := by cases h; rfl
theorem dp_bl {v : V} {i : Bool} (h : Dp K H v (.bool i)) : v = .bl i := by cases h; rfl
theorem dp_non {v : V} (h : Dp K H v .none) : v = .non := by cases h; rfl
end

/-! data without lists and dicts within -/
mutual
def nl : PyData → Bool
  | .list _ => false
  | .dict _ => false
  | .tuple ds => nlAll ds
  | _ => true
def nlAll : List PyData → Bool
  | [] => true
  | d :: ds => nl d && nlAll ds
end
theorem nlAll_mem : ∀ {ds : List PyData}, (∀ d ∈ ds, nl d = true) → nlAll ds = true
  | [], _ => rfl
  | d :: ds, h => by
    show (nl d && nlAll ds) = true
    rw [h d (List.mem_cons_self ..), nlAll_mem fun x hx => h x (List.mem_cons_of_mem _ hx)]
    rfl
theorem ex_tL {K : PySem.W.Frag} {H : Hp} {a l : Addr} {xs ys zs : List V} (hl : H l = some (.lst ys)) (h : SqT K H a xs) : SqT K (upd H l (.lst zs)) a xs := by
  rcases h with (h | ⟨o, h⟩) | h
  · exact .inl (.inl (by rw [upd_ne (ne_of h hl (by intro z; cases z))]; exact h))
  · exact .inl (.inr ⟨o, by rw [upd_ne (ne_of h hl (by intro z; cases z))]; exact h⟩)
  · exact .inr h
mutual
/-- a list that changes changes no such datum -/
theorem dp_updL {K : PySem.W.Frag} {H : Hp} {l : Addr} {ys zs : List V} (hl : H l = some (.lst ys)) : ∀ {v : V} (d : PyData), nl d = true → Dp K H v d → Dp K (upd H l (.lst zs)) v d
  | _, .none, _, h => by cases h; exact .non
  | _, .bool _, _, h => by cases h; exact .bl _
  | _, .int _, _, h => by cases h; exact .int _
  | _, .str _, _, h => by cases h; exact .str _
  | _, .list ds, n, h => by cases n
  | _, .tuple ds, n, h => by
    cases h with
    | tup a b => exact .tup (ex_tL hl a) (dpAll_updL hl ds n b)
  | _, .dict _, _, h => by cases h
theorem dpAll_updL {K : PySem.W.Frag} {H : Hp} {l : Addr} {ys zs : List V} (hl : H l = some (.lst ys)) : ∀ {vs : List V} (ds : List PyData), nlAll ds = true → DpAll K H vs ds → DpAll K (upd H l (.lst zs)) vs ds
  | _, [], _, h => by cases h; exact .nil
  | _, d :: ds, n, h => by
    have n' : (nl d && nlAll ds) = true := n
    rw [Bool.and_eq_true] at n'
    cases h with
    | cons a b => exact .cons (dp_updL hl d n'.1 a) (dpAll_updL hl ds n'.2 b)
end

/-! ### what evaluates to which datum -/
def EvD (K : PySem.W.Frag) (te : TE) (σ : L2.St) (H : Hp) (d : PyData) : Prop := ∀ H1, Ex H H1 → ∀ Q : VK, (∀ v H2, Ex H1 H2 → Dp K H2 v d → Q v H2) → te σ H1 Q
def EvDA (K : PySem.W.Frag) (ta : TA) (σ : L2.St) (H : Hp) (ds : List PyData) : Prop := ∀ H1, Ex H H1 → ∀ Q : List V → Hp → Prop, (∀ vs H2, Ex H1 H2 → DpAll K H2 vs ds → Q vs H2) → ta σ H1 Q
/-- a new list of data -/
def EvN (K : PySem.W.Frag) (te : TE) (σ : L2.St) (H : Hp) (ds : List PyData) : Prop := ∀ H1, Ex H H1 → ∀ Q : VK, (∀ p xs H2, H1 p = none → Ex H1 H2 → H2 p = some (.lst xs) → DpAll K H2 xs ds → Q (.ref p) H2) → te σ H1 Q
/-- a promise: called with the data ds, it hands back the datum F ds -/
def spD (K : PySem.W.Frag) (F : List PyData → Option PyData) : Sp := fun vs H Q _ => ∃ ds r, DpAll K H vs ds ∧ F ds = some r ∧ ∀ v H', Ex H H' → Dp K H' v r → Q v H'

section
variable {K : PySem.W.Frag} {σ : L2.St} {H H' : Hp} {ta tb te tx : TE} {t u : TT} {x y z v : V} {r : R2} {d d1 d2 : PyData} {ds es : List PyData}
theorem EvD.mono (e : Ex H H') (h : EvD K te σ H d) : EvD K te σ H' d := fun H1 a Q q => h H1 (e.trans a) Q q
theorem EvN.mono (e : Ex H H') (h : EvN K te σ H ds) : EvN K te σ H' ds := fun H1 a Q q => h H1 (e.trans a) Q q
theorem EvDA.mono {ta : TA} (e : Ex H H') (h : EvDA K ta σ H ds) : EvDA K ta σ H' ds := fun H1 a Q q => h H1 (e.trans a) Q q
theorem ed_ev (h : Ev te σ H v) (hd : Dp K H v d) : EvD K te σ H d := fun H1 e Q q => h H1 e Q fun H2 e2 => q v H2 e2 (dp_ex (e.trans e2) d hd)
theorem ed_n (h : EvN K te σ H ds) : EvD K te σ H (.list ds) := fun H1 e Q q => h H1 e Q fun p xs H2 _ e2 hp hd => q _ H2 e2 (.lst (sq_of hp) hd)
theorem ev_i {i : Int} (h : EvD K te σ H (.int i)) : Ev te σ H (.int i) := fun H1 e Q q => h H1 e Q fun v H2 e2 hv => by
  cases dp_int hv
  exact q H2 e2
theorem ev_b {i : Bool} (h : EvD K te σ H (.bool i)) : Ev te σ H (.bl i) := fun H1 e Q q => h H1 e Q fun v H2 e2 hv => by
  cases dp_bl hv
  exact q H2 e2
theorem ed_i {i : Int} (h : Ev te σ H (.int i)) : EvD K te σ H (.int i) := ed_ev h (.int i)
theorem ed_b {i : Bool} (h : Ev te σ H (.bl i)) : EvD K te σ H (.bool i) := ed_ev h (.bl i)
theorem ed_var {i : Nat} (h : σ[i]? = some (some v)) (hd : Dp K H v d) : EvD K (tVar i) σ H d := ed_ev (ev_var h) hd
theorem ed_is (h : EvD K te σ H d) (e : d = d1) : EvD K te σ H d1 := by
  rw [← e]
  exact h
theorem eda_nil : EvDA K tNil σ H [] := fun H1 _ _ q => q [] H1 (Ex.refl H1) .nil
theorem eda_cons {tr : TA} (h : EvD K te σ H d) (hr : EvDA K tr σ H ds) : EvDA K (tCons te tr) σ H (d :: ds) := fun H1 e Q q =>
  h H1 e _ fun v H2 e2 hv => hr H2 (e.trans e2) _ fun vs H3 e3 hvs => q _ H3 (e2.trans e3) (.cons (dp_ex e3 d hv) hvs)
theorem ed_call {F : List PyData → Option PyData} {E : XK} {ta : TA} (h : EvDA K ta σ H ds) (hf : F ds = some d) : EvD K (tCall (spD K F) [] E ta) σ H d := fun H1 e Q q =>
  h H1 e _ fun vs H2 e2 hv => by
    rw [List.append_nil]
    exact ⟨ds, d, hv, hf, fun v H3 e3 hd => q v H3 (e2.trans e3) hd⟩
/-- an item of a tuple, of a list -/
theorem ed_ixT {n : Nat} {i : Int} (ha : EvD K ta σ H (.tuple ds)) (hb : EvD K tb σ H (.int i)) (hi : i = (n : Int)) (hx : ds[n]? = some d) : EvD K (tOp (rIxT K) ta tb) σ H d := fun H1 e Q q =>
  ha H1 e _ fun v H2 e2 hv => hb H2 (e.trans e2) _ fun w H3 e3 hw => by
    obtain ⟨a, xs, rfl, hs, hd⟩ := dp_tup (dp_ex e3 _ hv)
    cases dp_int hw
    obtain ⟨x, hx1, hx2⟩ := dpAll_at' hd hx
    subst hi
    exact ⟨a, xs, _, x, rfl, rfl, hs, atI_nat hx1, q x H3 (e2.trans e3) hx2⟩
theorem ed_ixL {n : Nat} {i : Int} (ha : EvD K ta σ H (.list ds)) (hb : EvD K tb σ H (.int i)) (hi : i = (n : Int)) (hx : ds[n]? = some d) : EvD K (tOp (rIxL K) ta tb) σ H d := fun H1 e Q q =>
  ha H1 e _ fun v H2 e2 hv => hb H2 (e.trans e2) _ fun w H3 e3 hw => by
    obtain ⟨a, xs, rfl, hs, hd⟩ := dp_lst (dp_ex e3 _ hv)
    cases dp_int hw
    obtain ⟨x, hx1, hx2⟩ := dpAll_at' hd hx
    subst hi
    exact ⟨a, xs, _, x, rfl, rfl, hs, atI_nat hx1, q x H3 (e2.trans e3) hx2⟩
/-- len -/
theorem ed_lenT (h : EvD K te σ H (.tuple ds)) : Ev (tCB (fun xs H Q => ∃ p ys, xs = [.ref p] ∧ (SqL K H p ys ∨ SqT K H p ys) ∧ Q (.int ys.length) H) (tCons te tNil)) σ H (.int (ds.length : Int)) := fun H1 e Q q =>
  h H1 e _ fun v H2 e2 hv => by
    obtain ⟨a, xs, rfl, hs, hd⟩ := dp_tup hv
    refine ⟨a, xs, rfl, .inr hs, ?_⟩
    rw [dpAll_len hd]
    exact q H2 e2
theorem ed_lenL (h : EvD K te σ H (.list ds)) : Ev (tCB (fun xs H Q => ∃ p ys, xs = [.ref p] ∧ (SqL K H p ys ∨ SqT K H p ys) ∧ Q (.int ys.length) H) (tCons te tNil)) σ H (.int (ds.length : Int)) := fun H1 e Q q =>
  h H1 e _ fun v H2 e2 hv => by
    obtain ⟨a, xs, rfl, hs, hd⟩ := dp_lst hv
    refine ⟨a, xs, rfl, .inl hs, ?_⟩
    rw [dpAll_len hd]
    exact q H2 e2
/-- tuple(list) -/
theorem ed_tupL (h : EvD K te σ H (.list ds)) : EvD K (tCB (fun xs H Q => ∃ p ys, xs = [.ref p] ∧ ((SqL K H p ys ∧ ∀ l, H l = none → Q (.ref l) (upd H l (.tup ys))) ∨ (SqT K H p ys ∧ Q (.ref p) H))) (tCons te tNil)) σ H (.tuple ds) := fun H1 e Q q =>
  h H1 e _ fun v H2 e2 hv => by
    obtain ⟨a, xs, rfl, hs, hd⟩ := dp_lst hv
    exact ⟨a, xs, rfl, .inl ⟨hs, fun l hl => q _ _ (e2.trans (Ex.new hl)) (.tup (st_of upd_same) (dpAll_ex (Ex.new hl) ds hd))⟩⟩
/-- a tuple written, a list written -/
theorem ed_tup {ta : TA} (h : EvDA K ta σ H ds) (hl : ds.length ≤ 100000) : EvD K (tTup ta) σ H (.tuple ds) := fun H1 e Q q =>
  h H1 e _ fun vs H2 e2 hv => ⟨sz_of (by rw [dpAll_len hv]; exact hl), fun p hp => q _ _ (e2.trans (Ex.new hp)) (.tup (st_of upd_same) (dpAll_ex (Ex.new hp) ds hv))⟩
theorem ed_lst {ta : TA} (h : EvDA K ta σ H ds) (hl : ds.length ≤ 100000) : EvN K (tLst ta) σ H ds := fun H1 e Q q =>
  h H1 e _ fun vs H2 e2 hv => ⟨sz_of (by rw [dpAll_len hv]; exact hl), fun p hp => q p vs _ (fresh_back e2 hp) (e2.trans (Ex.new hp)) upd_same (dpAll_ex (Ex.new hp) ds hv)⟩
/-- all(list of truths) -/
theorem ed_all {bs : List Bool} (h : EvD K te σ H (.list (bs.map PyData.bool))) : Ev (tCB (rAll K) (tCons te tNil)) σ H (.bl (bs.all id)) := fun H1 e Q q =>
  h H1 e _ fun v H2 e2 hv => by
    obtain ⟨a, xs, rfl, hs, hd⟩ := dp_lst hv
    rw [bls_of hd] at hs
    exact ⟨a, bs, rfl, hs, q H2 e2⟩
/-- tuple + tuple -/
theorem ed_cat (ha : EvD K ta σ H (.tuple ds)) (hb : EvD K tb σ H (.tuple es)) (hl : ds.length + es.length ≤ 100000) : EvD K (tOp (rCatA K) ta tb) σ H (.tuple (ds ++ es)) := fun H1 e Q q =>
  ha H1 e _ fun v H2 e2 hv => hb H2 (e.trans e2) _ fun w H3 e3 hw => by
    obtain ⟨a, xs, rfl, hs, hd⟩ := dp_tup (dp_ex e3 _ hv)
    obtain ⟨b, ys, rfl, ht, he⟩ := dp_tup hw
    refine ⟨a, b, xs, ys, rfl, rfl, hs, ht, sz_of (by rw [dpAll_len hd, dpAll_len he]; exact hl), fun z => ?_, fun _ z => ?_, fun _ _ p hp => ?_⟩
    · subst z
      have : ds = [] := by
        have := dpAll_len hd
        cases ds with
        | nil => rfl
        | cons _ _ => simp at this
      subst this
      exact q _ H3 (e2.trans e3) hw
    · subst z
      have : es = [] := by
        have := dpAll_len he
        cases es with
        | nil => rfl
        | cons _ _ => simp at this
      subst this
      exact q _ H3 (e2.trans e3) (by rw [List.append_nil]; exact .tup hs hd)
    · exact q _ _ ((e2.trans e3).trans (Ex.new hp)) (.tup (st_of upd_same) (dpAll_app (dpAll_ex (Ex.new hp) ds hd) (dpAll_ex (Ex.new hp) es he)))
end

/-! ### statements -/
section
variable {K : PySem.W.Frag} {σ : L2.St} {H H' : Hp} {ta tb te tx : TE} {t u : TT} {x y z v : V} {D : Ends} {tu tw tz : TS} {g : TG} {d d1 d2 : PyData} {ds : List PyData}
theorem s_retD (h : EvD K te σ H d) (k : ∀ v H1, Ex H H1 → Dp K H1 v d → D.rt v H1) : tRet te D σ H := h H (Ex.refl H) _ k
theorem s_asgD {i : Nat} (h : EvD K te σ H d) (k : ∀ v H1, Ex H H1 → Dp K H1 v d → D.nx (σ.set i (some v)) H1) : tAsg te (gName i) D σ H := h H (Ex.refl H) _ k
theorem q_asgD {i : Nat} (h : EvD K te σ H d) (k : ∀ v H1, Ex H H1 → Dp K H1 v d → tz D (σ.set i (some v)) H1) : tSeq (tAsg te (gName i)) tz D σ H := h H (Ex.refl H) _ k
theorem q_asgN {i : Nat} (h : EvN K te σ H ds) (k : ∀ p xs H1, H p = none → Ex H H1 → H1 p = some (.lst xs) → DpAll K H1 xs ds → tz D (σ.set i (some (.ref p))) H1) : tSeq (tAsg te (gName i)) tz D σ H := h H (Ex.refl H) _ k
theorem q_unp2 {i j : Nat} (h : EvD K te σ H (.tuple [d1, d2])) (k : ∀ v w H1, Ex H H1 → Dp K H1 v d1 → Dp K H1 w d2 → tz D ((σ.set i (some v)).set j (some w)) H1) :
    tSeq (tAsg te (gTup K 2 (gCons (gName i) (gCons (gName j) gNil)))) tz D σ H := h H (Ex.refl H) _ fun v H1 e hv => by
  obtain ⟨a, xs, rfl, hs, hd⟩ := dp_tup hv
  cases hd with
  | cons h1 hd =>
    cases hd with
    | cons h2 hd =>
      cases hd
      exact ⟨a, _, rfl, hs, rfl, _, _, rfl, _, _, rfl, rfl, k _ _ H1 e h1 h2⟩
end

/-! ### what a for, a comprehension walks -/
/-- wi gives the data ds, one by one; wherever the heap has grown from H (stable: G) -/
def Src (K : PySem.W.Frag) (wi : TI) (σ : L2.St) (H : Hp) (ds : List PyData) : Prop :=
  ∀ H1, Ex H H1 → ∀ R : It → Hp → Prop, (∀ J H2 (G : Hp → Prop), Ex H1 H2 → (∀ H', Ex H2 H' → G H') →
    Walk J ds.length G (fun i H x H' => H' = H ∧ ∃ d, ds[i]? = some d ∧ Dp K H x d) → R J H2) → wi σ H1 R
/-- the same where the walked object stood in H already -/
def SrcS (K : PySem.W.Frag) (wi : TI) (σ : L2.St) (H : Hp) (ds : List PyData) : Prop :=
  ∀ H1, Ex H H1 → ∀ R : It → Hp → Prop, (∀ J H2 (G : Hp → Prop), Ex H1 H2 → (∀ H', Ex H H' → G H') →
    Walk J ds.length G (fun i Hc x H' => H' = Hc ∧ ∃ d, ds[i]? = some d ∧ Dp K H x d) → R J H2) → wi σ H1 R
section
variable {K : PySem.W.Frag} {σ : L2.St} {H H' : Hp} {ta tb te tx tl : TE} {t u : TT} {x y z v : V} {D : Ends} {tu tw tz : TS} {g : TG} {d d1 d2 : PyData} {ds : List PyData} {wi : TI}
theorem SrcS.src (h : SrcS K wi σ H ds) : Src K wi σ H ds := fun H1 e R k => h H1 e R fun J H2 G e2 hg w =>
  k J H2 (fun H' => Ex H H') e2 (fun H' e3 => (e.trans e2).trans e3) (w.mono (fun H' e3 => hg H' e3) fun i Hc x H' _ e3 hy => ⟨hy.1, by
    obtain ⟨d, h1, h2⟩ := hy.2
    exact ⟨d, h1, dp_ex e3 _ h2⟩⟩)
theorem walk_sT {H0 : Hp} {a : Addr} {xs : List V} (hd : DpAll K H0 xs ds) : Walk (Itt K a) ds.length (fun H => SqT K H a xs) (fun i Hc x H' => H' = Hc ∧ ∃ d, ds[i]? = some d ∧ Dp K H0 x d) := by
  rw [← dpAll_len hd]
  exact (walk_tup (K := K) (a := a) (xs := xs)).mono (fun H h => h) fun i H x H' hi hg hy => ⟨hy.1, dpAll_at hd hy.2⟩
theorem walk_sL {H0 : Hp} {a : Addr} {xs : List V} (hd : DpAll K H0 xs ds) : Walk (Itl K a) ds.length (fun H => SqL K H a xs) (fun i Hc x H' => H' = Hc ∧ ∃ d, ds[i]? = some d ∧ Dp K H0 x d) := by
  rw [← dpAll_len hd]
  exact (walk_list (K := K) (a := a) (xs := xs)).mono (fun H h => h) fun i H x H' hi hg hy => ⟨hy.1, dpAll_at hd hy.2⟩
theorem Src.mono (e : Ex H H') (h : Src K wi σ H ds) : Src K wi σ H' ds := fun H1 a R k => h H1 (e.trans a) R k
theorem walk_dT {a : Addr} {xs : List V} (hn : xs.length = ds.length) : Walk (Itt K a) ds.length (fun H => SqT K H a xs ∧ DpAll K H xs ds) (fun i H x H' => H' = H ∧ ∃ d, ds[i]? = some d ∧ Dp K H x d) := by
  rw [← hn]
  refine (walk_tup (K := K) (a := a) (xs := xs)).mono (fun H h => h.1) (fun i H x H' hi hg hy => ⟨hy.1, ?_⟩)
  exact dpAll_at hg.2 hy.2
theorem walk_dL {a : Addr} {xs : List V} (hn : xs.length = ds.length) : Walk (Itl K a) ds.length (fun H => SqL K H a xs ∧ DpAll K H xs ds) (fun i H x H' => H' = H ∧ ∃ d, ds[i]? = some d ∧ Dp K H x d) := by
  rw [← hn]
  refine (walk_list (K := K) (a := a) (xs := xs)).mono (fun H h => h.1) (fun i H x H' hi hg hy => ⟨hy.1, ?_⟩)
  exact dpAll_at hg.2 hy.2
theorem src_T (h : EvD K tl σ H (.tuple ds)) : Src K (iTup K tl) σ H ds := fun H1 e R k => h H1 e _ fun v H2 e2 hv => by
  obtain ⟨a, xs, rfl, hs, hd⟩ := dp_tup hv
  exact ⟨a, rfl, ⟨xs, hs⟩, k _ H2 _ e2 (fun H' e3 => ⟨ex_t e3 hs, dpAll_ex e3 ds hd⟩) (walk_dT (dpAll_len hd))⟩
theorem src_L (h : EvD K tl σ H (.list ds)) : Src K (iList K tl) σ H ds := fun H1 e R k => h H1 e _ fun v H2 e2 hv => by
  obtain ⟨a, xs, rfl, hs, hd⟩ := dp_lst hv
  exact ⟨a, rfl, ⟨xs, hs⟩, k _ H2 _ e2 (fun H' e3 => ⟨ex_l e3 hs, dpAll_ex e3 ds hd⟩) (walk_dL (dpAll_len hd))⟩
theorem srcS_T (h : Ev tl σ H v) (hv : Dp K H v (.tuple ds)) : SrcS K (iTup K tl) σ H ds := fun H1 e R k => h H1 e _ fun H2 e2 => by
  obtain ⟨a, xs, rfl, hs, hd⟩ := dp_tup hv
  exact ⟨a, rfl, ⟨xs, ex_t (e.trans e2) hs⟩, k _ H2 _ e2 (fun H' e3 => ex_t e3 hs) (walk_sT hd)⟩
theorem srcS_L (h : Ev tl σ H v) (hv : Dp K H v (.list ds)) : SrcS K (iList K tl) σ H ds := fun H1 e R k => h H1 e _ fun H2 e2 => by
  obtain ⟨a, xs, rfl, hs, hd⟩ := dp_lst hv
  exact ⟨a, rfl, ⟨xs, ex_l (e.trans e2) hs⟩, k _ H2 _ e2 (fun H' e3 => ex_l e3 hs) (walk_sL hd)⟩
/-- the ints of a range -/
def rngD (lo : Int) (n : Nat) : List PyData := (List.range n).map fun (k : Nat) => PyData.int (lo + (k : Int))
theorem rngD_len {lo : Int} {n : Nat} : (rngD lo n).length = n := by unfold rngD; rw [List.length_map, List.length_range]
theorem rngD_at {lo : Int} {n i : Nat} (h : i < n) : (rngD lo n)[i]? = some (.int (lo + (i : Int))) := by unfold rngD; rw [List.getElem?_map, List.getElem?_range h]; rfl
theorem walk_dR {H0 : Hp} {lo : Int} {n : Nat} : Walk (Itr lo n) (rngD lo n).length (fun _ => True) (fun i Hc x H' => H' = Hc ∧ ∃ d, (rngD lo n)[i]? = some d ∧ Dp K H0 x d) := by
  rw [rngD_len]
  refine (walk_range (lo := lo) (n := n)).mono (fun H h => h) (fun i H x H' hi hg hy => ⟨hy.1, _, rngD_at hi, ?_⟩)
  rw [hy.2]
  exact .int _
theorem srcS_R1 {ta : TA} {n : Int} (h : EvA ta σ H [.int n]) (h1 : -100000000 ≤ n ∧ n ≤ 100000000) : SrcS K (iRng1 ta) σ H (rngD 0 n.toNat) := fun H1 e R k => h H1 e _ fun H2 e2 =>
  ⟨n, rfl, by omega, by omega, k _ H2 _ e2 (fun _ _ => trivial) walk_dR⟩
theorem srcS_R2 {ta : TA} {lo n : Int} (h : EvA ta σ H [.int lo, .int n]) (h1 : -100000000 ≤ n ∧ n ≤ 100000000 ∧ -100000000 ≤ lo ∧ lo ≤ 100000000) : SrcS K (iRng2 ta) σ H (rngD lo (n - lo).toNat) := fun H1 e R k => h H1 e _ fun H2 e2 =>
  ⟨lo, n, rfl, ⟨by omega, by omega, by omega, by omega⟩, k _ H2 _ e2 (fun _ _ => trivial) walk_dR⟩

/-! ### loops -/
theorem q_forS {H0 : Hp} {j : Nat} (e0 : Ex H0 H) (h : SrcS K wi σ H0 ds) (Pv : Nat → L2.St → Hp → Prop) (h0 : ∀ H1, Ex H H1 → Pv 0 σ H1) (hG : ∀ i σ' H', Pv i σ' H' → Ex H0 H')
    (hs : ∀ i d x σ' H', ds[i]? = some d → Dp K H0 x d → Pv i σ' H' → tu { D with nx := Pv (i + 1), ct := Pv (i + 1), bk := tz D } (σ'.set j (some x)) H') (hd : ∀ σ' H', Pv ds.length σ' H' → tz D σ' H') :
    tSeq (tFor wi (gName j) tu) tz D σ H := h H e0 _ fun J H2 G e2 hg w =>
  for_it w (D := { D with nx := tz D }) Pv (h0 H2 e2) (fun i σ' H' _ p => hg H' (hG i σ' H' p)) (fun i x σ' Hc H' hi p hy => by
    obtain ⟨rfl, d, h1, h2⟩ := hy
    exact hs i d x σ' H' h1 h2 p) hd
theorem s_forS {H0 : Hp} {j : Nat} (e0 : Ex H0 H) (h : SrcS K wi σ H0 ds) (Pv : Nat → L2.St → Hp → Prop) (h0 : ∀ H1, Ex H H1 → Pv 0 σ H1) (hG : ∀ i σ' H', Pv i σ' H' → Ex H0 H')
    (hs : ∀ i d x σ' H', ds[i]? = some d → Dp K H0 x d → Pv i σ' H' → tu { D with nx := Pv (i + 1), ct := Pv (i + 1), bk := D.nx } (σ'.set j (some x)) H') (hd : ∀ σ' H', Pv ds.length σ' H' → D.nx σ' H') :
    tFor wi (gName j) tu D σ H := h H e0 _ fun J H2 G e2 hg w =>
  for_it w (D := D) Pv (h0 H2 e2) (fun i σ' H' _ p => hg H' (hG i σ' H' p)) (fun i x σ' Hc H' hi p hy => by
    obtain ⟨rfl, d, h1, h2⟩ := hy
    exact hs i d x σ' H' h1 h2 p) hd
/-- over what may be new: the heap H2 behind its making -/
theorem q_forD {j : Nat} (h : Src K wi σ H ds) (Pv : Hp → Nat → L2.St → Hp → Prop) (h0 : ∀ H1, Ex H H1 → Pv H1 0 σ H1) (hG : ∀ H2 i σ' H', Pv H2 i σ' H' → Ex H2 H')
    (hs : ∀ H2 i d x σ' H', Ex H H2 → ds[i]? = some d → Dp K H' x d → Pv H2 i σ' H' → tu { D with nx := Pv H2 (i + 1), ct := Pv H2 (i + 1), bk := tz D } (σ'.set j (some x)) H') (hd : ∀ H2 σ' H', Ex H H2 → Pv H2 ds.length σ' H' → tz D σ' H') :
    tSeq (tFor wi (gName j) tu) tz D σ H := h H (Ex.refl H) _ fun J H2 G e2 hg w =>
  for_it w (D := { D with nx := tz D }) (Pv H2) (h0 H2 e2) (fun i σ' H' _ p => hg H' (hG H2 i σ' H' p)) (fun i x σ' Hc H' hi p hy => by
    obtain ⟨rfl, d, h1, h2⟩ := hy
    exact hs H2 i d x σ' H' e2 h1 h2 p) fun σ' H' p => hd H2 σ' H' e2 p
/-- for k in range(..): if c(k): return r(k) -/
theorem q_find {j : Nat} {lo : Int} {n : Nat} (h : SrcS K wi σ H (rngD lo n)) (b : Nat → Bool)
    (ht : ∀ k H1, k < n → Ex H H1 → EvT t (σ.set j (some (.int (lo + (k : Int))))) H1 (b k))
    (hr : ∀ k H1 D', k < n → b k = true → (∀ i, i < k → b i = false) → Ex H H1 → D'.rt = D.rt → tu D' (σ.set j (some (.int (lo + (k : Int))))) H1)
    (hd : (∀ k, k < n → b k = false) → ∀ σ' H1, Ex H H1 → (σ' = σ ∨ ∃ x, σ' = σ.set j (some x)) → tz D σ' H1) :
    tSeq (tFor wi (gName j) (tIfS t tu tNext)) tz D σ H := by
  refine q_forS (Ex.refl H) h (fun i σ' H' => Ex H H' ∧ (∀ k, k < i → b k = false) ∧ (σ' = σ ∨ ∃ x, σ' = σ.set j (some x))) (fun H1 e => ⟨e, fun k hk => by omega, .inl rfl⟩) (fun i σ' H' p => p.1) (fun i d x σ' H' hi hx p => ?_) fun σ' H' p => hd (fun k hk => p.2.1 k (by rw [rngD_len]; exact hk)) σ' H' p.1 p.2.2
  have hin : i < n := by
    have q := (List.getElem?_eq_some_iff.mp hi).1
    rw [rngD_len] at q
    exact q
  rw [rngD_at hin] at hi
  cases hi
  cases dp_int hx
  obtain ⟨e, hb, hσ⟩ := p
  have es : σ'.set j (some (.int (lo + (i : Int)))) = σ.set j (some (.int (lo + (i : Int)))) := by
    rcases hσ with rfl | ⟨x, rfl⟩
    · rfl
    · rw [List.set_set]
  rw [es]
  refine s_if (ht i H' hin e) (fun hbi H1 e1 => hr i H1 _ hin hbi hb (e.trans e1) rfl) fun hbi H1 e1 => ?_
  exact ⟨e.trans e1, fun k hk => by
    rcases Nat.lt_succ_iff_lt_or_eq.mp hk with z | z
    · exact hb k z
    · rw [z]
      exact hbi, .inr ⟨_, rfl⟩⟩

/-! ### comprehensions: the data that f gives -/
theorem en_lc {j : Nat} {vs : List Nat} (f : PyData → Option PyData) (h : Src K wi σ H ds) (hz : ds.length ≤ 40000) (hw : ∀ x, wipe ((wipe σ vs).set j (some x)) vs = wipe σ vs)
    (ht : ∀ d v H1, Ex H H1 → d ∈ ds → Dp K H1 v d → EvT t ((wipe σ vs).set j (some v)) H1 (f d).isSome)
    (he : ∀ d r v H1, Ex H H1 → d ∈ ds → Dp K H1 v d → f d = some r → EvD K te ((wipe σ vs).set j (some v)) H1 r) (hn : ∀ d r, d ∈ ds → f d = some r → nl r = true) :
    EvN K (tLc wi (gName j) t te vs) σ H (ds.filterMap f) := fun H1 e Q q => h H1 e _ fun J H2 G e2 hg w Dl hD => by
  refine lc_it w (fun i H' => Ex H2 H' ∧ ∃ acc, H' Dl = some (.lst acc) ∧ DpAll K H' acc ((ds.take i).filterMap f)) ⟨Ex.new hD, [], upd_same, by simpa using DpAll.nil⟩ (fun i H' _ p => hg H' p.1) (fun i x H' H'' hi p hy => ?_) (fun H' p => ?_)
  · obtain ⟨rfl, d, hd, hx⟩ := hy
    obtain ⟨p1, acc, p2, p3⟩ := p
    have e3 : Ex H H'' := (e.trans e2).trans p1
    have hm : d ∈ ds := List.mem_of_getElem? hd
    have htk : ds.take (i + 1) = ds.take i ++ [d] := by rw [List.take_add_one, hd]; rfl
    refine ⟨hw x, ht d x H'' e3 hm hx H'' (Ex.refl _) _ fun H3 e4 => ?_⟩
    have hle : acc.length ≤ ds.length := by
      rw [dpAll_len p3]
      exact Nat.le_trans (List.length_filterMap_le _ _) (by rw [List.length_take]; omega)
    cases hf : f d with
    | none =>
      show Ex H2 H3 ∧ _
      refine ⟨p1.trans e4, acc, e4 _ _ p2, ?_⟩
      rw [htk, List.filterMap_append, List.filterMap_cons, hf]
      simpa using dpAll_ex e4 _ p3
    | some r =>
      show te _ H3 _
      refine he d r x H'' e3 hm hx hf H3 e4 _ fun y H4 e5 hyr => ⟨acc, e5 _ _ (e4 _ _ p2), sz_lt (by omega), Ex.mut ((p1.trans e4).trans e5) hD, _, upd_same, ?_⟩
      rw [htk, List.filterMap_append, List.filterMap_cons, hf]
      have hall : nlAll ((ds.take i).filterMap f) = true := nlAll_mem fun r' hr' => by
        obtain ⟨d', h1, h2⟩ := List.mem_filterMap.mp hr'
        exact hn d' r' (List.mem_of_mem_take h1) h2
      exact dpAll_snoc (dpAll_updL (e5 _ _ (e4 _ _ p2)) _ hall (dpAll_ex (e4.trans e5) _ p3)) (dp_updL (e5 _ _ (e4 _ _ p2)) _ (hn d r hm hf) hyr)
  · obtain ⟨p1, acc, p2, p3⟩ := p
    rw [List.take_length] at p3
    exact q Dl acc H' (fresh_back e2 hD) (e2.trans p1) p2 p3
end
end WR
set_option Elab.async false
set_option linter.all false
set_option maxRecDepth 100000
set_option maxHeartbeats 1000000
namespace WR
open PySem PySem.Spec PyProof.Rows L2 Evl
/-! ### isinstance upon data -/
def tyName : PyData → String
  | .none => "NoneType"
  | .bool _ => "bool"
  | .int _ => "int"
  | .str _ => "str"
  | .list _ => "list"
  | .tuple _ => "tuple"
  | .dict _ => "dict"
theorem tyx_of {K : PySem.W.Frag} {H : Hp} {v : V} {d : PyData} (h : Dp K H v d) : TyX K H v (.type (tyName d)) := by
  cases h with
  | non => exact .base .non
  | bl b => exact .base (.bl b)
  | int i => exact .base (.int i)
  | str x => exact .base (.str x)
  | lst a b =>
    rcases a with (a | ⟨o, a⟩) | ⟨o, its, n, a, c, _⟩
    · exact .base (.lst a)
    · exact .base (.frz a)
    · exact .kList a c
  | tup a b =>
    rcases a with (a | ⟨o, a⟩) | ⟨o, its, n, a, c, _⟩
    · exact .base (.tup a)
    · exact .fTuple a
    · exact .kTuple a c
theorem ev_isi {K : PySem.W.Frag} {σ : L2.St} {H : Hp} {te : TE} {d : PyData} {T : String} {b : Bool} (h : EvD K te σ H d) (hk : kitB (tyName d) T = some b) :
    Ev (tCB (rIsi K) (tCons te (tCons (tC (.ty T)) tNil))) σ H (.bl b) := fun H1 e Q q =>
  h H1 e _ fun v H2 e2 hv => ⟨v, .ty T, _, _, b, rfl, .ty T, tyx_of hv, kit_ty hk, q H2 e2⟩
def isTup : PyData → Bool | .tuple _ => true | _ => false
def isInt : PyData → Bool | .int _ => true | _ => false
def isIntB : PyData → Bool | .int _ => true | .bool _ => true | _ => false
def isBool : PyData → Bool | .bool _ => true | _ => false
theorem kit_tup (d : PyData) : kitB (tyName d) "tuple" = some (isTup d) := by cases d <;> (simp only [tyName, isTup]; decide +kernel)
theorem kit_int (d : PyData) : kitB (tyName d) "int" = some (isIntB d) := by cases d <;> (simp only [tyName, isIntB]; decide +kernel)
theorem kit_bool (d : PyData) : kitB (tyName d) "bool" = some (isBool d) := by cases d <;> (simp only [tyName, isBool]; decide +kernel)

theorem ev_chain {K : PySem.W.Frag} {σ : L2.St} {H : Hp} {ta tb tc : TE} {a i b : Int} {p1 p2 : Int → Int → Bool} (ha : EvD K ta σ H (.int a)) (hb : EvD K tb σ H (.int i)) (hc : EvD K tc σ H (.int b)) :
    Ev (tChain (rI0 fun i j => .bl (p1 i j)) (rI0 fun i j => .bl (p2 i j)) ta tb tc) σ H (.bl (p1 a i && p2 i b)) := fun H1 e Q q =>
  ha H1 e _ fun v H2 e2 hv => hb H2 (e.trans e2) _ fun w H3 e3 hw => by
    cases dp_int hv
    cases dp_int hw
    refine ⟨a, i, rfl, rfl, _, rfl, ?_⟩
    cases h : p1 a i with
    | false =>
      rw [h] at q
      exact q H3 (e2.trans e3)
    | true =>
      rw [h] at q
      show tc σ H3 _
      refine hc H3 ((e.trans e2).trans e3) _ fun x H4 e4 hx => ?_
      cases dp_int hx
      exact ⟨i, b, rfl, rfl, q H4 ((e2.trans e3).trans e4)⟩
theorem spD_len {K : PySem.W.Frag} {F : List PyData → Option PyData} {n : Nat} (hF : ∀ ds r, F ds = some r → ds.length = n) {vs : List V} {H : Hp} {Q : VK} {E : XK} (h : spD K F vs H Q E) : vs.length = n := by
  obtain ⟨ds, r, hd, hf, _⟩ := h
  rw [dpAll_len hd]
  exact hF ds r hf
theorem dpAll_1 {K : PySem.W.Frag} {H : Hp} {vs : List V} {d : PyData} (h : DpAll K H vs [d]) : ∃ v, vs = [v] ∧ Dp K H v d := by
  cases h with
  | cons a b => cases b; exact ⟨_, rfl, a⟩
theorem dpAll_2 {K : PySem.W.Frag} {H : Hp} {vs : List V} {d e : PyData} (h : DpAll K H vs [d, e]) : ∃ v w, vs = [v, w] ∧ Dp K H v d ∧ Dp K H w e := by
  cases h with
  | cons a b =>
    obtain ⟨w, rfl, c⟩ := dpAll_1 b
    exact ⟨_, w, rfl, a, c⟩
theorem dpAll_3 {K : PySem.W.Frag} {H : Hp} {vs : List V} {d e f : PyData} (h : DpAll K H vs [d, e, f]) : ∃ v w x, vs = [v, w, x] ∧ Dp K H v d ∧ Dp K H w e ∧ Dp K H x f := by
  cases h with
  | cons a b =>
    obtain ⟨w, x, rfl, c⟩ := dpAll_2 b
    exact ⟨_, w, x, rfl, a, c⟩
/-- functions upon data, by their number of arguments -/
def f1 (g : PyData → Option PyData) : List PyData → Option PyData | [a] => g a | _ => none
def f2 (g : PyData → PyData → Option PyData) : List PyData → Option PyData | [a, b] => g a b | _ => none
def f3 (g : PyData → PyData → PyData → Option PyData) : List PyData → Option PyData | [a, b, c] => g a b c | _ => none
theorem f1_len {g : PyData → Option PyData} : ∀ ds r, f1 g ds = some r → ds.length = 1
  | [_], _, _ => rfl
theorem f2_len {g : PyData → PyData → Option PyData} : ∀ ds r, f2 g ds = some r → ds.length = 2
  | [_, _], _, _ => rfl
theorem f3_len {g : PyData → PyData → PyData → Option PyData} : ∀ ds r, f3 g ds = some r → ds.length = 3
  | [_, _, _], _, _ => rfl
theorem sp1 {K : PySem.W.Frag} {g : PyData → Option PyData} {vs : List V} {H : Hp} {Q : VK} {E : XK} (h : spD K (f1 g) vs H Q E) :
    ∃ v d r, vs = [v] ∧ Dp K H v d ∧ g d = some r ∧ ∀ v H', Ex H H' → Dp K H' v r → Q v H' := by
  obtain ⟨ds, r, hd, hf, q⟩ := h
  match ds, hf with
  | [d], hf =>
    obtain ⟨v, rfl, hv⟩ := dpAll_1 hd
    exact ⟨v, d, r, rfl, hv, hf, q⟩
theorem sp2 {K : PySem.W.Frag} {g : PyData → PyData → Option PyData} {vs : List V} {H : Hp} {Q : VK} {E : XK} (h : spD K (f2 g) vs H Q E) :
    ∃ v w d e r, vs = [v, w] ∧ Dp K H v d ∧ Dp K H w e ∧ g d e = some r ∧ ∀ v H', Ex H H' → Dp K H' v r → Q v H' := by
  obtain ⟨ds, r, hd, hf, q⟩ := h
  match ds, hf with
  | [d, e], hf =>
    obtain ⟨v, w, rfl, hv, hw⟩ := dpAll_2 hd
    exact ⟨v, w, d, e, r, rfl, hv, hw, hf, q⟩
theorem sp3 {K : PySem.W.Frag} {g : PyData → PyData → PyData → Option PyData} {vs : List V} {H : Hp} {Q : VK} {E : XK} (h : spD K (f3 g) vs H Q E) :
    ∃ v w x d e f r, vs = [v, w, x] ∧ Dp K H v d ∧ Dp K H w e ∧ Dp K H x f ∧ g d e f = some r ∧ ∀ v H', Ex H H' → Dp K H' v r → Q v H' := by
  obtain ⟨ds, r, hd, hf, q⟩ := h
  match ds, hf with
  | [d, e, f], hf =>
    obtain ⟨v, w, x, rfl, hv, hw, hx⟩ := dpAll_3 hd
    exact ⟨v, w, x, d, e, f, r, rfl, hv, hw, hx, hf, q⟩

theorem fm_map {α β : Type} {f : α → Option β} {g : α → β} : ∀ {l : List α}, (∀ x ∈ l, f x = some (g x)) → l.filterMap f = l.map g
  | [], _ => rfl
  | x :: l, h => by
    rw [List.filterMap_cons, h x (List.mem_cons_self ..), List.map_cons]
    show g x :: _ = _
    rw [fm_map fun y hy => h y (List.mem_cons_of_mem _ hy)]
end WR
set_option Elab.async false
set_option linter.all false
namespace WR
open PySem
def topS (i : Nat) : Stmt := PySem.Challenge.pw_wayrows_k54_links_struck.main.body.getD i (.Pass ⟨0, 0, 0, 0⟩)
abbrev s_WebError : Stmt := topS 1
abbrev s_NoLink : Stmt := topS 2
abbrev sIsInt : Stmt := topS 4
abbrev sBetw : Stmt := topS 5
abbrev sRoot : Stmt := topS 7
abbrev sKids : Stmt := topS 8
abbrev sPar : Stmt := topS 9
abbrev sIsMix : Stmt := topS 10
abbrev sRowsOf : Stmt := topS 12
abbrev sLeafRow : Stmt := topS 13
abbrev s_form : Stmt := topS 15
abbrev s_in_row_order : Stmt := topS 16
abbrev s_with_numbers : Stmt := topS 17
abbrev s_draft_of : Stmt := topS 19
abbrev s_web_of_draft : Stmt := topS 20
abbrev s_upward : Stmt := topS 21
abbrev s_struck : Stmt := topS 22
abbrev s_is_link : Stmt := topS 23
abbrev s_thin_kind : Stmt := topS 24
abbrev s_put_for_child : Stmt := topS 25
abbrev sDeck : Stmt := topS 27
abbrev sDraw : Stmt := topS 28
abbrev sOne : Stmt := topS 29
abbrev sLTree : Stmt := topS 30
abbrev sUps : Stmt := topS 31
abbrev sDown : Stmt := topS 32
abbrev sLMix : Stmt := topS 33
abbrev sNumb : Stmt := topS 34
abbrev sLKids : Stmt := topS 35
abbrev sLWeb : Stmt := topS 36
abbrev sLists : Stmt := topS 37
abbrev s_law_mixed : Stmt := topS 38
abbrev s_law_opened : Stmt := topS 39
abbrev s_law_uppers : Stmt := topS 40
abbrev s_law_row : Stmt := topS 41
abbrev s_law_form : Stmt := topS 42
abbrev s_law_struck : Stmt := topS 43
abbrev s_law_links : Stmt := topS 44
abbrev sLaw : Stmt := topS 45
end WR
set_option Elab.async false
set_option linter.all false
set_option maxRecDepth 100000
set_option maxHeartbeats 1000000
namespace WR
open PySem PySem.Spec PyProof.Rows L2 Evl
/-! ### the deck: an object that each draw changes -/
def rem (H : Hp) (p : Addr) : Hp := fun q => if q = p then none else H q
theorem rem_self {H : Hp} {p : Addr} : rem H p p = none := if_pos rfl
theorem rem_ne {H : Hp} {p q : Addr} (h : q ≠ p) : rem H p q = H q := if_neg h
theorem rem_ex {H : Hp} {p : Addr} : Ex (rem H p) H := fun a o h => by
  by_cases e : a = p
  · rw [e, rem_self] at h
    cases h
  · rwa [rem_ne e] at h
theorem rem_mono {H H' : Hp} {p : Addr} (e : Ex H H') : Ex (rem H p) (rem H' p) := fun a o h => by
  by_cases z : a = p
  · rw [z, rem_self] at h
    cases h
  · rw [rem_ne z] at h ⊢
    exact e a o h
/-- what is behind a change of p is behind a second one -/
theorem rem_trans {H H1 H2 : Hp} {p : Addr} (a : Ex (rem H p) H1) (b : Ex (rem H1 p) H2) : Ex (rem H p) H2 := fun q o h => by
  have n : q ≠ p := fun z => by
    rw [z, rem_self] at h
    cases h
  exact b q o (by rw [rem_ne n]; exact a q o h)
def DkO (L : Addr) (a b n : Int) : HO := .lst [.ref L, .int a, .int b, .int n]
structure DkAt (H : Hp) (p L : Addr) (ns : List Int) (a b n : Int) : Prop where
  at_ : H p = some (DkO L a b n)
  ls : H L = some (.lst (ns.map V.int))
  a0 : 0 ≤ a
  b0 : 0 ≤ b
  n0 : 0 ≤ n
  len : ns.length ≤ 63
def Dk (H : Hp) (p L : Addr) (ns : List Int) (N : Int) : Prop := ∃ a b n, DkAt H p L ns a b n ∧ n ≤ N
theorem DkAt.ne {H : Hp} {p L : Addr} {ns : List Int} {a b n : Int} (h : DkAt H p L ns a b n) : L ≠ p := by
  intro z
  have h1 := h.at_
  have h2 := h.ls
  rw [z, h1] at h2
  have h3 : [V.ref L, .int a, .int b, .int n] = ns.map V.int := HO.lst.inj (Option.some.inj h2)
  cases ns with
  | nil => cases h3
  | cons x r => cases h3
theorem DkAt.ex {H H' : Hp} {p L : Addr} {ns : List Int} {a b n : Int} (h : DkAt H p L ns a b n) (e : Ex H H') : DkAt H' p L ns a b n :=
  ⟨e _ _ h.at_, e _ _ h.ls, h.a0, h.b0, h.n0, h.len⟩
theorem DkAt.upd {H : Hp} {p L : Addr} {ns : List Int} {a b n a' b' n' : Int} (h : DkAt H p L ns a b n) (ha : 0 ≤ a') (hb : 0 ≤ b') (hn : 0 ≤ n') : DkAt (upd H p (DkO L a' b' n')) p L ns a' b' n' :=
  ⟨upd_same, by rw [upd_ne h.ne]; exact h.ls, ha, hb, hn, h.len⟩
theorem Dk.ex {H H' : Hp} {p L : Addr} {ns : List Int} {N : Int} (h : Dk H p L ns N) (e : Ex H H') : Dk H' p L ns N := by
  obtain ⟨a, b, n, d, hn⟩ := h
  exact ⟨a, b, n, d.ex e, hn⟩
theorem ex_upd {H B : Hp} {p : Addr} {o : HO} (e : Ex B H) (h : B p = none) : Ex B (upd H p o) := Ex.mut e h

/-- a draw below m: some number, the deck one draw on -/
def spDraw : Sp := fun vs H Q _ => ∃ p L ns m N, vs = [.ref p, .int m] ∧ Dk H p L ns N ∧ N ≤ 1000000000 ∧ 1 ≤ m ∧ m ≤ 1000000000 ∧
  ∀ r H', 0 ≤ r → r < m → Ex (rem H p) H' → Dk H' p L ns (N + 1) → Q (.int r) H'
theorem spDraw_len {vs : List V} {H : Hp} {Q : VK} {E : XK} (h : spDraw vs H Q E) : vs.length = 2 := by
  obtain ⟨p, L, ns, m, N, rfl, _⟩ := h
  rfl

abbrev nDraw : List Str := ["_law_deck_here", "_law_many", "_law_found", "_law_cell", "_law_mixed_here"]
theorem scDraw : FnScope nDraw ["_law_deck_here", "_law_many"] (defScope sDraw) := ⟨rfl, rfl, rfl, by decide +kernel, rfl, by decide +kernel, by decide +kernel⟩
theorem ev_int {σ : L2.St} {H : Hp} {te : TE} {i : Int} (h : Ev te σ H (.int i)) : Ev (tCB (fun xs H Q => (∃ i, xs = [.int i] ∧ Q (.int i) H) ∨ ∃ k, xs = [.bl k] ∧ Q (.int (if k then 1 else 0)) H) (tCons te tNil)) σ H (.int i) :=
  ev_cb (ea_cons h ea_nil) fun H1 _ Q q => .inl ⟨i, rfl, q H1 (Ex.refl H1)⟩
theorem ev_abs {σ : L2.St} {H : Hp} {te : TE} {i : Int} (h : Ev te σ H (.int i)) : Ev (tCB (fun xs H Q => ∃ i, xs = [.int i] ∧ Q (.int (if i < 0 then -i else i)) H) (tCons te tNil)) σ H (.int (if i < 0 then -i else i)) :=
  ev_cb (ea_cons h ea_nil) fun H1 _ Q q => ⟨i, rfl, q H1 (Ex.refl H1)⟩
theorem eqv_ints_nil : ∀ ns : List Int, PyData.eqv (.list (ns.map PyData.int)) (.list []) = ns.isEmpty
  | [] => by simp [PyData.eqv, PyData.eqvAll]
  | _ :: _ => by simp [PyData.eqv, PyData.eqvAll]
theorem lay_ints : ∀ ns : List Int, PyData.canLayAll0 (ns.map PyData.int) = true ∧ PyData.depthAll (ns.map PyData.int) = 0
  | [] => by simp [PyData.canLayAll0, PyData.depthAll]
  | n :: ns => by
    have ih := lay_ints ns
    simp only [List.map_cons, PyData.canLayAll0, PyData.canLay0, PyData.depthAll, PyData.depth, ih.1, ih.2]
    decide
theorem shaped_ints (ns : List Int) : SeqAt.shaped (.list (ns.map PyData.int)) = true := by
  have q := lay_ints ns
  show (PyData.canLay0 _ && decide (PyData.depth _ ≤ 64)) = true
  simp only [PyData.canLay0, PyData.depth, q.1, q.2]
  decide
section
variable {P : Program} {w : World} {K : PySem.W.Frag} {mg : Str → Option Value} {base : Heap}
theorem ok_draw {f : Addr} {fd : FuncData} (F : Fun K "_law_draw" "_law_draw" sDraw f fd) (m1 : mg "int" = none) (m2 : mg "abs" = none) (m3 : mg "len" = none) :
    FnOk P w K mg base CX0 1 f fd ["_law_deck_here", "_law_many"] spDraw := by
  refine F.ok scDraw (fun vs H Q E h => spDraw_len h) (fun cdv A outer s H vs Q E hr h => ?_)
  obtain ⟨p, L, ns, m, N, rfl, hdk, hN, hm1, hm2, q⟩ := h
  refine ⟨_, pss_cons (ps_asg (pe_op op_add (pe_ix ix_list (pv 0) pe_int (fun _ _ => rfl)) pe_int) (pg_sub (pv 0) pe_int set_list))
    (pss_cons (ps_if (pt_cmpR op_gt (pe_ix ix_list (pv 0) pe_int (fun _ _ => rfl)) pe_int (nomark _))
      (pss_cons (ps_set (i := 2) scDraw.nd rfl (.inl rfl) (pe_op op_mod (pe_callTy call_int1 (by rfl) m1 (by decide +kernel) (pa_cons (pe_ix ix_list (pv 0) pe_int (fun _ _ => rfl)) pa_nil)) (pv 1)))
      (pss_cons (ps_asg (pe_op op_fdiv (pe_ix ix_list (pv 0) pe_int (fun _ _ => rfl)) (pv 1)) (pg_sub (pv 0) pe_int set_list))
      (pss_one (ps_ret (pv 2))))) pss_nil)
    (pss_cons (ps_set (i := 3) scDraw.nd rfl (.inl rfl) pe_int)
    (pss_cons (ps_if (pt_cmpR (op_neD (by have := hr.units; exact this)) (pe_ix ix_list (pv 0) pe_int (fun _ _ => rfl)) (pe_lst pa_nil) (nomark _))
      (pss_one (ps_set (i := 3) scDraw.nd rfl (.inl rfl) (pe_ix ix_list (pe_ix ix_list (pv 0) pe_int (fun _ _ => rfl)) (pe_op op_mod (pe_callTy call_int1 (by rfl) m1 (by decide +kernel) (pa_cons (pe_ix ix_list (pv 0) pe_int (fun _ _ => rfl)) pa_nil)) (pe_callB call_len_seq (by rfl) m3 PySem.boot_len (pa_cons (pe_ix ix_list (pv 0) pe_int (fun _ _ => rfl)) pa_nil))) (fun _ _ => rfl)))) pss_nil)
    (pss_cons (ps_asg (pe_op op_add (pe_ix ix_list (pv 0) pe_int (fun _ _ => rfl)) pe_int) (pg_sub (pv 0) pe_int set_list))
    (pss_cons (ps_if (pw_and (pt_cmpR op_ge (pe_callB call_abs (by rfl) m2 (by decide +kernel) (pa_cons (pv 3) pa_nil)) (pe_op op_pow pe_int pe_int) (nomark _))
        (pw_and1 (pt_cmpR op_le (pe_ix ix_list (pv 0) pe_int (fun _ _ => rfl)) (pe_callB call_len_seq (by rfl) m3 PySem.boot_len (pa_cons (pe_ix ix_list (pv 0) pe_int (fun _ _ => rfl)) pa_nil)) (nomark _)))).pt
      (pss_cons (ps_asg (pe_op op_fdiv (pe_callB call_abs (by rfl) m2 (by decide +kernel) (pa_cons (pv 3) pa_nil)) (pv 1)) (pg_sub (pv 0) pe_int set_list))
      (pss_one (ps_ret (pe_op op_mod (pe_callTy call_int1 (by rfl) m1 (by decide +kernel) (pa_cons (pe_callB call_abs (by rfl) m2 (by decide +kernel) (pa_cons (pv 3) pa_nil)) pa_nil)) (pv 1))))) pss_nil)
    (pss_cons (ps_set (i := 4) scDraw.nd rfl (.inl rfl) (pe_op op_mod (pe_op op_pow (pe_callTy call_int1 (by rfl) m1 (by decide +kernel) (pa_cons (pe_op op_add (pe_op op_mod (pe_callTy call_int1 (by rfl) m1 (by decide +kernel) (pa_cons (pv 3) pa_nil)) pe_int)
        (pe_op op_mul pe_int (pe_ix ix_list (pv 0) pe_int (fun _ _ => rfl)))) pa_nil)) pe_int) pe_int))
    (pss_cons (ps_set (i := 4) scDraw.nd rfl (.inl rfl) (pe_op op_mod (pe_op op_pow (pe_callTy call_int1 (by rfl) m1 (by decide +kernel) (pa_cons (pe_op op_add (pe_op op_mul (pv 4) (pe_op op_add (pe_op op_mul pe_int (pe_ix ix_list (pv 0) pe_int (fun _ _ => rfl))) pe_int)) pe_int) pa_nil)) pe_int) pe_int))
    (pss_one (ps_ret (pe_op op_mod (pe_op op_fdiv (pv 4) pe_int) (pv 1))))))))))), ?_⟩
  obtain ⟨a, b, n, d, hnN⟩ := hdk
  have hB : rem H p p = none := rem_self
  have g0 : ∀ {σ' : L2.St} {H' : Hp} {a b n : Int}, σ'[0]? = some (some (.ref p)) → DkAt H' p L ns a b n → Ev (tOp (rIxL K) (tVar 0) (tC (.int 0))) σ' H' (.ref L) := fun hs d => ev_op (ev_var hs) ev_c (rv_ixL (sq_of d.at_) rfl)
  have g1 : ∀ {σ' : L2.St} {H' : Hp} {a b n : Int}, σ'[0]? = some (some (.ref p)) → DkAt H' p L ns a b n → Ev (tOp (rIxL K) (tVar 0) (tC (.int 1))) σ' H' (.int a) := fun hs d => ev_op (ev_var hs) ev_c (rv_ixL (sq_of d.at_) rfl)
  have g2 : ∀ {σ' : L2.St} {H' : Hp} {a b n : Int}, σ'[0]? = some (some (.ref p)) → DkAt H' p L ns a b n → Ev (tOp (rIxL K) (tVar 0) (tC (.int 2))) σ' H' (.int b) := fun hs d => ev_op (ev_var hs) ev_c (rv_ixL (sq_of d.at_) rfl)
  have g3 : ∀ {σ' : L2.St} {H' : Hp} {a b n : Int}, σ'[0]? = some (some (.ref p)) → DkAt H' p L ns a b n → Ev (tOp (rIxL K) (tVar 0) (tC (.int 3))) σ' H' (.int n) := fun hs d => ev_op (ev_var hs) ev_c (rv_ixL (sq_of d.at_) rfl)
  have gl : ∀ {σ' : L2.St} {H' : Hp} {a b n : Int}, σ'[0]? = some (some (.ref p)) → DkAt H' p L ns a b n → Ev (tCB (fun xs H Q => ∃ p ys, xs = [.ref p] ∧ (SqL K H p ys ∨ SqT K H p ys) ∧ Q (.int ys.length) H) (tCons (tOp (rIxL K) (tVar 0) (tC (.int 0))) tNil)) σ' H' (.int (ns.length : Int)) := fun hs d =>
    ev_is (ev_len (K := K) (g0 hs d) (sq_of d.ls)) (by rw [List.length_map])
  have hm : (0 : Int) < m := by omega
  have cdiv : ∀ i, CDiv i m := fun i => ⟨hm, by omega⟩
  have n0 := d.n0
  -- the draw is counted
  refine q_setL (j := 3) (v := .int (n + 1)) d.at_ (ev_op (g3 rfl d) ev_c rv_I0) (ev_var rfl) ev_c (show 3 < 4 by decide) fun H1 e1 => ?_
  have d1 : DkAt (upd H1 p (DkO L a b (n + 1))) p L ns a b (n + 1) := (d.ex e1).upd d.a0 d.b0 (by omega)
  have x1 : Ex (rem H p) (upd H1 p (DkO L a b (n + 1))) := ex_upd (rem_ex.trans e1) hB
  show tSeq _ _ _ _ (upd H1 p (DkO L a b (n + 1)))
  generalize upd H1 p (DkO L a b (n + 1)) = H1 at d1 x1 ⊢
  -- what is left of a great one
  refine q_when (b := decide (0 < b)) (et_test (ev_op (g2 rfl d1) ev_c rv_I0)) (fun _ H2 e2 => ?_) fun _ H2 e2 => ?_
  · have d2 := d1.ex e2
    refine q_asg (v := .int (b % m)) (ev_op (ev_int (g2 rfl d2)) (ev_var rfl) (rv_I hm)) fun H3 e3 => ?_
    have d3 := d2.ex e3
    refine q_setL (j := 2) (v := .int (b / m)) d3.at_ (ev_op (g2 rfl d3) (ev_var rfl) (rv_I (cdiv b))) (ev_var rfl) ev_c (show 2 < 4 by decide) fun H4 e4 => ?_
    have d4 : DkAt (upd H4 p (DkO L a (b / m) (n + 1))) p L ns a (b / m) (n + 1) := (d3.ex e4).upd d.a0 (Int.ediv_nonneg d.b0 (by omega)) (by omega)
    refine s_ret (v := .int (b % m)) (ev_var rfl) fun H5 e5 => ?_
    refine q _ H5 (Int.emod_nonneg _ (by omega)) (Int.emod_lt_of_pos _ hm) ((ex_upd (((x1.trans e2).trans e3).trans e4) hB).trans e5) ?_
    exact ⟨_, _, _, d4.ex e5, by omega⟩
  have d2 := d1.ex e2
  have x2 := x1.trans e2
  refine q_asg (v := .int 61) ev_c fun H3 e3 => ?_
  have d3 := d2.ex e3
  have x3 := x2.trans e3
  have hlen : ∀ H', DkAt H' p L ns a b (n + 1) → SqL K H' L (ns.map V.int) := fun H' d => sq_of d.ls
  refine q_ifAsg (b := !ns.isEmpty) (v := .int (if ns.isEmpty then 61 else ns.getD (a % (ns.length : Int)).toNat 0)) ?_ (fun hb => ?_) (fun hb => ?_) fun H4 e4 => ?_
  · refine et_test (ev_opL (x := .ref L) (xs := []) (g0 rfl d3) (el_lst ea_nil (by simp)) fun q' H5 h5 e5 => ?_)
    intro H6 e6 Q' q6
    refine ⟨.list (ns.map PyData.int), .list [], .lst (sq_of ((d3.ex (e5.trans e6)).ls)) (dpAll_ints ns), .lst (sq_of (e6 _ _ h5)) .nil, shaped_ints ns, shaped_ints [], ?_⟩
    rw [eqv_ints_nil]
    exact q6 H6 (Ex.refl H6)
  · have hne : ns ≠ [] := by
      intro z
      rw [z] at hb
      cases hb
    have hpos : 0 < ns.length := by
      cases ns with
      | nil => exact absurd rfl hne
      | cons _ _ => simp
    have hie : ns.isEmpty = false := by simpa using hne
    have hr0 : 0 ≤ a % (ns.length : Int) := Int.emod_nonneg _ (by omega)
    have hr1 : a % (ns.length : Int) < (ns.length : Int) := Int.emod_lt_of_pos _ (by omega)
    rw [hie]
    refine ev_op (x := .ref L) (y := .int (a % (ns.length : Int))) (g0 rfl d3) (ev_op (ev_int (g1 rfl d3)) (gl rfl d3) (rv_I (by omega))) (rv_ixL (K := K) (sq_of d3.ls) ?_)
    obtain ⟨k, hk⟩ : ∃ k : Nat, a % (ns.length : Int) = (k : Int) := ⟨_, (Int.toNat_of_nonneg hr0).symm⟩
    rw [hk]
    refine atI_nat ?_
    have hkl : k < ns.length := by omega
    rw [Int.toNat_natCast, List.getElem?_map, List.getD_eq_getElem?_getD, List.getElem?_eq_getElem hkl]
    rfl
  · have hie : ns.isEmpty = true := by simpa using hb
    rw [hie]
    rfl
  generalize (if ns.isEmpty = true then (61 : Int) else ns.getD (a % (ns.length : Int)).toNat 0) = cell
  have d4 := d3.ex e4
  have x4 := x3.trans e4
  refine q_setL (j := 1) (v := .int (a + 1)) d4.at_ (ev_op (g1 rfl d4) ev_c rv_I0) (ev_var rfl) ev_c (show 1 < 4 by decide) fun H5 e5 => ?_
  have a0 := d.a0
  have d5 : DkAt (upd H5 p (DkO L (a + 1) b (n + 1))) p L ns (a + 1) b (n + 1) := (d4.ex e5).upd (by omega) d.b0 (by omega)
  have x5 : Ex (rem H p) (upd H5 p (DkO L (a + 1) b (n + 1))) := ex_upd (x4.trans e5) hB
  show tSeq _ _ _ _ (upd H5 p (DkO L (a + 1) b (n + 1)))
  generalize upd H5 p (DkO L (a + 1) b (n + 1)) = H5 at d5 x5 ⊢
  refine q_when (b := decide ((10 : Int) ^ (18 : Int).toNat ≤ (if cell < 0 then -cell else cell)) && decide (a + 1 ≤ (ns.length : Int))) ?_ (fun _ H6 e6 => ?_) fun _ H6 e6 => ?_
  · refine et_and (et_test (ev_op (ev_abs (ev_var rfl)) (ev_op ev_c ev_c (rv_I ⟨by decide, by decide, by decide⟩)) rv_I0)) fun _ => et_test (ev_op (g1 rfl d5) (gl rfl d5) rv_I0)
  · have d6 := d5.ex e6
    have hab : 0 ≤ (if cell < 0 then -cell else cell) := by split <;> omega
    refine q_setL (j := 2) (v := .int ((if cell < 0 then -cell else cell) / m)) d6.at_ (ev_op (ev_abs (ev_var rfl)) (ev_var rfl) (rv_I (cdiv _))) (ev_var rfl) ev_c (show 2 < 4 by decide) fun H7 e7 => ?_
    have d7 : DkAt (upd H7 p (DkO L (a + 1) ((if cell < 0 then -cell else cell) / m) (n + 1))) p L ns (a + 1) ((if cell < 0 then -cell else cell) / m) (n + 1) := (d6.ex e7).upd (by omega) (Int.ediv_nonneg hab (by omega)) (by omega)
    refine s_ret (v := .int ((if cell < 0 then -cell else cell) % m)) (ev_op (ev_int (ev_abs (ev_var rfl))) (ev_var rfl) (rv_I hm)) fun H8 e8 => ?_
    refine q _ H8 (Int.emod_nonneg _ (by omega)) (Int.emod_lt_of_pos _ hm) ((ex_upd ((x5.trans e6).trans e7) hB).trans e8) ?_
    exact ⟨_, _, _, d7.ex e8, by omega⟩
  have d6 := d5.ex e6
  have x6 := x5.trans e6
  have c1 : 0 ≤ cell % 2147483587 := Int.emod_nonneg _ (by decide)
  have c2 : cell % 2147483587 < 2147483587 := Int.emod_lt_of_pos _ (by decide)
  refine q_asg (v := .int ((cell % 2147483587 + 67867979 * (n + 1)) ^ (5 : Int).toNat % 2147483647)) (ev_op (ev_op (ev_int (ev_op (ev_op (ev_int (ev_var rfl)) ev_c (rv_I (by decide))) (ev_op ev_c (g3 rfl d6) (rv_I (.inl ⟨by decide, by decide⟩))) rv_I0)) ev_c (rv_I ⟨by decide, by decide, by omega⟩)) ev_c (rv_I (by decide))) fun H7 e7 => ?_
  have m1 : 0 ≤ (cell % 2147483587 + 67867979 * (n + 1)) ^ (5 : Int).toNat % 2147483647 := Int.emod_nonneg _ (by decide)
  have m2 : (cell % 2147483587 + 67867979 * (n + 1)) ^ (5 : Int).toNat % 2147483647 < 2147483647 := Int.emod_lt_of_pos _ (by decide)
  generalize (cell % 2147483587 + 67867979 * (n + 1)) ^ (5 : Int).toNat % 2147483647 = mixed at m1 m2 ⊢
  have d7 := d6.ex e7
  have x7 := x6.trans e7
  have hmul : mixed * (2 * (n + 1) + 9) < 2147483647 * (2 * (n + 1) + 9) := Int.mul_lt_mul_of_pos_right m2 (by omega)
  have hmul0 : 0 ≤ mixed * (2 * (n + 1) + 9) := Int.mul_nonneg m1 (by omega)
  refine q_asg (v := .int ((mixed * (2 * (n + 1) + 9) + 7019) ^ (3 : Int).toNat % 2147483579)) (ev_op (ev_op (ev_int (ev_op (ev_op (ev_var rfl) (ev_op (ev_op ev_c (g3 rfl d7) (rv_I (.inl ⟨by decide, by decide⟩))) ev_c rv_I0) (rv_I (.inl ⟨by omega, by omega⟩))) ev_c rv_I0)) ev_c (rv_I ⟨by decide, by decide, by omega⟩)) ev_c (rv_I (by decide))) fun H8 e8 => ?_
  generalize (mixed * (2 * (n + 1) + 9) + 7019) ^ (3 : Int).toNat % 2147483579 = mixed2
  refine s_ret (v := .int (mixed2 / 16 % m)) (ev_op (ev_op (ev_var rfl) ev_c (rv_I ⟨by decide, by decide⟩)) (ev_var rfl) (rv_I hm)) fun H9 e9 => ?_
  refine q _ H9 (Int.emod_nonneg _ (by omega)) (Int.emod_lt_of_pos _ hm) ((x7.trans e8).trans e9) ?_
  exact ⟨_, _, _, (d7.ex e8).ex e9, by omega⟩
end
end WR
-- auto
set_option Elab.async false
set_option linter.all false
set_option maxRecDepth 100000
set_option maxHeartbeats 1000000
namespace WR
open PySem PySem.Spec PyProof.Rows L2 Evl
section
variable {prog : Program} {w : World} {A : Around} {E : Value → Shared → Prop} {s : Shared}
theorem collect_tup {l : Addr} {vs : List Value} {Q : List Value → Shared → Prop} (hT : s.heap.IsTuple l vs.toArray) (hz : vs.length ≤ sizeLine)
    (k : Q vs { s with heap := (s.heap.push (seqObj "list" #[] 0)).update s.heap.objs.size (Obj.mapSeq (· ++ vs.toArray)) }) :
    wpAny (model prog w) A (collect (.ref l)) Q E s := by
  obtain ⟨ob, hob, hcl, n, hdat⟩ := id hT
  unfold collect
  refine wpAny_bind (wpAny_runValue ?_)
  refine codeAny_builtin entry_proto_collect' ?_
  show wpAny _ _ (do
    again (.builtin "list.__iadd__" ⟨[← newList [], .ref l], []⟩)) _ _ s
  refine wpAny_bind (wpAny_newList ?_)
  refine wpAny_pure ⟨Code.quiet_builtin _ (by decide +kernel), ?_⟩
  refine codeAny_builtin entry_list_iadd' ?_
  show wpAny _ _ (Builtin.List.listExtendWith
    (.ref s.heap.objs.size) (.ref l) (.ref s.heap.objs.size)) _ _ { s with heap := s.heap.push (seqObj "list" #[] 0) }
  unfold Builtin.List.listExtendWith
  have hob' : (s.heap.push (seqObj "list" #[] 0)).get? l = some ob :=
    Heap.get?_push_of_some _ hob
  have new := Heap.get?_push_size s.heap (o := seqObj "list" #[] 0) rfl
  refine wpAny_bind (wpAny_typeOf (T := "tuple") ⟨ob, hob', hcl⟩ ?_)
  rw [if_pos (by
    rw [show (Value.type "tuple" == Value.type "tuple") = true from rfl]
    simp)]
  refine wpAny_bind (listItems_at hob' hdat ?_)
  refine wpAny_bind (listItems_at new rfl ?_)
  rw [if_neg (by simp)]
  refine wpAny_bind (listUpdate_at new rfl ?_ (Nat.zero_le _) ?_)
  · refine wpAny_pure ?_
    show wpAny (model prog w) A (do
        let o ← load s.heap.objs.size
        match o.data with
        | .seq ys _ => pure ys.toList
        | _ => unsupported "internal:collect") Q E { s with heap := (s.heap.push (seqObj "list" #[] 0)).update s.heap.objs.size (Obj.mapSeq (· ++ vs.toArray)) }
    refine wpAny_bind (wpAny_load (get?_update_seq new _) ?_)
    have e : ((#[] : Array Value) ++ vs.toArray).toList = vs := by simp
    show wpAny _ _ (pure ((#[] : Array Value) ++ vs.toArray).toList) Q E _
    rw [e]
    exact wpAny_pure k
  · show (#[] ++ vs.toArray).size ≤ sizeLine + 1
    simp only [Array.size_append, List.size_toArray, List.length_nil]
    omega
theorem sorted_tupI {l : Addr} {vs : List Value} {ns : List Int} {Q : Value → Shared → Prop} (hT : s.heap.IsTuple l vs.toArray) (hi : IntsAre vs ns) (h64 : vs.length < 64)
    (k : ∀ (out : Array Value) (ns' : List Int), IntsAre out.toList ns' → ns'.Perm ns → ns'.Pairwise (· ≤ ·) →
      Q (.ref (s.heap.objs.size + 1)) { s with heap := sortedAll s.heap vs out }) :
    wpAny (model prog w) A (call (.builtin "sorted") [.ref l]) Q E s := by
  refine Calls.call_function_entry kind_sorted plain_sorted
    entry_sorted (args_sorted1 _) ?_
  unfold Builtin.«sorted»
  refine wpAny_bind (m := checkCount "sorted" 1 1 _) ?_
  refine wpAny_pure (wpAny_bind (collect_tup hT (small64 h64) ?_))
  refine wpAny_bind (wpAny_newList ?_)
  let h1 : Heap := (s.heap.push (seqObj "list" #[] 0)).update s.heap.objs.size (Obj.mapSeq (· ++ vs.toArray))
  have sz : h1.objs.size = s.heap.objs.size + 1 := by
    show ((s.heap.push (seqObj "list" #[] 0)).update s.heap.objs.size _).objs.size = _
    rw [Heap.size_update, size_push']
  have at2 : (h1.push (seqObj "list" vs.toArray 0)).get? (s.heap.objs.size + 1) = some (seqObj "list" vs.toArray 0) := by
    rw [← sz]
    exact Heap.get?_push_size _ rfl
  show wpAny _ _ _ _ _ { s with heap := h1.push (seqObj "list" vs.toArray 0) }
  rw [show (s.heap.push (seqObj "list" #[] 0)).update s.heap.objs.size (Obj.mapSeq (· ++ vs.toArray)) = h1 from rfl, sz]
  refine wpAny_bind (wpAny_holding ?_)
  refine wpAny_call_entry slot_list_sort ⟨_, at2, rfl⟩ entry_list_sort ?_ (args_list_sort _)
  refine list_sort_tree at2 hi h64 fun out ns' a1 a2 a3 => ⟨_, rfl, ?_⟩
  exact wpAny_pure ⟨_, rfl, k out ns' a1 a2 a3⟩
end
section
variable {X : Cx}
/-- sorted of a list or a tuple of ints -/
def rSortedA (K : PySem.W.Frag) : List V → Hp → VK → Prop := fun vs H Q =>
  ∃ (a : Addr) (ns : List Int), vs = [V.ref a] ∧ (SqL K H a (ns.map V.int) ∨ SqT K H a (ns.map V.int)) ∧ ns.length < 64 ∧
    ∀ (ns' : List Int) (p : Addr), ns'.Perm ns → ns'.Pairwise (· ≤ ·) → H p = none → Q (.ref p) (upd H p (.lst (ns'.map V.int)))
theorem cr_sortedA : CallR X (.builtin "sorted") (rSortedA X.K) := by
  intro pins s σ H vs us Q I r h
  obtain ⟨a, ns, rfl, hs, h64, q⟩ := h
  rcases hs with hs | hs
  · exact cr_sorted pins s σ H _ us Q I r ⟨a, ns, rfl, hs, h64, q⟩
  · obtain ⟨its, rv, hl, _⟩ := I.tuple hs
    rw [Vals.ref1 r]
    have hi := rv.ints
    refine sorted_tupI (show s.heap.IsTuple a its.toArray from hl) hi (by rw [hi.length]; exact h64) fun out ns' h1 h2 h3 => ?_
    obtain ⟨ep, e⟩ := sortedAll_at s.heap its out
    have hlen : (ns'.map V.int).length ≤ sizeLine := by
      rw [List.length_map, h2.length_eq]
      exact small64 h64
    refine ⟨.ref _, upd H (s.heap.objs.size + 1) (.lst (ns'.map V.int)), ?_, rfl, q ns' _ h2 h3 (I.hok.fresh (Nat.le_succ _))⟩
    exact I.laid (t' := s.toks) (fun _ _ => sortedAll_old) (Nat.le_succ _) ⟨hlen, out.toList, ep, vals_of_ints h1, e⟩
end
/-- the sorted one is one -/
def insI (x : Int) : List Int → List Int
  | [] => [x]
  | y :: r => if x ≤ y then x :: y :: r else y :: insI x r
def sortI : List Int → List Int
  | [] => []
  | x :: r => insI x (sortI r)
theorem insI_perm (x : Int) : ∀ l, (insI x l).Perm (x :: l)
  | [] => List.Perm.refl _
  | y :: r => by
    unfold insI
    split
    · exact List.Perm.refl _
    · exact ((insI_perm x r).cons y).trans (List.Perm.swap x y r)
theorem sortI_perm : ∀ l, (sortI l).Perm l
  | [] => List.Perm.refl _
  | x :: r => (insI_perm x _).trans ((sortI_perm r).cons x)
theorem insI_sorted (x : Int) : ∀ l : List Int, l.Pairwise (· ≤ ·) → (insI x l).Pairwise (· ≤ ·)
  | [], _ => List.pairwise_singleton _ _
  | y :: r, h => by
    rw [List.pairwise_cons] at h
    unfold insI
    split
    · next hxy =>
      rw [List.pairwise_cons, List.pairwise_cons]
      refine ⟨fun z hz => ?_, h⟩
      rcases List.mem_cons.mp hz with rfl | hz
      · exact hxy
      · exact Int.le_trans hxy (h.1 z hz)
    · next hxy =>
      rw [List.pairwise_cons]
      refine ⟨fun z hz => ?_, insI_sorted x r h.2⟩
      rcases List.mem_cons.mp ((insI_perm x r).mem_iff.mp hz) with rfl | hz
      · omega
      · exact h.1 z hz
theorem sortI_sorted : ∀ l, (sortI l).Pairwise (· ≤ ·)
  | [] => .nil
  | x :: r => insI_sorted x _ (sortI_sorted r)
theorem sorted_one : ∀ {a b : List Int}, a.Perm b → a.Pairwise (· ≤ ·) → b.Pairwise (· ≤ ·) → a = b
  | [], b, h, _, _ => by rw [List.nil_perm.mp h]
  | x :: a, [], h, _, _ => by cases List.perm_nil.mp h
  | x :: a, y :: b, h, ha, hb => by
    rw [List.pairwise_cons] at ha hb
    have h1 : x ≤ y := by
      rcases List.mem_cons.mp (h.mem_iff.mpr (List.mem_cons_self ..)) with z | z
      · omega
      · exact ha.1 y z
    have h2 : y ≤ x := by
      rcases List.mem_cons.mp (h.mem_iff.mp (List.mem_cons_self ..)) with z | z
      · omega
      · exact hb.1 x z
    have e : x = y := by omega
    subst e
    rw [sorted_one (List.Perm.cons_inv h) ha.2 hb.2]
section
variable {K : PySem.W.Frag} {σ : L2.St} {H : Hp} {te : TE} {ns : List Int}
/-- sorted(te): a new list -/
theorem en_sortedT (h : EvD K te σ H (.tuple (ns.map PyData.int))) (h64 : ns.length < 64) : EvN K (tCB (rSortedA K) (tCons te tNil)) σ H ((sortI ns).map PyData.int) := fun H1 e Q q =>
  h H1 e _ fun v H2 e2 hv => by
    obtain ⟨a, xs, rfl, hs, hd⟩ := dp_tup hv
    rw [ints_of hd] at hs
    refine ⟨a, ns, rfl, .inr hs, h64, fun ns' p hp hq hn => ?_⟩
    rw [sorted_one (hp.trans (sortI_perm ns).symm) hq (sortI_sorted ns)]
    exact q p _ _ (fresh_back e2 hn) (e2.trans (Ex.new hn)) upd_same (dpAll_ints _)
theorem en_sortedL (h : EvD K te σ H (.list (ns.map PyData.int))) (h64 : ns.length < 64) : EvN K (tCB (rSortedA K) (tCons te tNil)) σ H ((sortI ns).map PyData.int) := fun H1 e Q q =>
  h H1 e _ fun v H2 e2 hv => by
    obtain ⟨a, xs, rfl, hs, hd⟩ := dp_lst hv
    rw [ints_of hd] at hs
    refine ⟨a, ns, rfl, .inl hs, h64, fun ns' p hp hq hn => ?_⟩
    rw [sorted_one (hp.trans (sortI_perm ns).symm) hq (sortI_sorted ns)]
    exact q p _ _ (fresh_back e2 hn) (e2.trans (Ex.new hn)) upd_same (dpAll_ints _)
/-- tuple(a new list) -/
theorem ed_tupN {ds : List PyData} (h : EvN K te σ H ds) : EvD K (tCB (fun xs H Q => ∃ p ys, xs = [.ref p] ∧ ((SqL K H p ys ∧ ∀ l, H l = none → Q (.ref l) (upd H l (.tup ys))) ∨ (SqT K H p ys ∧ Q (.ref p) H))) (tCons te tNil)) σ H (.tuple ds) := ed_tupL (ed_n h)
end
section
variable {X : Cx}
/-- repr of any datum -/
def rReprA (K : PySem.W.Frag) : List V → Hp → VK → Prop := fun xs H Q =>
  ∃ (x : V) (d : PyData), xs = [x] ∧ Dp K H x d ∧ d.showable = true ∧ d.hasDict = false ∧ d.shown.length ≤ sizeLine ∧ d.depth ≤ 40 ∧ Q (.str d.shown) H
theorem call_reprA (hg : X.A.guards = some []) (hu : X.A.units + 64 < cLine) : CallR X (.builtin "repr") (rReprA X.K) := by
  intro pins s σ H xs us Q I r h
  obtain ⟨x, d, rfl, hd, hs, hn, hz, hdp, q⟩ := h
  have hd' := hd
  cases hd' with
  | lst a b => exact call_reprD hg hu pins s σ H _ us Q I r ⟨_, _, rfl, hd, hs, hn, hz, hdp, q⟩
  | tup a b => exact call_reprD hg hu pins s σ H _ us Q I r ⟨_, _, rfl, hd, hs, hn, hz, hdp, q⟩
  | non =>
    obtain ⟨u, rfl, ru⟩ := vals1 r
    cases ru
    exact PySem.P.repr_of_none ⟨.str _, H, I.tok _, ⟨_, rfl⟩, q⟩
  | bl b =>
    obtain ⟨u, rfl, ru⟩ := vals1 r
    cases ru
    exact PySem.P.repr_of_bool ⟨.str _, H, I.tok _, ⟨_, rfl⟩, q⟩
  | int i =>
    obtain ⟨u, rfl, t, rfl⟩ := vals1 r
    exact PySem.P.repr_of_int (of_decide_eq_true hs) ⟨.str _, H, I.tok _, ⟨_, rfl⟩, q⟩
  | str y =>
    obtain ⟨u, rfl, t, rfl⟩ := vals1 r
    exact PySem.P.repr_of_str ⟨.str _, H, I.tok _, ⟨_, rfl⟩, q⟩ hz
end
end WR
set_option Elab.async false
set_option linter.all false
set_option maxRecDepth 100000
set_option maxHeartbeats 1000000
namespace WR
open PySem PySem.Spec PyProof.Rows L2 Evl
/-! ### a list of data that grows -/
def LD (K : PySem.W.Frag) (H : Hp) (p : Addr) (ds : List PyData) : Prop := ∃ xs, H p = some (.lst xs) ∧ DpAll K H xs ds
theorem LD.ex {K : PySem.W.Frag} {H H' : Hp} {p : Addr} {ds : List PyData} (h : LD K H p ds) (e : Ex H H') : LD K H' p ds := by
  obtain ⟨xs, h1, h2⟩ := h
  exact ⟨xs, e _ _ h1, dpAll_ex e ds h2⟩
theorem LD.dp {K : PySem.W.Frag} {H : Hp} {p : Addr} {ds : List PyData} (h : LD K H p ds) : Dp K H (.ref p) (.list ds) := by
  obtain ⟨xs, h1, h2⟩ := h
  exact .lst (sq_of h1) h2
section
variable {K : PySem.W.Frag} {σ : L2.St} {H H' : Hp} {ta tb te tx : TE} {t : TT} {D : Ends} {tz : TS} {d : PyData} {ds es : List PyData} {l : Addr}
/-- xs.append(a datum) -/
theorem q_appD (hl : LD K H l ds) (ha : Ev ta σ H (.ref l)) (h : EvD K te σ H d) (hz : ds.length < 100000) (hn : nlAll ds = true) (hd : nl d = true)
    (k : ∀ H1, (∀ B : Hp, Ex B H → B l = none → Ex B H1) → LD K H1 l (ds ++ [d]) → tz D σ H1) :
    tSeq (tDrop (tBM K "list" rAppend ta (tCons te tNil))) tz D σ H := ha H (Ex.refl H) _ fun H1 e1 => by
  obtain ⟨xs, h1, h2⟩ := hl
  refine ⟨.inl ⟨rfl, xs, sq_of (e1 l _ h1)⟩, h H1 e1 _ fun v H2 e2 hv => ?_⟩
  have h3 := e2 l _ (e1 l _ h1)
  refine ⟨l, xs, v, rfl, rfl, h3, sz_lt (by rw [dpAll_len h2]; exact hz), k _ (fun B eb hb => Ex.mut ((eb.trans e1).trans e2) hb) ⟨_, upd_same, ?_⟩⟩
  exact dpAll_snoc (dpAll_updL h3 _ hn (dpAll_ex (e1.trans e2) _ h2)) (dp_updL h3 _ hd hv)
theorem s_appD (hl : LD K H l ds) (ha : Ev ta σ H (.ref l)) (h : EvD K te σ H d) (hz : ds.length < 100000) (hn : nlAll ds = true) (hd : nl d = true)
    (k : ∀ H1, (∀ B : Hp, Ex B H → B l = none → Ex B H1) → LD K H1 l (ds ++ [d]) → D.nx σ H1) :
    tDrop (tBM K "list" rAppend ta (tCons te tNil)) D σ H := ha H (Ex.refl H) _ fun H1 e1 => by
  obtain ⟨xs, h1, h2⟩ := hl
  refine ⟨.inl ⟨rfl, xs, sq_of (e1 l _ h1)⟩, h H1 e1 _ fun v H2 e2 hv => ?_⟩
  have h3 := e2 l _ (e1 l _ h1)
  refine ⟨l, xs, v, rfl, rfl, h3, sz_lt (by rw [dpAll_len h2]; exact hz), k _ (fun B eb hb => Ex.mut ((eb.trans e1).trans e2) hb) ⟨_, upd_same, ?_⟩⟩
  exact dpAll_snoc (dpAll_updL h3 _ hn (dpAll_ex (e1.trans e2) _ h2)) (dp_updL h3 _ hd hv)
theorem q_asgLD {i : Nat} (h : EvN K te σ H ds) (k : ∀ p H1, H p = none → Ex H H1 → LD K H1 p ds → tz D (σ.set i (some (.ref p))) H1) : tSeq (tAsg te (gName i)) tz D σ H :=
  q_asgN h fun p xs H1 hp e h1 hd => k p H1 hp e ⟨xs, h1, hd⟩
theorem en_if {b : Bool} (h : EvT t σ H b) (h1 : b = true → EvN K ta σ H ds) (h2 : b = false → EvN K tb σ H ds) : EvN K (tIf t ta tb) σ H ds := fun H1 e Q q => h H1 e _ fun H2 e2 => by
  cases b with
  | true =>
    show ta σ H2 Q
    exact h1 rfl H2 (e.trans e2) Q fun p xs H3 hp e3 h3 hd => q p xs H3 (fresh_back e2 hp) (e2.trans e3) h3 hd
  | false =>
    show tb σ H2 Q
    exact h2 rfl H2 (e.trans e2) Q fun p xs H3 hp e3 h3 hd => q p xs H3 (fresh_back e2 hp) (e2.trans e3) h3 hd
theorem ed_if {b : Bool} (h : EvT t σ H b) (h1 : b = true → EvD K ta σ H d) (h2 : b = false → EvD K tb σ H d) : EvD K (tIf t ta tb) σ H d := fun H1 e Q q => h H1 e _ fun H2 e2 => by
  cases b with
  | true =>
    show ta σ H2 Q
    exact h1 rfl H2 (e.trans e2) Q fun v H3 e3 hd => q v H3 (e2.trans e3) hd
  | false =>
    show tb σ H2 Q
    exact h2 rfl H2 (e.trans e2) Q fun v H3 e3 hd => q v H3 (e2.trans e3) hd
end
def tupI (ns : List Int) : PyData := .tuple (ns.map PyData.int)
def intI : PyData → Int
  | .int i => i
  | _ => 0
def sortT : PyData → PyData
  | .tuple ds => tupI (sortI (ds.map intI))
  | _ => .none
theorem map_intI : ∀ ns : List Int, (ns.map PyData.int).map intI = ns
  | [] => rfl
  | n :: ns => by rw [List.map_cons, List.map_cons, map_intI ns]; rfl
theorem sortT_tupI (ns : List Int) : sortT (tupI ns) = tupI (sortI ns) := by
  show tupI (sortI ((ns.map PyData.int).map intI)) = _
  rw [map_intI]
theorem nl_tupI (ns : List Int) : nl (tupI ns) = true := nlAll_mem fun d hd => by
  obtain ⟨n, _, rfl⟩ := List.mem_map.mp hd
  rfl
theorem nl_tupIs : ∀ l : List (List Int), nlAll (l.map tupI) = true
  | [] => rfl
  | x :: l => by
    show (nl (tupI x) && nlAll (l.map tupI)) = true
    rw [nl_tupI, nl_tupIs l]
    rfl
end WR
set_option Elab.async false
set_option linter.all false
set_option maxRecDepth 100000
set_option maxHeartbeats 1000000
namespace WR
open PySem PySem.Spec PyProof.Rows L2 Evl
/-! ### what stays while a list changes -/
theorem rem_tL {K : PySem.W.Frag} {H : Hp} {a l : Addr} {xs ys : List V} (hl : H l = some (.lst ys)) (h : SqT K H a xs) : SqT K (rem H l) a xs := by
  rcases h with (h | ⟨o, h⟩) | h
  · exact .inl (.inl (by rw [rem_ne (ne_of h hl (by intro z; cases z))]; exact h))
  · exact .inl (.inr ⟨o, by rw [rem_ne (ne_of h hl (by intro z; cases z))]; exact h⟩)
  · exact .inr h
mutual
theorem dp_rem {K : PySem.W.Frag} {H : Hp} {l : Addr} {ys : List V} (hl : H l = some (.lst ys)) : ∀ {v : V} (d : PyData), nl d = true → Dp K H v d → Dp K (rem H l) v d
  | _, .none, _, h => by cases h; exact .non
  | _, .bool _, _, h => by cases h; exact .bl _
  | _, .int _, _, h => by cases h; exact .int _
  | _, .str _, _, h => by cases h; exact .str _
  | _, .list ds, n, h => by cases n
  | _, .tuple ds, n, h => by
    cases h with
    | tup a b => exact .tup (rem_tL hl a) (dpAll_rem hl ds n b)
  | _, .dict _, _, h => by cases h
theorem dpAll_rem {K : PySem.W.Frag} {H : Hp} {l : Addr} {ys : List V} (hl : H l = some (.lst ys)) : ∀ {vs : List V} (ds : List PyData), nlAll ds = true → DpAll K H vs ds → DpAll K (rem H l) vs ds
  | _, [], _, h => by cases h; exact .nil
  | _, d :: ds, n, h => by
    have n' : (nl d && nlAll ds) = true := n
    rw [Bool.and_eq_true] at n'
    cases h with
    | cons a b => exact .cons (dp_rem hl d n'.1 a) (dpAll_rem hl ds n'.2 b)
end
/-- H1 is H grown, the list at l changed -/
def But (l : Addr) (H H1 : Hp) : Prop := ∀ B : Hp, Ex B H → B l = none → Ex B H1
theorem But.dp {K : PySem.W.Frag} {H H1 : Hp} {l : Addr} {ys : List V} {v : V} {d : PyData} (b : But l H H1) (hl : H l = some (.lst ys)) (h : Dp K H v d) (n : nl d = true) : Dp K H1 v d :=
  dp_ex (b _ rem_ex rem_self) d (dp_rem hl d n h)
theorem But.ld {K : PySem.W.Frag} {H H1 : Hp} {l p : Addr} {ys : List V} {ds : List PyData} (b : But l H H1) (hl : H l = some (.lst ys)) (h : LD K H p ds) (hne : p ≠ l) (n : nlAll ds = true) : LD K H1 p ds := by
  obtain ⟨xs, h1, h2⟩ := h
  have e := b _ rem_ex rem_self
  exact ⟨xs, e _ _ (by rw [rem_ne hne]; exact h1), dpAll_ex e _ (dpAll_rem hl _ n h2)⟩

/-! ### repr -/
def okR (d : PyData) : Bool := d.showable && !d.hasDict && decide (d.shown.length ≤ sizeLine) && decide (d.depth ≤ 40)
section
variable {K : PySem.W.Frag} {σ : L2.St} {H H' : Hp} {ta tb te tx : TE} {d e : PyData} {ds es : List PyData}
theorem ev_repr (h : EvD K te σ H d) (ok : okR d = true) : Ev (tCB (rReprA K) (tCons te tNil)) σ H (.str d.shown) := fun H1 e Q q =>
  h H1 e _ fun v H2 e2 hv => by
    unfold okR at ok
    simp only [Bool.and_eq_true, Bool.not_eq_true', decide_eq_true_eq] at ok
    exact ⟨v, d, rfl, hv, ok.1.1.1, ok.1.1.2, ok.1.2, ok.2, q H2 e2⟩
theorem et_reprNe (h1 : EvD K ta σ H d) (h2 : EvD K tb σ H d) (ok : okR d = true) : EvT (tTest (tOp rNe (tCB (rReprA K) (tCons ta tNil)) (tCB (rReprA K) (tCons tb tNil)))) σ H false :=
  et_test (ev_is (ev_op (ev_repr h1 ok) (ev_repr h2 ok) (rv_ne rfl)) (by rw [decide_eq_true (rfl : V.str d.shown = V.str d.shown)]; rfl))
theorem ev_reprEq (h1 : EvD K ta σ H d) (h2 : EvD K tb σ H d) (ok : okR d = true) : Ev (tOp rEq (tCB (rReprA K) (tCons ta tNil)) (tCB (rReprA K) (tCons tb tNil))) σ H (.bl true) :=
  ev_is (ev_op (ev_repr h1 ok) (ev_repr h2 ok) (rv_eq rfl)) (by rw [decide_eq_true (rfl : V.str d.shown = V.str d.shown)])
/-- the last item of a tuple -/
theorem ed_last (h : EvD K ta σ H (.tuple (ds ++ [d]))) : EvD K (tOp (rIxT K) ta (tUn (rU fun i => .int (-i)) (tC (.int 1)))) σ H d := fun H1 e Q q =>
  h H1 e _ fun v H2 e2 hv => by
    obtain ⟨a, xs, rfl, hs, hd⟩ := dp_tup hv
    have hl := dpAll_len hd
    rw [List.length_append] at hl
    have hl : xs.length = ds.length + 1 := hl
    obtain ⟨x, h1, h2⟩ := dpAll_at' (i := ds.length) (d := d) hd (by simp)
    have hx : xs = xs.take ds.length ++ [x] := by
      have q1 := List.take_append_drop ds.length xs
      have q2 : xs.drop ds.length = [x] := by
        rw [List.drop_eq_getElem_cons (by omega)]
        have q3 := (List.getElem?_eq_some_iff.mp h1).2
        rw [q3, List.drop_of_length_le (by omega)]
      rw [q2] at q1
      exact q1.symm
    refine ⟨1, rfl, a, xs, -1, x, rfl, rfl, hs, ?_, q x H2 e2 h2⟩
    rw [hx]
    exact atI_last _ _
/-- a tuple without its last item -/
theorem ed_init (h : EvD K ta σ H (.tuple (ds ++ [d]))) : EvD K (tSl (rSlA K) ta tNoPart (tPart (tUn (rU fun i => .int (-i)) (tC (.int 1))))) σ H (.tuple ds) := fun H1 e Q q =>
  h H1 e _ fun v H2 e2 hv => by
    obtain ⟨a, xs, rfl, hs, hd⟩ := dp_tup hv
    have hl := dpAll_len hd
    rw [List.length_append] at hl
    have hl : xs.length = ds.length + 1 := hl
    have hc : cutV xs none (some (-1)) = xs.take ds.length := by
      unfold cutV
      rw [HT.sIx_none, List.drop_zero]
      show xs.take (((-1 : Int) + (xs.length : Int)).toNat - 0) = _
      rw [show ((-1 : Int) + (xs.length : Int)).toNat - 0 = ds.length by omega]
    refine ⟨1, rfl, _, rfl, a, xs, rfl, hs, fun z => ?_, fun _ p hp => ?_⟩
    · have z2 : ((-1 : Int) + (xs.length : Int)).toNat = xs.length := z.2
      omega
    · refine q _ _ (e2.trans (Ex.new hp)) (.tup (st_of upd_same) ?_)
      rw [hc]
      have q1 := dpAll_take ds.length (dpAll_ex (Ex.new (o := .tup (xs.take ds.length)) hp) _ hd)
      rw [List.take_left] at q1
      exact q1
/-- list + list -/
theorem en_cat {p : Addr} (ha : Ev ta σ H (.ref p)) (hp : LD K H p ds) (hb : EvN K tb σ H es) (hl : ds.length + es.length ≤ 100000) : EvN K (tOp rCat ta tb) σ H (ds ++ es) := fun H1 e Q q =>
  ha H1 e _ fun H2 e2 => hb H2 (e.trans e2) _ fun b ys H3 hb' e3 hb3 hd3 => by
    obtain ⟨xs, h1, h2⟩ := hp.ex ((e.trans e2).trans e3)
    refine ⟨p, b, xs, ys, rfl, rfl, h1, hb3, sz_of (by rw [dpAll_len h2, dpAll_len hd3]; exact hl), fun c hc => ?_⟩
    exact q c _ _ (fresh_back (e2.trans e3) hc) ((e2.trans e3).trans (Ex.new hc)) upd_same (dpAll_app (dpAll_ex (Ex.new hc) _ h2) (dpAll_ex (Ex.new hc) _ hd3))
end
end WR
set_option Elab.async false
set_option linter.all false
set_option maxRecDepth 100000
set_option maxHeartbeats 1000000
namespace WR
open PySem PySem.Spec PyProof.Rows L2 Evl
/-! ### _law_deck -/
def spDeck (K : PySem.W.Frag) : Sp := fun vs H Q _ => ∃ (a : Addr) (ns : List Int), vs = [.ref a] ∧ SqL K H a (ns.map V.int) ∧ ns.length ≤ 63 ∧
  ∀ p L H', H p = none → H L = none → Ex H H' → Dk H' p L ns 0 → Q (.ref p) H'
theorem scDeck : FnScope ["_law_script"] ["_law_script"] (defScope sDeck) := ⟨rfl, rfl, rfl, by decide +kernel, rfl, by decide +kernel, by decide +kernel⟩
theorem cut63 {xs : List V} (h : xs.length ≤ 63) : cutV xs none (some 63) = xs := by
  unfold cutV
  rw [show HT.sIx xs.length xs.length (some 63) = min 63 xs.length from HT.sIx_nat xs.length xs.length 63, HT.sIx_none, List.drop_zero]
  exact List.take_of_length_le (by omega)
section
variable {P : Program} {w : World} {K : PySem.W.Frag} {mg : Str → Option Value} {base : Heap}
theorem ok_deck {f : Addr} {fd : FuncData} (F : Fun K "_law_deck" "_law_deck" sDeck f fd) (m1 : mg "list" = none) : FnOk P w K mg base CX0 1 f fd ["_law_script"] (spDeck K) := by
  refine F.ok scDeck (fun vs H Q E h => ?_) (fun cdv A outer s H vs Q E hr h => ?_)
  · obtain ⟨a, ns, rfl, _⟩ := h
    rfl
  obtain ⟨a, ns, rfl, hS, hlen, q⟩ := h
  refine ⟨_, pss_one (ps_ret (pe_lst (pa_cons (pe_callTy call_list_of (by rfl) m1 (by decide +kernel) (pa_cons (pe_slice sl_list (pv 0) po_none (po_some pe_int)) pa_nil)) (pa_cons pe_int (pa_cons pe_int (pa_cons pe_int pa_nil)))))), ?_⟩
  refine ⟨.ref a, rfl, 63, rfl, a, ns.map V.int, rfl, hS, fun c nc => ?_⟩
  rw [cut63 (by rw [List.length_map]; exact hlen)]
  refine ⟨c, ns.map V.int, rfl, .inl (sq_of upd_same), fun L nL => ?_⟩
  refine ⟨by show 4 ≤ sizeLine; decide, fun p np => ?_⟩
  have e1 : Ex H (upd H c (.lst (ns.map V.int))) := Ex.new nc
  have e2 := Ex.new (o := .lst (ns.map V.int)) nL
  have e3 := Ex.new (o := DkO L 0 0 0) np
  have hp : H p = none := fresh_back (e1.trans e2) np
  refine q p L _ hp (fresh_back e1 nL) ((e1.trans e2).trans e3) ⟨0, 0, 0, ⟨upd_same, ?_, by decide, by decide, by decide, hlen⟩, by decide⟩
  exact e3 _ _ upd_same

end
end WR
set_option Elab.async false
set_option linter.all false
set_option maxRecDepth 100000
set_option maxHeartbeats 1000000
namespace WR
open PySem PySem.Spec PyProof.Rows L2 Evl
theorem nlAll_snoc {ds : List PyData} {d : PyData} (h : nlAll ds = true) (hd : nl d = true) : nlAll (ds ++ [d]) = true := by
  induction ds with
  | nil =>
    show (nl d && true) = true
    rw [hd]
    rfl
  | cons x r ih =>
    have h' : (nl x && nlAll r) = true := h
    rw [Bool.and_eq_true] at h'
    show (nl x && nlAll (r ++ [d])) = true
    rw [h'.1, ih h'.2]
    rfl
theorem nlAll_cons {ds : List PyData} {d : PyData} (hd : nl d = true) (h : nlAll ds = true) : nlAll (d :: ds) = true := by
  show (nl d && nlAll ds) = true
  rw [hd, h]
  rfl
theorem nlAll_of {ds : List PyData} (h : nlAll ds = true) : ∀ d ∈ ds, nl d = true := by
  induction ds with
  | nil => exact fun _ h => by cases h
  | cons x r ih =>
    have h' : (nl x && nlAll r) = true := h
    rw [Bool.and_eq_true] at h'
    intro d hd
    rcases List.mem_cons.mp hd with rfl | hd
    · exact h'.1
    · exact ih h'.2 d hd
theorem q_deck {K : PySem.W.Frag} {σ : L2.St} {H : Hp} {te : TE} {D : Ends} {tz : TS} {i : Nat} {a : Addr} {ns : List Int} {E : XK} (h : Ev te σ H (.ref a)) (hS : SqL K H a (ns.map V.int)) (hl : ns.length ≤ 63)
    (k : ∀ p L H1, H p = none → H L = none → Ex H H1 → Dk H1 p L ns 0 → tz D (σ.set i (some (.ref p))) H1) : tSeq (tAsg (tCall (spDeck K) [] E (tCons te tNil)) (gName i)) tz D σ H :=
  h H (Ex.refl H) _ fun H1 e1 => ⟨a, ns, rfl, ex_l e1 hS, hl, fun p L H2 hp hL e2 hD => k p L H2 (fresh_back e1 hp) (fresh_back e1 hL) (e1.trans e2) hD⟩
theorem q_draw {σ : L2.St} {H : Hp} {te tb : TE} {D : Ends} {tz : TS} {i : Nat} {p L : Addr} {ns : List Int} {c m N : Int} {E : XK} (h : Ev te σ H (.ref p)) (hm : Ev tb σ H (.int m)) (hD : Dk H p L ns N) (hN : N ≤ 1000000000) (h1 : 1 ≤ m) (h2 : m ≤ 1000000000)
    (k : ∀ r H1, 0 ≤ r → r < m → Ex (rem H p) H1 → Dk H1 p L ns (N + 1) → tz D (σ.set i (some (.int (c + r)))) H1) : tSeq (tAsg (tOp (rI0 fun i j => .int (i + j)) (tC (.int c)) (tCall spDraw [] E (tCons te (tCons tb tNil)))) (gName i)) tz D σ H :=
  h H (Ex.refl H) _ fun H1 e1 => hm H1 e1 _ fun H2 e2 => ⟨p, L, ns, m, N, rfl, hD.ex (e1.trans e2), hN, h1, h2, fun r H3 hr0 hr1 e3 hD3 => ⟨c, r, rfl, rfl, k r H3 hr0 hr1 ((rem_mono (e1.trans e2)).trans e3) hD3⟩⟩
end WR
set_option Elab.async false
set_option linter.all false
set_option maxRecDepth 100000
set_option maxHeartbeats 1000000
namespace WR
open PySem PySem.Spec PyProof.Rows L2 Evl
/-! ### webs as data -/
def natD (k : Nat) : PyData := .int (k : Int)
def kidsD (ks : List Nat) : PyData := .tuple (ks.map natD)
def webD (l : Nat) (inner : List (List Nat)) : PyData := .tuple [natD l, .tuple (inner.map kidsD)]
/-- leaves and items in their bounds -/
structure Raw (l : Nat) (inner : List (List Nat)) : Prop where
  l1 : 1 ≤ l
  l8 : l ≤ 8
  n20 : inner.length ≤ 20
  lt : ∀ j ks, inner[j]? = some ks → ∀ k ∈ ks, k < l + j
  len : ∀ ks ∈ inner, ks.length ≤ 30
/-- a promise of a def of a web -/
def spW (K : PySem.W.Frag) (g : Nat → List (List Nat) → PyData) : Sp := fun vs H Q _ =>
  ∃ v l inner, vs = [v] ∧ Dp K H v (webD l inner) ∧ Raw l inner ∧ ∀ r H', Ex H H' → Dp K H' r (g l inner) → Q r H'
/-- of a web and a kind -/
def spWK (K : PySem.W.Frag) (g : Nat → List (List Nat) → Nat → PyData) : Sp := fun vs H Q _ =>
  ∃ v l inner k, vs = [v, .int ((k : Nat) : Int)] ∧ Dp K H v (webD l inner) ∧ Raw l inner ∧ k < l + inner.length ∧ ∀ r H', Ex H H' → Dp K H' r (g l inner k) → Q r H'
theorem spW_len {K : PySem.W.Frag} {g : Nat → List (List Nat) → PyData} {vs : List V} {H : Hp} {Q : VK} {E : XK} (h : spW K g vs H Q E) : vs.length = 1 := by
  obtain ⟨v, l, inner, rfl, _⟩ := h
  rfl
theorem spWK_len {K : PySem.W.Frag} {g : Nat → List (List Nat) → Nat → PyData} {vs : List V} {H : Hp} {Q : VK} {E : XK} (h : spWK K g vs H Q E) : vs.length = 2 := by
  obtain ⟨v, l, inner, k, rfl, _⟩ := h
  rfl
section
variable {K : PySem.W.Frag} {σ : L2.St} {H H' : Hp} {ta tb te tx : TE} {D : Ends} {tu tw tz : TS} {l : Nat} {inner : List (List Nat)} {k : Nat}
theorem ed_callW {g : Nat → List (List Nat) → PyData} {E : XK} (h : EvD K te σ H (webD l inner)) (hw : Raw l inner) : EvD K (tCall (spW K g) [] E (tCons te tNil)) σ H (g l inner) := fun H1 e Q q =>
  h H1 e _ fun v H2 e2 hv => ⟨v, l, inner, rfl, hv, hw, fun r H3 e3 hr => q r H3 (e2.trans e3) hr⟩
theorem ed_callWK {g : Nat → List (List Nat) → Nat → PyData} {E : XK} (h : EvD K te σ H (webD l inner)) (hk : EvD K tx σ H (natD k)) (hw : Raw l inner) (hlt : k < l + inner.length) :
    EvD K (tCall (spWK K g) [] E (tCons te (tCons tx tNil))) σ H (g l inner k) := fun H1 e Q q =>
  h H1 e _ fun v H2 e2 hv => hk H2 (e.trans e2) _ fun w H3 e3 hw' => by
    cases dp_int hw'
    exact ⟨v, l, inner, k, rfl, dp_ex e3 _ hv, hw, hlt, fun r H4 e4 hr => q r H4 ((e2.trans e3).trans e4) hr⟩
end
def topN (l : Nat) (inner : List (List Nat)) : Nat := l + inner.length - 1
def kidsAt (l : Nat) (inner : List (List Nat)) (k : Nat) : List Nat := if k < l then [] else inner.getD (k - l) []
end WR
set_option Elab.async false
set_option linter.all false
set_option maxRecDepth 100000
set_option maxHeartbeats 1000000
namespace WR
open PySem PySem.Spec PyProof.Rows L2 Evl
/-! ### how many parents each kind has -/
def bump (cs : List Int) (k : Nat) : List Int := cs.set k (cs.getD k 0 + 1)
def bumpAll (cs : List Int) (ks : List Nat) : List Int := ks.foldl bump cs
def cntF (n : Nat) (inner : List (List Nat)) : List Int := inner.foldl bumpAll (List.replicate n 0)
theorem bump_len (cs : List Int) (k : Nat) : (bump cs k).length = cs.length := by unfold bump; rw [List.length_set]
theorem bumpAll_len : ∀ (ks : List Nat) (cs : List Int), (bumpAll cs ks).length = cs.length
  | [], _ => rfl
  | k :: ks, cs => by
    show (bumpAll (bump cs k) ks).length = _
    rw [bumpAll_len ks, bump_len]
theorem foldl_bump_len : ∀ (inner : List (List Nat)) (cs : List Int), (inner.foldl bumpAll cs).length = cs.length
  | [], _ => rfl
  | ks :: inner, cs => by
    show (inner.foldl bumpAll (bumpAll cs ks)).length = _
    rw [foldl_bump_len inner, bumpAll_len]
theorem cntF_len (n : Nat) (inner : List (List Nat)) : (cntF n inner).length = n := by
  unfold cntF
  rw [foldl_bump_len, List.length_replicate]
theorem cntF_take {n i : Nat} {inner : List (List Nat)} {ks : List Nat} (h : inner[i]? = some ks) : cntF n (inner.take (i + 1)) = bumpAll (cntF n (inner.take i)) ks := by
  unfold cntF
  rw [List.take_add_one, h, List.foldl_append]
  rfl
theorem bumpAll_take {cs : List Int} {ks : List Nat} {j k : Nat} (h : ks[j]? = some k) : bumpAll cs (ks.take (j + 1)) = bump (bumpAll cs (ks.take j)) k := by
  unfold bumpAll
  rw [List.take_add_one, h, List.foldl_append]
  rfl
/-- of each kind of a web -/
def cnts (l : Nat) (inner : List (List Nat)) : List Int := cntF (l + inner.length) inner
theorem fm_rng {f : PyData → Option PyData} {g : Nat → PyData} {lo : Int} {n : Nat} (h : ∀ k : Nat, k < n → f (.int (lo + (k : Int))) = some (g k)) : (rngD lo n).filterMap f = (List.range n).map g := by
  unfold rngD
  rw [List.filterMap_map]
  exact fm_map fun k hk => h k (List.mem_range.mp hk)
end WR
set_option linter.all false
/-! ### webs as they are drawn: kinds by number, their children in any order -/
namespace WR
def cnt (K : Nat → List Nat) (k : Nat) : Nat → Nat
  | 0 => 0
  | n + 1 => cnt K k n + (if k ∈ K n then 1 else 0)
def setK (K : Nat → List Nat) (u : Nat) (ks : List Nat) : Nat → List Nat := fun x => if x = u then ks else K x
theorem setK_same {K : Nat → List Nat} {u : Nat} {ks : List Nat} : setK K u ks u = ks := if_pos rfl
theorem setK_ne {K : Nat → List Nat} {u x : Nat} {ks : List Nat} (h : x ≠ u) : setK K u ks x = K x := if_neg h
theorem cnt_ge {K : Nat → List Nat} {u k : Nat} {ks : List Nat} : ∀ {n : Nat}, n ≤ u → cnt (setK K u ks) k n = cnt K k n
  | 0, _ => rfl
  | n + 1, h => by
    show cnt (setK K u ks) k n + _ = cnt K k n + _
    rw [cnt_ge (by omega), setK_ne (show n ≠ u by omega)]
theorem cnt_set {K : Nat → List Nat} {u k : Nat} {ks : List Nat} : ∀ {n : Nat}, u < n → cnt (setK K u ks) k n + (if k ∈ K u then 1 else 0) = cnt K k n + (if k ∈ ks then 1 else 0)
  | n + 1, h => by
    show (cnt (setK K u ks) k n + _) + _ = (cnt K k n + _) + _
    by_cases e : u = n
    · subst e
      rw [cnt_ge (Nat.le_refl _), setK_same]
      omega
    · rw [setK_ne (show n ≠ u by omega)]
      have ih := cnt_set (K := K) (k := k) (ks := ks) (show u < n by omega)
      omega
theorem cnt_out {K : Nat → List Nat} {k : Nat} : ∀ {n : Nat}, (∀ u, u < n → k ∉ K u) → cnt K k n = 0
  | 0, _ => rfl
  | n + 1, h => by
    show cnt K k n + _ = 0
    rw [cnt_out fun u hu => h u (by omega), if_neg (h n (by omega))]
theorem cnt_pos {K : Nat → List Nat} {u k : Nat} : ∀ {n : Nat}, u < n → k ∈ K u → 1 ≤ cnt K k n
  | n + 1, h, hk => by
    show 1 ≤ cnt K k n + _
    by_cases e : u = n
    · subst e
      rw [if_pos hk]
      omega
    · have := cnt_pos (show u < n by omega) hk
      omega
/-- two parents are two -/
theorem cnt_two {K : Nat → List Nat} {u v k : Nat} : ∀ {n : Nat}, u < v → v < n → k ∈ K u → k ∈ K v → 2 ≤ cnt K k n
  | n + 1, h, hv, hk, hl => by
    show 2 ≤ cnt K k n + _
    by_cases e : v = n
    · subst e
      rw [if_pos hl]
      have := cnt_pos h hk
      omega
    · have := cnt_two h (show v < n by omega) hk hl
      omega
theorem cnt_one {K : Nat → List Nat} {u v k n : Nat} (h : cnt K k n ≤ 1) (hu : u < n) (hv : v < n) (hk : k ∈ K u) (hl : k ∈ K v) : u = v := by
  rcases Nat.lt_trichotomy u v with z | z | z
  · have := cnt_two z hv hk hl
    omega
  · exact z
  · have := cnt_two z hu hl hk
    omega
theorem cnt_ex {K : Nat → List Nat} {k : Nat} : ∀ {n : Nat}, 1 ≤ cnt K k n → ∃ u, u < n ∧ k ∈ K u
  | n + 1, h => by
    have h' : 1 ≤ cnt K k n + (if k ∈ K n then 1 else 0) := h
    by_cases e : k ∈ K n
    · exact ⟨n, by omega, e⟩
    · rw [if_neg e] at h'
      obtain ⟨u, h1, h2⟩ := cnt_ex (show 1 ≤ cnt K k n by omega)
      exact ⟨u, by omega, h2⟩
/-- b in a's place -/
def rep (a b : Nat) (ks : List Nat) : List Nat := ks.map fun x => if x = a then b else x
theorem rep_len {a b : Nat} {ks : List Nat} : (rep a b ks).length = ks.length := List.length_map ..
theorem rep_mem {a b k : Nat} {ks : List Nat} (ha : a ∈ ks) : k ∈ rep a b ks ↔ k = b ∨ (k ∈ ks ∧ k ≠ a) := by
  unfold rep
  rw [List.mem_map]
  constructor
  · rintro ⟨x, hx, e⟩
    by_cases z : x = a
    · rw [if_pos z] at e
      exact .inl e.symm
    · rw [if_neg z] at e
      subst e
      exact .inr ⟨hx, z⟩
  · rintro (rfl | ⟨h1, h2⟩)
    · exact ⟨a, ha, if_pos rfl⟩
    · exact ⟨k, h1, if_neg h2⟩
theorem rep_nd {a b : Nat} : ∀ {ks : List Nat}, ks.Nodup → b ∉ ks → (rep a b ks).Nodup
  | [], _, _ => List.nodup_nil
  | x :: r, h, hb => by
    rw [List.nodup_cons] at h
    rw [List.mem_cons, not_or] at hb
    show ((if x = a then b else x) :: rep a b r).Nodup
    rw [List.nodup_cons]
    refine ⟨fun hm => ?_, rep_nd h.2 hb.2⟩
    unfold rep at hm
    obtain ⟨y, hy, e⟩ := List.mem_map.mp hm
    by_cases hx : x = a
    · rw [if_pos hx] at e
      by_cases hya : y = a
      · exact h.1 (by rw [hx, ← hya]; exact hy)
      · rw [if_neg hya] at e
        exact hb.2 (e ▸ hy)
    · rw [if_neg hx] at e
      by_cases hya : y = a
      · rw [if_pos hya] at e
        exact hb.1 e
      · rw [if_neg hya] at e
        exact h.1 (e ▸ hy)

/-- a web as drawn; x: a mixing whose second parent is still to come -/
structure GenX (L n : Nat) (K : Nat → List Nat) (x : Nat) : Prop where
  l1 : 1 ≤ L
  ln : L ≤ n
  out : ∀ u, n ≤ u → K u = []
  leaf : ∀ u, u < L → K u = []
  lt : ∀ u c, c ∈ K u → c < n
  nd : ∀ u, (K u).Nodup
  rk : ∃ r : Nat → Nat, ∀ u c, c ∈ K u → r c < r u
  one : ∀ u, L ≤ u → u < n → u ≠ x → cnt K u n ≤ 1 → 2 ≤ (K u).length
  mix : ∀ u, 2 ≤ cnt K u n → (K u).length = 1
  lf1 : ∀ u, u < L → cnt K u n ≤ 1
  bare : ∀ u, L ≤ u → u < n → ∃ c ∈ K u, cnt K c n ≤ 1 ∧ c ≠ x
  root : ∃ t, t < n ∧ ∀ k, k < n → (cnt K k n = 0 ↔ k = t)
/-- x is a kind with one child and a parent -/
structure Lone (L n : Nat) (K : Nat → List Nat) (x : Nat) : Prop where
  lx : L ≤ x
  xn : x < n
  len : (K x).length = 1
  up : 1 ≤ cnt K x n
/-- the whole one: no kind waits -/
def Gen (L n : Nat) (K : Nat → List Nat) : Prop := GenX L n K n
theorem Gen.at {L n : Nat} {K : Nat → List Nat} (g : Gen L n K) {x : Nat} (h2 : 2 ≤ cnt K x n) : GenX L n K x :=
  ⟨g.l1, g.ln, g.out, g.leaf, g.lt, g.nd, g.rk, fun u h1 h3 _ h4 => g.one u h1 h3 (by omega) h4, g.mix, g.lf1,
    fun u h1 h3 => by
      obtain ⟨c, a, b, _⟩ := g.bare u h1 h3
      exact ⟨c, a, b, fun z => by subst z; omega⟩, g.root⟩
/-- closed downwards -/
def Shut (K : Nat → List Nat) (D : Nat → Prop) : Prop := ∀ u c, D u → c ∈ K u → D c

/-- a kind x waiting for a parent (or with two of them already) gets one more -/
theorem gen_more {L n : Nat} {K : Nat → List Nat} {x high : Nat} {D : Nat → Prop} (g : GenX L n K x) (lx : Lone L n K x) (hh : L ≤ high) (hn : high < n) (hp : cnt K high n ≤ 1) (hx : high ≠ x) (hnot : x ∉ K high)
    (hD : Shut K D) (hDx : D x) (hDh : ¬ D high) : Gen L n (setK K high (K high ++ [x])) := by
  have hc : ∀ k, cnt (setK K high (K high ++ [x])) k n = cnt K k n + (if k = x then 1 else 0) := fun k => by
    have q := cnt_set (K := K) (k := k) (ks := K high ++ [x]) hn
    by_cases e : k = x
    · subst e
      rw [if_neg hnot, if_pos (show k ∈ K high ++ [k] by simp)] at q
      rw [if_pos rfl]
      omega
    · have : (k ∈ K high ++ [x]) ↔ k ∈ K high := by simp [e]
      simp only [this] at q
      rw [if_neg e]
      omega
  have mem : ∀ u c, c ∈ setK K high (K high ++ [x]) u → c ∈ K u ∨ (u = high ∧ c = x) := fun u c h => by
    by_cases e : u = high
    · subst e
      rw [setK_same] at h
      rcases List.mem_append.mp h with h | h
      · exact .inl h
      · exact .inr ⟨rfl, by simpa using h⟩
    · rw [setK_ne e] at h
      exact .inl h
  refine ⟨g.l1, g.ln, fun u hu => ?_, fun u hu => ?_, fun u c h => ?_, fun u => ?_, ?_, fun u h1 h2 _ h3 => ?_, fun u h2 => ?_, fun u hu => ?_, fun u h1 h2 => ?_, ?_⟩
  · rw [setK_ne (by omega)]
    exact g.out u hu
  · rw [setK_ne (by omega)]
    exact g.leaf u hu
  · rcases mem u c h with h | ⟨_, rfl⟩
    · exact g.lt u c h
    · exact lx.xn
  · by_cases e : u = high
    · subst e
      rw [setK_same, List.nodup_append]
      refine ⟨g.nd u, by simp, fun a ha b hb => ?_⟩
      have : b = x := by simpa using hb
      subst this
      exact fun z => hnot (z ▸ ha)
    · rw [setK_ne e]
      exact g.nd u
  · obtain ⟨r, hr⟩ := g.rk
    obtain ⟨M, hM⟩ : ∃ M, ∀ u, u < n → r u < M := by
      clear hc mem
      have key : ∀ m, ∃ M, ∀ u, u < m → r u < M := fun m => by
        induction m with
        | zero => exact ⟨0, fun u h => by omega⟩
        | succ m ih =>
          obtain ⟨M, h⟩ := ih
          refine ⟨M + r m + 1, fun u hu => ?_⟩
          by_cases e : u = m
          · subst e
            omega
          · have := h u (by omega)
            omega
      exact key n
    have Dd : ∀ u, Decidable (D u) := fun u => Classical.propDecidable _
    refine ⟨fun u => if D u then r u else M + r u, fun u c h => ?_⟩
    show (if D c then r c else M + r c) < (if D u then r u else M + r u)
    rcases mem u c h with h | ⟨rfl, rfl⟩
    · have q := hr u c h
      have qc := hM c (g.lt u c h)
      by_cases d : D u
      · rw [if_pos d, if_pos (hD u c d h)]
        exact q
      · rw [if_neg d]
        split <;> omega
    · have := hM c lx.xn
      rw [if_pos hDx, if_neg hDh]
      omega
  · rw [hc] at h3
    have hux : u ≠ x := fun z => by
      subst z
      rw [if_pos rfl] at h3
      have := lx.up
      omega
    rw [if_neg hux] at h3
    have q := g.one u h1 h2 hux (by omega)
    by_cases e : u = high
    · subst e
      rw [setK_same, List.length_append]
      omega
    · rw [setK_ne e]
      exact q
  · rw [hc] at h2
    by_cases hux : u = x
    · subst hux
      rw [setK_ne (Ne.symm hx)]
      exact lx.len
    · rw [if_neg hux] at h2
      have : u ≠ high := fun z => by
        subst z
        omega
      rw [setK_ne this]
      exact g.mix u (by omega)
  · rw [hc, if_neg (by have := lx.lx; omega)]
    exact g.lf1 u hu
  · obtain ⟨c, a, b, d⟩ := g.bare u h1 h2
    refine ⟨c, ?_, by rw [hc, if_neg d]; exact b, by have := g.lt u c a; omega⟩
    by_cases e : u = high
    · subst e
      rw [setK_same]
      exact List.mem_append_left _ a
    · rw [setK_ne e]
      exact a
  · obtain ⟨t, h1, h2⟩ := g.root
    refine ⟨t, h1, fun k hk => ?_⟩
    rw [hc]
    by_cases e : k = x
    · subst e
      rw [if_pos rfl]
      have q := h2 k hk
      have := lx.up
      constructor
      · intro z
        omega
      · intro z
        have := q.mpr z
        omega
    · rw [if_neg e]
      exact h2 k hk

theorem bound_of (r : Nat → Nat) : ∀ m : Nat, ∃ M, ∀ u, u < m → r u < M
  | 0 => ⟨0, fun u h => by omega⟩
  | m + 1 => by
    obtain ⟨M, h⟩ := bound_of r m
    refine ⟨M + r m + 1, fun u hu => ?_⟩
    by_cases e : u = m
    · subst e
      omega
    · have := h u (by omega)
      omega
/-- a new kind n between up and its child low -/
def betweenK (K : Nat → List Nat) (n up low : Nat) : Nat → List Nat := setK (setK K up (rep low n (K up))) n [low]
theorem gen_between {L n : Nat} {K : Nat → List Nat} {up low : Nat} (g : Gen L n K) (hu : up < n) (hl : low ∈ K up) (h1 : cnt K low n ≤ 1) (hb : ∃ c ∈ K up, c ≠ low ∧ cnt K c n ≤ 1) :
    GenX L (n + 1) (betweenK K n up low) n ∧ Lone L (n + 1) (betweenK K n up low) n ∧ (∀ k, k < n → cnt (betweenK K n up low) k (n + 1) = cnt K k n) ∧ (∀ D : Nat → Prop, Shut K D → D low → Shut (betweenK K n up low) fun u => D u ∨ u = n) := by
  have lown : low < n := g.lt _ _ hl
  have nup : n ∉ K up := fun z => by
    have := g.lt _ _ z
    omega
  have un : up ≠ n := by omega
  have upL : L ≤ up := by
    rcases Nat.lt_or_ge up L with z | z
    · rw [g.leaf up z] at hl
      cases hl
    · exact z
  have Kn : betweenK K n up low n = [low] := setK_same
  have Ku : betweenK K n up low up = rep low n (K up) := by
    unfold betweenK
    rw [setK_ne un, setK_same]
  have Ko : ∀ u, u ≠ n → u ≠ up → betweenK K n up low u = K u := fun u a b => by
    unfold betweenK
    rw [setK_ne a, setK_ne b]
  have c0 : cnt K n n = 0 := cnt_out fun u _ z => by
    have := g.lt _ _ z
    omega
  have hc : ∀ k, cnt (betweenK K n up low) k (n + 1) = if k = n then 1 else cnt K k n := fun k => by
    show cnt (betweenK K n up low) k n + (if k ∈ betweenK K n up low n then 1 else 0) = _
    rw [Kn]
    unfold betweenK
    rw [cnt_ge (Nat.le_refl n)]
    have q := cnt_set (K := K) (k := k) (ks := rep low n (K up)) hu
    simp only [rep_mem hl] at q
    by_cases e : k = n
    · subst e
      rw [if_pos rfl, if_neg (show k ∉ [low] by simp; omega)]
      rw [if_neg nup, if_pos (.inl rfl)] at q
      omega
    · rw [if_neg e]
      by_cases z : k = low
      · subst z
        rw [if_pos hl, if_neg (by simp [e])] at q
        rw [if_pos (by simp)]
        omega
      · rw [if_neg (show k ∉ [low] by simp [z])]
        have : (k = n ∨ (k ∈ K up ∧ k ≠ low)) ↔ k ∈ K up := by simp [e, z]
        simp only [this] at q
        omega
  have hck : ∀ k, k ≠ n → cnt (betweenK K n up low) k (n + 1) = cnt K k n := fun k e => by rw [hc, if_neg e]
  have mem : ∀ u c, c ∈ betweenK K n up low u → (u = n ∧ c = low) ∨ (u = up ∧ c = n) ∨ (u ≠ n ∧ c ∈ K u) := fun u c h => by
    by_cases e : u = n
    · subst e
      rw [Kn] at h
      exact .inl ⟨rfl, by simpa using h⟩
    · by_cases z : u = up
      · subst z
        rw [Ku, rep_mem hl] at h
        rcases h with h | ⟨h, _⟩
        · exact .inr (.inl ⟨rfl, h⟩)
        · exact .inr (.inr ⟨e, h⟩)
      · rw [Ko u e z] at h
        exact .inr (.inr ⟨e, h⟩)
  have len : ∀ u, u ≠ n → (betweenK K n up low u).length = (K u).length := fun u e => by
    by_cases z : u = up
    · subst z
      rw [Ku, rep_len]
    · rw [Ko u e z]
  refine ⟨⟨g.l1, by have := g.ln; omega, fun u h => ?_, fun u h => ?_, fun u c h => ?_, fun u => ?_, ?_, fun u a b d e => ?_, fun u h => ?_, fun u h => ?_, fun u a b => ?_, ?_⟩, ⟨g.ln, by omega, by rw [Kn]; rfl, by rw [hc, if_pos rfl]; exact Nat.le_refl _⟩, fun k hk => hck k (by omega), fun D hD hDl u c a h => ?_⟩
  · rw [Ko u (by omega) (by omega)]
    exact g.out u (by omega)
  · have := g.ln
    rw [Ko u (by omega) (by omega)]
    exact g.leaf u h
  · rcases mem u c h with ⟨_, rfl⟩ | ⟨_, rfl⟩ | ⟨_, h⟩
    · omega
    · omega
    · have := g.lt u c h
      omega
  · by_cases e : u = n
    · subst e
      rw [Kn]
      simp
    · by_cases z : u = up
      · subst z
        rw [Ku]
        exact rep_nd (g.nd u) nup
      · rw [Ko u e z]
        exact g.nd u
  · obtain ⟨r, hr⟩ := g.rk
    refine ⟨fun u => if u = n then 2 * r low + 1 else 2 * r u, fun u c h => ?_⟩
    show (if c = n then 2 * r low + 1 else 2 * r c) < (if u = n then 2 * r low + 1 else 2 * r u)
    rcases mem u c h with ⟨rfl, rfl⟩ | ⟨rfl, rfl⟩ | ⟨e, h⟩
    · rw [if_pos rfl, if_neg (by omega)]
      omega
    · have := hr u low hl
      rw [if_pos rfl, if_neg un]
      omega
    · have q := hr u c h
      have := g.lt u c h
      rw [if_neg e, if_neg (by omega)]
      omega
  · rw [hck u d] at e
    rw [len u d]
    exact g.one u a (by omega) (by omega) e
  · have e : u ≠ n := fun z => by
      subst z
      rw [hc, if_pos rfl] at h
      omega
    rw [hck u e] at h
    rw [len u e]
    exact g.mix u h
  · have := g.ln
    rw [hck u (by omega)]
    exact g.lf1 u h
  · by_cases e : u = n
    · subst e
      exact ⟨low, by rw [Kn]; simp, by rw [hck low (by omega)]; exact h1, by omega⟩
    · by_cases z : u = up
      · subst z
        obtain ⟨c, p1, p2, p3⟩ := hb
        have := g.lt _ _ p1
        exact ⟨c, by rw [Ku, rep_mem hl]; exact .inr ⟨p1, p2⟩, by rw [hck c (by omega)]; exact p3, by omega⟩
      · obtain ⟨c, p1, p2, _⟩ := g.bare u a (by omega)
        have := g.lt _ _ p1
        exact ⟨c, by rw [Ko u e z]; exact p1, by rw [hck c (by omega)]; exact p2, by omega⟩
  · obtain ⟨t, a, b⟩ := g.root
    refine ⟨t, by omega, fun k hk => ?_⟩
    by_cases e : k = n
    · subst e
      rw [hc, if_pos rfl]
      constructor
      · intro z
        omega
      · intro z
        omega
    · rw [hck k e]
      exact b k (by omega)
  · rcases mem u c h with ⟨rfl, rfl⟩ | ⟨rfl, rfl⟩ | ⟨e, h⟩
    · exact .inl hDl
    · exact .inr rfl
    · rcases a with a | a
      · exact .inl (hD u c a h)
      · exact absurd a e
/-- a new kind n above s, whose parent is v, with x for its second child -/
theorem gen_above {L n : Nat} {K : Nat → List Nat} {x s v : Nat} {D : Nat → Prop} (g : GenX L n K x) (lx : Lone L n K x) (hv : v < n) (hs : s ∈ K v) (h1 : cnt K s n ≤ 1) (hsx : s ≠ x) (hD : Shut K D) (hDx : D x) (hDv : ¬ D v) :
    Gen L (n + 1) (setK (setK K v (rep s n (K v))) n [s, x]) := by
  have sn : s < n := g.lt _ _ hs
  have xn := lx.xn
  have nv : n ∉ K v := fun z => by
    have := g.lt _ _ z
    omega
  have vn : v ≠ n := by omega
  have vx : v ≠ x := fun z => hDv (z ▸ hDx)
  have vL : L ≤ v := by
    rcases Nat.lt_or_ge v L with z | z
    · rw [g.leaf v z] at hs
      cases hs
    · exact z
  let K' := setK (setK K v (rep s n (K v))) n [s, x]
  have Kn : K' n = [s, x] := setK_same
  have Kv : K' v = rep s n (K v) := by
    show setK (setK K v (rep s n (K v))) n [s, x] v = _
    rw [setK_ne vn, setK_same]
  have Ko : ∀ u, u ≠ n → u ≠ v → K' u = K u := fun u a b => by
    show setK (setK K v (rep s n (K v))) n [s, x] u = _
    rw [setK_ne a, setK_ne b]
  have c0 : cnt K n n = 0 := cnt_out fun u _ z => by
    have := g.lt _ _ z
    omega
  have hc : ∀ k, cnt K' k (n + 1) = if k = n then 1 else if k = x then cnt K x n + 1 else cnt K k n := fun k => by
    show cnt K' k n + (if k ∈ K' n then 1 else 0) = _
    rw [Kn]
    show cnt (setK (setK K v (rep s n (K v))) n [s, x]) k n + _ = _
    rw [cnt_ge (Nat.le_refl n)]
    have q := cnt_set (K := K) (k := k) (ks := rep s n (K v)) hv
    simp only [rep_mem hs] at q
    by_cases e : k = n
    · subst e
      rw [if_pos rfl, if_neg (show k ∉ [s, x] by simp; omega)]
      rw [if_neg nv, if_pos (.inl rfl)] at q
      omega
    · rw [if_neg e]
      by_cases z : k = s
      · subst z
        rw [if_pos hs, if_neg (by simp [e])] at q
        rw [if_pos (by simp), if_neg hsx]
        omega
      · have : (k = n ∨ (k ∈ K v ∧ k ≠ s)) ↔ k ∈ K v := by simp [e, z]
        simp only [this] at q
        by_cases y : k = x
        · subst y
          rw [if_pos (by simp), if_pos rfl]
          omega
        · rw [if_neg (show k ∉ [s, x] by simp [z, y]), if_neg y]
          omega
  have hcn : cnt K' n (n + 1) = 1 := by rw [hc, if_pos rfl]
  have hcx : cnt K' x (n + 1) = cnt K x n + 1 := by rw [hc, if_neg (by omega), if_pos rfl]
  have hck : ∀ k, k ≠ n → k ≠ x → cnt K' k (n + 1) = cnt K k n := fun k a b => by rw [hc, if_neg a, if_neg b]
  have mem : ∀ u c, c ∈ K' u → (u = n ∧ c = s) ∨ (u = n ∧ c = x) ∨ (u = v ∧ c = n) ∨ (u ≠ n ∧ c ∈ K u) := fun u c h => by
    by_cases e : u = n
    · subst e
      rw [Kn] at h
      have : c = s ∨ c = x := by simpa using h
      rcases this with h | h
      · exact .inl ⟨rfl, h⟩
      · exact .inr (.inl ⟨rfl, h⟩)
    · by_cases z : u = v
      · subst z
        rw [Kv, rep_mem hs] at h
        rcases h with h | ⟨h, _⟩
        · exact .inr (.inr (.inl ⟨rfl, h⟩))
        · exact .inr (.inr (.inr ⟨e, h⟩))
      · rw [Ko u e z] at h
        exact .inr (.inr (.inr ⟨e, h⟩))
  have len : ∀ u, u ≠ n → (K' u).length = (K u).length := fun u e => by
    by_cases z : u = v
    · subst z
      rw [Kv, rep_len]
    · rw [Ko u e z]
  show GenX L (n + 1) K' (n + 1)
  refine ⟨g.l1, by have := g.ln; omega, fun u h => ?_, fun u h => ?_, fun u c h => ?_, fun u => ?_, ?_, fun u a b _ e => ?_, fun u h => ?_, fun u h => ?_, fun u a b => ?_, ?_⟩
  · rw [Ko u (by omega) (by omega)]
    exact g.out u (by omega)
  · have := g.ln
    rw [Ko u (by omega) (by omega)]
    exact g.leaf u h
  · rcases mem u c h with ⟨_, rfl⟩ | ⟨_, rfl⟩ | ⟨_, rfl⟩ | ⟨_, h⟩
    · omega
    · omega
    · omega
    · have := g.lt u c h
      omega
  · by_cases e : u = n
    · subst e
      rw [Kn]
      simp [hsx]
    · by_cases z : u = v
      · subst z
        rw [Kv]
        exact rep_nd (g.nd u) nv
      · rw [Ko u e z]
        exact g.nd u
  · obtain ⟨r, hr⟩ := g.rk
    obtain ⟨M, hM⟩ := bound_of (fun u => 2 * r u) n
    have Dd : ∀ u, Decidable (D u) := fun u => Classical.propDecidable _
    let r' : Nat → Nat := fun u => if u = n then (if D s then M + 1 else M + 2 + 2 * r s + 1) else if D u then 2 * r u else M + 2 + 2 * r u
    have ro : ∀ u, u ≠ n → r' u = if D u then 2 * r u else M + 2 + 2 * r u := fun u e => if_neg e
    have rn : r' n = if D s then M + 1 else M + 2 + 2 * r s + 1 := if_pos rfl
    have hMs : 2 * r s < M := hM s sn
    have hMx : 2 * r x < M := hM x xn
    refine ⟨r', fun u c h => ?_⟩
    rcases mem u c h with ⟨rfl, rfl⟩ | ⟨rfl, rfl⟩ | ⟨rfl, rfl⟩ | ⟨e, h⟩
    · rw [rn, ro c (by omega)]
      by_cases d : D c
      · rw [if_pos d, if_pos d]
        omega
      · rw [if_neg d, if_neg d]
        omega
    · rw [rn, ro c (by omega), if_pos hDx]
      split <;> omega
    · have := hr u s hs
      rw [rn, ro u vn, if_neg hDv]
      split <;> omega
    · have q := hr u c h
      have cn := g.lt u c h
      have hMc : 2 * r c < M := hM c cn
      rw [ro u e, ro c (by omega)]
      by_cases d : D u
      · rw [if_pos d, if_pos (hD u c d h)]
        omega
      · rw [if_neg d]
        split <;> omega
  · by_cases z : u = n
    · subst z
      rw [Kn]
      exact Nat.le_refl 2
    · have y : u ≠ x := fun y => by
        subst y
        rw [hcx] at e
        have := lx.up
        omega
      rw [hck u z y] at e
      rw [len u z]
      exact g.one u a (by omega) y e
  · have z : u ≠ n := fun z => by
      subst z
      rw [hcn] at h
      omega
    rw [len u z]
    by_cases y : u = x
    · subst y
      exact lx.len
    · rw [hck u z y] at h
      exact g.mix u h
  · have := g.ln
    have := lx.lx
    rw [hck u (by omega) (by omega)]
    exact g.lf1 u h
  · by_cases z : u = n
    · subst z
      exact ⟨s, by rw [Kn]; simp, by rw [hck s (by omega) hsx]; exact h1, by omega⟩
    · obtain ⟨c, p1, p2, p3⟩ := g.bare u a (by omega)
      have cn := g.lt _ _ p1
      by_cases y : u = v
      · subst y
        by_cases cs : c = s
        · subst cs
          exact ⟨n, by rw [Kv, rep_mem hs]; exact .inl rfl, by rw [hcn]; exact Nat.le_refl _, by omega⟩
        · exact ⟨c, by rw [Kv, rep_mem hs]; exact .inr ⟨p1, cs⟩, by rw [hck c (by omega) p3]; exact p2, by omega⟩
      · exact ⟨c, by rw [Ko u z y]; exact p1, by rw [hck c (by omega) p3]; exact p2, by omega⟩
  · obtain ⟨t, a, b⟩ := g.root
    refine ⟨t, by omega, fun k hk => ?_⟩
    by_cases z : k = n
    · subst z
      rw [hcn]
      constructor
      · intro z
        omega
      · intro z
        omega
    · by_cases y : k = x
      · subst y
        have q := b k lx.xn
        have := lx.up
        rw [hcx]
        constructor
        · intro z
          omega
        · intro z
          have := q.mpr z
          omega
      · rw [hck k z y]
        exact b k (by omega)
/-- a new root n above the root s -/
theorem gen_top {L n : Nat} {K : Nat → List Nat} {x s : Nat} (g : GenX L n K x) (lx : Lone L n K x) (hs : s < n) (h0 : cnt K s n = 0) : Gen L (n + 1) (setK K n [s, x]) := by
  have xn := lx.xn
  have hsx : s ≠ x := fun z => by
    have := lx.up
    subst z
    omega
  let K' := setK K n [s, x]
  have Kn : K' n = [s, x] := setK_same
  have Ko : ∀ u, u ≠ n → K' u = K u := fun u a => setK_ne a
  have c0 : cnt K n n = 0 := cnt_out fun u _ z => by
    have := g.lt _ _ z
    omega
  have hc : ∀ k, cnt K' k (n + 1) = if k = s then 1 else if k = x then cnt K x n + 1 else cnt K k n := fun k => by
    show cnt (setK K n [s, x]) k n + (if k ∈ K' n then 1 else 0) = _
    rw [cnt_ge (Nat.le_refl n), Kn]
    by_cases z : k = s
    · subst z
      rw [if_pos (by simp), if_pos rfl]
      omega
    · by_cases y : k = x
      · subst y
        rw [if_pos (by simp), if_neg z, if_pos rfl]
      · rw [if_neg (show k ∉ [s, x] by simp [z, y]), if_neg z, if_neg y]
        rfl
  have hcs : cnt K' s (n + 1) = 1 := by rw [hc, if_pos rfl]
  have hcx : cnt K' x (n + 1) = cnt K x n + 1 := by rw [hc, if_neg (Ne.symm hsx), if_pos rfl]
  have hck : ∀ k, k ≠ s → k ≠ x → cnt K' k (n + 1) = cnt K k n := fun k a b => by rw [hc, if_neg a, if_neg b]
  have hcn : cnt K' n (n + 1) = 0 := by rw [hck n (by omega) (by omega)]; exact c0
  have mem : ∀ u c, c ∈ K' u → (u = n ∧ (c = s ∨ c = x)) ∨ (u ≠ n ∧ c ∈ K u) := fun u c h => by
    by_cases e : u = n
    · subst e
      rw [Kn] at h
      exact .inl ⟨rfl, by simpa using h⟩
    · rw [Ko u e] at h
      exact .inr ⟨e, h⟩
  have le1 : ∀ k, k ≠ x → cnt K k n ≤ 1 → cnt K' k (n + 1) ≤ 1 := fun k y h => by
    by_cases z : k = s
    · subst z
      rw [hcs]
      exact Nat.le_refl _
    · rw [hck k z y]
      exact h
  show GenX L (n + 1) K' (n + 1)
  refine ⟨g.l1, by have := g.ln; omega, fun u h => ?_, fun u h => ?_, fun u c h => ?_, fun u => ?_, ?_, fun u a b _ e => ?_, fun u h => ?_, fun u h => ?_, fun u a b => ?_, ?_⟩
  · rw [Ko u (by omega)]
    exact g.out u (by omega)
  · have := g.ln
    rw [Ko u (by omega)]
    exact g.leaf u h
  · rcases mem u c h with ⟨_, rfl | rfl⟩ | ⟨_, h⟩
    · omega
    · omega
    · have := g.lt u c h
      omega
  · by_cases e : u = n
    · subst e
      rw [Kn]
      simp [hsx]
    · rw [Ko u e]
      exact g.nd u
  · obtain ⟨r, hr⟩ := g.rk
    obtain ⟨M, hM⟩ := bound_of r n
    refine ⟨fun u => if u = n then M else r u, fun u c h => ?_⟩
    show (if c = n then M else r c) < (if u = n then M else r u)
    rcases mem u c h with ⟨rfl, h⟩ | ⟨e, h⟩
    · have cn : c < u := by omega
      rw [if_pos rfl, if_neg (by omega)]
      exact hM c cn
    · have := g.lt u c h
      rw [if_neg e, if_neg (by omega)]
      exact hr u c h
  · by_cases z : u = n
    · subst z
      rw [Kn]
      exact Nat.le_refl 2
    · have y : u ≠ x := fun y => by
        subst y
        rw [hcx] at e
        have := lx.up
        omega
      rw [Ko u z]
      refine g.one u a (by omega) y ?_
      by_cases w : u = s
      · subst w
        omega
      · rw [hck u w y] at e
        exact e
  · have z : u ≠ n := fun z => by
      subst z
      rw [hcn] at h
      omega
    rw [Ko u z]
    by_cases y : u = x
    · subst y
      exact lx.len
    · have w : u ≠ s := fun w => by
        subst w
        rw [hcs] at h
        omega
      rw [hck u w y] at h
      exact g.mix u h
  · have := g.ln
    have := lx.lx
    exact le1 u (by omega) (g.lf1 u h)
  · by_cases z : u = n
    · subst z
      exact ⟨s, by rw [Kn]; simp, by rw [hcs]; exact Nat.le_refl _, by omega⟩
    · obtain ⟨c, p1, p2, p3⟩ := g.bare u a (by omega)
      have cn := g.lt _ _ p1
      exact ⟨c, by rw [Ko u z]; exact p1, le1 c p3 p2, by omega⟩
  · obtain ⟨t, a, b⟩ := g.root
    have hst : s = t := (b s hs).mp h0
    refine ⟨n, by omega, fun k hk => ?_⟩
    by_cases z : k = n
    · subst z
      exact ⟨fun _ => rfl, fun _ => hcn⟩
    · refine ⟨fun h => ?_, fun h => absurd h z⟩
      exfalso
      by_cases w : k = s
      · subst w
        omega
      · by_cases y : k = x
        · subst y
          omega
        · rw [hck k w y] at h
          exact w (hst ▸ (b k (by omega)).mp h)
end WR
set_option Elab.async false
set_option linter.all false
set_option maxRecDepth 100000
set_option maxHeartbeats 1000000
namespace WR
open PySem PySem.Spec PyProof.Rows L2 Evl

/-! ### lists of lists that change -/
def nV (k : Nat) : V := .int (k : Int)
def nVs (ks : List Nat) : List V := ks.map nV
def natDs (ks : List Nat) : List PyData := ks.map natD
structure KdAt (H : Hp) (p : Addr) (rs : List Addr) (kk : List (List Nat)) : Prop where
  at_ : H p = some (.lst (rs.map V.ref))
  len : rs.length = kk.length
  nd : rs.Nodup
  np : p ∉ rs
  row : ∀ (i : Nat) r ks, rs[i]? = some r → kk[i]? = some ks → H r = some (.lst (nVs ks))
theorem KdAt.ex {H H' : Hp} {p : Addr} {rs : List Addr} {kk : List (List Nat)} (h : KdAt H p rs kk) (e : Ex H H') : KdAt H' p rs kk :=
  ⟨e _ _ h.at_, h.len, h.nd, h.np, fun i r ks a b => e _ _ (h.row i r ks a b)⟩
/-- the sizes are small -/
def Sml (kk : List (List Nat)) : Prop := kk.length ≤ 40 ∧ ∀ ks ∈ kk, ks.length ≤ 40
theorem dpAll_nat {K : PySem.W.Frag} {H : Hp} : ∀ ks : List Nat, DpAll K H (nVs ks) (natDs ks)
  | [] => .nil
  | _ :: ks => .cons (.int _) (dpAll_nat ks)
theorem nats_of {K : PySem.W.Frag} {H : Hp} : ∀ {vs : List V} {ks : List Nat}, DpAll K H vs (natDs ks) → vs = nVs ks
  | _, [], h => by cases h; rfl
  | _, _ :: ks, h => by
    cases h with
    | cons a b => cases a; rw [nats_of b]; rfl
theorem inV_nat {k : Nat} : ∀ {ks : List Nat}, inV (nV k) (nVs ks) = decide (k ∈ ks)
  | [] => rfl
  | x :: ks => by
    show (eqV (nV x) (nV k) || inV (nV k) (nVs ks)) = _
    rw [inV_nat]
    show (((x : Int) == (k : Int)) || decide (k ∈ ks)) = _
    by_cases e : x = k
    · subst e
      simp
    · have : ((x : Int) == (k : Int)) = false := beq_eq_false_iff_ne.mpr (by omega)
      rw [this, Bool.false_or]
      simp [Ne.symm e]
theorem flat_nVs : ∀ ks : List Nat, (nVs ks).all flatV = true
  | [] => rfl
  | _ :: ks => by
    show (true && (nVs ks).all flatV) = true
    rw [flat_nVs ks]
    rfl
theorem nVs_at {ks : List Nat} {i k : Nat} (h : ks[i]? = some k) : (nVs ks)[i]? = some (nV k) := by
  unfold nVs
  rw [List.getElem?_map, h]
  rfl
section
variable {K : PySem.W.Frag} {σ : L2.St} {H H' : Hp} {ta tb te tx : TE} {p : Addr} {rs : List Addr} {kk : List (List Nat)}
theorem KdAt.get (h : KdAt H p rs kk) {i : Nat} {ks : List Nat} (hi : kk[i]? = some ks) : ∃ r, rs[i]? = some r ∧ H r = some (.lst (nVs ks)) := by
  have hl := (List.getElem?_eq_some_iff.mp hi).1
  have hr : rs[i]? = some (rs[i]'(by rw [h.len]; exact hl)) := List.getElem?_eq_getElem _
  exact ⟨_, hr, h.row i _ ks hr hi⟩
/-- kids[i] -/
theorem ev_row (h : KdAt H p rs kk) {i : Nat} {r : Addr} (hr : rs[i]? = some r) (ha : Ev ta σ H (.ref p)) (hb : Ev tb σ H (nV i)) : Ev (tOp (rIxL K) ta tb) σ H (.ref r) :=
  ev_op ha hb (rv_ixL (sq_of h.at_) (atI_nat (by rw [List.getElem?_map, hr]; rfl)))
end

/-! ### _law_one -/
def spOne (K : PySem.W.Frag) : Sp := fun vs H Q _ => ∃ p L ns N i xs, vs = [.ref p, .ref i] ∧ Dk H p L ns N ∧ N ≤ 1000000000 ∧ H i = some (.lst xs) ∧ i ≠ p ∧ 1 ≤ xs.length ∧ xs.length ≤ 1000000 ∧
  ∀ x H', x ∈ xs → Ex (rem H p) H' → Dk H' p L ns (N + 1) → Q x H'
theorem scOne : FnScope ["_law_deck_here", "_law_items"] ["_law_deck_here", "_law_items"] (defScope sOne) := ⟨rfl, rfl, rfl, by decide +kernel, rfl, by decide +kernel, by decide +kernel⟩
/-! ### _law_ups -/
def upsL (kk : List (List Nat)) (k : Nat) : List Nat := (List.range kk.length).filter fun u => decide (k ∈ kk.getD u [])
def spUps (K : PySem.W.Frag) : Sp := fun vs H Q _ => ∃ p rs kk k, vs = [.ref p, nV k] ∧ KdAt H p rs kk ∧ Sml kk ∧ ∀ l H', H l = none → Ex H H' → H' l = some (.lst (nVs (upsL kk k))) → Q (.ref l) H'
abbrev nUps : List Str := ["_law_kids_here", "_law_kind", "_law_up"]
theorem scUps : FnScope nUps ["_law_kids_here", "_law_kind"] (defScope sUps) := ⟨rfl, rfl, rfl, by decide +kernel, rfl, by decide +kernel, by decide +kernel⟩
section
variable {P : Program} {w : World} {K : PySem.W.Frag} {mg : Str → Option Value} {base : Heap}
theorem ok_one {f fW : Addr} {fd fdW : FuncData} (F : Fun K "_law_one" "_law_one" sOne f fd) (FW : Fun K "_law_draw" "_law_draw" sDraw fW fdW) (bW : Binds K fdW ["_law_deck_here", "_law_many"] []) (gW : mg "_law_draw" = some (.ref fW)) (m3 : mg "len" = none)
    (GW : FnOk P w K mg base CX0 1 fW fdW ["_law_deck_here", "_law_many"] spDraw) : FnOk P w K mg base CX0 2 f fd ["_law_deck_here", "_law_items"] (spOne K) := by
  refine F.ok scOne (fun vs H Q E h => ?_) (fun cdv A outer s H vs Q E hr h => ?_)
  · obtain ⟨p, L, ns, N, i, xs, rfl, _⟩ := h
    rfl
  obtain ⟨p, L, ns, N, i, xs, rfl, hD, hN, hi, hne, h1, h2, q⟩ := h
  refine ⟨_, pss_one (ps_ret (pe_ix ix_list (pv 1) (pe_call GW hr (by rfl) gW FW.kp bW .nil pass0 (pa_cons (pv 0) (pa_cons (pe_callB call_len_seq (by rfl) m3 PySem.boot_len (pa_cons (pv 1) pa_nil)) pa_nil))) (fun _ _ => rfl))), ?_⟩
  refine ⟨.ref i, rfl, .ref p, rfl, .ref i, rfl, i, xs, rfl, .inl (sq_of hi), p, L, ns, _, N, rfl, hD, hN, by omega, by omega, fun r H' hr0 hr1 e hD' => ?_⟩
  have hi' : H' i = some (.lst xs) := e _ _ (by rw [rem_ne hne]; exact hi)
  obtain ⟨k, rfl⟩ : ∃ k : Nat, r = (k : Int) := ⟨r.toNat, (Int.toNat_of_nonneg hr0).symm⟩
  have hk : k < xs.length := by omega
  exact ⟨i, xs, (k : Int), xs[k], rfl, rfl, sq_of hi', atI_nat (by rw [List.getElem?_eq_getElem hk]), q _ H' (List.getElem_mem hk) e hD'⟩
theorem ok_ups {f : Addr} {fd : FuncData} (F : Fun K "_law_ups" "_law_ups" sUps f fd) (m1 : mg "range" = none) (m3 : mg "len" = none) : FnOk P w K mg base CX0 1 f fd ["_law_kids_here", "_law_kind"] (spUps K) := by
  refine F.ok scUps (fun vs H Q E h => ?_) (fun cdv A outer s H vs Q E hr h => ?_)
  · obtain ⟨p, rs, kk, k, rfl, _⟩ := h
    rfl
  obtain ⟨p, rs, kk, k, rfl, hK, hS, q⟩ := h
  refine ⟨_, pss_one (ps_ret (pe_lc (own := [("_law_up", 2)]) (g := gName 2) rfl scUps.nd (pi_range1 (by rfl) m1 (pa_cons (pe_callB call_len_seq (by rfl) m3 PySem.boot_len (pa_cons (pv 0) pa_nil)) pa_nil)) (blkOk_by (N := nUps) (sc := defScope sUps) (by decide +kernel))
      (fun _ _ _ _ _ => pg_name (i := 2) scUps.nd rfl (Or.inl rfl)) (fun _ _ _ _ _ => pts_one (pt_cmpR (r := rIn K false) op_in_seq (pv 1) (pe_ix (r := rIxL K) ix_list (pv 0) (pv 2) (fun _ _ => rfl)) rfl)) (fun _ _ _ _ _ => pv 2))), ?_⟩
  have hl := hS.1
  let g : PyData → Option PyData := fun d => match d with | .int i => if decide (k ∈ kk.getD i.toNat []) = true then some (.int i) else none | _ => none
  have hR : SrcS K (iRng1 (tCons (tCB (fun xs H Q => ∃ p ys, xs = [.ref p] ∧ (SqL K H p ys ∨ SqT K H p ys) ∧ Q (.int ys.length) H) (tCons (tVar 0) tNil)) tNil)) (start nUps [.ref p, nV k]) H (rngD 0 kk.length) := by
    have q1 := srcS_R1 (K := K) (σ := start nUps [.ref p, nV k]) (H := H) (n := (kk.length : Int)) (ta := tCons (tCB (fun xs H Q => ∃ p ys, xs = [.ref p] ∧ (SqL K H p ys ∨ SqT K H p ys) ∧ Q (.int ys.length) H) (tCons (tVar 0) tNil)) tNil)
      (ea_cons (ev_is (ev_len (K := K) (ev_var rfl) (sq_of hK.at_)) (by rw [List.length_map, hK.len])) ea_nil) (by omega)
    rw [Int.toNat_natCast] at q1
    exact q1
  refine en_lc (K := K) (ds := rngD 0 kk.length) g hR.src (by rw [rngD_len]; omega) (fun _ => rfl) (fun d v H3 e3 hd hv => ?_) (fun d r v H3 e3 hd hv hr => ?_) (fun d r hd hr => ?_) H (Ex.refl H) _ fun l xs H1 hl e1 h1 h2 => ?_
  · obtain ⟨i, hi, rfl⟩ := List.mem_map.mp hd
    have hi := List.mem_range.mp hi
    rw [show (0 : Int) + (i : Int) = (i : Int) by omega] at hv ⊢
    cases dp_int hv
    obtain ⟨r, hr, hrow⟩ := (hK.ex e3).get (List.getElem?_eq_getElem hi)
    refine et_is (et_test (ev_op (x := nV k) (y := .ref r) (ev_var rfl) (ev_row (hK.ex e3) hr (ev_var rfl) (ev_var rfl)) (rv_isL (sq_of hrow) rfl (flat_nVs _)))) ?_
    rw [inV_nat]
    show _ = (if decide (k ∈ kk.getD i []) = true then some (PyData.int (i : Int)) else none).isSome
    rw [List.getD_eq_getElem?_getD, List.getElem?_eq_getElem hi]
    show decide (k ∈ kk[i]) = (if decide (k ∈ kk[i]) = true then some (PyData.int (i : Int)) else none).isSome
    by_cases z : k ∈ kk[i]
    · rw [decide_eq_true z]
      rfl
    · rw [decide_eq_false z]
      rfl
  · obtain ⟨i, hi, rfl⟩ := List.mem_map.mp hd
    have hr : (if decide (k ∈ kk.getD ((0 : Int) + (i : Int)).toNat []) = true then some (PyData.int ((0 : Int) + (i : Int))) else none) = some r := hr
    split at hr
    · cases hr
      exact ed_var rfl hv
    · cases hr
  · obtain ⟨i, hi, rfl⟩ := List.mem_map.mp hd
    have hr : (if decide (k ∈ kk.getD ((0 : Int) + (i : Int)).toNat []) = true then some (PyData.int ((0 : Int) + (i : Int))) else none) = some r := hr
    split at hr
    · cases hr
      rfl
    · cases hr
  · have e : (rngD 0 kk.length).filterMap g = natDs (upsL kk k) := by
      unfold rngD natDs upsL
      rw [List.filterMap_map]
      have key : ∀ l : List Nat, l.filterMap (g ∘ fun (j : Nat) => PyData.int ((0 : Int) + (j : Int))) = (l.filter fun u => decide (k ∈ kk.getD u [])).map natD := fun l => by
        induction l with
        | nil => rfl
        | cons x r ih =>
          have e0 : (g ∘ fun (j : Nat) => PyData.int ((0 : Int) + (j : Int))) x = if decide (k ∈ kk.getD x []) = true then some (natD x) else none := by
            show (if decide (k ∈ kk.getD ((0 : Int) + (x : Int)).toNat []) = true then some (PyData.int ((0 : Int) + (x : Int))) else none) = _
            rw [show ((0 : Int) + (x : Int)).toNat = x by omega, show (0 : Int) + (x : Int) = (x : Int) by omega]
            rfl
          rw [List.filterMap_cons, List.filter_cons, e0, ih]
          by_cases z : k ∈ kk.getD x []
          · rw [decide_eq_true z]
            rfl
          · rw [decide_eq_false z]
            rfl
      exact key _
    rw [e] at h2
    rw [nats_of h2] at h1
    exact q l H1 hl e1 h1
end
end WR
set_option Elab.async false
set_option linter.all false
set_option maxRecDepth 100000
set_option maxHeartbeats 1000000
namespace WR
open PySem PySem.Spec PyProof.Rows L2 Evl

/-! ### _law_down: all that is beneath -/
def un (S : List Nat) : Nat → Nat
  | 0 => 0
  | m + 1 => un S m + (if m ∈ S then 0 else 1)
theorem un_nil : ∀ n, un [] n = n
  | 0 => rfl
  | n + 1 => by
    show un [] n + (if n ∈ ([] : List Nat) then 0 else 1) = n + 1
    rw [un_nil n]
    rfl
theorem un_ge {S : List Nat} {x : Nat} : ∀ {n : Nat}, n ≤ x → un (S ++ [x]) n = un S n
  | 0, _ => rfl
  | n + 1, h => by
    show un (S ++ [x]) n + _ = un S n + _
    rw [un_ge (by omega)]
    have : (n ∈ S ++ [x]) ↔ n ∈ S := by simp; omega
    simp only [this]
theorem un_add {S : List Nat} {x : Nat} : ∀ {n : Nat}, x < n → x ∉ S → un (S ++ [x]) n + 1 = un S n
  | n + 1, h, hx => by
    show (un (S ++ [x]) n + _) + 1 = un S n + _
    by_cases e : x = n
    · subst e
      rw [un_ge (Nat.le_refl _), if_neg hx, if_pos (by simp)]
    · have ih := un_add (S := S) (show x < n by omega) hx
      have : (n ∈ S ++ [x]) ↔ n ∈ S := by simp; omega
      simp only [this]
      omega
def dKs (S : List Nat) : List (Key × V) := S.map fun (k : Nat) => (Sum.inl (k : Int), V.bl true)
theorem dKs_val {k : Nat} : ∀ {S : List Nat}, valV (dKs S) (Sum.inl (k : Int)) = if k ∈ S then some (V.bl true) else none
  | [] => rfl
  | x :: S => by
    by_cases e : x = k
    · subst e
      rw [if_pos (List.mem_cons_self ..)]
      exact valV_pos rfl
    · have hn : ¬ ((Sum.inl (x : Int) : Key) = Sum.inl (k : Int)) := fun z => e (by
        have := Sum.inl.inj z
        omega)
      show valV ((Sum.inl (x : Int), V.bl true) :: dKs S) _ = _
      rw [valV_neg hn, dKs_val]
      have : (k ∈ x :: S) ↔ k ∈ S := by simp [Ne.symm e]
      simp only [this]
theorem dKs_put {k : Nat} {S : List Nat} (h : k ∉ S) : putK (dKs S) (Sum.inl (k : Int)) (V.bl true) = dKs (S ++ [k]) := by
  rw [putK_new _ (by rw [dKs_val, if_neg h])]
  unfold dKs
  rw [List.map_append]
  rfl
def rowAt (kk : List (List Nat)) (u : Nat) : List Nat := kk.getD u []
/-- S: what is beneath kind, and it -/
structure Beneath (kk : List (List Nat)) (kind : Nat) (S : List Nat) : Prop where
  nd : S.Nodup
  self : kind ∈ S
  shut : ∀ u c, u ∈ S → c ∈ rowAt kk u → c ∈ S
  least : ∀ T : Nat → Prop, T kind → (∀ u c, T u → c ∈ rowAt kk u → T c) → ∀ x ∈ S, T x
  lt : ∀ x ∈ S, x < kk.length
def spDown (K : PySem.W.Frag) : Sp := fun vs H Q _ => ∃ p rs kk k, vs = [.ref p, nV k] ∧ KdAt H p rs kk ∧ Sml kk ∧ k < kk.length ∧ (∀ ks ∈ kk, ∀ c ∈ ks, c < kk.length) ∧
  ∀ d H' S, Beneath kk k S → H d = none → Ex H H' → H' d = some (.dK (dKs S)) → Q (.ref d) H'
abbrev nDown : List Str := ["_law_kids_here", "_law_kind", "_law_found", "_law_left", "_law_one_here"]
theorem scDown : FnScope nDown ["_law_kids_here", "_law_kind"] (defScope sDown) := ⟨rfl, rfl, rfl, by decide +kernel, rfl, by decide +kernel, by decide +kernel⟩
theorem eqv_nats_nil : ∀ ks : List Nat, PyData.eqv (.list (natDs ks)) (.list []) = ks.isEmpty
  | [] => by simp [natDs, PyData.eqv, PyData.eqvAll]
  | _ :: _ => by simp [natDs, PyData.eqv, PyData.eqvAll]
theorem shaped_nats (ks : List Nat) : SeqAt.shaped (.list (natDs ks)) = true := by
  have e : natDs ks = (ks.map fun (k : Nat) => (k : Int)).map PyData.int := by
    unfold natDs
    rw [List.map_map]
    rfl
  rw [e]
  exact shaped_ints _
/-- xs != [] -/
theorem et_neNil {K : PySem.W.Frag} {σ : L2.St} {H : Hp} {ta : TE} {l : Addr} {ks : List Nat} (ha : Ev ta σ H (.ref l)) (hl : H l = some (.lst (nVs ks))) : EvT (tTest (tOp (rNeD K) ta (tLst tNil))) σ H (!ks.isEmpty) :=
  et_test (ev_opL (x := .ref l) (xs := []) ha (el_lst ea_nil (by simp)) fun q H1 h1 e1 H2 e2 Q q2 => by
    refine ⟨.list (natDs ks), .list [], .lst (sq_of (e2 _ _ (e1 _ _ hl))) (dpAll_nat ks), .lst (sq_of (e2 _ _ h1)) .nil, shaped_nats ks, shaped_ints [], ?_⟩
    rw [eqv_nats_nil]
    exact q2 H2 (Ex.refl H2))
theorem et_eqNil {K : PySem.W.Frag} {σ : L2.St} {H : Hp} {ta : TE} {l : Addr} {ks : List Nat} (ha : Ev ta σ H (.ref l)) (hl : H l = some (.lst (nVs ks))) : EvT (tTest (tOp (rEqD K) ta (tLst tNil))) σ H ks.isEmpty :=
  et_test (ev_opL (x := .ref l) (xs := []) ha (el_lst ea_nil (by simp)) fun q H1 h1 e1 H2 e2 Q q2 => by
    refine ⟨.list (natDs ks), .list [], .lst (sq_of (e2 _ _ (e1 _ _ hl))) (dpAll_nat ks), .lst (sq_of (e2 _ _ h1)) .nil, shaped_nats ks, shaped_ints [], ?_⟩
    rw [eqv_nats_nil]
    exact q2 H2 (Ex.refl H2))
/-- x = xs.pop() -/
theorem q_pop {K : PySem.W.Frag} {σ : L2.St} {H : Hp} {ta : TE} {D : Ends} {tz : TS} {i : Nat} {l : Addr} {xs : List V} {x : V} (ha : Ev ta σ H (.ref l)) (hl : H l = some (.lst (xs ++ [x]))) (k : ∀ H1, Ex H H1 → tz D (σ.set i (some x)) (upd H1 l (.lst xs))) :
    tSeq (tAsg (tBM0 K "list" rPop ta) (gName i)) tz D σ H := ha H (Ex.refl H) _ fun H1 e1 => by
  have h1 := e1 _ _ hl
  refine ⟨.inl ⟨rfl, _, sq_of h1⟩, l, _, x, rfl, rfl, h1, by simp, ?_⟩
  rw [List.dropLast_concat]
  exact k H1 e1
theorem et_dnotin {σ : L2.St} {H : Hp} {td ty : TE} {d : Addr} {kvs : List (Key × V)} {k : Int} (hd : Ev td σ H (.ref d)) (hk : Ev ty σ H (.int k)) (h : H d = some (.dK kvs)) : EvT (tB (tDNotIn ty td)) σ H (!(valV kvs (Sum.inl k)).isSome) := fun H1 e Q q =>
  hk H1 e _ fun H2 e2 => hd H2 (e.trans e2) _ fun H3 e3 => ⟨d, _, rfl, DGet.k (k := Sum.inl k) (((e.trans e2).trans e3) _ _ h), _, rfl, q H3 (e2.trans e3)⟩
theorem et_din {σ : L2.St} {H : Hp} {td ty : TE} {d : Addr} {kvs : List (Key × V)} {k : Int} (hd : Ev td σ H (.ref d)) (hk : Ev ty σ H (.int k)) (h : H d = some (.dK kvs)) : EvT (tB (tDIn ty td)) σ H (valV kvs (Sum.inl k)).isSome := fun H1 e Q q =>
  hk H1 e _ fun H2 e2 => hd H2 (e.trans e2) _ fun H3 e3 => ⟨d, _, rfl, DGet.k (k := Sum.inl k) (((e.trans e2).trans e3) _ _ h), _, rfl, q H3 (e2.trans e3)⟩
/-- d[k] = v -/
theorem q_dput {σ : L2.St} {H : Hp} {td ty tv : TE} {D : Ends} {tz : TS} {d : Addr} {kvs : List (Key × V)} {k : Int} {v : V} (hv : Ev tv σ H v) (hd : Ev td σ H (.ref d)) (hk : Ev ty σ H (.int k)) (h : H d = some (.dK kvs)) (hz : kvs.length < 100000)
    (c : ∀ H1, Ex H H1 → tz D σ (upd H1 d (.dK (putK kvs (Sum.inl k) v)))) : tSeq (sDPut td ty tv) tz D σ H :=
  hv H (Ex.refl H) _ fun H1 e1 => hd H1 e1 _ fun H2 e2 => hk H2 (e1.trans e2) _ fun H3 e3 => ⟨d, _, rfl, DPut.k (k := Sum.inl k) (((e1.trans e2).trans e3) _ _ h) (sz_lt hz), c H3 ((e1.trans e2).trans e3)⟩
/-- xs.extend(ys) -/
theorem s_extend {K : PySem.W.Frag} {σ : L2.St} {H : Hp} {ta tb : TE} {D : Ends} {l b : Addr} {xs ys : List V} (ha : Ev ta σ H (.ref l)) (hb : Ev tb σ H (.ref b)) (hl : H l = some (.lst xs)) (hy : H b = some (.lst ys)) (hz : xs.length + ys.length ≤ 100000)
    (k : ∀ H1, Ex H H1 → D.nx σ (upd H1 l (.lst (xs ++ ys)))) : tDrop (tBM K "list" rExtend ta (tCons tb tNil)) D σ H :=
  ha H (Ex.refl H) _ fun H1 e1 => ⟨.inl ⟨rfl, _, sq_of (e1 _ _ hl)⟩, hb H1 e1 _ fun H2 e2 => ⟨l, b, xs, ys, rfl, rfl, (e1.trans e2) _ _ hl, (e1.trans e2) _ _ hy, sz_of hz, k H2 (e1.trans e2)⟩⟩
section
variable {P : Program} {w : World} {K : PySem.W.Frag} {mg : Str → Option Value} {base : Heap}
theorem ok_down {f : Addr} {fd : FuncData} (F : Fun K "_law_down" "_law_down" sDown f fd) : FnOk P w K mg base CX0 1 f fd ["_law_kids_here", "_law_kind"] (spDown K) := by
  refine F.ok scDown (fun vs H Q E h => ?_) (fun cdv A outer s H vs Q E hr h => ?_)
  · obtain ⟨p, rs, kk, k, rfl, _⟩ := h
    rfl
  obtain ⟨p, rs, kk, k, rfl, hK, hS, hk, hlt, q⟩ := h
  refine ⟨_, pss_cons (ps_par (i := 2) (j := 3) rfl scDown.nd rfl rfl (by decide) rfl rfl (pa_cons pe_dnewK (pa_cons (pe_lst (pa_cons (pv 1) pa_nil)) pa_nil)) rfl)
    (pss_cons (ps_while PassesOwn.never (pt_cmpR (op_neD (by have := hr.units; exact this)) (pv 3) (pe_lst pa_nil) (nomark _))
      (pss_cons (ps_set (i := 4) scDown.nd rfl (.inl rfl) (pe_bm0 PySem.F.plainAttrs_list PySem.F.slot_list_pop PySem.F.type_list_pop mt_pop (pv 3)))
      (pss_one (ps_if (pt_cmp (pc_dnotin (hu_of hr) (pv 4) (pv 2))) (pss_cons (ps_dput (hu_of hr) (pv 2) (pv 4) pe_bl rfl)
        (pss_one (ps_expr (pe_bm PySem.F.plainAttrs_list PySem.F.slot_list_extend PySem.F.type_list_extend mt_extend (pv 3) (pa_cons (pe_ix ix_list (pv 0) (pv 4) (fun _ _ => rfl)) pa_nil))))) pss_nil))))
    (pss_one (ps_ret (pv 2)))), ?_⟩
  have hn : kk.length ≤ 40 := hS.1
  let S4 (x2 x3 x4 : Option V) : L2.St := [some (.ref p), some (nV k), x2, x3, x4]
  -- the dict and the list
  intro d hd
  have e1 : Ex H (upd H d (.dK [])) := Ex.new hd
  refine ⟨nV k, rfl, by show 1 ≤ sizeLine; decide, fun lf hlf => ⟨.ref d, .ref lf, rfl, ?_⟩⟩
  have e2 : Ex H (upd (upd H d (.dK [])) lf (.lst [nV k])) := e1.trans (Ex.new hlf)
  have hlf0 : H lf = none := fresh_back e1 hlf
  have hne : d ≠ lf := ne_of_none (show upd H d (.dK []) d = some (.dK []) from upd_same) hlf
  have hd2 : upd (upd H d (.dK [])) lf (.lst [nV k]) d = some (.dK (dKs [])) := by
    rw [upd_ne hne, upd_same]
    rfl
  have hl2 : upd (upd H d (.dK [])) lf (.lst [nV k]) lf = some (.lst (nVs [k])) := upd_same
  show tSeq (tWhile _ _) _ _ (S4 (some (.ref d)) (some (.ref lf)) none) (upd (upd H d (.dK [])) lf (.lst [nV k]))
  generalize upd (upd H d (.dK [])) lf (.lst [nV k]) = H2 at e2 hd2 hl2 ⊢
  clear e1 hlf
  have row_lt : ∀ u c, c ∈ rowAt kk u → c < kk.length := fun u c h => by
    unfold rowAt at h
    rw [List.getD_eq_getElem?_getD] at h
    cases e : kk[u]? with
    | none =>
      rw [e] at h
      cases h
    | some ks =>
      rw [e] at h
      exact hlt ks (List.mem_of_getElem? e) c h
  let Inv (m : Nat) (σ' : L2.St) (H' : Hp) : Prop := ∃ (S left : List Nat) (x4 : Option V), σ' = S4 (some (.ref d)) (some (.ref lf)) x4 ∧ Ex H H' ∧ H' d = some (.dK (dKs S)) ∧ H' lf = some (.lst (nVs left)) ∧
    m = 41 * un S kk.length + left.length ∧ S.length + un S kk.length = kk.length ∧ S.Nodup ∧ (∀ x ∈ S, x < kk.length) ∧ (∀ x ∈ left, x < kk.length) ∧ (k ∈ S ∨ k ∈ left) ∧ (∀ u c, u ∈ S → c ∈ rowAt kk u → c ∈ S ∨ c ∈ left) ∧
    (∀ T : Nat → Prop, T k → (∀ u c, T u → c ∈ rowAt kk u → T c) → (∀ x ∈ S, T x) ∧ ∀ x ∈ left, T x) ∧ m ≤ 41 * 40 + 1
  refine q_while Inv (41 * un [] kk.length + 1) ⟨[], [k], none, rfl, e2, hd2, hl2, rfl, ?_, List.nodup_nil, ?_, ?_, .inr (List.mem_singleton.mpr rfl), ?_, ?_, ?_⟩ fun m σ' H' hI => ?_
  · rw [un_nil]
    exact Nat.zero_add _
  · exact fun x h => by cases h
  · exact fun x h => by rw [List.mem_singleton.mp h]; exact hk
  · exact fun u c h => by cases h
  · exact fun T h1 h2 => ⟨fun x h => (by cases h), fun x h => (by rw [List.mem_singleton.mp h]; exact h1)⟩
  · rw [un_nil]
    omega
  obtain ⟨S, left, x4, rfl, e3, hd3, hl3, hm, hun, hnd, hSl, hLl, hkin, hcl, hmin, hmb⟩ := hI
  refine ⟨!left.isEmpty, et_neNil (ev_var rfl) hl3, fun hb H3 e4 => ?_, fun hb H3 e4 => ?_⟩
  · have hne0 : left ≠ [] := fun z => by
      rw [z] at hb
      cases hb
    obtain ⟨init, x, rfl⟩ : ∃ init x, left = init ++ [x] := ⟨left.dropLast, left.getLast hne0, (List.dropLast_concat_getLast hne0).symm⟩
    have hx : x < kk.length := hLl x (by simp)
    have hlen : (init ++ [x]).length = init.length + 1 := by simp
    refine ⟨fun σ2 H2 => ∃ m', m' < m ∧ Inv m' σ2 H2, fun σ2 H2 h => h, ?_⟩
    have hl4 := e4 _ _ hl3
    have hd4 := e4 _ _ hd3
    have eS : nVs (init ++ [x]) = nVs init ++ [nV x] := by unfold nVs; rw [List.map_append]; rfl
    rw [eS] at hl4
    refine q_pop (ev_var rfl) hl4 fun H4 e5 => ?_
    have hd4 := e5 _ _ hd4
    have e5 : Ex H (upd H4 lf (.lst (nVs init))) := Ex.mut ((e3.trans e4).trans e5) hlf0
    have hl5 : upd H4 lf (.lst (nVs init)) lf = some (.lst (nVs init)) := upd_same
    have hd5 : upd H4 lf (.lst (nVs init)) d = some (.dK (dKs S)) := by
      rw [upd_ne hne]
      exact hd4
    generalize upd H4 lf (.lst (nVs init)) = H5 at e5 hl5 hd5 ⊢
    refine s_if (b := !(valV (dKs S) (Sum.inl (x : Int))).isSome) (et_dnotin (ev_var rfl) (ev_var rfl) hd5) (fun hb5 H6 e6 => ?_) fun hb5 H6 e6 => ?_
    rotate_left
    · have hxS : x ∈ S := by
        by_cases z : x ∈ S
        · exact z
        · rw [dKs_val, if_neg z] at hb5
          cases hb5
      replace e5 := e5.trans e6
      replace hd5 := e6 _ _ hd5
      replace hl5 := e6 _ _ hl5
      refine ⟨41 * un S kk.length + init.length, by omega, S, init, _, rfl, e5, hd5, hl5, rfl, hun, hnd, hSl, fun y hy => hLl y (List.mem_append_left _ hy), ?_, fun u c hu hc => ?_, fun T h1 h2 => ?_, by omega⟩
      · rcases hkin with h | h
        · exact .inl h
        · rcases List.mem_append.mp h with h | h
          · exact .inr h
          · rw [List.mem_singleton.mp h]
            exact .inl hxS
      · rcases hcl u c hu hc with h | h
        · exact .inl h
        · rcases List.mem_append.mp h with h | h
          · exact .inr h
          · rw [List.mem_singleton.mp h]
            exact .inl hxS
      · exact ⟨(hmin T h1 h2).1, fun y hy => (hmin T h1 h2).2 y (List.mem_append_left _ hy)⟩
    · have hxS : x ∉ S := fun z => by
        rw [dKs_val, if_pos z] at hb5
        cases hb5
      replace e5 := e5.trans e6
      replace hd5 := e6 _ _ hd5
      replace hl5 := e6 _ _ hl5
      have hz : (dKs S).length < 100000 := by
        unfold dKs
        rw [List.length_map]
        omega
      refine q_dput (v := .bl true) ev_c (ev_var rfl) (ev_var rfl) hd5 hz fun H7 e7 => ?_
      rw [dKs_put hxS]
      have e6 : Ex H (upd H7 d (.dK (dKs (S ++ [x])))) := Ex.mut (e5.trans e7) hd
      have hl6 : upd H7 d (.dK (dKs (S ++ [x]))) lf = some (.lst (nVs init)) := by
        rw [upd_ne (Ne.symm hne)]
        exact e7 _ _ hl5
      have hd6 : upd H7 d (.dK (dKs (S ++ [x]))) d = some (.dK (dKs (S ++ [x]))) := upd_same
      generalize upd H7 d (.dK (dKs (S ++ [x]))) = H6 at e6 hl6 hd6 ⊢
      have hrx : kk[x]? = some (rowAt kk x) := by
        unfold rowAt
        rw [List.getD_eq_getElem?_getD, List.getElem?_eq_getElem hx]
        rfl
      obtain ⟨r, hr, hrow⟩ := (hK.ex e6).get hrx
      have hrl : (rowAt kk x).length ≤ 40 := hS.2 _ (List.mem_of_getElem? hrx)
      have hua := un_add (S := S) hx hxS
      refine s_extend (ev_var rfl) (ev_row (hK.ex e6) hr (ev_var rfl) (ev_var rfl)) hl6 hrow ?_ fun H8 e8 => ?_
      · unfold nVs
        rw [List.length_map, List.length_map]
        omega
      replace e6 := e6.trans e8
      replace hd6 := e8 _ _ hd6
      rw [show nVs init ++ nVs (rowAt kk x) = nVs (init ++ rowAt kk x) by unfold nVs; rw [List.map_append]]
      refine ⟨41 * un (S ++ [x]) kk.length + (init ++ rowAt kk x).length, ?_, S ++ [x], init ++ rowAt kk x, _, rfl, Ex.mut e6 hlf0, ?_, upd_same, rfl, ?_, ?_, fun y hy => ?_, fun y hy => ?_, ?_, fun u c hu hc => ?_, fun T h1 h2 => ?_, ?_⟩
      · rw [List.length_append]
        omega
      · rw [upd_ne hne]
        exact hd6
      · rw [List.length_append, List.length_singleton]
        omega
      · rw [List.nodup_append]
        exact ⟨hnd, by simp, fun a ha b hb z => hxS (by rw [List.mem_singleton.mp hb] at z; exact z ▸ ha)⟩
      · rcases List.mem_append.mp hy with h | h
        · exact hSl y h
        · rw [List.mem_singleton.mp h]
          exact hx
      · rcases List.mem_append.mp hy with h | h
        · exact hLl y (List.mem_append_left _ h)
        · exact row_lt x y h
      · rcases hkin with h | h
        · exact .inl (List.mem_append_left _ h)
        · rcases List.mem_append.mp h with h | h
          · exact .inr (List.mem_append_left _ h)
          · rw [List.mem_singleton.mp h]
            exact .inl (by simp)
      · rcases List.mem_append.mp hu with h | h
        · rcases hcl u c h hc with h | h
          · exact .inl (List.mem_append_left _ h)
          · rcases List.mem_append.mp h with h | h
            · exact .inr (List.mem_append_left _ h)
            · rw [List.mem_singleton.mp h]
              exact .inl (by simp)
        · rw [List.mem_singleton.mp h] at hc
          exact .inr (List.mem_append_right _ hc)
      · have hT := hmin T h1 h2
        have hTx := hT.2 x (by simp)
        refine ⟨fun y hy => ?_, fun y hy => ?_⟩
        · rcases List.mem_append.mp hy with h | h
          · exact hT.1 y h
          · rw [List.mem_singleton.mp h]
            exact hTx
        · rcases List.mem_append.mp hy with h | h
          · exact hT.2 y (List.mem_append_left _ h)
          · exact h2 x y hTx h
      · rw [List.length_append]
        omega
  · have hne0 : left = [] := by simpa using hb
    subst hne0
    have hd4 := e4 _ _ hd3
    refine s_ret (v := .ref d) (ev_var rfl) fun H4 e5 => q d H4 S ⟨hnd, ?_, fun u c hu hc => ?_, fun T h1 h2 => (hmin T h1 h2).1, hSl⟩ hd ((e3.trans e4).trans e5) (e5 _ _ hd4)
    · rcases hkin with h | h
      · exact h
      · cases h
    · rcases hcl u c hu hc with h | h
      · exact h
      · cases h
end
end WR
set_option Elab.async false
set_option linter.all false
set_option maxRecDepth 100000
set_option maxHeartbeats 2000000
namespace WR
open PySem PySem.Spec PyProof.Rows L2 Evl

/-! ### comprehensions that choose among numbers -/
theorem given_nat {ks : List Nat} {g : Nat → Bool} : given ks.length (fun i => g (ks.getD i 0)) (fun i => nV (ks.getD i 0)) = nVs (ks.filter g) := by
  unfold given nVs
  have e : (List.range ks.length).map (fun i => ks.getD i 0) = ks := by
    refine List.ext_getElem? fun i => ?_
    rw [List.getElem?_map]
    by_cases h : i < ks.length
    · rw [List.getElem?_range h, List.getElem?_eq_getElem h, Option.map_some, List.getD_eq_getElem?_getD, List.getElem?_eq_getElem h]
      rfl
    · rw [List.getElem?_eq_none (by rw [List.length_range]; omega), List.getElem?_eq_none (by omega)]
      rfl
  have key : ∀ l : List Nat, (l.filter fun i => g (ks.getD i 0)).map (fun i => nV (ks.getD i 0)) = ((l.map fun i => ks.getD i 0).filter g).map nV := fun l => by
    induction l with
    | nil => rfl
    | cons x r ih =>
      rw [List.filter_cons, List.map_cons, List.filter_cons]
      cases h : g (ks.getD x 0) with
      | true =>
        rw [if_pos rfl, if_pos rfl, List.map_cons, List.map_cons, ih]
      | false =>
        rw [if_neg Bool.false_ne_true, if_neg Bool.false_ne_true, ih]
  rw [key, e]
section
variable {K : PySem.W.Frag} {σ : L2.St} {H H' : Hp} {ta tb te tl : TE} {t : TT}
theorem nVs_get {ks : List Nat} {i : Nat} {x : V} (h : (nVs ks)[i]? = some x) : ∃ k, ks[i]? = some k ∧ x = nV k ∧ ks.getD i 0 = k ∧ k ∈ ks := by
  unfold nVs at h
  rw [List.getElem?_map] at h
  obtain ⟨k, hk, rfl⟩ := Option.map_eq_some_iff.mp h
  exact ⟨k, hk, rfl, by rw [List.getD_eq_getElem?_getD, hk]; rfl, List.mem_of_getElem? hk⟩
theorem el_natLc {j : Nat} {vs : List Nat} {a : Addr} {ks : List Nat} (g : Nat → Bool) (h : Ev tl σ H (.ref a)) (hx : SqL K H a (nVs ks)) (hz : ks.length ≤ 40000) (hw : ∀ x, wipe ((wipe σ vs).set j (some x)) vs = wipe σ vs) (hj : j < (wipe σ vs).length)
    (ht : ∀ k H1, Ex H H1 → k ∈ ks → EvT t ((wipe σ vs).set j (some (nV k))) H1 (g k)) : EvL (tLc (iList K tl) (gName j) t (tVar j) vs) σ H (nVs (ks.filter g)) := by
  rw [← given_nat]
  have q := el_lcL (K := K) (xs := nVs ks) (σ := σ) (H := H) (t := t) (te := tVar j) (vs := vs) (j := j) (fun i => g (ks.getD i 0)) (fun i => nV (ks.getD i 0)) h hx (by unfold nVs; rw [List.length_map]; exact hz) hw (fun i x H1 e hi => by
    obtain ⟨k, _, rfl, h1, hm⟩ := nVs_get hi
    rw [h1]
    exact ht k H1 e hm) (fun i x H1 e hi _ => by
    obtain ⟨k, _, rfl, h1, hm⟩ := nVs_get hi
    rw [h1]
    exact ev_var (by rw [List.getElem?_set_self hj]))
  have e : (nVs ks).length = ks.length := by unfold nVs; rw [List.length_map]
  rw [e] at q
  exact q
theorem el_rngLc {ta : TA} {j n : Nat} {vs : List Nat} (g : Nat → Bool) (h : EvA ta σ H [.int (n : Int)]) (hn : n ≤ 40000) (hw : ∀ x, wipe ((wipe σ vs).set j (some x)) vs = wipe σ vs) (hj : j < (wipe σ vs).length)
    (ht : ∀ k H1, Ex H H1 → k < n → EvT t ((wipe σ vs).set j (some (nV k))) H1 (g k)) : EvL (tLc (iRng1 ta) (gName j) t (tVar j) vs) σ H (nVs ((List.range n).filter g)) := by
  have q := el_lcR1 (σ := σ) (H := H) (t := t) (te := tVar j) (vs := vs) (j := j) (n := (n : Int)) g nV h ⟨by omega, by omega⟩ hw (fun i H1 e hi => ht i H1 e (by omega)) (fun i H1 e hi _ => ev_var (by rw [List.getElem?_set_self hj]; rfl))
  rw [Int.toNat_natCast] at q
  exact q
/-- what a def hands back: a new list -/
theorem el_ups {E : XK} {tp tk : TE} {p : Addr} {rs : List Addr} {kk : List (List Nat)} {k : Nat} (hp : Ev tp σ H (.ref p)) (hk : Ev tk σ H (nV k)) (hK : KdAt H p rs kk) (hS : Sml kk) : EvL (tCall (spUps K) [] E (tCons tp (tCons tk tNil))) σ H (nVs (upsL kk k)) := fun H1 e Q q =>
  hp H1 e _ fun H2 e2 => hk H2 (e.trans e2) _ fun H3 e3 => ⟨p, rs, kk, k, rfl, hK.ex ((e.trans e2).trans e3), hS, fun l H4 hl e4 h4 => q l H4 (fresh_back (e2.trans e3) hl) ((e2.trans e3).trans e4) h4⟩
theorem ev_lenL {ks : List Nat} (h : EvL te σ H (nVs ks)) : Ev (tCB (rLenS K) (tCons te tNil)) σ H (nV ks.length) := ev_is (ev_lenN (K := K) h) (by unfold nVs nV; rw [List.length_map])
end

/-! ### rows and their numbers -/
theorem cnt_ups (kk : List (List Nat)) (k : Nat) : (upsL kk k).length = cnt (rowAt kk) k kk.length := by
  unfold upsL
  have key : ∀ n, ((List.range n).filter fun u => decide (k ∈ kk.getD u [])).length = cnt (rowAt kk) k n := fun n => by
    induction n with
    | zero => rfl
    | succ n ih =>
      rw [List.range_succ, List.filter_append, List.length_append, ih, List.filter_cons]
      show _ = cnt (rowAt kk) k n + (if k ∈ rowAt kk n then 1 else 0)
      by_cases z : k ∈ kk.getD n []
      · rw [decide_eq_true z, if_pos rfl, if_pos (show k ∈ rowAt kk n from z)]
        rfl
      · rw [decide_eq_false z, if_neg Bool.false_ne_true, if_neg (show ¬ k ∈ rowAt kk n from z)]
        rfl
  exact key _
theorem mem_ups {kk : List (List Nat)} {k u : Nat} : u ∈ upsL kk k ↔ u < kk.length ∧ k ∈ rowAt kk u := by
  unfold upsL
  rw [List.mem_filter, List.mem_range, decide_eq_true_eq]
  rfl
theorem rowAt_get {kk : List (List Nat)} {u : Nat} (h : u < kk.length) : kk[u]? = some (rowAt kk u) := by
  unfold rowAt
  rw [List.getD_eq_getElem?_getD, List.getElem?_eq_getElem h]
  rfl
theorem rowAt_set {kk : List (List Nat)} {u : Nat} {ks : List Nat} (h : u < kk.length) : rowAt (kk.set u ks) = setK (rowAt kk) u ks := by
  funext x
  show (kk.set u ks).getD x [] = if x = u then ks else kk.getD x []
  rw [List.getD_eq_getElem?_getD, List.getD_eq_getElem?_getD, List.getElem?_set]
  by_cases e : u = x
  · subst e
    rw [if_pos rfl, if_pos rfl, if_pos h]
    rfl
  · rw [if_neg e, if_neg (Ne.symm e)]
theorem rowAt_app {kk : List (List Nat)} {ks : List Nat} : rowAt (kk ++ [ks]) = setK (rowAt kk) kk.length ks := by
  funext x
  show (kk ++ [ks]).getD x [] = if x = kk.length then ks else kk.getD x []
  rw [List.getD_eq_getElem?_getD, List.getD_eq_getElem?_getD, List.getElem?_append]
  by_cases e : x = kk.length
  · subst e
    rw [if_neg (Nat.lt_irrefl _), if_pos rfl, Nat.sub_self]
    rfl
  · rw [if_neg e]
    by_cases h : x < kk.length
    · rw [if_pos h]
    · rw [if_neg h, List.getElem?_eq_none (show kk.length ≤ x by omega), List.getElem?_eq_none (by simp; omega)]

/-! ### the surroundings: B stands, but the deck in it; the rows are new -/
structure Bs (B H : Hp) (dk L : Addr) (ns : List Int) (N : Int) : Prop where
  ex : Ex (rem B dk) H
  deck : Dk H dk L ns N
  bdk : ∃ o, B dk = some o
  bL : ∃ o, B L = some o
structure Kds (B H : Hp) (p : Addr) (rs : List Addr) (kk : List (List Nat)) : Prop where
  kd : KdAt H p rs kk
  bp : B p = none
  br : ∀ r ∈ rs, B r = none
theorem Bs.more {B H H' : Hp} {dk L : Addr} {ns : List Int} {N : Int} (b : Bs B H dk L ns N) (e : Ex H H') : Bs B H' dk L ns N := ⟨b.ex.trans e, b.deck.ex e, b.bdk, b.bL⟩
theorem Kds.ex {B H H' : Hp} {p : Addr} {rs : List Addr} {kk : List (List Nat)} (k : Kds B H p rs kk) (e : Ex H H') : Kds B H' p rs kk := ⟨k.kd.ex e, k.bp, k.br⟩
theorem Bs.ne {B H : Hp} {dk L : Addr} {ns : List Int} {N : Int} (b : Bs B H dk L ns N) {r : Addr} (h : B r = none) : r ≠ dk := fun z => by
  obtain ⟨o, ho⟩ := b.bdk
  rw [z, ho] at h
  cases h
/-- a new thing in H is none of B's -/
theorem Bs.new {B H : Hp} {dk L : Addr} {ns : List Int} {N : Int} (b : Bs B H dk L ns N) {r : Addr} (h : H r = none) : B r = none := by
  cases e : B r with
  | none => rfl
  | some o =>
    have hne : r ≠ dk := fun z => by
      obtain ⟨_, _, _, d, _⟩ := b.deck
      rw [z, d.at_] at h
      cases h
    have q := b.ex r o (by rw [rem_ne hne]; exact e)
    rw [h] at q
    cases q
/-- a thing that is none of B's may change -/
theorem Bs.upd {B H : Hp} {dk L : Addr} {ns : List Int} {N : Int} {r : Addr} {o : HO} (b : Bs B H dk L ns N) (h : B r = none) : Bs B (upd H r o) dk L ns N := by
  have hne := b.ne h
  have hL : L ≠ r := fun z => by
    obtain ⟨o, ho⟩ := b.bL
    rw [z, h] at ho
    cases ho
  obtain ⟨x, y, n, d, hn⟩ := b.deck
  refine ⟨Ex.mut b.ex (by rw [rem_ne hne]; exact h), ⟨x, y, n, ⟨?_, ?_, d.a0, d.b0, d.n0, d.len⟩, hn⟩, b.bdk, b.bL⟩
  · rw [upd_ne (Ne.symm hne)]
    exact d.at_
  · rw [upd_ne hL]
    exact d.ls
theorem Bs.draw {B H H' : Hp} {dk L : Addr} {ns : List Int} {N M : Int} (b : Bs B H dk L ns N) (e : Ex (rem H dk) H') (d : Dk H' dk L ns M) : Bs B H' dk L ns M := ⟨rem_trans b.ex e, d, b.bdk, b.bL⟩
theorem Kds.draw {B H H' : Hp} {dk L : Addr} {ns : List Int} {N : Int} {p : Addr} {rs : List Addr} {kk : List (List Nat)} (k : Kds B H p rs kk) (b : Bs B H dk L ns N) (e : Ex (rem H dk) H') : Kds B H' p rs kk := by
  refine ⟨⟨e _ _ (by rw [rem_ne (b.ne k.bp)]; exact k.kd.at_), k.kd.len, k.kd.nd, k.kd.np, fun i r ks h1 h2 => ?_⟩, k.bp, k.br⟩
  exact e _ _ (by rw [rem_ne (b.ne (k.br r (List.mem_of_getElem? h1)))]; exact k.kd.row i r ks h1 h2)
/-- a row changes -/
theorem Kds.row {B H : Hp} {p r : Addr} {rs : List Addr} {kk : List (List Nat)} {u : Nat} {ks : List Nat} (k : Kds B H p rs kk) (hr : rs[u]? = some r) : Kds B (upd H r (.lst (nVs ks))) p rs (kk.set u ks) := by
  have hm := List.mem_of_getElem? hr
  have hpr : p ≠ r := fun z => k.kd.np (z ▸ hm)
  refine ⟨⟨by rw [upd_ne hpr]; exact k.kd.at_, by rw [List.length_set]; exact k.kd.len, k.kd.nd, k.kd.np, fun i r' ks' h1 h2 => ?_⟩, k.bp, k.br⟩
  by_cases e : i = u
  · subst e
    rw [hr] at h1
    cases h1
    have hl := (List.getElem?_eq_some_iff.mp h2).1
    rw [List.length_set] at hl
    rw [List.getElem?_set_self hl] at h2
    cases h2
    exact upd_same
  · rw [List.getElem?_set_ne (Ne.symm e)] at h2
    have hne : r' ≠ r := fun z => by
      subst z
      have h3 := List.getElem?_eq_some_iff.mp h1
      have h4 := List.getElem?_eq_some_iff.mp hr
      obtain ⟨a1, a2⟩ := h3
      obtain ⟨b1, b2⟩ := h4
      exact e ((List.getElem_inj k.kd.nd).mp (a2.trans b2.symm))
    rw [upd_ne hne]
    exact k.kd.row i r' ks' h1 h2
/-- a row more: r new -/
theorem Kds.app {B H : Hp} {p r : Addr} {rs : List Addr} {kk : List (List Nat)} {ks : List Nat} (k : Kds B H p rs kk) (hr : H r = some (.lst (nVs ks))) (hnew : r ∉ p :: rs) (hb : B r = none) : Kds B (upd H p (.lst ((rs ++ [r]).map V.ref))) p (rs ++ [r]) (kk ++ [ks]) := by
  rw [List.mem_cons, not_or] at hnew
  refine ⟨⟨upd_same, by rw [List.length_append, List.length_append, k.kd.len]; rfl, ?_, ?_, fun i r' ks' h1 h2 => ?_⟩, k.bp, fun x hx => ?_⟩
  · rw [List.nodup_append]
    exact ⟨k.kd.nd, by simp, fun a ha b hb' z => hnew.2 (by rw [List.mem_singleton.mp hb'] at z; exact z ▸ ha)⟩
  · intro z
    rcases List.mem_append.mp z with z | z
    · exact k.kd.np z
    · exact hnew.1 (List.mem_singleton.mp z).symm
  · rw [List.getElem?_append] at h1 h2
    rw [k.kd.len] at h1
    by_cases hi : i < kk.length
    · rw [if_pos hi] at h1 h2
      have hne : r' ≠ p := fun z => k.kd.np (z ▸ List.mem_of_getElem? h1)
      rw [upd_ne hne]
      exact k.kd.row i r' ks' h1 h2
    · rw [if_neg hi] at h1 h2
      have e0 : i - kk.length = 0 := by
        have := (List.getElem?_eq_some_iff.mp h1).1
        simp at this
        omega
      rw [e0] at h1 h2
      cases h1
      cases h2
      rw [upd_ne hnew.1]
      exact hr
  · rcases List.mem_append.mp hx with h | h
    · exact k.br x h
    · rw [List.mem_singleton.mp h]
      exact hb

theorem KdAt.fresh {H : Hp} {p x : Addr} {rs : List Addr} {kk : List (List Nat)} (k : KdAt H p rs kk) (h : H x = none) : x ∉ p :: rs := fun z => by
  rcases List.mem_cons.mp z with z | z
  · rw [z, k.at_] at h
    cases h
  · obtain ⟨i, hi, ei⟩ := List.mem_iff_getElem.mp z
    have := k.row i x _ (by rw [List.getElem?_eq_getElem hi, ei]) (rowAt_get (by rw [← k.len]; exact hi))
    rw [this] at h
    cases h
theorem Bs.wk {B H : Hp} {dk L : Addr} {ns : List Int} {N M : Int} (b : Bs B H dk L ns N) (h : N ≤ M) : Bs B H dk L ns M := by
  obtain ⟨x, y, n, d, hn⟩ := b.deck
  exact ⟨b.ex, ⟨x, y, n, d, Int.le_trans hn h⟩, b.bdk, b.bL⟩
theorem nodup_len : ∀ (n : Nat) (ks : List Nat), ks.Nodup → (∀ c ∈ ks, c < n) → ks.length ≤ n
  | 0, ks, _, h => by
    cases ks with
    | nil => exact Nat.le_refl _
    | cons x r => exact absurd (h x (List.mem_cons_self ..)) (by omega)
  | n + 1, ks, hd, h => by
    by_cases e : n ∈ ks
    · have q := nodup_len n (ks.erase n) (hd.erase n) fun c hc => by
        have q1 := (List.Nodup.mem_erase_iff hd).mp hc
        have := h c q1.2
        have := q1.1
        omega
      rw [List.length_erase_of_mem e] at q
      omega
    · have q := nodup_len n ks hd fun c hc => by
        have := h c hc
        have : c ≠ n := fun z => e (z ▸ hc)
        omega
      omega
theorem sml_of {L x : Nat} {kk : List (List Nat)} (g : GenX L kk.length (rowAt kk) x) (h : kk.length ≤ 40) : Sml kk := by
  refine ⟨h, fun ks hks => ?_⟩
  obtain ⟨i, hi, e⟩ := List.mem_iff_getElem.mp hks
  have q : rowAt kk i = ks := by
    unfold rowAt
    rw [List.getD_eq_getElem?_getD, List.getElem?_eq_getElem hi, e]
    rfl
  have := nodup_len kk.length ks (q ▸ g.nd i) fun c hc => g.lt i c (q ▸ hc)
  omega
/-- x is k or beneath it -/
def Rch (kk : List (List Nat)) (k x : Nat) : Prop := ∀ T : Nat → Prop, T k → (∀ u c, T u → c ∈ rowAt kk u → T c) → T x
theorem rch_self {kk : List (List Nat)} {k : Nat} : Rch kk k k := fun _ h _ => h
theorem rch_shut {kk : List (List Nat)} {k : Nat} : Shut (rowAt kk) (Rch kk k) := fun u c h hc T h1 h2 => h2 u c (h T h1 h2) hc
theorem beneath_iff {kk : List (List Nat)} {k x : Nat} {S : List Nat} (h : Beneath kk k S) : x ∈ S ↔ Rch kk k x :=
  ⟨fun hx T h1 h2 => h.least T h1 h2 x hx, fun hx => hx (· ∈ S) h.self h.shut⟩
theorem set_rep {a b : Nat} : ∀ {ks : List Nat} {j : Nat}, ks.Nodup → ks[j]? = some a → ks.set j b = rep a b ks
  | x :: r, 0, hd, h => by
    have e : x = a := by simpa using h
    subst e
    rw [List.nodup_cons] at hd
    show b :: r = (if x = x then b else x) :: rep x b r
    rw [if_pos rfl]
    have : rep x b r = r := by
      unfold rep
      refine (List.map_congr_left fun y hy => ?_).trans (List.map_id r)
      rw [if_neg (fun (w : y = x) => hd.1 (w ▸ hy))]
      rfl
    rw [this]
  | x :: r, j + 1, hd, h => by
    rw [List.nodup_cons] at hd
    have h : r[j]? = some a := by simpa using h
    have hx : x ≠ a := fun z => hd.1 (z ▸ List.mem_of_getElem? h)
    show x :: r.set j b = (if x = a then b else x) :: rep a b r
    rw [if_neg hx, set_rep hd.2 h]
section
variable {K : PySem.W.Frag} {σ : L2.St} {H H' : Hp} {ta tb te tl : TE} {t : TT} {D : Ends} {tz : TS}
theorem et_eqNilL {ks : List Nat} (h : EvL ta σ H (nVs ks)) : EvT (tTest (tOp (rEqD K) ta (tLst tNil))) σ H ks.isEmpty :=
  et_test (ev_opLL (ys := []) h (el_lst ea_nil (by simp)) fun p q H1 h1 h2 e1 H2 e2 Q q2 => by
    refine ⟨.list (natDs ks), .list [], .lst (sq_of (e2 _ _ h1)) (dpAll_nat ks), .lst (sq_of (e2 _ _ h2)) .nil, shaped_nats ks, shaped_ints [], ?_⟩
    rw [eqv_nats_nil]
    exact q2 H2 (Ex.refl H2))
/-- the place of an item that is there -/
theorem ev_index {l : Addr} {ks : List Nat} {j a : Nat} (ha : Ev ta σ H (.ref l)) (hb : Ev tb σ H (nV a)) (hl : H l = some (.lst (nVs ks))) (hj : ks[j]? = some a) (hd : ks.Nodup) :
    Ev (tBM K "list" (rIndex K) ta (tCons tb tNil)) σ H (nV j) := fun H1 e Q q =>
  ha H1 e _ fun H2 e2 => ⟨.inl ⟨rfl, _, sq_of ((e.trans e2) _ _ hl)⟩, hb H2 (e.trans e2) _ fun H3 e3 => by
    refine ⟨l, nVs ks, nV a, j, nV a, rfl, rfl, sq_of (((e.trans e2).trans e3) _ _ hl), rfl, flat_nVs ks, nVs_at hj, by show ((a : Int) == (a : Int)) = true; simp, fun m z hm hz => ?_, q H3 (e2.trans e3)⟩
    obtain ⟨k, hk, rfl, _, _⟩ := nVs_get hz
    show ((k : Int) == (a : Int)) = false
    refine beq_eq_false_iff_ne.mpr fun z => ?_
    have z : k = a := by omega
    subst z
    have h3 := List.getElem?_eq_some_iff.mp hk
    have h4 := List.getElem?_eq_some_iff.mp hj
    obtain ⟨a1, a2⟩ := h3
    obtain ⟨b1, b2⟩ := h4
    have := (List.getElem_inj hd).mp (a2.trans b2.symm)
    omega⟩
/-- a kind in what is beneath -/
theorem et_down {E : XK} {tp tk tx : TE} {p : Addr} {rs : List Addr} {kk : List (List Nat)} {k x : Nat} (hp : Ev tp σ H (.ref p)) (hk : Ev tk σ H (nV k)) (hx : Ev tx σ H (nV x)) (hK : KdAt H p rs kk) (hS : Sml kk) (hkn : k < kk.length) (hlt : ∀ ks ∈ kk, ∀ c ∈ ks, c < kk.length) :
    EvT (tB (tDIn tx (tCall (spDown K) [] E (tCons tp (tCons tk tNil))))) σ H (@decide (Rch kk k x) (Classical.propDecidable _)) := fun H1 e Q q =>
  hx H1 e _ fun H2 e2 => hp H2 (e.trans e2) _ fun H3 e3 => hk H3 ((e.trans e2).trans e3) _ fun H4 e4 => by
    have e14 := (e2.trans e3).trans e4
    refine ⟨p, rs, kk, k, rfl, hK.ex (e.trans e14), hS, hkn, hlt, fun d H5 S hS5 hd e5 h5 => ⟨d, _, rfl, DGet.k (k := Sum.inl (x : Int)) h5, _, rfl, ?_⟩⟩
    have eb : (valV (dKs S) (Sum.inl (x : Int))).isSome = @decide (Rch kk k x) (Classical.propDecidable _) := by
      rw [dKs_val]
      by_cases z : x ∈ S
      · rw [if_pos z]
        exact (@decide_eq_true _ (Classical.propDecidable _) ((beneath_iff hS5).mp z)).symm
      · rw [if_neg z]
        exact (@decide_eq_false _ (Classical.propDecidable _) (fun y => z ((beneath_iff hS5).mpr y))).symm
    rw [eb]
    exact q H5 (e14.trans e5)
/-- three draws at once -/
theorem q_three {dk li p L : Addr} {ns : List Int} {N : Int} {xs : List V} {ks : List Nat} {E E' E'' : XK} {i j l : Nat} (h0 : σ[0]? = some (some (.ref dk))) (h1 : σ[1]? = some (some (.ref p))) (h3 : σ[3]? = some (some (.ref li))) (hD : Dk H dk L ns N) (hN : N ≤ 999999990)
    (hp : H p = some (.lst xs)) (hx1 : 1 ≤ xs.length) (hx2 : xs.length ≤ 1000) (hli : H li = some (.lst (nVs ks))) (hk1 : ks ≠ []) (hk2 : ks.length ≤ 1000) (hne : li ≠ dk)
    (k : ∀ low c way H1, low < xs.length → c ∈ ks → way < 4 → Ex (rem H dk) H1 → Dk H1 dk L ns (N + 3) → tz D (((σ.set i (some (nV low))).set j (some (nV c))).set l (some (nV way))) H1) :
    tSeq (tAsg (tTup (tCons (tCall spDraw [] E (tCons (tVar 0) (tCons (tCB (fun xs H Q => ∃ p ys, xs = [.ref p] ∧ (SqL K H p ys ∨ SqT K H p ys) ∧ Q (.int ys.length) H) (tCons (tVar 1) tNil)) tNil))) (tCons (tCall (spOne K) [] E' (tCons (tVar 0) (tCons (tVar 3) tNil))) (tCons (tCall spDraw [] E'' (tCons (tVar 0) (tCons (tC (.int 4)) tNil))) tNil))))
      (gTup K 3 (gCons (gName i) (gCons (gName j) (gCons (gName l) gNil))))) tz D σ H := by
  refine ⟨.ref dk, h0, .ref p, h1, p, xs, rfl, .inl (sq_of hp), dk, L, ns, _, N, rfl, hD, by omega, by omega, by omega, fun r1 H1 a1 b1 e1 d1 => ?_⟩
  have hpos : 1 ≤ ks.length := by
    cases ks with
    | nil => exact absurd rfl hk1
    | cons _ _ => simp
  refine ⟨.ref dk, h0, .ref li, h3, dk, L, ns, N + 1, li, nVs ks, rfl, d1, by omega, e1 _ _ (by rw [rem_ne hne]; exact hli), hne, by unfold nVs; rw [List.length_map]; exact hpos, by unfold nVs; rw [List.length_map]; omega, fun x H2 hx e2 d2 => ?_⟩
  refine ⟨.ref dk, h0, dk, L, ns, 4, N + 1 + 1, rfl, d2, by omega, by decide, by decide, fun r3 H3 a3 b3 e3 d3 => ?_⟩
  refine ⟨by show 3 ≤ sizeLine; decide, fun T hT => ?_⟩
  obtain ⟨c, hc, rfl⟩ := List.mem_map.mp hx
  refine ⟨T, _, rfl, st_of upd_same, rfl, _, _, rfl, _, _, rfl, _, _, rfl, rfl, ?_⟩
  have q := k r1.toNat c r3.toNat (upd H3 T (.tup [.int r1, nV c, .int r3])) (by omega) hc (by omega) ((rem_trans (rem_trans e1 e2) e3).trans (Ex.new hT)) (by
    rw [show N + 3 = N + 1 + 1 + 1 by omega]
    exact d3.ex (Ex.new hT))
  have z1 : nV r1.toNat = .int r1 := by unfold nV; rw [Int.toNat_of_nonneg a1]
  have z3 : nV r3.toNat = .int r3 := by unfold nV; rw [Int.toNat_of_nonneg a3]
  rw [z1, z3] at q
  exact q
/-- x = one(deck, items) -/
theorem q_one {dk li L : Addr} {ns : List Int} {N : Int} {ks : List Nat} {E : XK} {i : Nat} {tp tl : TE} (h0 : Ev tp σ H (.ref dk)) (h1 : Ev tl σ H (.ref li)) (hD : Dk H dk L ns N) (hN : N ≤ 999999990) (hli : H li = some (.lst (nVs ks))) (hk1 : ks ≠ []) (hk2 : ks.length ≤ 1000) (hne : li ≠ dk)
    (k : ∀ c H1, c ∈ ks → Ex (rem H dk) H1 → Dk H1 dk L ns (N + 1) → tz D (σ.set i (some (nV c))) H1) : tSeq (tAsg (tCall (spOne K) [] E (tCons tp (tCons tl tNil))) (gName i)) tz D σ H :=
  h0 H (Ex.refl H) _ fun H1 e1 => h1 H1 e1 _ fun H2 e2 => by
    have hpos : 1 ≤ ks.length := by
      cases ks with
      | nil => exact absurd rfl hk1
      | cons _ _ => simp
    refine ⟨dk, L, ns, N, li, nVs ks, rfl, hD.ex (e1.trans e2), by omega, (e1.trans e2) _ _ hli, hne, by unfold nVs; rw [List.length_map]; exact hpos, by unfold nVs; rw [List.length_map]; omega, fun x H3 hx e3 d3 => ?_⟩
    obtain ⟨c, hc, rfl⟩ := List.mem_map.mp hx
    exact k c H3 hc ((rem_mono (e1.trans e2)).trans e3) d3
end
end WR
set_option Elab.async false
set_option linter.all false
set_option maxRecDepth 100000
set_option maxHeartbeats 2000000
namespace WR
open PySem PySem.Spec PyProof.Rows L2 Evl

def spMix (K : PySem.W.Frag) : Sp := fun vs H Q _ => ∃ dk p B L ns N rs kk Lv, vs = [.ref dk, .ref p] ∧ Bs B H dk L ns N ∧ N ≤ 900000000 ∧ Kds B H p rs kk ∧ Gen Lv kk.length (rowAt kk) ∧ Lv ≤ 8 ∧ kk.length ≤ Lv + 18 ∧
  ∀ H' rs' kk', Bs B H' dk L ns (N + 4) → Kds B H' p rs' kk' → Gen Lv kk'.length (rowAt kk') → kk'.length ≤ kk.length + 2 → Q .non H'
abbrev nMix : List Str := ["_law_deck_here", "_law_kids_here", "_law_plain", "_law_inner", "_law_low", "_law_high", "_law_way", "_law_ups_here", "_law_spots", "_law_one_here", "_law_over", "_law_kind"]
theorem scMix : FnScope nMix ["_law_deck_here", "_law_kids_here"] (defScope sLMix) := ⟨rfl, rfl, rfl, by decide +kernel, rfl, by decide +kernel, by decide +kernel⟩
section
variable {P : Program} {w : World} {K : PySem.W.Frag} {mg : Str → Option Value} {base : Heap}
theorem ok_mix {f fW fO fU fD : Addr} {fd fdW fdO fdU fdD : FuncData} (F : Fun K "_law_mix" "_law_mix" sLMix f fd)
    (FW : Fun K "_law_draw" "_law_draw" sDraw fW fdW) (bW : Binds K fdW ["_law_deck_here", "_law_many"] []) (gW : mg "_law_draw" = some (.ref fW))
    (FO : Fun K "_law_one" "_law_one" sOne fO fdO) (bO : Binds K fdO ["_law_deck_here", "_law_items"] []) (gO : mg "_law_one" = some (.ref fO))
    (FU : Fun K "_law_ups" "_law_ups" sUps fU fdU) (bU : Binds K fdU ["_law_kids_here", "_law_kind"] []) (gU : mg "_law_ups" = some (.ref fU))
    (FD : Fun K "_law_down" "_law_down" sDown fD fdD) (bD : Binds K fdD ["_law_kids_here", "_law_kind"] []) (gD : mg "_law_down" = some (.ref fD))
    (m1 : mg "range" = none) (m3 : mg "len" = none)
    (GW : FnOk P w K mg base CX0 1 fW fdW ["_law_deck_here", "_law_many"] spDraw)
    (GO : FnOk P w K mg base CX0 2 fO fdO ["_law_deck_here", "_law_items"] (spOne K))
    (GU : FnOk P w K mg base CX0 1 fU fdU ["_law_kids_here", "_law_kind"] (spUps K))
    (GD : FnOk P w K mg base CX0 1 fD fdD ["_law_kids_here", "_law_kind"] (spDown K)) :
    FnOk P w K mg base CX0 3 f fd ["_law_deck_here", "_law_kids_here"] (spMix K) := by
  refine F.ok scMix (fun vs H Q E h => ?_) (fun cdv A outer s H vs Q E hr h => ?_)
  · obtain ⟨dk, p, B, L, ns, N, rs, kk, Lv, rfl, _⟩ := h
    rfl
  obtain ⟨dk, p, B, L, ns, N, rs, kk, Lv, rfl, hB, hN, hK, hG, hLv, hn, q⟩ := h
  have r1 := hr.mono (show 1 ≤ 2 by decide)
  have hu := hr.units
  apply Exists.intro
  apply And.intro
  case left =>
    refine' pss_cons (ps_set (i := 2) scMix.nd rfl (.inr rfl) (pe_lc (own := [("_law_kind", 11)]) (g := gName 11) rfl scMix.nd
      (pi_range1 (by rfl) m1 (pa_cons (pe_callB call_len_seq (by rfl) m3 PySem.boot_len (pa_cons (pv 1) pa_nil)) pa_nil)) (blkOk_by (N := nMix) (sc := defScope sLMix) (by decide +kernel))
      (fun _ _ _ _ _ => pg_name (i := 11) scMix.nd rfl (Or.inl rfl)) (fun _ _ _ _ _ => pts_one (pt_cmpR op_lt (pe_callB (r := rLenS K) call_len_seq (by rfl) m3 PySem.boot_len (pa_cons (pe_call GU r1 (by rfl) gU FU.kp bU .nil pass0 (pa_cons (pv 1) (pa_cons (pv 11) pa_nil))) pa_nil)) pe_int (nomark _))) (fun _ _ _ _ _ => pv 11))) ?r0
    case' r0 => skip
    refine' pss_cons (ps_setLc (i := 3) (own := [("_law_kind", 11)]) (g := gName 11) rfl scMix.nd rfl rfl (sw_true rfl rfl rfl (by decide +kernel))
      (pi_list (pv 2)) (blkOk_by (N := nMix) (sc := defScope sLMix) (by decide +kernel))
      (fun _ _ _ _ _ => pg_name (i := 11) scMix.nd rfl (Or.inl rfl)) (fun _ _ _ _ _ => pts_one (pt_cmpR (r := rNeD K) (op_neD hu) (pe_ix (r := rIxL K) ix_list (pv 1) (pv 11) (fun _ _ => rfl)) (pe_lst pa_nil) (nomark _))) (fun _ _ _ _ _ => pv 11)) ?r1
    case' r1 => skip
    refine' pss_cons (ps_if (pt_cmpR (op_eqD hu) (pv 3) (pe_lst pa_nil) (nomark _)) (pss_one ps_retN) pss_nil) ?r2
    case' r2 => skip
    refine' pss_cons (ps_asg (pe_tup (pa_cons (pe_call GW r1 (by rfl) gW FW.kp bW .nil pass0 (pa_cons (pv 0) (pa_cons (pe_callB call_len_seq (by rfl) m3 PySem.boot_len (pa_cons (pv 1) pa_nil)) pa_nil)))
        (pa_cons (pe_call GO hr (by rfl) gO FO.kp bO .nil pass0 (pa_cons (pv 0) (pa_cons (pv 3) pa_nil)))
        (pa_cons (pe_call GW r1 (by rfl) gW FW.kp bW .nil pass0 (pa_cons (pv 0) (pa_cons pe_int pa_nil))) pa_nil))))
      (pg_tup rfl (pgs_cons (pg_name (i := 4) scMix.nd rfl (.inr rfl)) (pgs_cons (pg_name (i := 5) scMix.nd rfl (.inl rfl)) (pgs_cons (pg_name (i := 6) scMix.nd rfl (.inl rfl)) pgs_nil))))) ?r3
    case' r3 => skip
    refine' pss_cons (ps_set (i := 7) scMix.nd rfl (.inl rfl) (pe_call GU r1 (by rfl) gU FU.kp bU .nil pass0 (pa_cons (pv 1) (pa_cons (pv 4) pa_nil)))) ?r4
    case' r4 => skip
    refine' pss_cons (ps_if (pw_or (pt_cmpR (op_eqD hu) (pv 7) (pe_lst pa_nil) (nomark _)) (pw_or (pt_cmp (pc_din (hu_of hr) (pv 5) (pe_call GD r1 (by rfl) gD FD.kp bD .nil pass0 (pa_cons (pv 1) (pa_cons (pv 4) pa_nil)))))
        (pw_or1 (pw_and (pt_cmpR op_in_seq (pv 5) (pv 7) rfl) (pw_and1 (pw_or (pt_cmpR op_lt (pv 6) pe_int (nomark _)) (pw_or1 (pt_cmpR op_gt (pe_callB call_len_seq (by rfl) m3 PySem.boot_len (pa_cons (pv 7) pa_nil)) pe_int (nomark _)))).pt)).pt))).pt (pss_one ps_retN) pss_nil) ?r5
    case' r5 => skip
    refine' pss_cons (ps_if (pt_cmpR op_gt (pe_callB call_len_seq (by rfl) m3 PySem.boot_len (pa_cons (pv 7) pa_nil)) pe_int (nomark _))
      (pss_cons (ps_expr (pe_bm PySem.F.plainAttrs_list PySem.F.slot_list_append PySem.F.type_list_append mt_append (pe_ix ix_list (pv 1) (pv 5) (fun _ _ => rfl)) (pa_cons (pv 4) pa_nil))) (pss_one ps_retN)) pss_nil) ?r6
    case' r6 => skip
    refine' pss_cons (ps_if (pt_cmpR (op_eqD hu) (pe_lc (own := [("_law_one_here", 9)]) (g := gName 9) rfl scMix.nd (pi_list (pe_ix ix_list (pv 1) (pe_ix ix_list (pv 7) pe_int (fun _ _ => rfl)) (fun _ _ => rfl))) (blkOk_by (N := nMix) (sc := defScope sLMix) (by decide +kernel))
        (fun _ _ _ _ _ => pg_name (i := 9) scMix.nd rfl (Or.inl rfl)) (fun _ _ _ _ _ => pts_one (pw_and (pt_cmpR op_ne (pv 9) (pv 4) (nomark _)) (pw_and1 (pt_cmpR (r := rIn K false) op_in_seq (pv 9) (pv 2) rfl))).pt) (fun _ _ _ _ _ => pv 9)) (pe_lst pa_nil) (nomark _)) (pss_one ps_retN) pss_nil) ?r7
    case' r7 => skip
    refine' pss_cons (ps_expr (pe_bm PySem.F.plainAttrs_list PySem.F.slot_list_append PySem.F.type_list_append mt_append (pv 1) (pa_cons (pe_lst (pa_cons (pv 4) pa_nil)) pa_nil))) ?r8
    case' r8 => skip
    refine' pss_cons (ps_asg (pe_op op_sub (pe_callB call_len_seq (by rfl) m3 PySem.boot_len (pa_cons (pv 1) pa_nil)) pe_int)
      (pg_sub (pe_ix ix_list (pv 1) (pe_ix ix_list (pv 7) pe_int (fun _ _ => rfl)) (fun _ _ => rfl)) (pe_bm PySem.F.plainAttrs_list PySem.F.slot_list_index PySem.F.type_list_index mt_index (pe_ix ix_list (pv 1) (pe_ix ix_list (pv 7) pe_int (fun _ _ => rfl)) (fun _ _ => rfl)) (pa_cons (pv 4) pa_nil)) set_list)) ?r9
    case' r9 => skip
    refine' pss_cons (ps_setLc (i := 8) (own := [("_law_one_here", 9)]) (g := gName 9) rfl scMix.nd rfl rfl (sw_true rfl rfl rfl (by decide +kernel)) (pi_list (pe_ix ix_list (pv 1) (pv 5) (fun _ _ => rfl))) (blkOk_by (N := nMix) (sc := defScope sLMix) (by decide +kernel))
        (fun _ _ _ _ _ => pg_name (i := 9) scMix.nd rfl (Or.inl rfl)) (fun _ _ _ _ _ => pts_one (pt_cmpR (r := rIn K false) op_in_seq (pv 9) (pv 2) rfl)) (fun _ _ _ _ _ => pv 9)) ?r10
    case' r10 => skip
    refine' pss_cons (ps_if (pw_and (pt_cmpR op_eq (pv 6) pe_int (nomark _)) (pw_and1 (pt_cmpR (op_eqD hu) (pe_call GU r1 (by rfl) gU FU.kp bU .nil pass0 (pa_cons (pv 1) (pa_cons (pv 5) pa_nil))) (pe_lst pa_nil) (nomark _)))).pt
      (pss_one (ps_set (i := 8) scMix.nd rfl (.inl rfl) (pe_lst (pa_cons (pv 5) pa_nil))))
      (pss_one (ps_if (pt_cmpR op_lt (pv 6) pe_int (nomark _)) (pss_cons (ps_expr (pe_bm PySem.F.plainAttrs_list PySem.F.slot_list_append PySem.F.type_list_append mt_append (pe_ix ix_list (pv 1) (pv 5) (fun _ _ => rfl)) (pa_cons (pe_op op_sub (pe_callB call_len_seq (by rfl) m3 PySem.boot_len (pa_cons (pv 1) pa_nil)) pe_int) pa_nil))) (pss_one ps_retN)) pss_nil))) ?r11
    case' r11 => skip
    refine' pss_cons (ps_set (i := 9) scMix.nd rfl (.inl rfl) (pe_call GO hr (by rfl) gO FO.kp bO .nil pass0 (pa_cons (pv 0) (pa_cons (pv 8) pa_nil)))) ?r12
    case' r12 => skip
    refine' pss_cons (ps_set (i := 10) scMix.nd rfl (.inl rfl) (pe_call GU r1 (by rfl) gU FU.kp bU .nil pass0 (pa_cons (pv 1) (pa_cons (pv 9) pa_nil)))) ?r13
    case' r13 => skip
    refine' pss_cons (ps_expr (pe_bm PySem.F.plainAttrs_list PySem.F.slot_list_append PySem.F.type_list_append mt_append (pv 1) (pa_cons (pe_lst (pa_cons (pv 9) (pa_cons (pe_op op_sub (pe_callB call_len_seq (by rfl) m3 PySem.boot_len (pa_cons (pv 1) pa_nil)) pe_int) pa_nil))) pa_nil))) ?r14
    case' r14 => skip
    exact pss_one (ps_if (pt_cmpR (op_neD hu) (pv 10) (pe_lst pa_nil) (nomark _)) (pss_one (ps_asg (pe_op op_sub (pe_callB call_len_seq (by rfl) m3 PySem.boot_len (pa_cons (pv 1) pa_nil)) pe_int)
      (pg_sub (pe_ix ix_list (pv 1) (pe_ix ix_list (pv 10) pe_int (fun _ _ => rfl)) (fun _ _ => rfl)) (pe_bm PySem.F.plainAttrs_list PySem.F.slot_list_index PySem.F.type_list_index mt_index (pe_ix ix_list (pv 1) (pe_ix ix_list (pv 10) pe_int (fun _ _ => rfl)) (fun _ _ => rfl)) (pa_cons (pv 9) pa_nil)) set_list))) pss_nil)
  case right =>
    obtain ⟨Kf, eKf⟩ : ∃ Kf, Kf = rowAt kk := ⟨_, rfl⟩
    have hSm : Sml kk := sml_of hG (by omega)
    have hlt : ∀ ks ∈ kk, ∀ c ∈ ks, c < kk.length := fun ks hks c hc => by
      obtain ⟨i, hi, e⟩ := List.mem_iff_getElem.mp hks
      refine hG.lt i c ?_
      unfold rowAt
      rw [List.getD_eq_getElem?_getD, List.getElem?_eq_getElem hi, e]
      exact hc
    have hn1 : 1 ≤ kk.length := Nat.le_trans hG.l1 hG.ln
    let S (x2 x3 x4 x5 x6 x7 x8 x9 x10 : Option V) : L2.St := [some (.ref dk), some (.ref p), x2, x3, x4, x5, x6, x7, x8, x9, x10, none]
    have done : ∀ H', Ex (rem B dk) H' → Bs B H' dk L ns (N + 4) → ∀ rs, Kds B H' p rs kk → Q .non H' := fun H' _ b rs k => q H' rs kk b k hG (by omega)
    -- the plain kinds
    let g0 : Nat → Bool := fun k => decide (((upsL kk k).length : Int) < 2)
    show tSeq (tAsg _ _) _ _ (S none none none none none none none none none) H
    refine Evl.q_asgL (xs := nVs ((List.range kk.length).filter g0)) (el_rngLc (n := kk.length) g0 (ea_cons (ev_is (ev_len (K := K) (ev_var rfl) (sq_of hK.kd.at_)) (by rw [List.length_map, hK.kd.len])) ea_nil) (by omega) (fun _ => rfl) (show 11 < 12 by decide) fun k H1 e1 hk => ?_) fun lp H1 hlp e1 hp1 => ?_
    · exact et_test (ev_op (ev_lenL (K := K) (el_ups (ev_var rfl) (ev_var rfl) (hK.kd.ex e1) hSm)) ev_c rv_I0)
    have hplain : ∀ k, k ∈ (List.range kk.length).filter g0 ↔ k < kk.length ∧ cnt (rowAt kk) k kk.length ≤ 1 := fun k => by
      rw [List.mem_filter, List.mem_range]
      show _ ∧ decide (((upsL kk k).length : Int) < 2) = true ↔ _
      rw [decide_eq_true_eq, cnt_ups]
      omega
    have hpl : ((List.range kk.length).filter g0).length ≤ kk.length := Nat.le_trans (List.length_filter_le _ _) (by rw [List.length_range]; exact Nat.le_refl _)
    generalize (List.range kk.length).filter g0 = plain at hp1 hplain hpl
    have hB1 := hB.more e1
    have hK1 := hK.ex e1
    have hlpB : B lp = none := hB.new hlp
    have hlpN : lp ∉ p :: rs := hK.kd.fresh hlp
    -- the plain ones with children
    let g1 : Nat → Bool := fun k => !(rowAt kk k).isEmpty
    show tSeq (tAsg _ _) _ _ (S (some (.ref lp)) none none none none none none none none) H1
    refine Evl.q_asgL (xs := nVs (plain.filter g1)) (el_natLc (K := K) g1 (ev_var rfl) (sq_of hp1) (by omega) (fun _ => rfl) (show 11 < 12 by decide) fun k H2 e2 hk => ?_) fun li H2 hli e2 hp2 => ?_
    · obtain ⟨r, hr, hrow⟩ := (hK1.kd.ex e2).get (rowAt_get ((hplain k).mp hk).1)
      exact et_neNil (ev_row (hK1.kd.ex e2) hr (ev_var rfl) (ev_var rfl)) hrow
    have hinner : ∀ k, k ∈ plain.filter g1 ↔ (k < kk.length ∧ cnt (rowAt kk) k kk.length ≤ 1) ∧ rowAt kk k ≠ [] := fun k => by
      rw [List.mem_filter, hplain]
      show _ ∧ (!(rowAt kk k).isEmpty) = true ↔ _
      simp
    have hil : (plain.filter g1).length ≤ kk.length := Nat.le_trans (List.length_filter_le _ _) hpl
    generalize plain.filter g1 = inner at hp2 hinner hil
    have hB2 := hB1.more e2
    have hK2 := hK1.ex e2
    have hliB : B li = none := hB1.new hli
    replace hp1 := e2 _ _ hp1
    show tSeq (tIfS _ _ _) _ _ (S (some (.ref lp)) (some (.ref li)) none none none none none none none) H2
    refine q_when (b := inner.isEmpty) (et_eqNil (ev_var rfl) hp2) (fun hb H3 e3 => done H3 (hB2.more e3).ex ((hB2.more e3).wk (by omega)) rs (hK2.ex e3)) fun hb H3 e3 => ?_
    have hine : inner ≠ [] := by
      intro z
      rw [z] at hb
      cases hb
    have hB3 := hB2.more e3
    have hK3 := hK2.ex e3
    replace hp1 := e3 _ _ hp1
    replace hp2 := e3 _ _ hp2
    -- three draws
    refine q_three (K := K) (dk := dk) (li := li) (p := p) (L := L) (ns := ns) (N := N) (ks := inner) rfl rfl rfl hB3.deck (by omega) hK3.kd.at_ (by rw [List.length_map, hK3.kd.len]; exact hn1) (by rw [List.length_map, hK3.kd.len]; omega) hp2 hine (by omega) (hB3.ne hliB) fun low high way H4 hlow hhigh hway e4 d4 => ?_
    rw [List.length_map, hK3.kd.len] at hlow
    have hB4 := hB3.draw e4 d4
    have hK4 := hK3.draw hB3 e4
    replace hp1 := e4 lp _ (by rw [rem_ne (hB3.ne hlpB)]; exact hp1)
    obtain ⟨⟨hhn, hh1⟩, hhne⟩ := (hinner high).mp hhigh
    clear hp2 hine hil hinner hhigh d4
    have hhL : Lv ≤ high := by
      rcases Nat.lt_or_ge high Lv with z | z
      · exact absurd (hG.leaf high z) hhne
      · exact z
    show tSeq (tAsg _ _) _ _ (S (some (.ref lp)) (some (.ref li)) (some (nV low)) (some (nV high)) (some (nV way)) none none none none) H4
    refine Evl.q_asgL (xs := nVs (upsL kk low)) (el_ups (ev_var rfl) (ev_var rfl) hK4.kd hSm) fun lu H5 hlu e5 hp5 => ?_
    have hB5 := hB4.more e5
    have hK5 := hK4.ex e5
    replace hp1 := e5 _ _ hp1
    have hluB : B lu = none := hB4.new hlu
    have hluN : lu ∉ p :: rs := hK4.kd.fresh hlu
    show tSeq (tIfS _ _ _) _ _ (S (some (.ref lp)) (some (.ref li)) (some (nV low)) (some (nV high)) (some (nV way)) (some (.ref lu)) none none none) H5
    have hUlen : Ev (tCB (fun xs H Q => ∃ p ys, xs = [.ref p] ∧ (SqL K H p ys ∨ SqT K H p ys) ∧ Q (.int ys.length) H) (tCons (tVar 7) tNil)) (S (some (.ref lp)) (some (.ref li)) (some (nV low)) (some (nV high)) (some (nV way)) (some (.ref lu)) none none none) H5 (nV (upsL kk low).length) :=
      ev_is (ev_len (K := K) (ev_var rfl) (sq_of hp5)) (by unfold nVs nV; rw [List.length_map])
    refine q_when (b := (upsL kk low).isEmpty || (@decide (Rch kk low high) (Classical.propDecidable _) || (decide (high ∈ upsL kk low) && (decide ((way : Int) < 2) || decide (1 < ((upsL kk low).length : Int)))))) (et_or (et_eqNil (ev_var rfl) hp5) fun _ => et_or (et_down (ev_var rfl) (ev_var rfl) (ev_var rfl) hK5.kd hSm hlow hlt) fun _ =>
        et_and (et_test (ev_is (ev_op (x := nV high) (y := .ref lu) (ev_var rfl) (ev_var rfl) (rv_isL (K := K) (sq_of hp5) rfl (flat_nVs _))) (by rw [inV_nat]))) fun _ => et_or (et_test (ev_op (ev_var rfl) ev_c rv_I0)) fun _ => et_test (ev_op hUlen ev_c rv_I0))
      (fun hb H6 e6 => done H6 (hB5.more e6).ex ((hB5.more e6).wk (by omega)) rs (hK5.ex e6)) fun hb H6 e6 => ?_
    rw [Bool.or_eq_false_iff, Bool.or_eq_false_iff, Bool.and_eq_false_iff, Bool.or_eq_false_iff] at hb
    obtain ⟨hU0, hRb, hin⟩ := hb
    have hR : ¬ Rch kk low high := fun z => by
      rw [@decide_eq_true _ (Classical.propDecidable _) z] at hRb
      cases hRb
    have hUne : upsL kk low ≠ [] := fun z => by
      rw [z] at hU0
      cases hU0
    have hin : high ∈ upsL kk low → 2 ≤ way ∧ (upsL kk low).length ≤ 1 := fun z => by
      rcases hin with h | ⟨h1, h2⟩
      · exact absurd z (of_decide_eq_false h)
      · have h1 := of_decide_eq_false h1
        have h2 := of_decide_eq_false h2
        omega
    have hhl : high ≠ low := fun z => hR (z ▸ rch_self)
    have hB6 := hB5.more e6
    have hK6 := hK5.ex e6
    replace hp1 := e6 _ _ hp1
    replace hp5 := e6 _ _ hp5
    -- low is a mixing: one parent more
    show tSeq (tIfS _ _ _) _ _ (S (some (.ref lp)) (some (.ref li)) (some (nV low)) (some (nV high)) (some (nV way)) (some (.ref lu)) none none none) H6
    refine q_when (b := decide (1 < ((upsL kk low).length : Int))) (et_test (ev_op (hUlen.mono e6) ev_c rv_I0)) (fun hb H7 e7 => ?_) fun hb H7 e7 => ?_
    · have hb := of_decide_eq_true hb
      have hc2 : 2 ≤ cnt (rowAt kk) low kk.length := by
        rw [← cnt_ups]
        omega
      have hB7 := hB6.more e7
      have hK7 := hK6.ex e7
      obtain ⟨r, hr, hrow⟩ := hK7.kd.get (rowAt_get hhn)
      refine q_app (v := nV low) hrow (ev_row hK7.kd hr (ev_var rfl) (ev_var rfl)) (ev_var rfl) (by unfold nVs; rw [List.length_map]; have := nodup_len _ _ (hG.nd high) (fun c hc => hG.lt high c hc); omega) fun H8 e8 => ?_
      have hrB : B r = none := hK7.br r (List.mem_of_getElem? hr)
      have hlowL : Lv ≤ low := by
        rcases Nat.lt_or_ge low Lv with z | z
        · have := hG.lf1 low z
          omega
        · exact z
      have hnot : low ∉ rowAt kk high := fun z => by
        have := (hin (mem_ups.mpr ⟨hhn, z⟩)).2
        omega
      have hG' := gen_more (hG.at hc2) ⟨hlowL, hlow, hG.mix low hc2, by omega⟩ hhL hhn hh1 hhl hnot rch_shut rch_self hR
      have hK8 := (hK7.ex e8).row (ks := rowAt kk high ++ [low]) hr
      have hB8 : Bs B (upd H8 r (.lst (nVs (rowAt kk high ++ [low])))) dk L ns (N + 3) := (hB7.more e8).upd hrB
      have eR : nVs (rowAt kk high) ++ [nV low] = nVs (rowAt kk high ++ [low]) := by unfold nVs; rw [List.map_append]; rfl
      rw [eR]
      refine q _ rs (kk.set high (rowAt kk high ++ [low])) (hB8.wk (by omega)) hK8 ?_ (by rw [List.length_set]; omega)
      rw [rowAt_set hhn, List.length_set]
      exact hG'
    have hb := of_decide_eq_false hb
    have hU1 : (upsL kk low).length = 1 := by
      have : (upsL kk low).length ≠ 0 := fun z => hUne (List.length_eq_zero_iff.mp z)
      omega
    obtain ⟨up, hU⟩ : ∃ up, upsL kk low = [up] := by
      match h : upsL kk low, hU1 with
      | [up], _ => exact ⟨up, rfl⟩
    have hcl : cnt (rowAt kk) low kk.length = 1 := by rw [← cnt_ups, hU1]
    have hup : up < kk.length ∧ low ∈ rowAt kk up := mem_ups.mp (by rw [hU]; exact List.mem_singleton.mpr rfl)
    have hB7 := hB6.more e7
    have hK7 := hK6.ex e7
    replace hp1 := e7 _ _ hp1
    replace hp5 := e7 _ _ hp5
    rw [hU] at hp5
    clear hUlen hU0 hRb hUne hb
    let S7 (x8 x9 x10 : Option V) : L2.St := S (some (.ref lp)) (some (.ref li)) (some (nV low)) (some (nV high)) (some (nV way)) (some (.ref lu)) x8 x9 x10
    have evU0 : ∀ {x8 x9 x10 : Option V} {H' : Hp}, H' lu = some (.lst (nVs [up])) → Ev (tOp (rIxL K) (tVar 7) (tC (.int 0))) (S7 x8 x9 x10) H' (nV up) := fun h => ev_op (ev_var rfl) ev_c (rv_ixL (K := K) (sq_of h) (atI_nat (j := 0) rfl))
    -- there is another plain child
    obtain ⟨ru, hru, hrowu⟩ := hK7.kd.get (rowAt_get hup.1)
    have hupl : (rowAt kk up).length ≤ kk.length := nodup_len _ _ (hG.nd up) (fun c hc => hG.lt up c hc)
    let g2 : Nat → Bool := fun k => !decide (k = low) && decide (k ∈ plain)
    show tSeq (tIfS _ _ _) _ _ (S7 none none none) H7
    refine q_when (b := ((rowAt kk up).filter g2).isEmpty) (et_eqNilL (K := K) (el_natLc (K := K) (a := ru) g2 (ev_row hK7.kd hru (ev_var rfl) (evU0 hp5)) (sq_of hrowu) (by omega) (fun _ => rfl) (show 9 < 12 by decide) fun k H8 e8 hk => ?_)) (fun hb H8 e8 => done H8 (hB7.more e8).ex ((hB7.more e8).wk (by omega)) rs (hK7.ex e8)) fun hb H8 e8 => ?_
    · refine et_and (et_test (ev_is (ev_op (x := nV k) (y := nV low) (ev_var rfl) (ev_var rfl) (rv_ne rfl)) ?_)) fun _ => et_test (ev_is (ev_op (x := nV k) (y := .ref lp) (ev_var rfl) (ev_var rfl) (rv_isL (K := K) (sq_of (e8 _ _ hp1)) rfl (flat_nVs _))) (by rw [inV_nat]))
      show V.bl (!decide (V.int (k : Int) = V.int (low : Int))) = V.bl (!decide (k = low))
      rw [dec_int]
      congr 2
      by_cases z : k = low
      · subst z
        simp
      · rw [decide_eq_false z]
        exact beq_eq_false_iff_ne.mpr (by omega)
    obtain ⟨c0, hc0, hc0l, hc0p⟩ : ∃ c, c ∈ rowAt kk up ∧ c ≠ low ∧ cnt (rowAt kk) c kk.length ≤ 1 := by
      have hne : (rowAt kk up).filter g2 ≠ [] := fun z => by
        rw [z] at hb
        cases hb
      obtain ⟨c, hc⟩ := List.exists_mem_of_ne_nil _ hne
      rw [List.mem_filter] at hc
      have h2 : (!decide (c = low) && decide (c ∈ plain)) = true := hc.2
      simp only [Bool.and_eq_true, Bool.not_eq_true', decide_eq_false_iff_not, decide_eq_true_eq] at h2
      exact ⟨c, hc.1, h2.1, ((hplain c).mp h2.2).2⟩
    have hB8 := hB7.more e8
    have hK8 := hK7.ex e8
    replace hp1 := e8 _ _ hp1
    replace hp5 := e8 _ _ hp5
    clear hb hrowu
    -- the new mixing
    show tSeq (tDrop _) _ _ (S7 none none none) H8
    refine q_appL (ys := [nV low]) hK8.kd.at_ (ev_var rfl) (el_lst (ea_cons (ev_var rfl) ea_nil) (by simp)) (by rw [List.length_map, hK8.kd.len]; omega) fun rn H9 hrn e9 hnew => ?_
    have hrnB : B rn = none := hB8.new hrn
    have hrnN : rn ∉ p :: rs := hK8.kd.fresh hrn
    have hlprn : lp ≠ rn := ne_of_none hp1 hrn
    have hlurn : lu ≠ rn := ne_of_none hp5 hrn
    have hKa := (hK8.ex e9).app (ks := [low]) hnew hrnN hrnB
    have hBa : Bs B (upd H9 p (.lst ((rs ++ [rn]).map V.ref))) dk L ns (N + 3) := (hB8.more e9).upd hK8.bp
    have keep : ∀ {x : Addr} {o : HO}, H9 x = some o → x ≠ p → upd H9 p (.lst ((rs ++ [rn]).map V.ref)) x = some o := fun h n => by
      rw [upd_ne n]
      exact h
    have hlpp : lp ≠ p := fun z => hlpN (z ▸ List.mem_cons_self ..)
    have hlup : lu ≠ p := fun z => hluN (z ▸ List.mem_cons_self ..)
    have hlp1 : lp ∉ rs ++ [rn] := fun z => by
      rcases List.mem_append.mp z with z | z
      · exact hlpN (List.mem_cons_of_mem _ z)
      · exact hlprn (List.mem_singleton.mp z)
    have hp1a := keep (e9 _ _ hp1) hlpp
    have hp5a := keep (e9 _ _ hp5) hlup
    rw [show rs.map V.ref ++ [.ref rn] = (rs ++ [rn]).map V.ref by rw [List.map_append]; rfl]
    generalize upd H9 p (.lst ((rs ++ [rn]).map V.ref)) = Ha at hKa hBa hp1a hp5a ⊢
    clear keep hnew hp1 hp5 hK8 hB8 hrn hrnN
    generalize rs ++ [rn] = rs1 at hKa hlp1
    have hlen1 : (kk ++ [[low]]).length = kk.length + 1 := by simp
    have hrow1 : rowAt (kk ++ [[low]]) = setK (rowAt kk) kk.length [low] := rowAt_app
    have hup1 : rowAt (kk ++ [[low]]) up = rowAt kk up := by
      rw [hrow1, setK_ne (by omega)]
    -- up has it in low's place
    obtain ⟨ru1, hru1, hrowu1⟩ := hKa.kd.get (rowAt_get (show up < (kk ++ [[low]]).length by omega))
    rw [hup1] at hrowu1
    obtain ⟨ju, hju⟩ : ∃ j : Nat, (rowAt kk up)[j]? = some low := by
      obtain ⟨j, hj, e⟩ := List.mem_iff_getElem.mp hup.2
      exact ⟨j, by rw [List.getElem?_eq_getElem hj, e]⟩
    have hjl := (List.getElem?_eq_some_iff.mp hju).1
    have evLen : ∀ {x8 x9 x10 : Option V} {H' : Hp} {rs' : List Addr} {k' : List (List Nat)}, KdAt H' p rs' k' → Ev (tCB (fun xs H Q => ∃ p ys, xs = [.ref p] ∧ (SqL K H p ys ∨ SqT K H p ys) ∧ Q (.int ys.length) H) (tCons (tVar 1) tNil)) (S7 x8 x9 x10) H' (nV k'.length) := fun h =>
      ev_is (ev_len (K := K) (ev_var rfl) (sq_of h.at_)) (by unfold nV; rw [List.length_map, h.len])
    show tSeq (tAsg _ _) _ _ (S7 none none none) Ha
    refine q_setL (l := ru1) (j := ju) (v := nV kk.length) hrowu1 (ev_is (ev_op (evLen hKa.kd) ev_c rv_I0) (by rw [hlen1]; show V.int _ = V.int _; congr 1; omega)) (ev_row hKa.kd hru1 (ev_var rfl) (evU0 hp5a)) (ev_index (ev_row hKa.kd hru1 (ev_var rfl) (evU0 hp5a)) (ev_var rfl) hrowu1 hju (hG.nd up)) (by unfold nVs; rw [List.length_map]; exact hjl) fun H10 e10 => ?_
    have hruB : B ru1 = none := hKa.br ru1 (List.mem_of_getElem? hru1)
    have eset : (nVs (rowAt kk up)).set ju (nV kk.length) = nVs (rep low kk.length (rowAt kk up)) := by
      unfold nVs
      rw [← List.map_set, set_rep (hG.nd up) hju]
    rw [eset]
    have hKb := (hKa.ex e10).row (ks := rep low kk.length (rowAt kk up)) hru1
    have hBb : Bs B (upd H10 ru1 (.lst (nVs (rep low kk.length (rowAt kk up))))) dk L ns (N + 3) := (hBa.more e10).upd hruB
    have hp1b : upd H10 ru1 (.lst (nVs (rep low kk.length (rowAt kk up)))) lp = some (.lst (nVs plain)) := by
      rw [upd_ne (fun (z : lp = ru1) => hlp1 (by rw [z]; exact List.mem_of_getElem? hru1))]
      exact e10 _ _ hp1a
    generalize upd H10 ru1 (.lst (nVs (rep low kk.length (rowAt kk up)))) = Hb at hKb hBb hp1b ⊢
    clear eset hruB hrowu1 hju hjl hru1 hKa hBa hp1a hp5a
    obtain ⟨k2, hk2⟩ : ∃ k2, k2 = (kk ++ [[low]]).set up (rep low kk.length (rowAt kk up)) := ⟨_, rfl⟩
    rw [← hk2] at hKb
    have hlen2 : k2.length = kk.length + 1 := by rw [hk2, List.length_set, hlen1]
    have hrow2 : rowAt k2 = betweenK (rowAt kk) kk.length up low := by
      rw [hk2, rowAt_set (by omega), hrow1]
      funext x
      unfold betweenK setK
      by_cases a1 : x = up
      · subst a1
        rw [if_pos rfl, if_neg (by omega), if_pos rfl]
      · rw [if_neg a1]
        by_cases a2 : x = kk.length
        · rw [if_pos a2, if_pos a2]
        · rw [if_neg a2, if_neg a2, if_neg a1]
    obtain ⟨gX, lX, gc, gs⟩ := gen_between hG hup.1 hup.2 (by omega) ⟨c0, hc0, hc0l, hc0p⟩
    have gS := gs (Rch kk low) rch_shut rch_self
    have gH : ¬ (Rch kk low high ∨ high = kk.length) := by
      rintro (z | z)
      · exact hR z
      · omega
    rw [← hrow2] at gX lX gc gS
    rw [← hlen2] at gX lX gc
    have hSm2 : Sml k2 := sml_of gX (by omega)
    have hch : cnt (rowAt k2) high k2.length = cnt (rowAt kk) high kk.length := gc high (by omega)
    have hhn2 : high < k2.length := by omega
    obtain ⟨rh, hrh, hrowh⟩ := hKb.kd.get (rowAt_get hhn2)
    have hrhl : (rowAt k2 high).length ≤ 40 := hSm2.2 _ (List.mem_of_getElem? (rowAt_get hhn2))
    -- the spots
    let g3 : Nat → Bool := fun k => decide (k ∈ plain)
    show tSeq (tAsg _ _) _ _ (S7 none none none) Hb
    refine Evl.q_asgL (xs := nVs ((rowAt k2 high).filter g3)) (el_natLc (K := K) (a := rh) g3 (ev_row hKb.kd hrh (ev_var rfl) (ev_var rfl)) (sq_of hrowh) (by omega) (fun _ => rfl) (show 9 < 12 by decide) fun k H11 e11 hk => ?_) fun ls H11 hls e11 hpS => ?_
    · exact et_test (ev_is (ev_op (x := nV k) (y := .ref lp) (ev_var rfl) (ev_var rfl) (rv_isL (K := K) (sq_of (e11 _ _ hp1b)) rfl (flat_nVs _))) (by rw [inV_nat]))
    have hB11 := hBb.more e11
    have hK11 := hKb.ex e11
    have hlsB : B ls = none := hBb.new hls
    have hspot : ∀ s, s ∈ (rowAt k2 high).filter g3 → s ∈ rowAt k2 high ∧ s < kk.length ∧ cnt (rowAt k2) s k2.length ≤ 1 := fun s hs => by
      rw [List.mem_filter] at hs
      have h1 := (hplain s).mp (of_decide_eq_true hs.2)
      exact ⟨hs.1, h1.1, by rw [gc s (by omega)]; exact h1.2⟩
    have hspne : (rowAt k2 high).filter g3 ≠ [] := by
      have key : ∃ s, s ∈ rowAt k2 high ∧ s ∈ plain := by
        rw [hrow2]
        unfold betweenK
        rw [setK_ne (by omega)]
        by_cases z : high = up
        · subst z
          rw [setK_same]
          exact ⟨c0, (rep_mem hup.2).mpr (.inr ⟨hc0, hc0l⟩), (hplain c0).mpr ⟨hG.lt _ _ hc0, hc0p⟩⟩
        · rw [setK_ne z]
          obtain ⟨c, a1, a2, _⟩ := hG.bare high hhL hhn
          exact ⟨c, a1, (hplain c).mpr ⟨hG.lt _ _ a1, a2⟩⟩
      obtain ⟨s, h1, h2⟩ := key
      intro z
      have : s ∈ (rowAt k2 high).filter g3 := List.mem_filter.mpr ⟨h1, decide_eq_true h2⟩
      rw [z] at this
      cases this
    have hspl : ((rowAt k2 high).filter g3).length ≤ 40 := Nat.le_trans (List.length_filter_le _ _) hrhl
    generalize (rowAt k2 high).filter g3 = spots at hpS hspot hspne hspl
    clear hp1b hrowh hrh
    -- what follows the choice of spots
    have tail : ∀ (tz : TS) (D : Ends), D.nx = (fun (_ : L2.St) H' => Q .non H') →
        tz = tSeq (tAsg (tCall (spOne K) [] E0 (tCons (tVar 0) (tCons (tVar 8) tNil))) (gName 9))
          (tSeq (tAsg (tCall (spUps K) [] E0 (tCons (tVar 1) (tCons (tVar 9) tNil))) (gName 10))
          (tSeq (tDrop (tBM K "list" rAppend (tVar 1) (tCons (tLst (tCons (tVar 9) (tCons (tOp (rI0 fun i j => .int (i - j)) (tCB (fun xs H Q => ∃ p ys, xs = [.ref p] ∧ (SqL K H p ys ∨ SqT K H p ys) ∧ Q (.int ys.length) H) (tCons (tVar 1) tNil)) (tC (.int 1))) tNil))) tNil)))
          (tIfS (tTest (tOp (rNeD K) (tVar 10) (tLst tNil))) (tAsg (tOp (rI0 fun i j => .int (i - j)) (tCB (fun xs H Q => ∃ p ys, xs = [.ref p] ∧ (SqL K H p ys ∨ SqT K H p ys) ∧ Q (.int ys.length) H) (tCons (tVar 1) tNil)) (tC (.int 1)))
            (gSub (tOp (rIxL K) (tVar 1) (tOp (rIxL K) (tVar 10) (tC (.int 0)))) (tBM K "list" (rIndex K) (tOp (rIxL K) (tVar 1) (tOp (rIxL K) (tVar 10) (tC (.int 0)))) (tCons (tVar 9) tNil)) rSetL)) tNext))) →
        ∀ (sl : Addr) (sp : List Nat) (H' : Hp), Bs B H' dk L ns (N + 3) → Kds B H' p rs1 k2 → H' sl = some (.lst (nVs sp)) → B sl = none → sp ≠ [] → sp.length ≤ 40 →
        (∀ s ∈ sp, s < kk.length ∧ cnt (rowAt k2) s k2.length ≤ 1 ∧ ((s ∈ rowAt k2 high) ∨ (s = high ∧ cnt (rowAt k2) high k2.length = 0))) → tz D (S7 (some (.ref sl)) none none) H' := by
      intro tz D hD htz sl sp H' hB' hK' hsl hslB hspne hspl hsp
      subst htz
      refine q_one (ev_var rfl) (ev_var rfl) hB'.deck (by omega) hsl hspne (by omega) (hB'.ne hslB) fun s H12 hs e12 d12 => ?_
      obtain ⟨hsn, hs1, hs2⟩ := hsp s hs
      have hB12 := hB'.draw e12 d12
      have hK12 := hK'.draw hB' e12
      have eN : N + 3 + 1 = N + 4 := by omega
      rw [eN] at hB12
      show tSeq (tAsg _ _) _ _ (S7 (some (.ref sl)) (some (nV s)) none) H12
      refine Evl.q_asgL (xs := nVs (upsL k2 s)) (el_ups (ev_var rfl) (ev_var rfl) hK12.kd hSm2) fun lo H13 hlo e13 hpo => ?_
      have hB13 := hB12.more e13
      have hK13 := hK12.ex e13
      have hloN : lo ∉ p :: rs1 := hK12.kd.fresh hlo
      show tSeq (tDrop _) _ _ (S7 (some (.ref sl)) (some (nV s)) (some (.ref lo))) H13
      refine q_appL (ys := [nV s, nV kk.length]) hK13.kd.at_ (ev_var rfl) (el_lst (ea_cons (ev_var rfl) (ea_cons (ev_is (ev_op (evLen hK13.kd) ev_c rv_I0) (by rw [hlen2]; show V.int _ = V.int _; congr 1; omega)) ea_nil)) (by simp)) (by rw [List.length_map, hK13.kd.len]; omega) fun rq H14 hrq e14 hnew => ?_
      have hrqB : B rq = none := hB13.new hrq
      have hrqN : rq ∉ p :: rs1 := hK13.kd.fresh hrq
      have hlorq : lo ≠ rq := ne_of_none hpo hrq
      have hlop : lo ≠ p := fun z => hloN (by rw [z]; exact List.mem_cons_self ..)
      have hKc := (hK13.ex e14).app (ks := [s, kk.length]) hnew hrqN hrqB
      have hBc : Bs B (upd H14 p (.lst ((rs1 ++ [rq]).map V.ref))) dk L ns (N + 4) := (hB13.more e14).upd hK13.bp
      have hpoc : upd H14 p (.lst ((rs1 ++ [rq]).map V.ref)) lo = some (.lst (nVs (upsL k2 s))) := by
        rw [upd_ne hlop]
        exact e14 _ _ hpo
      rw [show rs1.map V.ref ++ [.ref rq] = (rs1 ++ [rq]).map V.ref by rw [List.map_append]; rfl]
      generalize upd H14 p (.lst ((rs1 ++ [rq]).map V.ref)) = Hc at hKc hBc hpoc ⊢
      generalize rs1 ++ [rq] = rs3 at hKc
      have hlen3 : (k2 ++ [[s, kk.length]]).length = kk.length + 2 := by rw [List.length_append, hlen2]; rfl
      have hrow3 : rowAt (k2 ++ [[s, kk.length]]) = setK (rowAt k2) k2.length [s, kk.length] := rowAt_app
      show tIfS _ _ _ _ (S7 (some (.ref sl)) (some (nV s)) (some (.ref lo))) Hc
      refine s_if (b := !(upsL k2 s).isEmpty) (et_neNil (ev_var rfl) hpoc) (fun hb H15 e15 => ?_) fun hb H15 e15 => ?_
      · have hne : upsL k2 s ≠ [] := fun z => by
          rw [z] at hb
          cases hb
        obtain ⟨v, o, hvo⟩ : ∃ v o, upsL k2 s = v :: o := by
          cases h : upsL k2 s with
          | nil => exact absurd h hne
          | cons v o => exact ⟨v, o, rfl⟩
        have hv := mem_ups.mp (show v ∈ upsL k2 s by rw [hvo]; exact List.mem_cons_self ..)
        have hvh : v = high := by
          rcases hs2 with h | ⟨h1, h2⟩
          · exact cnt_one hs1 hv.1 hhn2 hv.2 h
          · subst h1
            have := cnt_pos hv.1 hv.2
            omega
        subst hvh
        have hKd := hKc.ex e15
        have hBd := hBc.more e15
        have hpod := e15 _ _ hpoc
        rw [hvo] at hpod
        have evO : Ev (tOp (rIxL K) (tVar 10) (tC (.int 0))) (S7 (some (.ref sl)) (some (nV s)) (some (.ref lo))) H15 (nV v) := ev_op (ev_var rfl) ev_c (rv_ixL (K := K) (sq_of hpod) (atI_nat (j := 0) rfl))
        obtain ⟨rv, hrv, hrowv⟩ := hKd.kd.get (rowAt_get (show v < (k2 ++ [[s, kk.length]]).length by omega))
        have hrv3 : rowAt (k2 ++ [[s, kk.length]]) v = rowAt k2 v := by
          rw [hrow3, setK_ne (by omega)]
        rw [hrv3] at hrowv
        obtain ⟨jv, hjv⟩ : ∃ j : Nat, (rowAt k2 v)[j]? = some s := by
          obtain ⟨j, hj, e⟩ := List.mem_iff_getElem.mp hv.2
          exact ⟨j, by rw [List.getElem?_eq_getElem hj, e]⟩
        have hjl := (List.getElem?_eq_some_iff.mp hjv).1
        refine s_setL (l := rv) (j := jv) (v := nV (kk.length + 1)) hrowv (ev_is (ev_op (evLen hKd.kd) ev_c rv_I0) (by rw [hlen3]; show V.int _ = V.int _; congr 1; omega)) (ev_row hKd.kd hrv (ev_var rfl) evO) (ev_index (ev_row hKd.kd hrv (ev_var rfl) evO) (ev_var rfl) hrowv hjv (gX.nd v)) (by unfold nVs; rw [List.length_map]; exact hjl) fun H16 e16 => ?_
        have hrvB : B rv = none := hKd.br rv (List.mem_of_getElem? hrv)
        have eset : (nVs (rowAt k2 v)).set jv (nV (kk.length + 1)) = nVs (rep s (kk.length + 1) (rowAt k2 v)) := by
          unfold nVs
          rw [← List.map_set, set_rep (gX.nd v) hjv]
        rw [eset, hD]
        have hKe := (hKd.ex e16).row (ks := rep s (kk.length + 1) (rowAt k2 v)) hrv
        have hBe : Bs B (upd H16 rv (.lst (nVs (rep s (kk.length + 1) (rowAt k2 v))))) dk L ns (N + 4) := (hBd.more e16).upd hrvB
        refine q _ rs3 _ hBe hKe ?_ (by rw [List.length_set, hlen3]; exact Nat.le_refl _)
        rw [List.length_set, hlen3, rowAt_set (by omega), hrow3]
        have gA := gen_above gX lX hv.1 hv.2 hs1 (by omega) gS (.inr rfl) gH
        rw [hlen2] at gA ⊢
        have eK : setK (setK (rowAt k2) (kk.length + 1) [s, kk.length]) v (rep s (kk.length + 1) (rowAt k2 v)) = setK (setK (rowAt k2) v (rep s (kk.length + 1) (rowAt k2 v))) (kk.length + 1) [s, kk.length] := by
          funext x
          unfold setK
          by_cases a1 : x = v
          · subst a1
            rw [if_pos rfl, if_neg (by omega), if_pos rfl]
          · rw [if_neg a1]
            by_cases a2 : x = kk.length + 1
            · rw [if_pos a2, if_pos a2]
            · rw [if_neg a2, if_neg a2, if_neg a1]
        rw [eK]
        exact gA
      · have he : upsL k2 s = [] := by simpa using hb
        have h0 : cnt (rowAt k2) s k2.length = 0 := by rw [← cnt_ups, he]; rfl
        show D.nx _ H15
        rw [hD]
        refine q H15 rs3 _ (hBc.more e15) (hKc.ex e15) ?_ (by rw [hlen3]; exact Nat.le_refl _)
        have gT := gen_top gX lX (show s < k2.length by omega) h0
        rw [hlen3, hrow3]
        rw [hlen2] at gT ⊢
        exact gT
    -- the choice
    show tSeq (tIfS _ _ _) _ _ (S7 (some (.ref ls)) none none) H11
    have hEq0 : EvT (tTest (tOp (rEqD K) (tCall (spUps K) [] E0 (tCons (tVar 1) (tCons (tVar 5) tNil))) (tLst tNil))) (S7 (some (.ref ls)) none none) H11 (upsL k2 high).isEmpty := et_eqNilL (K := K) (el_ups (ev_var rfl) (ev_var rfl) hK11.kd hSm2)
    refine q_if (b := decide ((way : Int) = 3) && (upsL k2 high).isEmpty) (et_and (et_test (ev_is (ev_op (x := nV way) (y := .int 3) (ev_var rfl) ev_c (rv_eq rfl)) (by show V.bl (decide (V.int (way : Int) = V.int 3)) = _; rw [dec_int]; rfl))) fun _ => hEq0) (fun hb H12 e12 => ?_) fun hb H12 e12 => ?_
    · rw [Bool.and_eq_true] at hb
      have h0 : cnt (rowAt k2) high k2.length = 0 := by
        rw [← cnt_ups]
        rw [List.isEmpty_iff.mp hb.2]
        rfl
      refine s_asgL (xs := nVs [high]) (el_lst (ea_cons (ev_var rfl) ea_nil) (by show (1 : Nat) ≤ 100000; omega)) fun l2 H13 hl2 e13 hp13 => ?_
      refine tail _ _ rfl rfl l2 [high] H13 ((hB11.more e12).more e13) ((hK11.ex e12).ex e13) hp13 ((hB11.more e12).new hl2) (by simp) (by simp) fun s hs => ?_
      rw [List.mem_singleton.mp hs]
      exact ⟨hhn, by omega, .inr ⟨rfl, h0⟩⟩
    · refine s_when (b := decide ((way : Int) < 2)) (et_test (ev_op (ev_var rfl) ev_c rv_I0)) (fun hw H13 e13 => ?_) fun hw H13 e13 => ?_
      · have hw := of_decide_eq_true hw
        have hK13 := (hK11.ex e12).ex e13
        have hB13 := (hB11.more e12).more e13
        obtain ⟨rh, hrh, hrowh⟩ := hK13.kd.get (rowAt_get hhn2)
        have hup2 : high ≠ up := fun z => by
          have := (hin (by rw [hU, z]; exact List.mem_singleton.mpr rfl)).1
          omega
        have hKh : rowAt k2 high = rowAt kk high := by
          rw [hrow2]
          unfold betweenK
          rw [setK_ne (by omega), setK_ne hup2]
        have hnot : kk.length ∉ rowAt k2 high := fun z => by
          rw [hKh] at z
          have := hG.lt _ _ z
          omega
        refine q_app (v := nV kk.length) hrowh (ev_row hK13.kd hrh (ev_var rfl) (ev_var rfl)) (ev_is (ev_op (evLen hK13.kd) ev_c rv_I0) (by rw [hlen2]; show V.int _ = V.int _; congr 1; omega)) (by unfold nVs; rw [List.length_map]; omega) fun H14 e14 => ?_
        have hrB : B rh = none := hK13.br rh (List.mem_of_getElem? hrh)
        have eR : nVs (rowAt k2 high) ++ [nV kk.length] = nVs (rowAt k2 high ++ [kk.length]) := by unfold nVs; rw [List.map_append]; rfl
        rw [eR]
        have hKe := (hK13.ex e14).row (ks := rowAt k2 high ++ [kk.length]) hrh
        have hBe : Bs B (upd H14 rh (.lst (nVs (rowAt k2 high ++ [kk.length])))) dk L ns (N + 3) := (hB13.more e14).upd hrB
        have gM := gen_more gX lX hhL hhn2 (by omega) (by omega) hnot gS (.inr rfl) gH
        refine q _ rs1 _ (hBe.wk (by omega)) hKe ?_ (by rw [List.length_set]; omega)
        rw [List.length_set, rowAt_set hhn2]
        exact gM
      · refine tail _ _ rfl rfl ls spots H13 ((hB11.more e12).more e13) ((hK11.ex e12).ex e13) (e13 _ _ (e12 _ _ hpS)) hlsB hspne hspl fun s hs => ?_
        obtain ⟨a1, a2, a3⟩ := hspot s hs
        exact ⟨a2, a3, .inl a1⟩
end
end WR
set_option Elab.async false
set_option linter.all false
set_option maxRecDepth 100000
set_option maxHeartbeats 2000000
namespace WR
open PySem PySem.Spec PyProof.Rows L2 Evl

/-! ### _law_tree -/
/-- a tree as it grows: all kinds but the loose ones have one parent -/
structure TreeG (L n : Nat) (K : Nat → List Nat) (lo : List Nat) : Prop where
  l1 : 1 ≤ L
  ln : L ≤ n
  out : ∀ u, n ≤ u → K u = []
  leaf : ∀ u, u < L → K u = []
  lt : ∀ u c, c ∈ K u → c < u
  un : ∀ u c, c ∈ K u → u < n
  nd : ∀ u, (K u).Nodup
  two : ∀ u, L ≤ u → u < n → 2 ≤ (K u).length
  cn : ∀ k, k < n → cnt K k n = if k ∈ lo then 0 else 1
  lon : ∀ k, k ∈ lo → k < n
  lnd : lo.Nodup
theorem TreeG.gen {L n t : Nat} {K : Nat → List Nat} (g : TreeG L n K [t]) : Gen L n K := by
  have c1 : ∀ k, k < n → cnt K k n ≤ 1 := fun k hk => by
    rw [g.cn k hk]
    split <;> omega
  have hn : ∀ u c, c ∈ K u → c < n := fun u c h => by
    have := g.lt u c h
    by_cases z : n ≤ u
    · rw [g.out u z] at h
      cases h
    · omega
  refine ⟨g.l1, g.ln, g.out, g.leaf, hn, g.nd, ⟨id, g.lt⟩, fun u h1 h2 _ _ => g.two u h1 h2, fun u h => ?_, fun u h => c1 u (by have := g.ln; omega), fun u h1 h2 => ?_, t, g.lon t (List.mem_singleton.mpr rfl), fun k hk => ?_⟩
  · by_cases z : u < n
    · have := c1 u z
      omega
    · have : cnt K u n = 0 := cnt_out fun v hv hu => z (hn v u hu)
      omega
  · have h3 := g.two u h1 h2
    cases e : K u with
    | nil =>
      rw [e] at h3
      exact absurd h3 (by simp)
    | cons c r =>
      have hc := hn u c (by rw [e]; exact List.mem_cons_self ..)
      exact ⟨c, List.mem_cons_self .., c1 c hc, by omega⟩
  · rw [g.cn k hk]
    by_cases z : k = t
    · subst z
      rw [if_pos (List.mem_singleton.mpr rfl)]
      exact ⟨fun _ => rfl, fun _ => rfl⟩
    · rw [if_neg (fun y => z (List.mem_singleton.mp y))]
      exact ⟨fun y => (by omega), fun y => absurd y z⟩
/-- some loose kinds get a parent -/
theorem TreeG.step {L n : Nat} {K : Nat → List Nat} {lo got cur : List Nat} (g : TreeG L n K lo) (hp : (got ++ cur).Perm lo) (h2 : 2 ≤ got.length) : TreeG L (n + 1) (setK K n got) (cur ++ [n]) := by
  have hnd : (got ++ cur).Nodup := hp.nodup_iff.mpr g.lnd
  rw [List.nodup_append] at hnd
  obtain ⟨nd1, nd2, dis⟩ := hnd
  have hm : ∀ x, x ∈ lo ↔ x ∈ got ∨ x ∈ cur := fun x => by rw [← hp.mem_iff, List.mem_append]
  have hg : ∀ x ∈ got, x < n := fun x h => g.lon x ((hm x).mpr (.inl h))
  have hc : ∀ x ∈ cur, x < n := fun x h => g.lon x ((hm x).mpr (.inr h))
  have hln := g.ln
  refine ⟨g.l1, by omega, fun u hu => ?_, fun u hu => ?_, fun u c h => ?_, fun u c h => ?_, fun u => ?_, fun u h1 h3 => ?_, fun k hk => ?_, fun k hk => ?_, ?_⟩
  · rw [setK_ne (by omega)]
    exact g.out u (by omega)
  · rw [setK_ne (by omega)]
    exact g.leaf u hu
  · by_cases z : u = n
    · subst z
      rw [setK_same] at h
      exact hg c h
    · rw [setK_ne z] at h
      exact g.lt u c h
  · by_cases z : u = n
    · omega
    · rw [setK_ne z] at h
      by_cases y : n ≤ u
      · rw [g.out u y] at h
        cases h
      · omega
  · by_cases z : u = n
    · subst z
      rw [setK_same]
      exact nd1
    · rw [setK_ne z]
      exact g.nd u
  · by_cases z : u = n
    · subst z
      rw [setK_same]
      exact h2
    · rw [setK_ne z]
      exact g.two u h1 (by omega)
  · show cnt (setK K n got) k n + (if k ∈ setK K n got n then 1 else 0) = _
    rw [cnt_ge (Nat.le_refl _), setK_same]
    by_cases z : k = n
    · subst z
      rw [cnt_out fun u hu h => by have := g.lt u k h; omega, if_neg fun h => Nat.lt_irrefl _ (hg k h), if_pos (by simp)]
    · rw [g.cn k (by omega)]
      have e1 : (k ∈ cur ++ [n]) ↔ k ∈ cur := by simp [z]
      simp only [hm k, e1]
      by_cases a : k ∈ got
      · have : k ∉ cur := fun y => dis k a k y rfl
        simp [a, this]
      · simp [a]
  · rcases List.mem_append.mp hk with h | h
    · have := hc k h
      omega
    · rw [List.mem_singleton.mp h]
      omega
  · rw [List.nodup_append]
    exact ⟨nd2, by simp, fun a ha b hb z => by
      have := hc a ha
      have := List.mem_singleton.mp hb
      omega⟩
def spTree (K : PySem.W.Frag) : Sp := fun vs H Q _ => ∃ dk L ns N Lv, vs = [.ref dk, nV Lv] ∧ Dk H dk L ns N ∧ N ≤ 900000000 ∧ 1 ≤ Lv ∧ Lv ≤ 9 ∧
  ∀ H' p rs kk, Bs H H' dk L ns (N + 40) → Kds H H' p rs kk → Gen Lv kk.length (rowAt kk) → kk.length + 1 ≤ 2 * Lv → Q (.ref p) H'
abbrev nTree : List Str := ["_law_deck_here", "_law_leaves", "_law_found", "_law_loose", "_law_size", "_law_leaf", "_law_k"]
theorem scTree : FnScope nTree ["_law_deck_here", "_law_leaves"] (defScope sLTree) := ⟨rfl, rfl, rfl, by decide +kernel, rfl, by decide +kernel, by decide +kernel⟩
theorem perm_erase {x : Nat} : ∀ {cur : List Nat} {j : Nat}, cur[j]? = some x → (x :: cur.eraseIdx j).Perm cur
  | a :: r, 0, h => by
    have e : a = x := by simpa using h
    subst e
    exact List.Perm.refl _
  | a :: r, j + 1, h => by
    have h : r[j]? = some x := by simpa using h
    exact (List.Perm.swap a x _).trans ((perm_erase h).cons a)
theorem nVs_erase : ∀ {cur : List Nat} {j : Nat}, (nVs cur).eraseIdx j = nVs (cur.eraseIdx j)
  | [], _ => by simp [nVs]
  | a :: r, 0 => rfl
  | a :: r, j + 1 => by
    show nV a :: (nVs r).eraseIdx j = nV a :: nVs (r.eraseIdx j)
    rw [nVs_erase]
theorem rowAt_rep {n u : Nat} : rowAt (List.replicate n []) u = [] := by
  unfold rowAt
  rw [List.getD_eq_getElem?_getD, List.getElem?_replicate]
  split <;> rfl
theorem tree_start {L : Nat} (h : 1 ≤ L) : TreeG L L (rowAt (List.replicate L [])) (List.range L) := by
  refine ⟨h, Nat.le_refl _, fun u _ => rowAt_rep, fun u _ => rowAt_rep, fun u c hc => ?_, fun u c hc => ?_, fun u => ?_, fun u h1 h2 => by omega, fun k hk => ?_, fun k hk => List.mem_range.mp hk, List.nodup_range⟩
  · rw [rowAt_rep] at hc
    cases hc
  · rw [rowAt_rep] at hc
    cases hc
  · rw [rowAt_rep]
    exact List.nodup_nil
  · rw [if_pos (List.mem_range.mpr hk)]
    exact cnt_out fun u _ hc => by
      rw [rowAt_rep] at hc
      cases hc
theorem rgV_nat {n : Nat} : rgV 0 (n : Int) = nVs (List.range n) := by
  unfold rgV nVs
  rw [show ((n : Int) - 0).toNat = n by omega]
  refine List.map_congr_left fun i _ => ?_
  show V.int (0 + (i : Int)) = V.int (i : Int)
  congr 1
  omega
theorem yes_ {σ : L2.St} {H : Hp} {A C : Hp → Prop} (h : A H) : tYes σ H (fun b H3 => if b = true then A H3 else C H3) := by
  show (if true = true then A H else C H)
  rw [if_pos rfl]
  exact h
theorem seq_nat {i n : Nat} (h : i < n) : seqIndex? (i : Int) n = some i := by
  unfold seqIndex?
  have h1 : ¬ ((i : Int) < 0) := by omega
  simp only [h1, if_false]
  have h2 : (decide (0 ≤ (i : Int)) && decide ((i : Int) < (n : Int))) = true := by
    rw [Bool.and_eq_true, decide_eq_true_eq, decide_eq_true_eq]
    omega
  rw [h2]
  simp
section
variable {P : Program} {w : World} {K : PySem.W.Frag} {mg : Str → Option Value} {base : Heap}
theorem Kds.other {B H : Hp} {p r : Addr} {rs : List Addr} {kk : List (List Nat)} {o : HO} (k : Kds B H p rs kk) (hr : r ∉ p :: rs) : Kds B (upd H r o) p rs kk := by
  rw [List.mem_cons, not_or] at hr
  refine ⟨⟨by rw [upd_ne (Ne.symm hr.1)]; exact k.kd.at_, k.kd.len, k.kd.nd, k.kd.np, fun i r' ks h1 h2 => ?_⟩, k.bp, k.br⟩
  rw [upd_ne fun (z : r' = r) => hr.2 (z ▸ List.mem_of_getElem? h1)]
  exact k.kd.row i r' ks h1 h2
theorem ok_tree {f fW fO : Addr} {fd fdW fdO : FuncData} (F : Fun K "_law_tree" "_law_tree" sLTree f fd)
    (FW : Fun K "_law_draw" "_law_draw" sDraw fW fdW) (bW : Binds K fdW ["_law_deck_here", "_law_many"] []) (gW : mg "_law_draw" = some (.ref fW))
    (FO : Fun K "_law_one" "_law_one" sOne fO fdO) (bO : Binds K fdO ["_law_deck_here", "_law_items"] []) (gO : mg "_law_one" = some (.ref fO))
    (m1 : mg "range" = none) (m2 : mg "list" = none) (m3 : mg "len" = none) (m4 : mg "min" = none)
    (GW : FnOk P w K mg base CX0 1 fW fdW ["_law_deck_here", "_law_many"] spDraw)
    (GO : FnOk P w K mg base CX0 2 fO fdO ["_law_deck_here", "_law_items"] (spOne K)) :
    FnOk P w K mg base CX0 3 f fd ["_law_deck_here", "_law_leaves"] (spTree K) := by
  refine F.ok scTree (fun vs H Q E h => ?_) (fun cdv A outer s H vs Q E hr h => ?_)
  · obtain ⟨dk, L, ns, N, Lv, rfl, _⟩ := h
    rfl
  obtain ⟨dk, L, ns, N, Lv, rfl, hD, hN, hL1, hL9, q⟩ := h
  have r1 := hr.mono (show 1 ≤ 2 by decide)
  have hu := hr.units
  apply Exists.intro
  apply And.intro
  case left =>
    refine' pss_cons (ps_asg (pe_tup (pa_cons (pe_lc (own := [("_law_leaf", 5)]) (g := gName 5) rfl scTree.nd (pi_range1 (by rfl) m1 (pa_cons (pv 1) pa_nil)) (blkOk_by (N := nTree) (sc := defScope sLTree) (by decide +kernel))
        (fun _ _ _ _ _ => pg_name (i := 5) scTree.nd rfl (Or.inl rfl)) (fun _ _ _ _ _ => pts_nil) (fun _ _ _ _ _ => pe_lst pa_nil))
      (pa_cons (pe_listRg rfl (by rfl) m2 (prg_1 (by rfl) m1 (pv 1))) pa_nil)))
      (pg_tup rfl (pgs_cons (pg_name (i := 2) scTree.nd rfl (.inl rfl)) (pgs_cons (pg_name (i := 3) scTree.nd rfl (.inr rfl)) pgs_nil)))) ?r0
    case' r0 => skip
    refine' pss_cons (ps_while PassesOwn.never (pt_cmpR op_gt (pe_callB (r := rLenS K) call_len_seq (by rfl) m3 PySem.boot_len (pa_cons (pv 3) pa_nil)) pe_int (nomark _)) ?wb) ?r1
    case' wb =>
      refine' pss_cons (ps_set (i := 4) scTree.nd rfl (.inl rfl) (pe_callB (call_min2 rfl) (by rfl) m4 (by decide +kernel) (pa_cons (pe_callB (r := rLenS K) call_len_seq (by rfl) m3 PySem.boot_len (pa_cons (pv 3) pa_nil))
        (pa_cons (pe_call GO hr (by rfl) gO FO.kp bO .nil pass0 (pa_cons (pv 0) (pa_cons (pe_lst (pa_cons pe_int (pa_cons pe_int (pa_cons pe_int (pa_cons pe_int pa_nil))))) pa_nil))) pa_nil)))) ?w1
      case' w1 => skip
      refine' pss_cons (ps_expr (pe_bm PySem.F.plainAttrs_list PySem.F.slot_list_append PySem.F.type_list_append mt_append (pv 2) (pa_cons
        (pe_lc (own := [("_law_k", 6)]) (g := gName 6) (te := tBM K "list" rPopAt (tVar 3) (tCons (tCall spDraw [] _ (tCons (tVar 0) (tCons (tCB (rLenS K) (tCons (tVar 3) tNil)) tNil))) tNil)) rfl scTree.nd (pi_range1 (by rfl) m1 (pa_cons (pv 4) pa_nil)) (blkOk_by (N := nTree) (sc := defScope sLTree) (by decide +kernel))
          (fun _ _ _ _ _ => pg_name (i := 6) scTree.nd rfl (Or.inl rfl)) (fun _ _ _ _ _ => pts_nil)
          (fun _ _ _ _ _ => pe_bm PySem.F.plainAttrs_list PySem.F.slot_list_pop PySem.F.type_list_pop mt_popAt (pv 3) (pa_cons (pe_call GW r1 (by rfl) gW FW.kp bW .nil pass0 (pa_cons (pv 0) (pa_cons (pe_callB (r := rLenS K) call_len_seq (by rfl) m3 PySem.boot_len (pa_cons (pv 3) pa_nil)) pa_nil))) pa_nil))) pa_nil))) ?w2
      case' w2 => skip
      exact pss_one (ps_expr (pe_bm PySem.F.plainAttrs_list PySem.F.slot_list_append PySem.F.type_list_append mt_append (pv 3) (pa_cons (pe_op op_sub (pe_callB (r := rLenS K) call_len_seq (by rfl) m3 PySem.boot_len (pa_cons (pv 2) pa_nil)) pe_int) pa_nil)))
    case' r1 => skip
    exact pss_one (ps_ret (pv 2))
  case right =>
    have hB0 : Bs H H dk L ns N := ⟨rem_ex, hD, by obtain ⟨a, b, n, d, _⟩ := hD; exact ⟨_, d.at_⟩, by obtain ⟨a, b, n, d, _⟩ := hD; exact ⟨_, d.ls⟩⟩
    let S : Option V → Option V → Option V → L2.St := fun x2 x3 x4 => [some (.ref dk), some (nV Lv), x2, x3, x4, none, none]
    refine ⟨nV Lv, rfl, (Lv : Int), rfl, by omega, by omega, fun p hp => ?_⟩
    rw [Int.toNat_natCast]
    refine lc_range (fun i H' => ∃ rs, Ex H H' ∧ Kds H H' p rs (List.replicate i [])) ⟨[], Ex.new hp, ⟨upd_same, rfl, List.nodup_nil, List.not_mem_nil, fun i r ks h _ => by cases h⟩, hp, fun r h => by cases h⟩ (fun i H' hi hP => ?_) fun H' hP => ?_
    · obtain ⟨rs, e, k⟩ := hP
      refine ⟨rfl, ?_⟩
      refine yes_ ?_
      show tLst tNil _ _ _
      refine ⟨by show 0 ≤ sizeLine; decide, fun r hr => ?_⟩
      have k1 := k.ex (Ex.new (o := .lst []) hr)
      have hlr : rs.length = i := by rw [k.kd.len, List.length_replicate]
      refine ⟨rs.map V.ref, k1.kd.at_, sz_lt (by rw [List.length_map]; omega), rs ++ [r], Ex.mut (e.trans (Ex.new hr)) hp, ?_⟩
      rw [show rs.map V.ref ++ [V.ref r] = (rs ++ [r]).map V.ref by rw [List.map_append]; rfl, List.replicate_succ']
      exact k1.app upd_same (k.kd.fresh hr) (fresh_back e hr)
    obtain ⟨rs, e, k⟩ := hP
    refine ⟨nV Lv, rfl, (Lv : Int), rfl, RgOk.of_le (by omega) (by omega) (by omega) (by omega), fun lo hlo => ⟨by show 2 ≤ sizeLine; decide, fun T hT => ?_⟩⟩
    refine ⟨T, _, rfl, st_of upd_same, rfl, _, _, rfl, _, _, rfl, rfl, ?_⟩
    have e1 := Ex.new (o := .lst (rgV 0 (Lv : Int))) hlo
    have e2 := e1.trans (Ex.new (o := .tup [.ref p, .ref lo]) hT)
    have hlo2 : upd (upd H' lo (.lst (rgV 0 (Lv : Int)))) T (.tup [.ref p, .ref lo]) lo = some (.lst (nVs (List.range Lv))) := by
      rw [← rgV_nat]
      exact Ex.new hT _ _ upd_same
    have hloB : H lo = none := fresh_back e hlo
    have hlon : lo ∉ p :: rs := k.kd.fresh hlo
    show tSeq (tWhile _ _) _ _ (S (some (.ref p)) (some (.ref lo)) none) (upd (upd H' lo (.lst (rgV 0 (Lv : Int)))) T (.tup [.ref p, .ref lo]))
    have k2 := k.ex e2
    have e3 := e.trans e2
    generalize upd (upd H' lo (.lst (rgV 0 (Lv : Int)))) T (.tup [.ref p, .ref lo]) = H2 at k2 e3 hlo2 ⊢
    clear e1 e2 hT hlo k e
    let Inv (m : Nat) (σ' : L2.St) (H' : Hp) : Prop := ∃ (rs : List Addr) (kk : List (List Nat)) (loose : List Nat) (x4 : Option V) (M : Int), σ' = S (some (.ref p)) (some (.ref lo)) x4 ∧ Bs H H' dk L ns M ∧ M + 4 * m ≤ N + 40 ∧ Kds H H' p rs kk ∧
      H' lo = some (.lst (nVs loose)) ∧ lo ∉ p :: rs ∧ TreeG Lv kk.length (rowAt kk) loose ∧ kk.length + loose.length ≤ 2 * Lv ∧ 1 ≤ loose.length ∧ m = loose.length
    refine q_while Inv Lv ⟨rs, List.replicate Lv [], List.range Lv, none, N, rfl, hB0.more e3, by omega, k2, hlo2, hlon, ?_, ?_, ?_, ?_⟩ fun m σ' H' hI => ?_
    · rw [List.length_replicate]
      exact tree_start hL1
    · rw [List.length_replicate, List.length_range]
      omega
    · rw [List.length_range]
      exact hL1
    · rw [List.length_range]
    obtain ⟨rs, kk, loose, x4, M, rfl, hB, hM, hK, hl, hln, hG, hsz, h1, hm⟩ := hI
    have hnvl : (nVs loose).length = loose.length := by unfold nVs; rw [List.length_map]
    refine ⟨decide ((1 : Int) < (loose.length : Int)), et_test (ev_op (ev_is (ev_len (K := K) (ev_var rfl) (sq_of hl)) (by rw [hnvl])) ev_c rv_I0), fun hb H3 e4 => ?_, fun hb H3 e4 => ?_⟩
    rotate_left
    · have hb := of_decide_eq_false hb
      cases loose with
      | nil => exact absurd h1 (by simp)
      | cons t r =>
        cases r with
        | cons t2 r2 =>
          exact absurd hb (by simp only [List.length_cons]; omega)
        | nil =>
          refine s_ret (v := .ref p) (ev_var rfl) fun H4 e5 => ?_
          exact q H4 p rs kk (((hB.more e4).more e5).wk (by omega)) ((hK.ex e4).ex e5) hG.gen (by omega)
    have hb := of_decide_eq_true hb
    replace hB := hB.more e4
    replace hK := hK.ex e4
    replace hl := e4 _ _ hl
    refine ⟨fun σ2 H2 => ∃ m', m' < m ∧ Inv m' σ2 H2, fun σ2 H2 h => h, ?_⟩
    -- how many
    refine ⟨.ref lo, rfl, lo, nVs loose, rfl, .inl (sq_of hl), .ref dk, rfl, by show 4 ≤ sizeLine; decide, fun li hli => ?_⟩
    have b1 := hB.more (Ex.new (o := .lst [.int 2, .int 2, .int 2, .int 3]) hli)
    have hliB : H li = none := hB.new hli
    refine ⟨dk, L, ns, M, li, _, rfl, b1.deck, by omega, upd_same, hB.ne hliB, by decide, by decide, fun x H4 hx e5 d5 => ?_⟩
    have hl1 := Ex.new (o := .lst [.int 2, .int 2, .int 2, .int 3]) hli _ _ hl
    have hK1 := hK.ex (Ex.new (o := .lst [.int 2, .int 2, .int 2, .int 3]) hli)
    have hK4 := hK1.draw b1 e5
    have hl4 := e5 lo _ (by rw [rem_ne (b1.ne hloB)]; exact hl1)
    have b4 := b1.draw e5 d5
    obtain ⟨k, rfl, hk2, hk3⟩ : ∃ k : Nat, x = .int (k : Int) ∧ 2 ≤ k ∧ k ≤ 3 := by
      simp only [List.mem_cons, List.not_mem_nil, or_false] at hx
      rcases hx with rfl | rfl | rfl | rfl
      · exact ⟨2, rfl, by decide, by decide⟩
      · exact ⟨2, rfl, by decide, by decide⟩
      · exact ⟨2, rfl, by decide, by decide⟩
      · exact ⟨3, rfl, by decide, by decide⟩
    refine ⟨(nVs loose).length, (k : Int), rfl, ?_⟩
    rw [hnvl]
    obtain ⟨sz, hsz2, hsz3, hszl, hsze⟩ : ∃ sz : Nat, 2 ≤ sz ∧ sz ≤ 3 ∧ sz ≤ loose.length ∧ (if (k : Int) < (loose.length : Int) then (k : Int) else (loose.length : Int)) = (sz : Int) := by
      by_cases z : (k : Int) < (loose.length : Int)
      · exact ⟨k, hk2, hk3, by omega, if_pos z⟩
      · exact ⟨loose.length, by omega, by omega, Nat.le_refl _, if_neg z⟩
    rw [hsze]
    show tSeq _ _ _ (S (some (.ref p)) (some (.ref lo)) (some (nV sz))) H4
    clear hli b1 hliB e5 d5 hl1 hK1 hB hK hl hx
    -- the children
    refine ⟨.ref p, rfl, .inl ⟨rfl, _, sq_of hK4.kd.at_⟩, nV sz, rfl, (sz : Int), rfl, by omega, by omega, fun D hD0 => ?_⟩
    rw [Int.toNat_natCast]
    have hDB : H D = none := b4.new hD0
    have hDn : D ∉ p :: rs := hK4.kd.fresh hD0
    have hDl : D ≠ lo := fun z => by
      rw [z, hl4] at hD0
      cases hD0
    refine lc_range (fun i H' => ∃ got cur, got.length = i ∧ (got ++ cur).Perm loose ∧ Bs H H' dk L ns (M + 1 + i) ∧ Kds H H' p rs kk ∧ H' lo = some (.lst (nVs cur)) ∧ H' D = some (.lst (nVs got)))
      ⟨[], loose, rfl, List.Perm.refl _, (b4.more (Ex.new hD0)).wk (by omega), hK4.ex (Ex.new hD0), Ex.new hD0 _ _ hl4, upd_same⟩ (fun i H5 hi hP => ?_) fun H5 hP => ?_
    · obtain ⟨got, cur, hg, hp2, b5, k5, hl5, hd5⟩ := hP
      refine ⟨rfl, ?_⟩
      refine yes_ ?_
      show tBM K "list" rPopAt _ _ _ _ _
      have hlen := hp2.length_eq
      rw [List.length_append] at hlen
      have hcl : (nVs cur).length = cur.length := by unfold nVs; rw [List.length_map]
      refine ⟨.ref lo, rfl, .inl ⟨rfl, _, sq_of hl5⟩, .ref dk, rfl, .ref lo, rfl, lo, nVs cur, rfl, .inl (sq_of hl5), dk, L, ns, _, M + 1 + i, rfl, b5.deck, by omega, by omega, by omega, fun r H6 a1 a2 e6 d6 => ?_⟩
      obtain ⟨j, rfl⟩ : ∃ j : Nat, r = (j : Int) := ⟨r.toNat, (Int.toNat_of_nonneg a1).symm⟩
      have hj : j < cur.length := by omega
      have hl6 := e6 lo _ (by rw [rem_ne (b5.ne hloB)]; exact hl5)
      have hd6 := e6 D _ (by rw [rem_ne (b5.ne hDB)]; exact hd5)
      have k6 := k5.draw b5 e6
      have b6 := b5.draw e6 d6
      have hx : cur[j]? = some cur[j] := List.getElem?_eq_getElem hj
      refine ⟨lo, nVs cur, (j : Int), j, nV cur[j], rfl, rfl, hl6, by omega, by omega, by rw [hcl]; exact seq_nat hj, nVs_at hx, ?_⟩
      have hgl : (nVs got).length = got.length := by unfold nVs; rw [List.length_map]
      refine ⟨nVs got, by rw [upd_ne hDl]; exact hd6, sz_lt (by omega), got ++ [cur[j]], cur.eraseIdx j, by rw [List.length_append, hg]; rfl, ?_, ?_, ?_, ?_, ?_⟩
      · rw [List.append_assoc]
        exact ((perm_erase hx).append_left got).trans hp2
      · exact (((b6.upd hloB).upd hDB)).wk (by omega)
      · exact (k6.other hln).other hDn
      · rw [upd_ne (Ne.symm hDl), upd_same, nVs_erase]
      · rw [upd_same]
        unfold nVs
        rw [List.map_append]
        rfl
    obtain ⟨got, cur, hg, hp2, b5, k5, hl5, hd5⟩ := hP
    have hlen := hp2.length_eq
    rw [List.length_append] at hlen
    have hrl : rs.length = kk.length := k5.kd.len
    refine ⟨p, rs.map V.ref, .ref D, rfl, rfl, k5.kd.at_, sz_lt (by rw [List.length_map]; omega), ?_⟩
    have k6 := k5.app hd5 hDn hDB
    have b6 := b5.upd (o := .lst ((rs ++ [D]).map V.ref)) hK4.bp
    have hl6 : upd H5 p (.lst ((rs ++ [D]).map V.ref)) lo = some (.lst (nVs cur)) := by
      rw [upd_ne (fun z => hln (by rw [z]; exact List.mem_cons_self ..))]
      exact hl5
    rw [show rs.map V.ref ++ [V.ref D] = (rs ++ [D]).map V.ref by rw [List.map_append]; rfl]
    generalize upd H5 p (.lst ((rs ++ [D]).map V.ref)) = H6 at k6 b6 hl6 ⊢
    -- and they are loose no more
    have hcl : (nVs cur).length = cur.length := by unfold nVs; rw [List.length_map]
    refine s_app (v := nV kk.length) hl6 (ev_var rfl) (ev_is (ev_op (x := nV (kk ++ [got]).length) (ev_is (ev_len (K := K) (ev_var rfl) (sq_of k6.kd.at_)) (by rw [List.length_map, k6.kd.len]; rfl)) ev_c rv_I0) ?_) (by omega) fun H7 e7 => ?_
    · rw [List.length_append]
      show V.int _ = V.int _
      congr 1
      simp only [List.length_cons, List.length_nil]
      omega
    have hln2 : lo ∉ p :: (rs ++ [D]) := fun z => by
      rcases List.mem_cons.mp z with z | z
      · exact hln (by rw [z]; exact List.mem_cons_self ..)
      · rcases List.mem_append.mp z with z | z
        · exact hln (List.mem_cons_of_mem _ z)
        · exact hDl (List.mem_singleton.mp z).symm
    refine ⟨cur.length + 1, by omega, rs ++ [D], kk ++ [got], cur ++ [kk.length], _, M + 1 + sz, rfl, (b6.more e7).upd hloB, by omega, (k6.ex e7).other hln2, ?_, hln2, ?_, ?_, ?_, ?_⟩
    · rw [upd_same]
      unfold nVs
      rw [List.map_append]
      rfl
    · rw [List.length_append, rowAt_app]
      exact hG.step hp2 (by omega)
    · simp only [List.length_append, List.length_cons, List.length_nil]
      omega
    · rw [List.length_append]
      show 1 ≤ cur.length + 1
      omega
    · rw [List.length_append]
      rfl
end
end WR
set_option Elab.async false
set_option linter.all false
set_option maxRecDepth 100000
set_option maxHeartbeats 2000000
namespace WR
open PySem PySem.Spec PyProof.Rows L2 Evl

/-! ### _law_kids -/
def spLKids (K : PySem.W.Frag) : Sp := fun vs H Q _ => ∃ dk L ns N Lv mx, vs = [.ref dk, nV Lv, nV mx] ∧ Dk H dk L ns N ∧ N ≤ 800000000 ∧ 1 ≤ Lv ∧ Lv ≤ 8 ∧ mx ≤ 1000 ∧
  ∀ H' p rs kk, Bs H H' dk L ns (N + 41 + 4 * mx) → Kds H H' p rs kk → Gen Lv kk.length (rowAt kk) → kk.length ≤ Lv + 20 → Q (.ref p) H'
abbrev nLKids : List Str := ["_law_deck_here", "_law_leaves", "_law_mixes", "_law_kids_here", "_law_turn"]
theorem scLKids : FnScope nLKids ["_law_deck_here", "_law_leaves", "_law_mixes"] (defScope sLKids) := ⟨rfl, rfl, rfl, by decide +kernel, rfl, by decide +kernel, by decide +kernel⟩
section
variable {P : Program} {w : World} {K : PySem.W.Frag} {mg : Str → Option Value} {base : Heap}
theorem q_tree {σ : L2.St} {H : Hp} {E : XK} {D : Ends} {tz : TS} {i Lv : Nat} {tp tl : TE} {dk L : Addr} {ns : List Int} {N : Int} (h0 : Ev tp σ H (.ref dk)) (h1 : Ev tl σ H (nV Lv)) (hD : Dk H dk L ns N) (hN : N ≤ 900000000) (hL1 : 1 ≤ Lv) (hL9 : Lv ≤ 9)
    (k : ∀ H1 p rs kk, Bs H H1 dk L ns (N + 40) → Kds H H1 p rs kk → Gen Lv kk.length (rowAt kk) → kk.length + 1 ≤ 2 * Lv → tz D (σ.set i (some (.ref p))) H1) :
    tSeq (tAsg (tCall (spTree K) [] E (tCons tp (tCons tl tNil))) (gName i)) tz D σ H :=
  h0 H (Ex.refl H) _ fun H1 e1 => h1 H1 e1 _ fun H2 e2 => ⟨dk, L, ns, N, Lv, rfl, hD.ex (e1.trans e2), hN, hL1, hL9, fun H3 p rs kk b kd g n => by
    have e := e1.trans e2
    have hdk : ∃ o, H dk = some o := by obtain ⟨a, b, n, d, _⟩ := hD; exact ⟨_, d.at_⟩
    have hLs : ∃ o, H L = some o := by obtain ⟨a, b, n, d, _⟩ := hD; exact ⟨_, d.ls⟩
    have hsub : ∀ r, H2 r = none → H r = none := fun r h => fresh_back e h
    refine k H3 p rs kk ⟨fun a o h => ?_, b.deck, hdk, hLs⟩ ⟨kd.kd, hsub _ kd.bp, fun r hr => hsub _ (kd.br r hr)⟩ g n
    refine b.ex a o ?_
    by_cases z : a = dk
    · rw [z, rem_self] at h
      cases h
    · rw [rem_ne z] at h ⊢
      exact e _ _ h⟩
theorem ok_lkids {f fW fT fM : Addr} {fd fdW fdT fdM : FuncData} (F : Fun K "_law_kids" "_law_kids" sLKids f fd)
    (FW : Fun K "_law_draw" "_law_draw" sDraw fW fdW) (bW : Binds K fdW ["_law_deck_here", "_law_many"] []) (gW : mg "_law_draw" = some (.ref fW))
    (FT : Fun K "_law_tree" "_law_tree" sLTree fT fdT) (bT : Binds K fdT ["_law_deck_here", "_law_leaves"] []) (gT : mg "_law_tree" = some (.ref fT))
    (FM : Fun K "_law_mix" "_law_mix" sLMix fM fdM) (bM : Binds K fdM ["_law_deck_here", "_law_kids_here"] []) (gM : mg "_law_mix" = some (.ref fM))
    (m1 : mg "range" = none) (m3 : mg "len" = none)
    (GW : FnOk P w K mg base CX0 1 fW fdW ["_law_deck_here", "_law_many"] spDraw)
    (GT : FnOk P w K mg base CX0 3 fT fdT ["_law_deck_here", "_law_leaves"] (spTree K))
    (GM : FnOk P w K mg base CX0 3 fM fdM ["_law_deck_here", "_law_kids_here"] (spMix K)) :
    FnOk P w K mg base CX0 4 f fd ["_law_deck_here", "_law_leaves", "_law_mixes"] (spLKids K) := by
  refine F.ok scLKids (fun vs H Q E h => ?_) (fun cdv A outer s H vs Q E hr h => ?_)
  · obtain ⟨dk, L, ns, N, Lv, mx, rfl, _⟩ := h
    rfl
  obtain ⟨dk, L, ns, N, Lv, mx, rfl, hD, hN, hL1, hL8, hmx, q⟩ := h
  have r1 := hr.mono (show 1 ≤ 3 by decide)
  refine ⟨_, pss_cons (ps_set (i := 3) scLKids.nd rfl (.inl rfl) (pe_call GT hr (by rfl) gT FT.kp bT .nil pass0 (pa_cons (pv 0) (pa_cons (pv 1) pa_nil))))
    (pss_cons (ps_for PassesOwn.never rfl (pi_range1 (by rfl) m1 (pa_cons (pe_call GW r1 (by rfl) gW FW.kp bW .nil pass0 (pa_cons (pv 0) (pa_cons (pe_op op_add (pv 2) pe_int) pa_nil))) pa_nil)) (pg_name (i := 4) scLKids.nd rfl (.inl rfl))
      (pss_one (ps_if (pt_cmpR op_lt (pe_op op_sub (pe_callB (r := rLenS K) call_len_seq (by rfl) m3 PySem.boot_len (pa_cons (pv 3) pa_nil)) (pv 1)) pe_int (nomark _))
        (pss_one (ps_expr (pe_call GM hr (by rfl) gM FM.kp bM .nil pass0 (pa_cons (pv 0) (pa_cons (pv 3) pa_nil))))) pss_nil)))
    (pss_one (ps_ret (pv 3)))), ?_⟩
  let S : Option V → Option V → L2.St := fun x3 x4 => [some (.ref dk), some (nV Lv), some (nV mx), x3, x4]
  refine q_tree (ev_var rfl) (ev_var rfl) hD (by omega) hL1 (by omega) fun H1 p rs kk hB hK hG hn => ?_
  show tSeq (tFor _ _ _) _ _ (S (some (.ref p)) none) H1
  refine ⟨.ref dk, rfl, (ev_op (x := nV mx) (ev_var rfl) ev_c rv_I0 : Ev _ _ _ (.int ((mx : Int) + 1))) H1 (Ex.refl H1) _ fun H2 e2 => ?_⟩
  have b2 := hB.more e2
  refine ⟨dk, L, ns, _, N + 40, rfl, b2.deck, by omega, by omega, by omega, fun r H3 a1 a2 e3 d3 => ?_⟩
  refine ⟨r, rfl, by omega, by omega, for_range (lo := 0) (n := r.toNat) (fun i σ' H' => ∃ rs kk x4, σ' = S (some (.ref p)) x4 ∧ Bs H H' dk L ns (N + 41 + 4 * i) ∧ Kds H H' p rs kk ∧ Gen Lv kk.length (rowAt kk) ∧ kk.length ≤ Lv + 20)
    ⟨rs, kk, none, rfl, (b2.draw e3 d3).wk (by omega), (hK.ex e2).draw b2 e3, hG, by omega⟩ (fun i σ' H' hi hP => ?_) fun σ' H' hP => ?_⟩
  · obtain ⟨rs, kk, x4, rfl, hB, hK, hG, hn⟩ := hP
    refine s_if (b := decide (((kk.length : Int) - (Lv : Int)) < 18)) (et_test (ev_op (x := .int ((kk.length : Int) - (Lv : Int))) (ev_op (x := nV kk.length) (y := nV Lv) (ev_is (ev_len (K := K) (ev_var rfl) (sq_of hK.kd.at_)) (by rw [List.length_map, hK.kd.len]; rfl)) (ev_var rfl) rv_I0) ev_c rv_I0)) (fun hb H4 e4 => ?_) fun hb H4 e4 => ?_
    · have hb := of_decide_eq_true hb
      refine ⟨.ref dk, rfl, .ref p, rfl, dk, p, H, L, ns, _, rs, kk, Lv, rfl, hB.more e4, by omega, hK.ex e4, hG, hL8, by omega, fun H5 rs' kk' b5 k5 g5 n5 => ?_⟩
      exact ⟨rs', kk', _, rfl, b5.wk (by omega), k5, g5, by omega⟩
    · exact ⟨rs, kk, _, rfl, (hB.more e4).wk (by omega), hK.ex e4, hG, hn⟩
  · obtain ⟨rs, kk, x4, rfl, hB, hK, hG, hn⟩ := hP
    refine s_ret (v := .ref p) (ev_var rfl) fun H4 e4 => ?_
    exact q H4 p rs kk ((hB.more e4).wk (by omega)) (hK.ex e4) hG hn
end
end WR
set_option Elab.async false
set_option linter.all false
set_option maxRecDepth 100000
set_option maxHeartbeats 2000000
namespace WR
open PySem PySem.Spec PyProof.Rows L2 Evl

/-! ### _law_numbered -/
/-- the place of a kind in the order of numbers -/
def plc (k : Nat) : List Nat → Nat
  | [] => 0
  | x :: r => if x = k then 0 else plc k r + 1
theorem plc_lt {k : Nat} : ∀ {od : List Nat}, k ∈ od → plc k od < od.length
  | x :: r, h => by
    show (if x = k then 0 else plc k r + 1) < r.length + 1
    by_cases e : x = k
    · rw [if_pos e]
      omega
    · rw [if_neg e]
      have := plc_lt (k := k) (od := r) (by
        rcases List.mem_cons.mp h with z | z
        · exact absurd z.symm e
        · exact z)
      omega
theorem plc_app {k : Nat} {more : List Nat} : ∀ {od : List Nat}, k ∈ od → plc k (od ++ more) = plc k od
  | x :: r, h => by
    show (if x = k then 0 else plc k (r ++ more) + 1) = if x = k then 0 else plc k r + 1
    by_cases e : x = k
    · rw [if_pos e, if_pos e]
    · rw [if_neg e, if_neg e, plc_app (od := r) (by
        rcases List.mem_cons.mp h with z | z
        · exact absurd z.symm e
        · exact z)]
theorem plc_get {k : Nat} : ∀ {od : List Nat}, k ∈ od → od[plc k od]? = some k
  | x :: r, h => by
    show (x :: r)[if x = k then 0 else plc k r + 1]? = _
    by_cases e : x = k
    · rw [if_pos e, e]
      rfl
    · rw [if_neg e]
      exact plc_get (od := r) (by
        rcases List.mem_cons.mp h with z | z
        · exact absurd z.symm e
        · exact z)
theorem plc_at {k j : Nat} : ∀ {od : List Nat}, od.Nodup → od[j]? = some k → plc k od = j
  | od, hd, h => by
    have hm := List.mem_of_getElem? h
    have h3 := List.getElem?_eq_some_iff.mp (plc_get hm)
    have h4 := List.getElem?_eq_some_iff.mp h
    obtain ⟨a1, a2⟩ := h3
    obtain ⟨b1, b2⟩ := h4
    exact (List.getElem_inj hd).mp (a2.trans b2.symm)
def dNs : Nat → List Nat → List (Key × V)
  | _, [] => []
  | i, k :: r => (Sum.inl (k : Int), nV i) :: dNs (i + 1) r
theorem dNs_len : ∀ {i : Nat} {od : List Nat}, (dNs i od).length = od.length
  | _, [] => rfl
  | i, k :: r => by
    show (dNs (i + 1) r).length + 1 = r.length + 1
    rw [dNs_len]
theorem dNs_val {k : Nat} : ∀ {i : Nat} {od : List Nat}, valV (dNs i od) (Sum.inl (k : Int)) = if k ∈ od then some (nV (i + plc k od)) else none
  | _, [] => rfl
  | i, x :: r => by
    by_cases e : x = k
    · subst e
      rw [if_pos (List.mem_cons_self ..)]
      show valV ((Sum.inl (x : Int), nV i) :: dNs (i + 1) r) _ = some (nV (i + if x = x then 0 else _))
      rw [if_pos rfl]
      exact valV_pos rfl
    · have hn : ¬ ((Sum.inl (x : Int) : Key) = Sum.inl (k : Int)) := fun z => e (by
        have := Sum.inl.inj z
        omega)
      show valV ((Sum.inl (x : Int), nV i) :: dNs (i + 1) r) _ = if k ∈ x :: r then some (nV (i + if x = k then 0 else plc k r + 1)) else none
      rw [valV_neg hn, dNs_val, if_neg e]
      have : (k ∈ x :: r) ↔ k ∈ r := by simp [Ne.symm e]
      simp only [this]
      rw [show i + 1 + plc k r = i + (plc k r + 1) by omega]
theorem dNs_app {k : Nat} : ∀ {i : Nat} {od : List Nat}, dNs i (od ++ [k]) = dNs i od ++ [(Sum.inl (k : Int), nV (i + od.length))]
  | i, [] => rfl
  | i, x :: r => by
    show (Sum.inl (x : Int), nV i) :: dNs (i + 1) (r ++ [k]) = (Sum.inl (x : Int), nV i) :: (dNs (i + 1) r ++ [(Sum.inl (k : Int), nV (i + (r.length + 1)))])
    rw [dNs_app, show i + 1 + r.length = i + (r.length + 1) by omega]
theorem dNs_put {k : Nat} {od : List Nat} (h : k ∉ od) : putK (dNs 0 od) (Sum.inl (k : Int)) (nV od.length) = dNs 0 (od ++ [k]) := by
  rw [putK_new _ (by rw [dNs_val, if_neg h]), dNs_app, Nat.zero_add]
theorem merge_put : ∀ {more : List Nat} {od : List Nat}, (od ++ more).Nodup → mergeK (dNs 0 od) (dNs od.length more) = dNs 0 (od ++ more)
  | [], od, _ => by rw [List.append_nil]; rfl
  | k :: r, od, h => by
    have hk : k ∉ od := fun z => by
      rw [List.nodup_append] at h
      exact h.2.2 k z k (List.mem_cons_self ..) rfl
    show mergeK (putK (dNs 0 od) (Sum.inl (k : Int)) (nV od.length)) (dNs (od.length + 1) r) = _
    rw [dNs_put hk]
    have e : od.length + 1 = (od ++ [k]).length := by rw [List.length_append]; rfl
    have ea : od ++ k :: r = (od ++ [k]) ++ r := by rw [List.append_assoc]; rfl
    rw [e, ea, merge_put (by rw [← ea]; exact h)]
theorem merge_nil {od : List Nat} (h : od.Nodup) : mergeK [] (dNs 0 od) = dNs 0 od := merge_put (od := []) h
/-- the kinds in the order of their numbers, children first -/
structure Ord (L n : Nat) (K : Nat → List Nat) (od : List Nat) : Prop where
  nd : od.Nodup
  lt : ∀ k ∈ od, k < n
  lf : ∀ k, k < L → od[k]? = some k
  len : L ≤ od.length
  dn : ∀ u c, u ∈ od → c ∈ K u → c ∈ od ∧ plc c od < plc u od
theorem Ord.leaf {L n : Nat} {K : Nat → List Nat} {od : List Nat} (o : Ord L n K od) {k : Nat} (h : k < L) : k ∈ od := List.mem_of_getElem? (o.lf k h)
theorem Ord.more {L n x : Nat} {K : Nat → List Nat} {od : List Nat} (o : Ord L n K od) (hx : x ∉ od) (hn : x < n) (hc : ∀ c ∈ K x, c ∈ od) : Ord L n K (od ++ [x]) := by
  have hxp : plc x (od ++ [x]) = od.length := by
    refine plc_at ?_ ?_
    · rw [List.nodup_append]
      exact ⟨o.nd, by simp, fun a ha b hb z => hx (by rw [List.mem_singleton.mp hb] at z; exact z ▸ ha)⟩
    · rw [List.getElem?_append_right (Nat.le_refl _), Nat.sub_self]
      rfl
  refine ⟨?_, fun k hk => ?_, fun k hk => ?_, by rw [List.length_append]; have := o.len; omega, fun u c hu h => ?_⟩
  · rw [List.nodup_append]
    exact ⟨o.nd, by simp, fun a ha b hb z => hx (by rw [List.mem_singleton.mp hb] at z; exact z ▸ ha)⟩
  · rcases List.mem_append.mp hk with h | h
    · exact o.lt k h
    · rw [List.mem_singleton.mp h]
      exact hn
  · rw [List.getElem?_append_left (by have := o.len; omega)]
    exact o.lf k hk
  · rcases List.mem_append.mp hu with h1 | h1
    · obtain ⟨a, b⟩ := o.dn u c h1 h
      exact ⟨List.mem_append_left _ a, by rw [plc_app a, plc_app h1]; exact b⟩
    · rw [List.mem_singleton.mp h1] at h ⊢
      have a := hc c h
      exact ⟨List.mem_append_left _ a, by rw [plc_app a, hxp]; exact plc_lt a⟩
/-- while kinds are left, one of them is ready -/
theorem ready {L n : Nat} {K : Nat → List Nat} {x : Nat} (g : GenX L n K x) {od left : List Nat} (hne : left ≠ []) (hl : ∀ k, k < n → k ∈ od ∨ k ∈ left) : ∃ k ∈ left, ∀ c ∈ K k, c ∈ od := by
  obtain ⟨r, hr⟩ := g.rk
  have key : ∀ m, ∀ k ∈ left, r k < m → ∃ k ∈ left, ∀ c ∈ K k, c ∈ od := fun m => by
    induction m with
    | zero => exact fun k _ h => absurd h (Nat.not_lt_zero _)
    | succ m ih =>
      intro k hk hm
      by_cases z : ∀ c ∈ K k, c ∈ od
      · exact ⟨k, hk, z⟩
      · obtain ⟨c, hc⟩ := Classical.not_forall.mp z
        obtain ⟨h1, h2⟩ := Classical.not_imp.mp hc
        rcases hl c (g.lt k c h1) with h | h
        · exact absurd h h2
        · exact ih c h (by have := hr k c h1; omega)
  cases left with
  | nil => exact absurd rfl hne
  | cons k l => exact key (r k + 1) k (List.mem_cons_self ..) (Nat.lt_succ_self _)
/-- the items of the web that is told -/
def itemOf (K : Nat → List Nat) (od : List Nat) (u : Nat) : List Nat := (sortI ((K u).map fun c => ((plc c od : Nat) : Int))).map Int.toNat
/-- a web that is drawn -/
structure Drawn (L : Nat) (inner : List (List Nat)) : Prop where
  ex : ∃ kk od, Gen L kk.length (rowAt kk) ∧ kk.length ≤ L + 20 ∧ Ord L kk.length (rowAt kk) od ∧ od.length = kk.length ∧ inner = (od.drop L).map (itemOf (rowAt kk) od)
/-- the same, the children that were numbered told -/
def NumD (kk : List (List Nat)) (L : Nat) (inner : List (List Nat)) : Prop := ∃ od, Gen L kk.length (rowAt kk) ∧ kk.length ≤ L + 20 ∧ Ord L kk.length (rowAt kk) od ∧ od.length = kk.length ∧ inner = (od.drop L).map (itemOf (rowAt kk) od)
theorem NumD.drawn {kk : List (List Nat)} {L : Nat} {inner : List (List Nat)} (h : NumD kk L inner) : Drawn L inner := by
  obtain ⟨od, h⟩ := h
  exact ⟨kk, od, h⟩
def spNumb (K : PySem.W.Frag) : Sp := fun vs H Q _ => ∃ dk p B L ns N rs kk Lv, vs = [.ref dk, .ref p, nV Lv] ∧ Bs B H dk L ns N ∧ N ≤ 900000000 ∧ Kds B H p rs kk ∧ Gen Lv kk.length (rowAt kk) ∧ Lv ≤ 8 ∧ kk.length ≤ Lv + 20 ∧
  ∀ H' v inner, Bs B H' dk L ns (N + 20) → Kds B H' p rs kk → Dp K H' v (webD Lv inner) → NumD kk Lv inner → Q v H'
abbrev nNumb : List Str := ["_law_deck_here", "_law_kids_here", "_law_leaves", "_law_numbers", "_law_left", "_law_inner", "_law_kind", "_law_leaf", "_law_one_here", "_law_child"]
theorem scNumb : FnScope nNumb ["_law_deck_here", "_law_kids_here", "_law_leaves"] (defScope sNumb) := ⟨rfl, rfl, rfl, by decide +kernel, rfl, by decide +kernel, by decide +kernel⟩
theorem paired_imp {α β : Type} {F G : α → β → Prop} (h : ∀ a b, F a b → G a b) : ∀ {l₁ : List α} {l₂ : List β}, Paired F l₁ l₂ → Paired G l₁ l₂
  | _, _, .nil => .nil
  | _, _, .cons a t => .cons (h _ _ a) (paired_imp h t)
theorem rgV_lo {a b : Nat} (h : a ≤ b) : rgV (a : Int) (b : Int) = nVs ((List.range (b - a)).map (a + ·)) := by
  unfold rgV nVs
  rw [show ((b : Int) - (a : Int)).toNat = b - a by omega, List.map_map]
  refine List.map_congr_left fun i _ => ?_
  show V.int ((a : Int) + (i : Int)) = V.int ((a + i : Nat) : Int)
  congr 1
theorem nVs_int {ks : List Nat} : nVs ks = (ks.map fun (k : Nat) => (k : Int)).map V.int := by
  unfold nVs
  rw [List.map_map]
  rfl
theorem ints_erase : ∀ {l : List Nat} {j : Nat}, ((l.map fun (k : Nat) => (k : Int)).eraseIdx j).map V.int = nVs (l.eraseIdx j)
  | [], _ => by simp [nVs]
  | a :: r, 0 => by
    show (r.map fun (k : Nat) => (k : Int)).map V.int = nVs r
    rw [← nVs_int]
  | a :: r, j + 1 => by
    show V.int (a : Int) :: ((r.map fun (k : Nat) => (k : Int)).eraseIdx j).map V.int = nV a :: nVs (r.eraseIdx j)
    rw [ints_erase]
    rfl
theorem nat_ints : ∀ {l : List Int}, (∀ i ∈ l, 0 ≤ i) → (l.map Int.toNat).map natD = l.map PyData.int
  | [], _ => rfl
  | i :: l, h => by
    show PyData.int ((i.toNat : Nat) : Int) :: _ = PyData.int i :: _
    rw [Int.toNat_of_nonneg (h i (List.mem_cons_self ..)), nat_ints fun j hj => h j (List.mem_cons_of_mem _ hj)]
theorem itemOf_app {K : Nat → List Nat} {od more : List Nat} {u : Nat} (h : ∀ c ∈ K u, c ∈ od) : itemOf K (od ++ more) u = itemOf K od u := by
  unfold itemOf
  rw [List.map_congr_left (g := fun c => ((plc c od : Nat) : Int)) fun c hc => by rw [plc_app (h c hc)]]
theorem itemsD {K : Nat → List Nat} {od : List Nat} {u : Nat} : kidsD (itemOf K od u) = .tuple ((sortI ((K u).map fun c => ((plc c od : Nat) : Int))).map PyData.int) := by
  unfold kidsD itemOf
  rw [nat_ints fun i hi => ?_]
  have h := (sortI_perm _).mem_iff.mp hi
  obtain ⟨c, _, rfl⟩ := List.mem_map.mp h
  omega
theorem Bs.rem {B H : Hp} {dk L r : Addr} {ns : List Int} {N : Int} (b : Bs B H dk L ns N) (h : B r = none) : Bs B (rem H r) dk L ns N := by
  have hne := b.ne h
  have hL : L ≠ r := fun z => by
    obtain ⟨o, ho⟩ := b.bL
    rw [z, h] at ho
    cases ho
  obtain ⟨x, y, n, d, hn⟩ := b.deck
  refine ⟨fun a o ha => ?_, ⟨x, y, n, ⟨?_, ?_, d.a0, d.b0, d.n0, d.len⟩, hn⟩, b.bdk, b.bL⟩
  · have har : a ≠ r := fun z => by
      rw [z, rem_ne hne, h] at ha
      cases ha
    rw [rem_ne har]
    exact b.ex a o ha
  · rw [rem_ne (Ne.symm hne)]
    exact d.at_
  · rw [rem_ne hL]
    exact d.ls
theorem Kds.rem {B H : Hp} {p r : Addr} {rs : List Addr} {kk : List (List Nat)} (k : Kds B H p rs kk) (hr : r ∉ p :: rs) : Kds B (rem H r) p rs kk := by
  rw [List.mem_cons, not_or] at hr
  refine ⟨⟨by rw [rem_ne (Ne.symm hr.1)]; exact k.kd.at_, k.kd.len, k.kd.nd, k.kd.np, fun i r' ks h1 h2 => ?_⟩, k.bp, k.br⟩
  rw [rem_ne fun (z : r' = r) => hr.2 (z ▸ List.mem_of_getElem? h1)]
  exact k.kd.row i r' ks h1 h2
section
variable {K : PySem.W.Frag} {σ : L2.St} {H H' : Hp} {ta tb te tl td ty : TE} {t : TT}
theorem ex_tK {a l : Addr} {xs : List V} {ys zs : List (Key × V)} (hl : H l = some (.dK ys)) (h : SqT K H a xs) : SqT K (upd H l (.dK zs)) a xs := by
  rcases h with (h | ⟨o, h⟩) | h
  · exact .inl (.inl (by rw [upd_ne (ne_of h hl (by intro z; cases z))]; exact h))
  · exact .inl (.inr ⟨o, by rw [upd_ne (ne_of h hl (by intro z; cases z))]; exact h⟩)
  · exact .inr h
mutual
/-- a dict that changes changes no such datum -/
theorem dp_updK {K : PySem.W.Frag} {H : Hp} {l : Addr} {ys zs : List (Key × V)} (hl : H l = some (.dK ys)) : ∀ {v : V} (d : PyData), nl d = true → Dp K H v d → Dp K (upd H l (.dK zs)) v d
  | _, .none, _, h => by cases h; exact .non
  | _, .bool _, _, h => by cases h; exact .bl _
  | _, .int _, _, h => by cases h; exact .int _
  | _, .str _, _, h => by cases h; exact .str _
  | _, .list ds, n, h => by cases n
  | _, .tuple ds, n, h => by
    cases h with
    | tup a b => exact .tup (ex_tK hl a) (dpAll_updK hl ds n b)
  | _, .dict _, _, h => by cases h
theorem dpAll_updK {K : PySem.W.Frag} {H : Hp} {l : Addr} {ys zs : List (Key × V)} (hl : H l = some (.dK ys)) : ∀ {vs : List V} (ds : List PyData), nlAll ds = true → DpAll K H vs ds → DpAll K (upd H l (.dK zs)) vs ds
  | _, [], _, h => by cases h; exact .nil
  | _, d :: ds, n, h => by
    have n' : (nl d && nlAll ds) = true := n
    rw [Bool.and_eq_true] at n'
    cases h with
    | cons a b => exact .cons (dp_updK hl d n'.1 a) (dpAll_updK hl ds n'.2 b)
end
/-- what a draw leaves as it is -/
theorem dp_draw {v : V} {dk L : Addr} {ns : List Int} {N M : Int} {d : PyData} (hD : Dk H dk L ns N) (hD' : Dk H' dk L ns M) (e : Ex (rem H dk) H') (n : nl d = true) (h : Dp K H v d) : Dp K H' v d := by
  obtain ⟨a, b, c, g, _⟩ := hD
  obtain ⟨a', b', c', g', _⟩ := hD'
  have q := dp_updL (zs := [.ref L, .int a', .int b', .int c']) g.at_ d n h
  refine dp_ex (fun x o hx => ?_) d q
  by_cases z : x = dk
  · subst z
    rw [upd_same] at hx
    rw [← hx]
    exact g'.at_
  · rw [upd_ne z] at hx
    exact e x o (by rw [rem_ne z]; exact hx)
theorem dpAll_draw {vs : List V} {dk L : Addr} {ns : List Int} {N M : Int} {ds : List PyData} (hD : Dk H dk L ns N) (hD' : Dk H' dk L ns M) (e : Ex (rem H dk) H') (n : nlAll ds = true) (h : DpAll K H vs ds) : DpAll K H' vs ds := by
  obtain ⟨a, b, c, g, _⟩ := hD
  obtain ⟨a', b', c', g', _⟩ := hD'
  have q := dpAll_updL (zs := [.ref L, .int a', .int b', .int c']) g.at_ ds n h
  refine dpAll_ex (fun x o hx => ?_) ds q
  by_cases z : x = dk
  · subst z
    rw [upd_same] at hx
    rw [← hx]
    exact g'.at_
  · rw [upd_ne z] at hx
    exact e x o (by rw [rem_ne z]; exact hx)
theorem nl_kidsD (ks : List Nat) : nl (kidsD ks) = true := by
  show nlAll (ks.map natD) = true
  exact nlAll_mem fun d hd => by
    obtain ⟨k, _, rfl⟩ := List.mem_map.mp hd
    rfl
theorem nl_kidsDs (l : List (List Nat)) : nlAll (l.map kidsD) = true := nlAll_mem fun d hd => by
  obtain ⟨k, _, rfl⟩ := List.mem_map.mp hd
  exact nl_kidsD k
theorem fm_nats {f : PyData → Option PyData} {g : Nat → Int} : ∀ {ks : List Nat}, (∀ c ∈ ks, f (natD c) = some (.int (g c))) → (natDs ks).filterMap f = (ks.map g).map PyData.int
  | [], _ => rfl
  | c :: r, h => by
    show (natD c :: natDs r).filterMap f = .int (g c) :: (r.map g).map PyData.int
    rw [List.filterMap_cons, h c (List.mem_cons_self ..), fm_nats fun x hx => h x (List.mem_cons_of_mem _ hx)]
theorem el_natLcC {j : Nat} {vs : List Nat} {a : Addr} {ks : List Nat} (g : Nat → Bool) (h : Ev tl σ H (.ref a)) (hx : SqL K H a (nVs ks)) (hz : ks.length ≤ 40000) (hw : ∀ x, wipe ((wipe σ vs).set j (some x)) vs = wipe σ vs) (hj : j < (wipe σ vs).length)
    (ht : ∀ k H1, Ex H H1 → k ∈ ks → EvT t ((wipe σ vs).set j (some (nV k))) H1 (g k)) : EvL (tLc (iList K tl) (gName j) t (tC (.int 1)) vs) σ H (nVs ((ks.filter g).map fun _ => 1)) := by
  have q := el_lcL (K := K) (xs := nVs ks) (σ := σ) (H := H) (t := t) (te := tC (.int 1)) (vs := vs) (j := j) (fun i => g (ks.getD i 0)) (fun _ => .int 1) h hx (by unfold nVs; rw [List.length_map]; exact hz) hw (fun i x H1 e hi => by
    obtain ⟨k, _, rfl, h1, hm⟩ := nVs_get hi
    rw [h1]
    exact ht k H1 e hm) (fun i x H1 e hi _ => ev_c)
  have e : (nVs ks).length = ks.length := by unfold nVs; rw [List.length_map]
  rw [e] at q
  have e2 : given ks.length (fun i => g (ks.getD i 0)) (fun _ => V.int 1) = nVs ((ks.filter g).map fun _ => 1) := by
    have e3 : given ks.length (fun i => g (ks.getD i 0)) (fun _ => V.int 1) = (given ks.length (fun i => g (ks.getD i 0)) (fun i => nV (ks.getD i 0))).map fun _ => V.int 1 := by
      unfold given
      rw [List.map_map]
      rfl
    rw [e3, given_nat]
    unfold nVs
    rw [List.map_map, List.map_map]
    rfl
  rw [e2] at q
  exact q
theorem ev_dgetK {d : Addr} {kvs : List (Key × V)} {k : Int} {v : V} (hd : Ev td σ H (.ref d)) (hk : Ev ty σ H (.int k)) (h : H d = some (.dK kvs)) (hv : valV kvs (Sum.inl k) = some v) : Ev (tDGet td ty) σ H v := fun H1 e Q q =>
  hd H1 e _ fun H2 e2 => hk H2 (e.trans e2) _ fun H3 e3 => ⟨d, v, rfl, by rw [← hv]; exact DGet.k (k := Sum.inl k) (((e.trans e2).trans e3) _ _ h), q H3 (e2.trans e3)⟩
end
section
variable {P : Program} {w : World} {K : PySem.W.Frag} {mg : Str → Option Value} {base : Heap}
abbrev scIn : Scope := { kind := ScopeKind.function, names := [(Str.ofString ".0", NameKind.local), (Str.ofString "_law_one_here", NameKind.local), (Str.ofString "_law_kids_here", NameKind.cell), (Str.ofString "_law_numbers", NameKind.cell)], isGenerator := false, isCoroutine := false, more := [] }
abbrev tPairs : TE := tLc (iRng1 (tCons (tVar 2) tNil)) (gName 7) tYes (tTup (tCons (tVar 7) (tCons (tVar 7) tNil))) [7]
abbrev tWait (K : PySem.W.Frag) : TE := tLc (iList K (tOp (rIxL K) (tVar 1) (tVar 8))) (gName 9) (tB (tDNotIn (tVar 9) (tVar 3))) (tC (.int 1)) [9]
abbrev tReady (K : PySem.W.Frag) : TE := tLc (iList K (tVar 4)) (gName 8) (tTest (tOp (rEqD K) (tWait K) (tLst tNil))) (tVar 8) [8]
abbrev tItem (K : PySem.W.Frag) : TE := tLc (iList K (tOp (rIxL K) (tVar 1) (tVar 6))) (gName 9) tYes (tDGet (tVar 3) (tVar 9)) [9]
theorem ok_numb {f fO : Addr} {fd fdO : FuncData} (F : Fun K "_law_numbered" "_law_numbered" sNumb f fd)
    (FO : Fun K "_law_one" "_law_one" sOne fO fdO) (bO : Binds K fdO ["_law_deck_here", "_law_items"] []) (gO : mg "_law_one" = some (.ref fO))
    (m1 : mg "range" = none) (m2 : mg "list" = none) (m3 : mg "len" = none) (m4 : mg "dict" = none) (m5 : mg "tuple" = none) (m6 : mg "sorted" = none)
    (GO : FnOk P w K mg base CX0 2 fO fdO ["_law_deck_here", "_law_items"] (spOne K)) :
    FnOk P w K mg base CX0 3 f fd ["_law_deck_here", "_law_kids_here", "_law_leaves"] (spNumb K) := by
  refine F.ok scNumb (fun vs H Q E h => ?_) (fun cdv A outer s H vs Q E hr h => ?_)
  · obtain ⟨dk, p, B, L, ns, N, rs, kk, Lv, rfl, _⟩ := h
    rfl
  obtain ⟨dk, p, B, L, ns, N, rs, kk, Lv, rfl, hB, hN, hK, hG, hLv, hn, q⟩ := h
  have hu := hr.units
  apply Exists.intro
  apply And.intro
  case left =>
    refine' pss_cons (ps_asg (pe_tup (pa_cons (pe_callTy (call_dictP rfl) (by rfl) m4 (by decide +kernel) (pa_cons (pe_lc (own := [("_law_leaf", 7)]) (g := gName 7) (tt := tYes) (te := tTup (tCons (tVar 7) (tCons (tVar 7) tNil))) rfl scNumb.nd (pi_range1 (by rfl) m1 (pa_cons (pv 2) pa_nil)) (blkOk_by (N := nNumb) (sc := defScope sNumb) (by decide +kernel))
        (fun _ _ _ _ _ => pg_name (i := 7) scNumb.nd rfl (Or.inl rfl)) (fun _ _ _ _ _ => pts_nil) (fun _ _ _ _ _ => pe_tup (pa_cons (pv 7) (pa_cons (pv 7) pa_nil)))) pa_nil))
      (pa_cons (pe_listRg rfl (by rfl) m2 (prg_2 (by rfl) m1 (pv 2) (pe_callB (r := rLenS K) call_len_seq (by rfl) m3 PySem.boot_len (pa_cons (pv 1) pa_nil)))) (pa_cons (pe_lst pa_nil) pa_nil))))
      (pg_tup rfl (pgs_cons (pg_name (i := 3) scNumb.nd rfl (.inr rfl)) (pgs_cons (pg_name (i := 4) scNumb.nd rfl (.inl rfl)) (pgs_cons (pg_name (i := 5) scNumb.nd rfl (.inl rfl)) pgs_nil))))) ?r0
    case' r0 => skip
    refine' pss_cons (ps_while PassesOwn.never (pt_cmpR (op_neD hu) (pv 4) (pe_lst pa_nil) (nomark _)) ?wb) ?r1
    case' wb =>
      refine' pss_cons (ps_set (i := 6) scNumb.nd rfl (.inl rfl) (pe_call GO hr (by rfl) gO FO.kp bO .nil pass0 (pa_cons (pv 0) (pa_cons
        (pe_lc (own := [("_law_one_here", 8)]) (g := gName 8) (tt := tTest (tOp (rEqD K) (tWait K) (tLst tNil))) (te := tVar 8) rfl scNumb.nd (pi_list (pv 4)) (blkOk_by (N := nNumb) (sc := defScope sNumb) (by decide +kernel))
          (fun _ _ _ _ _ => pg_name (i := 8) scNumb.nd rfl (Or.inl rfl)) (fun _ _ _ _ _ => pts_one (pt_cmpR (op_eqD hu)
            (pe_lc (own := [("_law_child", 9)]) (g := gName 9) (tt := tB (tDNotIn (tVar 9) (tVar 3))) (te := tC (.int 1)) rfl scNumb.nd (pi_list (pe_ix (r := rIxL K) ix_list (pv 1) (pv 8) (fun _ _ => rfl))) (blkOk_by (N := nNumb) (sc := scIn) (by decide +kernel))
              (fun _ _ _ _ _ => pg_name (i := 9) scNumb.nd rfl (Or.inl rfl)) (fun _ _ _ _ _ => pts_one (pt_cmp (pc_dnotin (hu_of hr) (pv 9) (pv 3)))) (fun _ _ _ _ _ => pe_int)) (pe_lst pa_nil) (nomark _))) (fun _ _ _ _ _ => pv 8)) pa_nil)))) ?w1
      case' w1 => skip
      refine' pss_cons (ps_expr (pe_bm PySem.F.plainAttrs_list PySem.F.slot_list_remove PySem.F.type_list_remove mt_remove (pv 4) (pa_cons (pv 6) pa_nil))) ?w2
      case' w2 => skip
      refine' pss_cons (ps_dput (hu_of hr) (pv 3) (pv 6) (pe_op op_add (pv 2) (pe_callB (r := rLenS K) call_len_seq (by rfl) m3 PySem.boot_len (pa_cons (pv 5) pa_nil))) rfl) ?w3
      case' w3 => skip
      exact pss_one (ps_expr (pe_bm PySem.F.plainAttrs_list PySem.F.slot_list_append PySem.F.type_list_append mt_append (pv 5) (pa_cons (pe_callTy call_tuple_of (by rfl) m5 (by decide +kernel) (pa_cons (pe_callB cr_sortedA (by rfl) m6 (by decide +kernel) (pa_cons
        (pe_lc (own := [("_law_child", 9)]) (g := gName 9) (tt := tYes) (te := tDGet (tVar 3) (tVar 9)) rfl scNumb.nd (pi_list (pe_ix (r := rIxL K) ix_list (pv 1) (pv 6) (fun _ _ => rfl))) (blkOk_by (N := nNumb) (sc := defScope sNumb) (by decide +kernel))
          (fun _ _ _ _ _ => pg_name (i := 9) scNumb.nd rfl (Or.inl rfl)) (fun _ _ _ _ _ => pts_nil) (fun _ _ _ _ _ => pe_dget (hu_of hr) (pv 3) (pv 9) (fun _ _ => rfl))) pa_nil)) pa_nil)) pa_nil)))
    case' r1 => skip
    exact pss_one (ps_ret (pe_tup (pa_cons (pv 2) (pa_cons (pe_callTy call_tuple_of (by rfl) m5 (by decide +kernel) (pa_cons (pv 5) pa_nil)) pa_nil))))
  case right =>
    let S : Option V → Option V → Option V → Option V → L2.St := fun x3 x4 x5 x6 => [some (.ref dk), some (.ref p), some (nV Lv), x3, x4, x5, x6, none, none, none]
    have hln := hG.ln
    refine ⟨nV Lv, rfl, (Lv : Int), rfl, by omega, by omega, fun D hD0 => ?_⟩
    rw [Int.toNat_natCast]
    refine lc_range (fun i H' => Ex H H' ∧ ∃ ps : List Addr, ps.length = i ∧ H' D = some (.lst (ps.map V.ref)) ∧ Paired (fun (x : Addr) (kv : Key × V) => H' x = some (.tup [kV kv.1, kv.2])) ps (dNs 0 (List.range i)))
      ⟨Ex.new hD0, [], rfl, upd_same, .nil⟩ (fun i H' hi hP => ?_) fun H' hP => ?_
    · obtain ⟨e, ps, hlen, hps, hpr⟩ := hP
      rw [Int.zero_add]
      refine ⟨rfl, ?_⟩
      refine yes_ ?_
      refine ⟨nV i, rfl, nV i, rfl, by show 2 ≤ sizeLine; decide, fun T hT => ?_⟩
      have hTD : D ≠ T := ne_of_none hps hT
      refine ⟨ps.map V.ref, Ex.new hT _ _ hps, sz_lt (by rw [List.length_map]; omega), Ex.mut (e.trans (Ex.new hT)) hD0, ps ++ [T], by rw [List.length_append, hlen]; rfl, by rw [upd_same, List.map_append]; rfl, ?_⟩
      rw [List.range_succ, dNs_app, List.length_range, Nat.zero_add]
      refine (paired_imp (fun a kv h => ?_) hpr).snoc ?_
      · have h1 : a ≠ D := fun z => by
          rw [z, hps] at h
          cases h
        rw [upd_ne h1]
        exact Ex.new hT _ _ h
      · rw [upd_ne (Ne.symm hTD), upd_same]
        rfl
    obtain ⟨e, ps, hlen, hps, hpr⟩ := hP
    refine ⟨D, ps, dNs 0 (List.range Lv), rfl, sq_of hps, paired_imp (fun a kv h => st_of h) hpr, fun d hd => ?_⟩
    rw [merge_nil List.nodup_range]
    have e1 := e.trans (Ex.new (o := .dK (dNs 0 (List.range Lv))) hd)
    refine ⟨nV Lv, rfl, (ev_is (ev_len (K := K) (ev_var rfl) (sq_of (hK.kd.ex e1).at_)) (by rw [List.length_map, hK.kd.len]) : Ev _ _ _ (.int (kk.length : Int))) _ (Ex.refl _) _ fun H3 e3 => ?_⟩
    refine ⟨(Lv : Int), (kk.length : Int), rfl, rfl, RgOk.of_le (by omega) (by omega) (by omega) (by omega), fun lf hlf => ⟨by show 0 ≤ sizeLine; decide, fun li hli => ⟨by show 3 ≤ sizeLine; decide, fun T hT => ?_⟩⟩⟩
    refine ⟨T, _, rfl, st_of upd_same, rfl, _, _, rfl, _, _, rfl, _, _, rfl, rfl, ?_⟩
    rw [rgV_lo hln] at hli hT ⊢
    have hdH : H d = none := fresh_back e hd
    have e13 := e1.trans e3
    have hlfH : H lf = none := fresh_back e13 hlf
    have e4 := e13.trans (Ex.new (o := .lst (nVs ((List.range (kk.length - Lv)).map (Lv + ·)))) hlf)
    have hliH : H li = none := fresh_back e4 hli
    have e5 := e4.trans (Ex.new (o := .lst []) hli)
    have e6 := e5.trans (Ex.new (o := .tup [.ref d, .ref lf, .ref li]) hT)
    have h3d := e3 _ _ (show upd H' d (.dK (dNs 0 (List.range Lv))) d = some (.dK (dNs 0 (List.range Lv))) from upd_same)
    have h4d := Ex.new (o := .lst (nVs ((List.range (kk.length - Lv)).map (Lv + ·)))) hlf _ _ h3d
    have h4l : upd H3 lf (.lst (nVs ((List.range (kk.length - Lv)).map (Lv + ·)))) lf = some (.lst (nVs ((List.range (kk.length - Lv)).map (Lv + ·)))) := upd_same
    have hdl : d ≠ lf := ne_of_none h3d hlf
    have hdi : d ≠ li := ne_of_none h4d hli
    have hli' : lf ≠ li := ne_of_none h4l hli
    have h6d := Ex.new (o := .tup [.ref d, .ref lf, .ref li]) hT _ _ (Ex.new (o := .lst []) hli _ _ h4d)
    have h6l := Ex.new (o := .tup [.ref d, .ref lf, .ref li]) hT _ _ (Ex.new (o := .lst []) hli _ _ h4l)
    have h6i := Ex.new (o := .tup [.ref d, .ref lf, .ref li]) hT _ _ (show upd (upd H3 lf (.lst (nVs ((List.range (kk.length - Lv)).map (Lv + ·))))) li (.lst []) li = some (.lst []) from upd_same)
    show tSeq (tWhile _ _) _ _ (S (some (.ref d)) (some (.ref lf)) (some (.ref li)) none) _
    generalize upd (upd (upd H3 lf (.lst (nVs ((List.range (kk.length - Lv)).map (Lv + ·))))) li (.lst [])) T (.tup [.ref d, .ref lf, .ref li]) = H6 at e6 h6d h6l h6i ⊢
    have hdn := hK.kd.fresh hdH
    have hlfn := hK.kd.fresh hlfH
    have hlin := hK.kd.fresh hliH
    have hdB := hB.new hdH
    have hlfB := hB.new hlfH
    have hliB := hB.new hliH
    have hB6 := hB.more e6
    have hK6 := hK.ex e6
    clear hps hpr hd e1 h3d e3 hlf hli hT e13 e4 e5 e6 h4d h4l hlen e hD0
    let Inv (m : Nat) (σ' : L2.St) (H' : Hp) : Prop := ∃ (od left : List Nat) (x6 : Option V) (M : Int), σ' = S (some (.ref d)) (some (.ref lf)) (some (.ref li)) x6 ∧ Bs B H' dk L ns M ∧ M + m ≤ N + 20 ∧ Kds B H' p rs kk ∧
      H' d = some (.dK (dNs 0 od)) ∧ H' lf = some (.lst (nVs left)) ∧ LD K H' li (((od.drop Lv).map (itemOf (rowAt kk) od)).map kidsD) ∧ Ord Lv kk.length (rowAt kk) od ∧ left.Nodup ∧ (∀ k, k < kk.length → k ∈ od ∨ k ∈ left) ∧ (∀ k ∈ left, k ∉ od ∧ k < kk.length) ∧
      od.length + left.length = kk.length ∧ m = left.length
    refine q_while Inv (kk.length - Lv) ⟨List.range Lv, (List.range (kk.length - Lv)).map (Lv + ·), none, N, rfl, hB6, by omega, hK6, h6d, h6l, ⟨[], h6i, ?_⟩, ?_, ?_, ?_, ?_, ?_, ?_⟩ fun m σ' H' hI => ?_
    · rw [List.drop_of_length_le (by rw [List.length_range]; omega)]
      exact .nil
    · refine ⟨List.nodup_range, fun k hk => ?_, fun k hk => ?_, by rw [List.length_range]; omega, fun u c hu hc => ?_⟩
      · have := List.mem_range.mp hk
        omega
      · rw [List.getElem?_range hk]
      · rw [hG.leaf u (List.mem_range.mp hu)] at hc
        cases hc
    · refine List.Pairwise.map _ (fun a b h => ?_) List.nodup_range
      show Lv + a ≠ Lv + b
      intro z
      exact h (by omega)
    · intro k hk
      by_cases z : k < Lv
      · exact .inl (List.mem_range.mpr z)
      · refine .inr (List.mem_map.mpr ⟨k - Lv, List.mem_range.mpr (by omega), by omega⟩)
    · intro k hk
      obtain ⟨i, hi, rfl⟩ := List.mem_map.mp hk
      have := List.mem_range.mp hi
      refine ⟨fun z => ?_, by omega⟩
      have := List.mem_range.mp z
      omega
    · rw [List.length_map, List.length_range, List.length_range]
      omega
    · rw [List.length_map, List.length_range]
    obtain ⟨od, left, x6, M, rfl, hB, hM, hK, hd, hl, hL, hO, hnd, hall, hleft, hlen, hm⟩ := hI
    have hOl := hO.len
    refine ⟨!left.isEmpty, et_neNil (ev_var rfl) hl, fun hb H1 e1 => ?_, fun hb H1 e1 => ?_⟩
    rotate_left
    · have he : left = [] := by
        cases left with
        | nil => rfl
        | cons _ _ => cases hb
      subst he
      refine s_retD (d := webD Lv ((od.drop Lv).map (itemOf (rowAt kk) od))) (ed_tup (eda_cons (ed_i (ev_var rfl)) (eda_cons (ed_tupL (ed_var rfl (hL.ex e1).dp)) eda_nil)) (by simp)) fun v H2 e2 hv => ?_
      exact q H2 v _ (((hB.more e1).more e2).wk (by omega)) ((hK.ex e1).ex e2) hv ⟨od, hG, hn, hO, by simpa using hlen, rfl⟩
    have hne : left ≠ [] := fun z => by
      rw [z] at hb
      cases hb
    replace hB := hB.more e1
    replace hK := hK.ex e1
    replace hd := e1 _ _ hd
    replace hl := e1 _ _ hl
    replace hL := hL.ex e1
    clear e1
    refine ⟨fun σ2 H2 => ∃ m', m' < m ∧ Inv m' σ2 H2, fun σ2 H2 h => h, ?_⟩
    have hnvl : (nVs left).length = left.length := by unfold nVs; rw [List.length_map]
    -- a kind that is ready
    have hR : EvL (tReady K) (S (some (.ref d)) (some (.ref lf)) (some (.ref li)) x6) H1 (nVs (left.filter fun k => (rowAt kk k).all fun c => decide (c ∈ od))) := by
      refine el_natLc _ (ev_var rfl) (sq_of hl) (by omega) (fun _ => rfl) (by show 8 < 10; decide) fun k H2 e2 hk => ?_
      have hkn := (hleft k hk).2
      obtain ⟨r, hr, hrow⟩ := (hK.ex e2).kd.get (rowAt_get hkn)
      have hz := nodup_len _ _ (hG.nd k) (fun c hc => hG.lt k c hc)
      have hW := el_natLcC (K := K) (σ := (wipe (S (some (.ref d)) (some (.ref lf)) (some (.ref li)) x6) [8]).set 8 (some (nV k))) (H := H2) (j := 9) (vs := [9]) (t := tB (tDNotIn (tVar 9) (tVar 3))) (fun c => decide (c ∉ od))
        (ev_row (K := K) (ta := tVar 1) (tb := tVar 8) (hK.ex e2).kd hr (ev_var rfl) (ev_var rfl)) (sq_of hrow) (by omega) (fun _ => rfl) (by show 9 < 10; decide) fun c H3 e3 hc => by
          have q1 := et_dnotin (σ := (wipe ((wipe (S (some (.ref d)) (some (.ref lf)) (some (.ref li)) x6) [8]).set 8 (some (nV k))) [9]).set 9 (some (nV c))) (H := H3) (td := tVar 3) (ty := tVar 9) (k := (c : Int)) (ev_var rfl) (ev_var rfl) (e3 _ _ (e2 _ _ hd))
          refine et_is q1 ?_
          rw [dNs_val]
          by_cases z : c ∈ od
          · rw [if_pos z, decide_eq_false (fun y => y z)]
            rfl
          · rw [if_neg z, decide_eq_true z]
            rfl
      refine et_is (et_eqNilL (K := K) hW) ?_
      generalize rowAt kk k = ks
      induction ks with
      | nil => rfl
      | cons c r ih =>
        rw [List.filter_cons, List.all_cons]
        by_cases z : c ∈ od
        · rw [decide_eq_false (fun y => y z), decide_eq_true z, if_neg Bool.false_ne_true, Bool.true_and]
          exact ih
        · rw [decide_eq_true z, decide_eq_false z, if_pos rfl, Bool.false_and]
          rfl
    refine ⟨.ref dk, rfl, hR H1 (Ex.refl H1) _ fun lr H2 hlr e2 hp2 => ?_⟩
    have b2 := hB.more e2
    obtain ⟨k0, hk0, hk0c⟩ := ready hG hne hall
    have hmem0 : k0 ∈ left.filter fun k => (rowAt kk k).all fun c => decide (c ∈ od) := by
      refine List.mem_filter.mpr ⟨hk0, ?_⟩
      rw [List.all_eq_true]
      exact fun c hc => decide_eq_true (hk0c c hc)
    have hpos := List.length_pos_of_mem hmem0
    have hfl := List.length_filter_le (fun k => (rowAt kk k).all fun c => decide (c ∈ od)) left
    have hnv2 : (nVs (left.filter fun k => (rowAt kk k).all fun c => decide (c ∈ od))).length = (left.filter fun k => (rowAt kk k).all fun c => decide (c ∈ od)).length := by unfold nVs; rw [List.length_map]
    refine ⟨dk, L, ns, M, lr, _, rfl, b2.deck, by omega, hp2, hB.ne (hB.new hlr), by omega, by omega, fun x H3 hx e3 d3 => ?_⟩
    obtain ⟨k, hk, rfl⟩ := List.mem_map.mp hx
    obtain ⟨hkl, hkc⟩ := List.mem_filter.mp hk
    rw [List.all_eq_true] at hkc
    have hkc : ∀ c ∈ rowAt kk k, c ∈ od := fun c hc => of_decide_eq_true (hkc c hc)
    obtain ⟨hkod, hkn⟩ := hleft k hkl
    have b3 := b2.draw e3 d3
    have k3 := (hK.ex e2).draw b2 e3
    have keep : ∀ {r : Addr} {o : HO}, B r = none → H1 r = some o → H3 r = some o := fun {r o} h1 h2 => e3 _ _ (by rw [rem_ne (b2.ne h1)]; exact e2 _ _ h2)
    have hd3 := keep hdB hd
    have hl3 := keep hlfB hl
    have hL3 : LD K H3 li (((od.drop Lv).map (itemOf (rowAt kk) od)).map kidsD) := by
      obtain ⟨xs, h1, h2⟩ := hL
      exact ⟨xs, keep hliB h1, dpAll_draw b2.deck d3 e3 (nl_kidsDs _) (dpAll_ex e2 _ h2)⟩
    have hkn0 := hkn
    unfold gName
    dsimp only
    show tSeq (tDrop _) _ _ (S (some (.ref d)) (some (.ref lf)) (some (.ref li)) (some (nV k))) H3
    clear hR hp2 hlr e2 b2 e3 d3 hB hK hd hl hL hx keep hnvl hnv2 hpos hfl hmem0
    -- it is left no more
    have hpl := plc_get hkl
    refine ⟨.ref lf, rfl, .inl ⟨rfl, _, sq_of hl3⟩, nV k, rfl, lf, left.map fun (k : Nat) => (k : Int), (k : Int), plc k left, rfl, rfl, by rw [← nVs_int]; exact hl3, by rw [List.getElem?_map, hpl]; rfl, fun j hj z => ?_, ?_⟩
    · rw [List.getElem?_map] at z
      obtain ⟨k', hk', e'⟩ := Option.map_eq_some_iff.mp z
      have e' : k' = k := by omega
      subst e'
      have := plc_at hnd hk'
      omega
    rw [ints_erase]
    have hperm := perm_erase hpl
    generalize hle : left.eraseIdx (plc k left) = left' at hperm ⊢
    have b4 := b3.upd (o := .lst (nVs left')) hlfB
    have k4 := k3.other (o := .lst (nVs left')) hlfn
    have hd4 : upd H3 lf (.lst (nVs left')) d = some (.dK (dNs 0 od)) := by
      rw [upd_ne hdl]
      exact hd3
    have hl4 : upd H3 lf (.lst (nVs left')) lf = some (.lst (nVs left')) := upd_same
    have hL4 : LD K (upd H3 lf (.lst (nVs left'))) li (((od.drop Lv).map (itemOf (rowAt kk) od)).map kidsD) := by
      obtain ⟨xs, h1, h2⟩ := hL3
      exact ⟨xs, by rw [upd_ne (Ne.symm hli')]; exact h1, dpAll_updL hl3 _ (nl_kidsDs _) h2⟩
    dsimp only
    show tSeq (sDPut _ _ _) _ _ (S (some (.ref d)) (some (.ref lf)) (some (.ref li)) (some (nV k))) (upd H3 lf (.lst (nVs left')))
    generalize upd H3 lf (.lst (nVs left')) = H4 at b4 k4 hd4 hl4 hL4 ⊢
    clear b3 k3 hd3 hl3 hL3
    -- its number
    have hdsl : (((od.drop Lv).map (itemOf (rowAt kk) od)).map kidsD).length = od.length - Lv := by rw [List.length_map, List.length_map, List.length_drop]
    refine q_dput (σ := S (some (.ref d)) (some (.ref lf)) (some (.ref li)) (some (nV k))) (td := tVar 3) (ty := tVar 6) (k := (k : Int)) (d := d) (v := nV od.length) ?_ (ev_var rfl) (ev_var rfl) hd4 (by rw [dNs_len]; omega) fun H5 e5 => ?_
    · obtain ⟨xs, h1, h2⟩ := hL4
      have hxl := dpAll_len h2
      refine ev_is (ev_op (x := nV Lv) (y := .int (xs.length : Int)) (ev_var rfl) (ev_len (K := K) (ev_var rfl) (sq_of h1)) rv_I0) ?_
      show V.int _ = V.int _
      congr 1
      omega
    rw [dNs_put hkod]
    have hd5 : H5 d = some (.dK (dNs 0 od)) := e5 _ _ hd4
    have b6 := (b4.more e5).upd (o := .dK (dNs 0 (od ++ [k]))) hdB
    have k6 := (k4.ex e5).other (o := .dK (dNs 0 (od ++ [k]))) hdn
    have hd6 : upd H5 d (.dK (dNs 0 (od ++ [k]))) d = some (.dK (dNs 0 (od ++ [k]))) := upd_same
    have hl6 : upd H5 d (.dK (dNs 0 (od ++ [k]))) lf = some (.lst (nVs left')) := by
      rw [upd_ne (Ne.symm hdl)]
      exact e5 _ _ hl4
    have hL6 : LD K (upd H5 d (.dK (dNs 0 (od ++ [k])))) li (((od.drop Lv).map (itemOf (rowAt kk) od)).map kidsD) := by
      obtain ⟨xs, h1, h2⟩ := hL4.ex e5
      exact ⟨xs, by rw [upd_ne (Ne.symm hdi)]; exact h1, dpAll_updK hd5 _ (nl_kidsDs _) h2⟩
    generalize upd H5 d (.dK (dNs 0 (od ++ [k]))) = H6 at b6 k6 hd6 hl6 hL6 ⊢
    clear b4 k4 hd4 hl4 hL4 hd5
    -- its item
    have hO' := hO.more hkod hkn hkc
    obtain ⟨r, hr6, hrow⟩ := k6.kd.get (rowAt_get hkn)
    have hz := nodup_len _ _ (hG.nd k) (fun c hc => hG.lt k c hc)
    have hI : EvN K (tItem K) (S (some (.ref d)) (some (.ref lf)) (some (.ref li)) (some (nV k))) H6 ((((rowAt kk k).map fun c => ((plc c (od ++ [k]) : Nat) : Int))).map PyData.int) := by
      have q1 := en_lc (K := K) (wi := iList K (tOp (rIxL K) (tVar 1) (tVar 6))) (t := tYes) (te := tDGet (tVar 3) (tVar 9)) (j := 9) (vs := [9]) (σ := S (some (.ref d)) (some (.ref lf)) (some (.ref li)) (some (nV k))) (H := H6) (ds := natDs (rowAt kk k))
        (fun x => match x with | .int i => some (.int ((plc i.toNat (od ++ [k]) : Nat) : Int)) | _ => none)
        (src_L (ed_ev (ev_row k6.kd hr6 (ev_var rfl) (ev_var rfl)) (.lst (sq_of hrow) (dpAll_nat _)))) (by unfold natDs; rw [List.length_map]; omega) (fun _ => rfl)
        (fun x v H7 e7 hx hv => by
          obtain ⟨c, hc, rfl⟩ := List.mem_map.mp hx
          exact fun H8 _ _ q => q H8 (Ex.refl H8))
        (fun x r' v H7 e7 hx hv hr' => by
          obtain ⟨c, hc, rfl⟩ := List.mem_map.mp hx
          have hr' : some (PyData.int ((plc ((c : Int)).toNat (od ++ [k]) : Nat) : Int)) = some r' := hr'
          rw [Int.toNat_natCast] at hr'
          cases hr'
          cases dp_int hv
          refine ed_i (ev_dgetK (d := d) (k := (c : Int)) (kvs := dNs 0 (od ++ [k])) (ev_var rfl) (ev_var rfl) (e7 _ _ hd6) ?_)
          rw [dNs_val, if_pos (List.mem_append_left _ (hkc c hc)), Nat.zero_add]
          rfl)
        (fun x r' hx hr' => by
          obtain ⟨c, hc, rfl⟩ := List.mem_map.mp hx
          cases hr'
          rfl)
      rw [fm_nats (g := fun c => ((plc c (od ++ [k]) : Nat) : Int)) fun c _ => rfl] at q1
      exact q1
    have hT : EvD K _ (S (some (.ref d)) (some (.ref lf)) (some (.ref li)) (some (nV k))) H6 _ := ed_tupN (en_sortedL (ed_n hI) (by rw [List.length_map]; omega))
    rw [← itemsD] at hT
    refine s_appD hL6 (ev_var rfl) hT (by omega) (nl_kidsDs _) (nl_kidsD _) fun H7 e7 hL7 => ?_
    have eR : Ex (rem H6 li) H7 := e7 _ rem_ex rem_self
    have b7 := (b6.rem hliB).more eR
    have k7 := (k6.rem hlin).ex eR
    have hd7 := eR d _ (by rw [rem_ne hdi]; exact hd6)
    have hl7 := eR lf _ (by rw [rem_ne hli']; exact hl6)
    have hpl' := hperm.length_eq
    rw [List.length_cons] at hpl'
    have hndp : (k :: left').Nodup := hperm.nodup_iff.mpr hnd
    rw [List.nodup_cons] at hndp
    refine ⟨left'.length, by omega, od ++ [k], left', _, M + 1, rfl, b7, by omega, k7, hd7, hl7, ?_, hO', hndp.2, fun x hx => ?_, fun x hx => ?_, ?_, rfl⟩
    · have eI : ((od ++ [k]).drop Lv).map (itemOf (rowAt kk) (od ++ [k])) = (od.drop Lv).map (itemOf (rowAt kk) od) ++ [itemOf (rowAt kk) (od ++ [k]) k] := by
        rw [List.drop_append_of_le_length hOl, List.map_append]
        congr 1
        refine List.map_congr_left fun u hu => itemOf_app fun c hc => (hO.dn u c (List.mem_of_mem_drop hu) hc).1
      rw [eI, List.map_append]
      exact hL7
    · rcases hall x hx with h | h
      · exact .inl (List.mem_append_left _ h)
      · rcases List.mem_cons.mp (hperm.mem_iff.mpr h) with z | z
        · exact .inl (List.mem_append_right _ (List.mem_singleton.mpr z))
        · exact .inr z
    · obtain ⟨a1, a2⟩ := hleft x (hperm.mem_iff.mp (List.mem_cons_of_mem _ hx))
      refine ⟨fun z => ?_, a2⟩
      rcases List.mem_append.mp z with z | z
      · exact a1 z
      · rw [List.mem_singleton.mp z] at hx
        exact hndp.1 hx
    · rw [List.length_append]
      show od.length + 1 + left'.length = _
      omega
end
end WR
set_option Elab.async false
set_option linter.all false
set_option maxRecDepth 100000
set_option maxHeartbeats 2000000
namespace WR
open PySem PySem.Spec PyProof.Rows L2 Evl

/-! ### _law_web -/
def spLWeb (K : PySem.W.Frag) : Sp := fun vs H Q _ => ∃ dk L ns N mo mx, vs = [.ref dk, nV mo, nV mx] ∧ Dk H dk L ns N ∧ N ≤ 700000000 ∧ 1 ≤ mo ∧ mo ≤ 8 ∧ mx ≤ 1000 ∧
  ∀ H' v Lv inner, Bs H H' dk L ns (N + 100 + 4 * mx) → 1 ≤ Lv → Lv ≤ mo → Dp K H' v (webD Lv inner) → Drawn Lv inner → Q v H'
abbrev nLWeb : List Str := ["_law_deck_here", "_law_most", "_law_mixes", "_law_leaves"]
theorem scLWeb : FnScope nLWeb ["_law_deck_here", "_law_most", "_law_mixes"] (defScope sLWeb) := ⟨rfl, rfl, rfl, by decide +kernel, rfl, by decide +kernel, by decide +kernel⟩
section
variable {P : Program} {w : World} {K : PySem.W.Frag} {mg : Str → Option Value} {base : Heap}
theorem ok_lweb {f fW fC fN : Addr} {fd fdW fdC fdN : FuncData} (F : Fun K "_law_web" "_law_web" sLWeb f fd)
    (FW : Fun K "_law_draw" "_law_draw" sDraw fW fdW) (bW : Binds K fdW ["_law_deck_here", "_law_many"] []) (gW : mg "_law_draw" = some (.ref fW))
    (FC : Fun K "_law_kids" "_law_kids" sLKids fC fdC) (bC : Binds K fdC ["_law_deck_here", "_law_leaves", "_law_mixes"] []) (gC : mg "_law_kids" = some (.ref fC))
    (FN : Fun K "_law_numbered" "_law_numbered" sNumb fN fdN) (bN : Binds K fdN ["_law_deck_here", "_law_kids_here", "_law_leaves"] []) (gN : mg "_law_numbered" = some (.ref fN))
    (GW : FnOk P w K mg base CX0 1 fW fdW ["_law_deck_here", "_law_many"] spDraw)
    (GC : FnOk P w K mg base CX0 4 fC fdC ["_law_deck_here", "_law_leaves", "_law_mixes"] (spLKids K))
    (GN : FnOk P w K mg base CX0 3 fN fdN ["_law_deck_here", "_law_kids_here", "_law_leaves"] (spNumb K)) :
    FnOk P w K mg base CX0 5 f fd ["_law_deck_here", "_law_most", "_law_mixes"] (spLWeb K) := by
  refine F.ok scLWeb (fun vs H Q E h => ?_) (fun cdv A outer s H vs Q E hr h => ?_)
  · obtain ⟨dk, L, ns, N, mo, mx, rfl, _⟩ := h
    rfl
  obtain ⟨dk, L, ns, N, mo, mx, rfl, hD, hN, hm1, hm8, hmx, q⟩ := h
  refine ⟨_, pss_cons (ps_set (i := 3) scLWeb.nd rfl (.inl rfl) (pe_op op_add pe_int (pe_call GW (hr.mono (by decide)) (by rfl) gW FW.kp bW .nil pass0 (pa_cons (pv 0) (pa_cons (pv 1) pa_nil)))))
    (pss_one (ps_ret (pe_call GN (hr.mono (by decide)) (by rfl) gN FN.kp bN .nil pass0 (pa_cons (pv 0) (pa_cons (pe_call GC (hr.mono (by decide)) (by rfl) gC FC.kp bC .nil pass0 (pa_cons (pv 0) (pa_cons (pv 3) (pa_cons (pv 2) pa_nil)))) (pa_cons (pv 3) pa_nil)))))), ?_⟩
  have hdk : ∃ o, H dk = some o := by obtain ⟨a, b, n, d, _⟩ := hD; exact ⟨_, d.at_⟩
  have hLs : ∃ o, H L = some o := by obtain ⟨a, b, n, d, _⟩ := hD; exact ⟨_, d.ls⟩
  refine q_draw (c := 1) (m := (mo : Int)) (ev_var rfl) (ev_var rfl) hD (by omega) (by omega) (by omega) fun r H1 r0 r1 e1 d1 => ?_
  obtain ⟨j, rfl⟩ : ∃ j : Nat, r = (j : Int) := ⟨r.toNat, (Int.toNat_of_nonneg r0).symm⟩
  have ej : V.int (1 + (j : Int)) = nV (j + 1) := by
    show V.int _ = V.int _
    congr 1
    omega
  rw [ej]
  refine ⟨.ref dk, rfl, .ref dk, rfl, nV (j + 1), rfl, nV mx, rfl, dk, L, ns, N + 1, j + 1, mx, rfl, d1, by omega, by omega, by omega, hmx, fun H2 p rs kk b2 k2 g2 n2 => ?_⟩
  refine ⟨nV (j + 1), rfl, dk, p, H1, L, ns, _, rs, kk, j + 1, rfl, b2, by omega, k2, g2, by omega, n2, fun H3 v inner b3 _ hv hw => ?_⟩
  exact q H3 v (j + 1) inner ⟨rem_trans e1 b3.ex, (b3.wk (by omega)).deck, hdk, hLs⟩ (by omega) (by omega) hv hw.drawn
/-- what is drawn is a raw web -/
theorem Drawn.raw {L : Nat} {inner : List (List Nat)} (h : Drawn L inner) (h1 : 1 ≤ L) (h8 : L ≤ 8) : Raw L inner := by
  obtain ⟨kk, od, hG, hn, hO, hlen, rfl⟩ := h.ex
  have hll := hO.len
  have hil : ∀ u, (itemOf (rowAt kk) od u).length ≤ 30 := fun u => by
    unfold itemOf
    rw [List.length_map, (sortI_perm _).length_eq, List.length_map]
    have := nodup_len _ _ (hG.nd u) (fun c hc => hG.lt u c hc)
    omega
  refine ⟨h1, h8, by rw [List.length_map, List.length_drop]; omega, fun j ks hj k hk => ?_, fun ks hks => ?_⟩
  · rw [List.getElem?_map] at hj
    obtain ⟨u, hu, rfl⟩ := Option.map_eq_some_iff.mp hj
    rw [List.getElem?_drop] at hu
    unfold itemOf at hk
    obtain ⟨i, hi, rfl⟩ := List.mem_map.mp hk
    obtain ⟨c, hc, rfl⟩ := List.mem_map.mp ((sortI_perm _).mem_iff.mp hi)
    rw [Int.toNat_natCast]
    have := (hO.dn u c (List.mem_of_getElem? hu) hc).2
    rw [plc_at hO.nd hu] at this
    exact this
  · obtain ⟨u, _, rfl⟩ := List.mem_map.mp hks
    exact hil u
end
end WR
set_option Elab.async false
set_option linter.all false
set_option maxRecDepth 100000
set_option maxHeartbeats 1000000
namespace WR
open PySem PySem.Spec PyProof.Rows L2 Evl

/-! ### _law_lists -/
def spLists (K : PySem.W.Frag) : Sp := fun vs H Q _ => ∃ v l inner, vs = [v] ∧ Dp K H v (webD l inner) ∧ Raw l inner ∧
  ∀ p rs H', Ex H H' → H p = none → KdAt H' p rs (List.replicate l [] ++ inner) → Q (.ref p) H'
theorem KdAt.cat {B H : Hp} {p D1 D2 : Addr} {rs1 rs2 : List Addr} {k1 k2 : List (List Nat)} (a : KdAt B D1 rs1 k1) (e : Ex B H) (b : Kds B H D2 rs2 k2) (hp : H p = none) : KdAt (upd H p (.lst (rs1.map V.ref ++ rs2.map V.ref))) p (rs1 ++ rs2) (k1 ++ k2) := by
  have en := Ex.new (o := .lst (rs1.map V.ref ++ rs2.map V.ref)) hp
  have a2 := a.ex e
  refine ⟨by rw [upd_same, List.map_append], by rw [List.length_append, List.length_append, a.len, b.kd.len], ?_, fun z => ?_, fun i r ks h1 h2 => ?_⟩
  · rw [List.nodup_append]
    refine ⟨a.nd, b.kd.nd, fun x hx y hy z => ?_⟩
    subst z
    have h0 := b.br x hy
    obtain ⟨i, hi, ei⟩ := List.mem_iff_getElem.mp hx
    have := a.row i x _ (by rw [List.getElem?_eq_getElem hi, ei]) (rowAt_get (by rw [← a.len]; exact hi))
    rw [h0] at this
    cases this
  · rcases List.mem_append.mp z with z | z
    · exact a2.fresh hp (List.mem_cons_of_mem _ z)
    · exact b.kd.fresh hp (List.mem_cons_of_mem _ z)
  · rw [List.getElem?_append] at h1 h2
    rw [a.len] at h1
    by_cases hi : i < k1.length
    · rw [if_pos hi] at h1 h2
      exact en _ _ (a2.row i r ks h1 h2)
    · rw [if_neg hi] at h1 h2
      exact en _ _ (b.kd.row _ r ks h1 h2)
end WR
set_option Elab.async false
set_option linter.all false
set_option maxRecDepth 100000
set_option maxHeartbeats 1000000
namespace WR
open PySem PySem.Spec PyProof.Rows L2 Evl
/-! ### parents, mixings, is_mixing, is_tree -/
section
variable {K : PySem.W.Frag} {σ : L2.St} {H : Hp} {ta te : TE} {t : TT} {wi : TI}
theorem et_inK {k : Nat} {ks : List Nat} (hk : Ev ta σ H (nV k)) (h : EvD K te σ H (kidsD ks)) : EvT (tTest (tOp (rIn K false) ta te)) σ H (decide (k ∈ ks)) := by
  refine et_test fun H1 e Q q => hk H1 e _ fun H2 e2 => h H2 (e.trans e2) _ fun v H3 e3 hv => ?_
  obtain ⟨a, xs, rfl, hs, hd⟩ := dp_tup hv
  have hd : DpAll K H3 xs (natDs ks) := hd
  rw [nats_of hd] at hs
  refine rv_isT (K := K) (x := nV k) hs rfl (flat_nVs ks) H3 (Ex.refl H3) Q fun H4 e4 => ?_
  rw [inV_nat]
  exact q H4 ((e2.trans e3).trans e4)
theorem fm_pick {n : Nat} {b : Nat → Bool} {f : PyData → Option PyData} (h : ∀ k : Nat, f (.int ((0 : Int) + (k : Int))) = if b k = true then some (natD k) else none) : (rngD 0 n).filterMap f = natDs ((List.range n).filter b) := by
  unfold rngD natDs
  rw [List.filterMap_map]
  generalize List.range n = l
  induction l with
  | nil => rfl
  | cons x r ih =>
    have hx : (f ∘ fun (k : Nat) => PyData.int ((0 : Int) + (k : Int))) x = if b x = true then some (natD x) else none := h x
    rw [List.filterMap_cons, List.filter_cons, hx, ih]
    cases b x with
    | true => rfl
    | false => rfl
/-- the numbers below n that .. -/
theorem en_pick {n j : Nat} {vs : List Nat} (b : Nat → Bool) (h : SrcS K wi σ H (rngD 0 n)) (hn : n ≤ 40000) (hw : ∀ x, wipe ((wipe σ vs).set j (some x)) vs = wipe σ vs) (hj : j < (wipe σ vs).length)
    (ht : ∀ k H1, Ex H H1 → k < n → EvT t ((wipe σ vs).set j (some (nV k))) H1 (b k)) : EvN K (tLc wi (gName j) t (tVar j) vs) σ H (natDs ((List.range n).filter b)) := by
  let f : PyData → Option PyData := fun d => match d with | .int i => if b i.toNat = true then some (.int i) else none | _ => none
  have hf : ∀ k : Nat, f (.int ((0 : Int) + (k : Int))) = if b k = true then some (natD k) else none := fun k => by
    show (if b ((0 : Int) + (k : Int)).toNat = true then some (PyData.int ((0 : Int) + (k : Int))) else none) = _
    rw [show ((0 : Int) + (k : Int)).toNat = k by omega, show (0 : Int) + (k : Int) = (k : Int) by omega]
    rfl
  have q := en_lc (K := K) (t := t) (te := tVar j) (j := j) (vs := vs) (ds := rngD 0 n) f h.src (by rw [rngD_len]; exact hn) hw (fun d v H1 e hd hv => by
      obtain ⟨i, hi, rfl⟩ := List.mem_map.mp hd
      rw [hf]
      rw [show (0 : Int) + (i : Int) = (i : Int) by omega] at hv
      cases dp_int hv
      refine et_is (ht i H1 e (List.mem_range.mp hi)) ?_
      cases b i with
      | true => rfl
      | false => rfl) (fun d r v H1 e hd hv hr => by
      obtain ⟨i, hi, rfl⟩ := List.mem_map.mp hd
      rw [hf] at hr
      split at hr
      · cases hr
        rw [show (0 : Int) + (i : Int) = (i : Int) by omega] at hv
        cases dp_int hv
        exact ed_i (ev_var (by rw [List.getElem?_set_self hj]))
      · cases hr) fun d r hd hr => by
      obtain ⟨i, hi, rfl⟩ := List.mem_map.mp hd
      rw [hf] at hr
      split at hr
      · cases hr
        rfl
      · cases hr
  rw [fm_pick hf] at q
  exact q
end
def parsAt (l : Nat) (inner : List (List Nat)) (k : Nat) : List Nat := (List.range (l + inner.length)).filter fun u => decide (k ∈ kidsAt l inner u)
def cK (l : Nat) (inner : List (List Nat)) (k : Nat) : Int := (cnts l inner).getD k 0
def mixL (l : Nat) (inner : List (List Nat)) : List Nat := (List.range (l + inner.length)).filter fun k => decide (1 < cK l inner k)
theorem cK_at {l : Nat} {inner : List (List Nat)} {k : Nat} (h : k < l + inner.length) : ((cnts l inner).map PyData.int)[k]? = some (.int (cK l inner k)) := by
  have hl : (cnts l inner).length = l + inner.length := cntF_len _ _
  unfold cK
  rw [List.getElem?_map, List.getD_eq_getElem?_getD, List.getElem?_eq_getElem (by omega)]
  rfl
end WR
set_option Elab.async false
set_option linter.all false
set_option maxRecDepth 100000
set_option maxHeartbeats 1000000
namespace WR
open PySem PySem.Spec PyProof.Rows L2 Evl
/-! ### the law's lists and the web -/
def kkOf (l : Nat) (inner : List (List Nat)) : List (List Nat) := List.replicate l [] ++ inner
theorem kkOf_len {l : Nat} {inner : List (List Nat)} : (kkOf l inner).length = l + inner.length := by
  unfold kkOf
  rw [List.length_append, List.length_replicate]
theorem rowAt_kk {l u : Nat} {inner : List (List Nat)} : rowAt (kkOf l inner) u = kidsAt l inner u := by
  unfold rowAt kkOf kidsAt
  rw [List.getD_eq_getElem?_getD, List.getElem?_append, List.length_replicate]
  by_cases h : u < l
  · rw [if_pos h, if_pos h, List.getElem?_replicate, if_pos h]
    rfl
  · rw [if_neg h, if_neg h, List.getD_eq_getElem?_getD]
theorem ups_kk {l k : Nat} {inner : List (List Nat)} : upsL (kkOf l inner) k = parsAt l inner k := by
  unfold upsL parsAt
  rw [kkOf_len]
  congr 1
  funext u
  have h : (kkOf l inner).getD u [] = kidsAt l inner u := rowAt_kk
  rw [h]
theorem bump_at {cs : List Int} {c k : Nat} (hk : k < cs.length) : (bump cs c).getD k 0 = cs.getD k 0 + (if c = k then 1 else 0) := by
  unfold bump
  rw [List.getD_eq_getElem?_getD, List.getElem?_set]
  by_cases e : c = k
  · subst e
    rw [if_pos rfl, if_pos rfl, if_pos hk]
    rfl
  · rw [if_neg e, if_neg e, List.getD_eq_getElem?_getD]
    omega
theorem bumpAll_at {k : Nat} : ∀ {ks : List Nat} {cs : List Int}, ks.Nodup → k < cs.length → (bumpAll cs ks).getD k 0 = cs.getD k 0 + (if k ∈ ks then 1 else 0)
  | [], cs, _, _ => by
    rw [if_neg (List.not_mem_nil)]
    show cs.getD k 0 = _
    omega
  | c :: r, cs, hd, hk => by
    rw [List.nodup_cons] at hd
    show (bumpAll (bump cs c) r).getD k 0 = _
    rw [bumpAll_at hd.2 (by rw [bump_len]; exact hk), bump_at hk]
    by_cases e : c = k
    · subst e
      rw [if_pos rfl, if_neg hd.1, if_pos (List.mem_cons_self ..)]
      omega
    · have : (k ∈ c :: r) ↔ k ∈ r := by simp [Ne.symm e]
      rw [if_neg e]
      simp only [this]
      omega
theorem cnts_cnt {l k : Nat} {inner : List (List Nat)} (hnd : ∀ ks ∈ inner, ks.Nodup) (hk : k < l + inner.length) : ∀ i, i ≤ inner.length → (cntF (l + inner.length) (inner.take i)).getD k 0 = ((cnt (kidsAt l inner) k (l + i) : Nat) : Int)
  | 0, _ => by
    have h0 : cnt (kidsAt l inner) k (l + 0) = 0 := cnt_out fun u hu h => by
      unfold kidsAt at h
      rw [if_pos (by omega)] at h
      cases h
    rw [h0, List.take_zero]
    show (List.replicate (l + inner.length) (0 : Int)).getD k 0 = 0
    rw [List.getD_eq_getElem?_getD, List.getElem?_replicate]
    split <;> rfl
  | i + 1, hi => by
    have hil : i < inner.length := by omega
    have hg : inner[i]? = some inner[i] := List.getElem?_eq_getElem hil
    have hk2 : kidsAt l inner (l + i) = inner[i] := by
      unfold kidsAt
      rw [if_neg (by omega), show l + i - l = i by omega, List.getD_eq_getElem?_getD, hg]
      rfl
    rw [cntF_take hg, bumpAll_at (hnd _ (List.getElem_mem hil)) (by rw [cntF_len]; exact hk), cnts_cnt hnd hk i (by omega)]
    show _ = ((cnt (kidsAt l inner) k (l + i) + (if k ∈ kidsAt l inner (l + i) then 1 else 0) : Nat) : Int)
    rw [hk2]
    split <;> simp
theorem cK_pars {l k : Nat} {inner : List (List Nat)} (hnd : ∀ ks ∈ inner, ks.Nodup) (hk : k < l + inner.length) : cK l inner k = ((parsAt l inner k).length : Int) := by
  have h := cnts_cnt hnd hk inner.length (Nat.le_refl _)
  rw [List.take_length] at h
  unfold cK cnts
  rw [h, ← ups_kk, cnt_ups, kkOf_len]
  have e : rowAt (kkOf l inner) = kidsAt l inner := funext fun u => rowAt_kk
  rw [e]
/-- no item of a drawn web has a kind twice -/
theorem plc_inj {a b : Nat} {od : List Nat} (ha : a ∈ od) (hb : b ∈ od) (h : plc a od = plc b od) : a = b := by
  have h1 := plc_get ha
  have h2 := plc_get hb
  rw [h, h2] at h1
  exact (Option.some.inj h1).symm
theorem Drawn.nd {L : Nat} {inner : List (List Nat)} (h : Drawn L inner) : ∀ ks ∈ inner, ks.Nodup := by
  obtain ⟨kk, od, hG, hn, hO, hlen, rfl⟩ := h.ex
  intro ks hks
  obtain ⟨u, hu, rfl⟩ := List.mem_map.mp hks
  have hum := List.mem_of_mem_drop hu
  unfold itemOf
  have h1 : ((rowAt kk u).map fun c => ((plc c od : Nat) : Int)).Nodup := by
    refine List.pairwise_map.mpr ((hG.nd u).imp_of_mem fun {a b} ha hb hab z => hab ?_)
    exact plc_inj (hO.dn u a hum ha).1 (hO.dn u b hum hb).1 (by omega)
  have h2 := ((sortI_perm ((rowAt kk u).map fun c => ((plc c od : Nat) : Int))).nodup_iff).mpr h1
  refine List.pairwise_map.mpr (h2.imp_of_mem fun {a b} ha hb hab z => hab ?_)
  obtain ⟨x, _, rfl⟩ := List.mem_map.mp ((sortI_perm _).mem_iff.mp ha)
  obtain ⟨y, _, rfl⟩ := List.mem_map.mp ((sortI_perm _).mem_iff.mp hb)
  rw [Int.toNat_natCast, Int.toNat_natCast] at z
  omega
theorem mixL_eq {l : Nat} {inner : List (List Nat)} (hnd : ∀ ks ∈ inner, ks.Nodup) : mixL l inner = (List.range (l + inner.length)).filter fun k => decide ((1 : Int) < ((parsAt l inner k).length : Int)) := by
  unfold mixL
  refine List.filter_congr fun k hk => ?_
  rw [cK_pars hnd (List.mem_range.mp hk)]
end WR
set_option Elab.async false
set_option linter.all false
set_option maxRecDepth 100000
set_option maxHeartbeats 1000000
namespace WR
open PySem PySem.Spec PyProof.Rows L2 Evl
/-! ### links -/
def prD (u c : Nat) : PyData := .tuple [natD u, natD c]
def linksTo (l : Nat) (inner : List (List Nat)) (n : Nat) : List PyData := (List.range n).flatMap fun u => (kidsAt l inner u).map (prD u)
theorem linksTo_succ {l n : Nat} {inner : List (List Nat)} : linksTo l inner (n + 1) = linksTo l inner n ++ (kidsAt l inner n).map (prD n) := by
  unfold linksTo
  rw [List.range_succ, List.flatMap_append]
  simp
theorem kl30 {l : Nat} {inner : List (List Nat)} {k : Nat} (hw : Raw l inner) : (kidsAt l inner k).length ≤ 30 := by
  unfold kidsAt
  by_cases h : k < l
  · rw [if_pos h]
    exact Nat.zero_le _
  · rw [if_neg h, List.getD_eq_getElem?_getD]
    cases e : inner[k - l]? with
    | none => exact Nat.zero_le _
    | some ks => exact hw.len ks (List.mem_of_getElem? e)
theorem linksTo_len {l : Nat} {inner : List (List Nat)} (hw : Raw l inner) : ∀ n, (linksTo l inner n).length ≤ 30 * n
  | 0 => Nat.le_refl _
  | n + 1 => by
    rw [linksTo_succ, List.length_append, List.length_map]
    have := linksTo_len hw n
    have := kl30 (k := n) hw
    omega
theorem nl_prs (u : Nat) (ks : List Nat) : nlAll (ks.map (prD u)) = true := nlAll_mem fun d hd => by
  obtain ⟨c, _, rfl⟩ := List.mem_map.mp hd
  rfl
theorem nl_links {l : Nat} {inner : List (List Nat)} {n : Nat} : nlAll (linksTo l inner n) = true := nlAll_mem fun d hd => by
  unfold linksTo at hd
  obtain ⟨u, _, h⟩ := List.mem_flatMap.mp hd
  obtain ⟨c, _, rfl⟩ := List.mem_map.mp h
  rfl
theorem nlAll_app {a b : List PyData} (ha : nlAll a = true) (hb : nlAll b = true) : nlAll (a ++ b) = true := nlAll_mem fun d hd => by
  rcases List.mem_append.mp hd with h | h
  · exact nlAll_of ha d h
  · exact nlAll_of hb d h
end WR
set_option Elab.async false
set_option linter.all false
set_option maxRecDepth 100000
set_option maxHeartbeats 1000000
namespace WR
open PySem PySem.Spec PyProof.Rows L2 Evl

/-! ### data small enough to be shown -/
structure Sm (w dp : Nat) (d : PyData) : Prop where
  sh : d.showable = true
  nd : d.hasDict = false
  ls : d.leavesShort 60 = true
  wt : d.weight ≤ w
  dp : d.depth ≤ dp
structure SmL (w dp : Nat) (ds : List PyData) : Prop where
  sh : PyData.showableAll ds = true
  nd : PyData.hasDictAll ds = false
  ls : PyData.leavesShortAll 60 ds = true
  wt : PyData.weightAll ds ≤ w
  dp : PyData.depthAll ds ≤ dp
theorem Sm.ok {w dp : Nat} {d : PyData} (h : Sm w dp d) (hw : w ≤ 250000) (hd : dp ≤ 40) : okR d = true := by
  have h1 := PyData.shown_le 60 (by decide) d h.ls
  have h3 := h.wt
  have h4 : d.shown.length ≤ sizeLine := by
    show d.shown.length ≤ 2 ^ 24
    have e : (2 : Nat) ^ 24 = 16777216 := by decide
    omega
  have h2 := h.dp
  unfold okR
  rw [h.sh, h.nd, decide_eq_true h4, decide_eq_true (show d.depth ≤ 40 by omega)]
  rfl
theorem Sm.up {w dp w' dp' : Nat} {d : PyData} (h : Sm w dp d) (hw : w ≤ w') (hd : dp ≤ dp') : Sm w' dp' d :=
  ⟨h.sh, h.nd, h.ls, Nat.le_trans h.wt hw, Nat.le_trans h.dp hd⟩
theorem log_lt {n k : Nat} (h : n < 2 ^ k) (hk : 0 < k) : n.log2 < k := by
  by_cases z : n = 0
  · rw [z]
    exact hk
  · exact (Nat.log2_lt z).mpr h
theorem sm_intB {i : Int} {b : Nat} (h : i.natAbs < 10 ^ 45) (hb : i.natAbs < 2 ^ b) (h0 : 0 < b) (h9 : b ≤ 1000) : Sm b 0 (.int i) := by
  have hl := log_lt hb h0
  refine ⟨?_, ?_, ?_, ?_, ?_⟩
  · simp only [PyData.showable]
    exact decide_eq_true (by omega)
  · simp only [PyData.hasDict]
  · simp only [PyData.leavesShort]
    have e := int_text_length_le10 (k := 45) (by decide) h
    have e2 : (PyData.shown (.int i)).length = (toString i).length := PySem.ofString_length _
    exact decide_eq_true (by omega)
  · simp only [PyData.weight]
    split <;> omega
  · simp only [PyData.depth]
    exact Nat.le_refl 0
theorem sm_int {i : Int} (h : i.natAbs < 1000000000000) : Sm 41 0 (.int i) :=
  sm_intB (Nat.lt_of_lt_of_le h (by decide)) (Nat.lt_of_lt_of_le h (by decide)) (by decide) (by decide)
theorem sm_big {i : Int} (h : i.natAbs < 10 ^ 45) : Sm 150 0 (.int i) := sm_intB h (Nat.lt_of_lt_of_le h (by decide)) (by decide) (by decide)
theorem sm_nat {k : Nat} (h : k < 1000000000000) : Sm 41 0 (natD k) := sm_int (by show (k : Int).natAbs < _; omega)
theorem sm_bool {b : Bool} : Sm 0 0 (.bool b) := by
  refine ⟨?_, ?_, ?_, ?_, ?_⟩ <;> simp only [PyData.showable, PyData.hasDict, PyData.leavesShort, PyData.weight, PyData.depth, Nat.le_refl]
theorem sm_none : Sm 0 0 .none := by
  refine ⟨?_, ?_, ?_, ?_, ?_⟩ <;> simp only [PyData.showable, PyData.hasDict, PyData.leavesShort, PyData.weight, PyData.depth, Nat.le_refl]
theorem smL_nil {dp : Nat} : SmL 0 dp [] := by
  refine ⟨?_, ?_, ?_, ?_, ?_⟩ <;> simp [PyData.showableAll, PyData.hasDictAll, PyData.leavesShortAll, PyData.weightAll, PyData.depthAll]
theorem smL_cons {w w' dp dp' : Nat} {d : PyData} {ds : List PyData} (q : Sm w dp' d) (hp : dp' ≤ dp) (h : SmL w' dp ds) : SmL (w + 1 + w') dp (d :: ds) := by
  obtain ⟨a, b, c, e, f⟩ := h
  have q1 := q.wt
  have q2 := q.dp
  refine ⟨?_, ?_, ?_, ?_, ?_⟩
  · simp only [PyData.showableAll, q.sh, a, Bool.and_self]
  · simp only [PyData.hasDictAll, q.nd, b, Bool.or_self]
  · simp only [PyData.leavesShortAll, q.ls, c, Bool.and_self]
  · simp only [PyData.weightAll]
    omega
  · simp only [PyData.depthAll]
    omega
theorem SmL.up {w w' dp dp' : Nat} {ds : List PyData} (h : SmL w dp ds) (hw : w ≤ w') (hd : dp ≤ dp') : SmL w' dp' ds :=
  ⟨h.sh, h.nd, h.ls, Nat.le_trans h.wt hw, Nat.le_trans h.dp hd⟩
theorem sm_all {w dp : Nat} : ∀ {ds : List PyData}, (∀ d ∈ ds, Sm w dp d) → SmL (ds.length * (w + 1)) dp ds
  | [], _ => by
    rw [List.length_nil, Nat.zero_mul]
    exact smL_nil
  | d :: ds, h => by
    refine (smL_cons (h d (List.mem_cons_self ..)) (Nat.le_refl dp) (sm_all (ds := ds) fun x hx => h x (List.mem_cons_of_mem _ hx))).up ?_ (Nat.le_refl dp)
    rw [List.length_cons, Nat.add_mul, Nat.one_mul]
    omega
theorem SmL.tup {w dp : Nat} {ds : List PyData} (h : SmL w dp ds) : Sm w (dp + 1) (.tuple ds) := by
  obtain ⟨a, b, c, e, f⟩ := h
  refine ⟨?_, ?_, ?_, ?_, ?_⟩
  · simp only [PyData.showable, a]
  · simp only [PyData.hasDict, b]
  · simp only [PyData.leavesShort, c]
  · simp only [PyData.weight]
    omega
  · simp only [PyData.depth]
    omega
theorem SmL.lst {w dp : Nat} {ds : List PyData} (h : SmL w dp ds) : Sm w (dp + 1) (.list ds) := by
  obtain ⟨a, b, c, e, f⟩ := h
  refine ⟨?_, ?_, ?_, ?_, ?_⟩
  · simp only [PyData.showable, a]
  · simp only [PyData.hasDict, b]
  · simp only [PyData.leavesShort, c]
  · simp only [PyData.weight]
    omega
  · simp only [PyData.depth]
    omega
theorem sm_tup {w dp n : Nat} {ds : List PyData} (h : ∀ d ∈ ds, Sm w dp d) (hn : ds.length ≤ n) : Sm (n * (w + 1)) (dp + 1) (.tuple ds) :=
  ((sm_all h).up (Nat.mul_le_mul_right _ hn) (Nat.le_refl _)).tup
theorem sm_lst {w dp n : Nat} {ds : List PyData} (h : ∀ d ∈ ds, Sm w dp d) (hn : ds.length ≤ n) : Sm (n * (w + 1)) (dp + 1) (.list ds) :=
  ((sm_all h).up (Nat.mul_le_mul_right _ hn) (Nat.le_refl _)).lst
theorem sm_nats {n m : Nat} {ks : List Nat} (h : ∀ k ∈ ks, k < m) (hm : m ≤ 1000000000000) (hn : ks.length ≤ n) : Sm (n * 42) 1 (kidsD ks) :=
  sm_tup (w := 41) (dp := 0) (fun d hd => by
    obtain ⟨k, hk, rfl⟩ := List.mem_map.mp hd
    exact sm_nat (by have := h k hk; omega)) (by rw [List.length_map]; exact hn)
theorem raw_lt {l : Nat} {inner : List (List Nat)} (hw : Raw l inner) {ks : List Nat} (h : ks ∈ inner) : ∀ k ∈ ks, k < l + inner.length := fun k hk => by
  obtain ⟨j, hj, e⟩ := List.mem_iff_getElem.mp h
  have := hw.lt j ks (by rw [List.getElem?_eq_getElem hj, e]) k hk
  omega
theorem kidsAt_lt {l : Nat} {inner : List (List Nat)} (hw : Raw l inner) {u k : Nat} (h : k ∈ kidsAt l inner u) : k < l + inner.length ∧ k < u := by
  unfold kidsAt at h
  by_cases z : u < l
  · rw [if_pos z] at h
    cases h
  · rw [if_neg z, List.getD_eq_getElem?_getD] at h
    cases e : inner[u - l]? with
    | none =>
      rw [e] at h
      cases h
    | some ks =>
      rw [e] at h
      have hk : k ∈ ks := h
      have := hw.lt _ _ e k hk
      have := (List.getElem?_eq_some_iff.mp e).1
      omega
theorem sm_web {l : Nat} {inner : List (List Nat)} (hw : Raw l inner) : Sm 60000 3 (webD l inner) := by
  have h8 := hw.l8
  have h20 := hw.n20
  have h1 : Sm 25220 2 (.tuple (inner.map kidsD)) := sm_tup (n := 20) (w := 1260) (dp := 1) (fun d hd => by
    obtain ⟨ks, hks, rfl⟩ := List.mem_map.mp hd
    exact sm_nats (n := 30) (m := 28) (fun k hk => by have := raw_lt hw hks k hk; omega) (by decide) (hw.len ks hks)) (by rw [List.length_map]; exact h20)
  exact (sm_tup (ds := [natD l, .tuple (inner.map kidsD)]) (n := 2) (w := 25220) (dp := 2) (fun d hd => by
    rcases List.mem_cons.mp hd with rfl | hd
    · exact (sm_nat (by omega)).up (by omega) (by omega)
    · rw [List.mem_singleton.mp hd]
      exact h1) (by simp)).up (by decide) (by decide)
theorem sml_kk {l : Nat} {inner : List (List Nat)} (hw : Raw l inner) : Sml (kkOf l inner) := by
  have h8 := hw.l8
  have h20 := hw.n20
  refine ⟨by rw [kkOf_len]; omega, fun ks hks => ?_⟩
  unfold kkOf at hks
  rcases List.mem_append.mp hks with h | h
  · rw [List.eq_of_mem_replicate h]
    exact Nat.zero_le _
  · have := hw.len ks h
    omega

/-! ### words for the laws -/
section
variable {K : PySem.W.Frag} {σ : L2.St} {H H' : Hp} {ta tb te tx t1 t2 t3 : TE} {D : Ends} {tz tu : TS} {d : PyData} {ds es : List PyData} {p : Addr} {rs : List Addr} {kk : List (List Nat)} {k l : Nat} {ks : List Nat} {inner : List (List Nat)} {v : V}
theorem ed_el (h : EvL te σ H (nVs ks)) : EvD K te σ H (.list (natDs ks)) := fun H1 e Q q => h H1 e _ fun p H2 _ e2 hx => q _ H2 e2 (.lst (sq_of hx) (dpAll_nat ks))
theorem ed_row (h : KdAt H p rs kk) (hk : k < kk.length) (ha : Ev ta σ H (.ref p)) (hb : Ev tb σ H (nV k)) : EvD K (tOp (rIxL K) ta tb) σ H (.list (natDs (rowAt kk k))) := by
  obtain ⟨r, h1, h2⟩ := h.get (rowAt_get hk)
  exact ed_ev (ev_row h h1 ha hb) (.lst (sq_of h2) (dpAll_nat _))
theorem ev_inK (hk : Ev ta σ H (nV k)) (h : EvD K te σ H (kidsD ks)) : Ev (tOp (rIn K false) ta te) σ H (.bl (decide (k ∈ ks))) := fun H1 e Q q => hk H1 e _ fun H2 e2 => h H2 (e.trans e2) _ fun v H3 e3 hv => by
  obtain ⟨a, xs, rfl, hs, hd⟩ := dp_tup hv
  have hd : DpAll K H3 xs (natDs ks) := hd
  rw [nats_of hd] at hs
  refine rv_isT (K := K) (x := nV k) hs rfl (flat_nVs ks) H3 (Ex.refl H3) Q fun H4 e4 => ?_
  rw [inV_nat]
  exact q H4 ((e2.trans e3).trans e4)
/-- web = _law_web(deck, ..) -/
theorem q_lweb {E : XK} {i mo : Nat} {dk L : Addr} {ns : List Int} {N : Int} (h1 : Ev t1 σ H (.ref dk)) (h2 : Ev t2 σ H (nV mo)) (hD : Dk H dk L ns N) (hN : N ≤ 600000000) (m1 : 1 ≤ mo) (m8 : mo ≤ 8)
    (h3 : ∀ H1, Ex H H1 → ∀ Q : VK, (∀ (mx : Nat) H2, mx ≤ 9 → Ex (rem H1 dk) H2 → Dk H2 dk L ns (N + 1) → Q (nV mx) H2) → t3 σ H1 Q)
    (k : ∀ H' v Lv inner, Bs H H' dk L ns (N + 137) → 1 ≤ Lv → Lv ≤ mo → Dp K H' v (webD Lv inner) → Drawn Lv inner → tz D (σ.set i (some v)) H') :
    tSeq (tAsg (tCall (spLWeb K) [] E (tCons t1 (tCons t2 (tCons t3 tNil)))) (gName i)) tz D σ H :=
  h1 H (Ex.refl H) _ fun H1 e1 => h2 H1 e1 _ fun H2 e2 => h3 H2 (e1.trans e2) _ fun mx H3 hm e3 d3 => ⟨dk, L, ns, _, mo, mx, rfl, d3, by omega, m1, m8, by omega, fun H4 v Lv inner b l1 l2 hv hw => by
    have hdk : ∃ o, H dk = some o := by obtain ⟨a, b, n, d, _⟩ := hD; exact ⟨_, d.at_⟩
    have hLs : ∃ o, H L = some o := by obtain ⟨a, b, n, d, _⟩ := hD; exact ⟨_, d.ls⟩
    exact k H4 v Lv inner ⟨rem_trans ((rem_mono (e1.trans e2)).trans e3) b.ex, (b.wk (show _ ≤ N + 137 by omega)).deck, hdk, hLs⟩ l1 l2 hv hw⟩
/-- the last argument is _law_one(deck, [..]) -/
theorem lweb_one {E : XK} {ta' : TA} {dk L : Addr} {ns : List Int} {N : Int} {cs : List Nat} (h1 : Ev t1 σ H (.ref dk)) (hD : Dk H dk L ns N) (hN : N ≤ 600000000) (hc : EvA ta' σ H (nVs cs)) (c0 : cs ≠ []) (c1 : cs.length ≤ 1000) (c9 : ∀ c ∈ cs, c ≤ 9) :
    ∀ H1, Ex H H1 → ∀ Q : VK, (∀ (mx : Nat) H2, mx ≤ 9 → Ex (rem H1 dk) H2 → Dk H2 dk L ns (N + 1) → Q (nV mx) H2) → tCall (spOne K) [] E (tCons t1 (tCons (tLst ta') tNil)) σ H1 Q := fun H1 e1 Q q =>
  h1 H1 e1 _ fun H2 e2 => hc H2 (e1.trans e2) _ fun H3 e3 => ⟨sz_of (by unfold nVs; rw [List.length_map]; omega), fun li hli => by
    have d3 := (hD.ex (e1.trans e2)).ex e3
    have d4 := d3.ex (Ex.new (o := .lst (nVs cs)) hli)
    have hne : li ≠ dk := fun z => by
      obtain ⟨a, b, n, d, _⟩ := d3
      rw [z, d.at_] at hli
      cases hli
    refine ⟨dk, L, ns, N, li, nVs cs, rfl, d4, by omega, upd_same, hne, ?_, by unfold nVs; rw [List.length_map]; omega, fun x H5 hx e5 d5 => ?_⟩
    · unfold nVs
      rw [List.length_map]
      cases cs with
      | nil => exact absurd rfl c0
      | cons _ _ => simp
    · obtain ⟨c, hc', rfl⟩ := List.mem_map.mp hx
      exact q c H5 (c9 c hc') ((rem_mono ((e2.trans e3).trans (Ex.new (o := .lst (nVs cs)) hli))).trans e5) d5⟩
theorem lweb_c {dk L : Addr} {ns : List Int} {N : Int} {mx : Nat} (hD : Dk H dk L ns N) (hm : mx ≤ 9) :
    ∀ H1, Ex H H1 → ∀ Q : VK, (∀ (mx : Nat) H2, mx ≤ 9 → Ex (rem H1 dk) H2 → Dk H2 dk L ns (N + 1) → Q (nV mx) H2) → tC (nV mx) σ H1 Q := fun H1 e1 Q q =>
  q mx H1 hm rem_ex (by
    obtain ⟨a, b, n, d, hn⟩ := hD
    exact ⟨a, b, n, d.ex e1, by omega⟩)
/-- kids, held = _law_lists(web), repr(web) -/
theorem q_lists {E : XK} {w i j : Nat} (h : σ[w]? = some (some v)) (hv : Dp K H v (webD l inner)) (hw : Raw l inner)
    (c : ∀ p rs H1, H p = none → Ex H H1 → KdAt H1 p rs (kkOf l inner) → tz D ((σ.set i (some (.ref p))).set j (some (.str (webD l inner).shown))) H1) :
    tSeq (tAsg (tTup (tCons (tCall (spLists K) [] E (tCons (tVar w) tNil)) (tCons (tCB (rReprA K) (tCons (tVar w) tNil)) tNil))) (gTup K 2 (gCons (gName i) (gCons (gName j) gNil)))) tz D σ H :=
  ⟨v, h, v, l, inner, rfl, hv, hw, fun p rs H1 e1 hp kd => (ev_repr (K := K) (ed_var h (dp_ex e1 _ hv)) ((sm_web hw).ok (by decide) (by decide)) : Ev _ σ H1 _) H1 (Ex.refl H1) _ fun H2 e2 =>
    ⟨by show 2 ≤ sizeLine; decide, fun t ht => ⟨t, _, rfl, st_of upd_same, rfl, _, _, rfl, _, _, rfl, rfl, c p rs _ hp ((e1.trans e2).trans (Ex.new ht)) ((kd.ex e2).ex (Ex.new ht))⟩⟩⟩
/-- xs.extend(a new list of data) -/
theorem q_extD {q : Addr} (hl : LD K H q ds) (ha : Ev ta σ H (.ref q)) (h : EvN K te σ H es) (hz : ds.length + es.length ≤ 100000) (hn : nlAll ds = true) (hd : nlAll es = true)
    (k : ∀ H1, (∀ B : Hp, Ex B H → B q = none → Ex B H1) → LD K H1 q (ds ++ es) → tz D σ H1) :
    tSeq (tDrop (tBM K "list" rExtend ta (tCons te tNil))) tz D σ H := ha H (Ex.refl H) _ fun H1 e1 => by
  obtain ⟨xs, h1, h2⟩ := hl
  refine ⟨.inl ⟨rfl, xs, sq_of (e1 q _ h1)⟩, h H1 e1 _ fun b ys H2 hb e2 hb2 hy => ?_⟩
  have h3 := e2 q _ (e1 q _ h1)
  refine ⟨q, b, xs, ys, rfl, rfl, h3, hb2, sz_of (by rw [dpAll_len h2, dpAll_len hy]; exact hz), k _ (fun B eb hb => Ex.mut ((eb.trans e1).trans e2) hb) ⟨_, upd_same, ?_⟩⟩
  exact dpAll_app (dpAll_updL h3 _ hn (dpAll_ex (e1.trans e2) _ h2)) (dpAll_updL h3 _ hd hy)
/-- due[1:3] -/
theorem en_sl13 {d0 d1 d2 : PyData} (h : EvD K te σ H (.list (d0 :: d1 :: d2 :: ds))) : EvN K (tSl (rSlL K) te (tPart (tC (.int 1))) (tPart (tC (.int 3)))) σ H [d1, d2] := fun H1 e Q q =>
  h H1 e _ fun v H2 e2 hv => by
    obtain ⟨a, xs, rfl, hs, hd⟩ := dp_lst hv
    obtain ⟨x0, x1, x2, xr, rfl, a1, a2⟩ : ∃ x0 x1 x2 xr, xs = x0 :: x1 :: x2 :: xr ∧ Dp K H2 x1 d1 ∧ Dp K H2 x2 d2 := by
      cases hd with
      | cons a0 hd =>
        cases hd with
        | cons a1 hd =>
          cases hd with
          | cons a2 hd => exact ⟨_, _, _, _, rfl, a1, a2⟩
    refine ⟨1, rfl, 3, rfl, a, _, rfl, hs, fun c nc => ?_⟩
    have hc : cutV (x0 :: x1 :: x2 :: xr) (some 1) (some 3) = [x1, x2] := by
      unfold cutV
      rw [show HT.sIx (x0 :: x1 :: x2 :: xr).length 0 (some 1) = min 1 (x0 :: x1 :: x2 :: xr).length from HT.sIx_nat _ _ 1, show HT.sIx (x0 :: x1 :: x2 :: xr).length (x0 :: x1 :: x2 :: xr).length (some 3) = min 3 (x0 :: x1 :: x2 :: xr).length from HT.sIx_nat _ _ 3]
      rw [Nat.min_eq_left (by simp), Nat.min_eq_left (by simp)]
      rfl
    rw [hc]
    exact q c _ _ (fresh_back e2 nc) (e2.trans (Ex.new nc)) upd_same (.cons (dp_ex (Ex.new nc) _ a1) (.cons (dp_ex (Ex.new nc) _ a2) .nil))
end
theorem eqvT_nil : ∀ ks : List Nat, PyData.eqv (.tuple (natDs ks)) (.tuple []) = ks.isEmpty
  | [] => by simp [natDs, PyData.eqv, PyData.eqvAll]
  | _ :: _ => by simp [natDs, PyData.eqv, PyData.eqvAll]
theorem shapedT_nats (ks : List Nat) : SeqAt.shaped (.tuple (natDs ks)) = true := by
  have e : natDs ks = (ks.map fun (k : Nat) => (k : Int)).map PyData.int := by
    unfold natDs
    rw [List.map_map]
    rfl
  rw [e]
  have q := lay_ints (ks.map fun (k : Nat) => (k : Int))
  show (PyData.canLay0 _ && decide (PyData.depth _ ≤ 64)) = true
  simp only [PyData.canLay0, PyData.depth, q.1, q.2]
  decide
/-- a tuple of kinds == () -/
theorem ev_eqNilT {K : PySem.W.Frag} {σ : L2.St} {H : Hp} {ta : TE} {ks : List Nat} (h : EvD K ta σ H (kidsD ks)) : Ev (tOp (rEqD K) ta (tTup tNil)) σ H (.bl ks.isEmpty) := fun H1 e Q q =>
  h H1 e _ fun v H2 e2 hv => ⟨by show 0 ≤ sizeLine; decide, fun p hp => ⟨.tuple (natDs ks), .tuple [], dp_ex (Ex.new hp) (kidsD ks) hv, .tup (st_of upd_same) .nil, shapedT_nats ks, shapedT_nats [], by
    rw [eqvT_nil]
    exact q _ (e2.trans (Ex.new hp))⟩⟩
end WR
set_option Elab.async false
set_option linter.all false
set_option maxRecDepth 100000
set_option maxHeartbeats 1000000
namespace WR
open PySem PySem.Spec PyProof.Rows L2 Evl
/-! ### beneath -/
noncomputable def rchB (kk : List (List Nat)) (k x : Nat) : Bool := @decide (Rch kk k x) (Classical.propDecidable _)
theorem rchB_iff {kk : List (List Nat)} {k x : Nat} : rchB kk k x = true ↔ Rch kk k x := by
  unfold rchB
  exact @decide_eq_true_iff _ (Classical.propDecidable _)
theorem rch_le {kk : List (List Nat)} (hd : ∀ u c, c ∈ rowAt kk u → c < u) {k x : Nat} (h : Rch kk k x) : x ≤ k :=
  h (fun y => y ≤ k) (Nat.le_refl k) fun u c hu hc => by have := hd u c hc; omega
noncomputable def benL (l : Nat) (inner : List (List Nat)) (k : Nat) : List Nat := (List.range k).filter (rchB (kkOf l inner) k)
/-- the marks, kinds from j on are done -/
structure Mk (kk : List (List Nat)) (k j : Nat) (bs : List Bool) : Prop where
  len : bs.length = k + 1
  top : bs[k]? = some true
  snd : ∀ x, bs[x]? = some true → Rch kk k x
  shut : ∀ w, j ≤ w → w ≤ k → bs[w]? = some true → ∀ c ∈ rowAt kk w, bs[c]? = some true
def markAll (bs : List Bool) (ks : List Nat) : List Bool := ks.foldl (fun b c => b.set c true) bs
theorem markAll_len : ∀ (ks : List Nat) (bs : List Bool), (markAll bs ks).length = bs.length
  | [], _ => rfl
  | c :: r, bs => by
    show (markAll (bs.set c true) r).length = _
    rw [markAll_len r, List.length_set]
theorem markAll_at {x : Nat} : ∀ {ks : List Nat} {bs : List Bool}, (markAll bs ks)[x]? = if x ∈ ks ∧ x < bs.length then some true else bs[x]?
  | [], bs => by
    rw [if_neg (fun z => by cases z.1)]
    rfl
  | c :: r, bs => by
    show (markAll (bs.set c true) r)[x]? = _
    rw [markAll_at, List.length_set]
    by_cases h : x ∈ r ∧ x < bs.length
    · rw [if_pos h, if_pos ⟨List.mem_cons_of_mem _ h.1, h.2⟩]
    · rw [if_neg h, List.getElem?_set]
      by_cases e : c = x
      · subst e
        rw [if_pos rfl]
        by_cases z : c < bs.length
        · rw [if_pos z, if_pos ⟨List.mem_cons_self .., z⟩]
        · rw [if_neg z, if_neg fun y => z y.2]
          exact (List.getElem?_eq_none (by omega)).symm
      · rw [if_neg e, if_neg]
        rintro ⟨y, z⟩
        rcases List.mem_cons.mp y with y | y
        · exact e y.symm
        · exact h ⟨y, z⟩
theorem markAll_take {ks : List Nat} {bs : List Bool} {j c : Nat} (h : ks[j]? = some c) : markAll bs (ks.take (j + 1)) = (markAll bs (ks.take j)).set c true := by
  unfold markAll
  rw [List.take_add_one, h, List.foldl_append]
  rfl
theorem Mk.skip {kk : List (List Nat)} {k j : Nat} {bs : List Bool} (m : Mk kk k (j + 1) bs) (h : bs[j]? ≠ some true) : Mk kk k j bs :=
  ⟨m.len, m.top, m.snd, fun w h1 h2 h3 => by
    by_cases e : w = j
    · subst e
      exact absurd h3 h
    · exact m.shut w (by omega) h2 h3⟩
theorem Mk.step {kk : List (List Nat)} {k j : Nat} {bs : List Bool} (m : Mk kk k (j + 1) bs) (hj : j ≤ k) (hlt : ∀ c ∈ rowAt kk j, c < j) (hb : bs[j]? = some true) : Mk kk k j (markAll bs (rowAt kk j)) := by
  have keep : ∀ x, bs[x]? = some true → (markAll bs (rowAt kk j))[x]? = some true := fun x hx => by
    rw [markAll_at]
    split
    · rfl
    · exact hx
  refine ⟨by rw [markAll_len]; exact m.len, keep k m.top, fun x hx => ?_, fun w h1 h2 h3 c hc => ?_⟩
  · rw [markAll_at] at hx
    by_cases z : x ∈ rowAt kk j ∧ x < bs.length
    · exact rch_shut j x (m.snd j hb) z.1
    · rw [if_neg z] at hx
      exact m.snd x hx
  · by_cases e : w = j
    · subst e
      rw [markAll_at, if_pos ⟨hc, by have := hlt c hc; have := m.len; omega⟩]
    · have hw : bs[w]? = some true := by
        rw [markAll_at] at h3
        by_cases z : w ∈ rowAt kk j ∧ w < bs.length
        · have := hlt w z.1
          omega
        · rw [if_neg z] at h3
          exact h3
      exact keep c (m.shut w (by omega) h2 hw c hc)
theorem Mk.iff {kk : List (List Nat)} {k : Nat} {bs : List Bool} (m : Mk kk k 0 bs) (x : Nat) : bs[x]? = some true ↔ Rch kk k x := by
  refine ⟨m.snd x, fun h => h (fun x => bs[x]? = some true) m.top fun u c hu hc => m.shut u (Nat.zero_le _) ?_ hu c hc⟩
  have := (List.getElem?_eq_some_iff.mp hu).1
  have := m.len
  omega
theorem mk_start {kk : List (List Nat)} {k : Nat} : Mk kk k (k + 1) ((List.range (k + 1)).map fun i => decide (i = k)) := by
  have hat : ∀ x, ((List.range (k + 1)).map fun i => decide (i = k))[x]? = some true → x = k := fun x h => by
    rw [List.getElem?_map] at h
    obtain ⟨i, hi, e⟩ := Option.map_eq_some_iff.mp h
    have := (List.getElem?_eq_some_iff.mp hi).2
    rw [List.getElem_range] at this
    have e := of_decide_eq_true e
    omega
  refine ⟨by rw [List.length_map, List.length_range], ?_, fun x h => ?_, fun w h1 h2 _ => by omega⟩
  · rw [List.getElem?_map, List.getElem?_range (Nat.lt_succ_self k)]
    show some (decide (k = k)) = _
    rw [decide_eq_true rfl]
  · rw [hat x h]
    exact rch_self
/-- the three of a web, a kind and a kind -/
def spWKK (K : PySem.W.Frag) (g : Nat → List (List Nat) → Nat → Nat → PyData) : Sp := fun vs H Q _ =>
  ∃ v l inner k t, vs = [v, .int ((k : Nat) : Int), .int ((t : Nat) : Int)] ∧ Dp K H v (webD l inner) ∧ Raw l inner ∧ k < l + inner.length ∧ t < l + inner.length ∧ ∀ r H', Ex H H' → Dp K H' r (g l inner k t) → Q r H'
theorem spWKK_len {K : PySem.W.Frag} {g : Nat → List (List Nat) → Nat → Nat → PyData} {vs : List V} {H : Hp} {Q : VK} {E : XK} (h : spWKK K g vs H Q E) : vs.length = 3 := by
  obtain ⟨v, l, inner, k, t, rfl, _⟩ := h
  rfl
theorem ed_callWKK {K : PySem.W.Frag} {σ : L2.St} {H : Hp} {te tx ty : TE} {l k t : Nat} {inner : List (List Nat)} {g : Nat → List (List Nat) → Nat → Nat → PyData} {E : XK} (h : EvD K te σ H (webD l inner)) (hk : EvD K tx σ H (natD k)) (ht : EvD K ty σ H (natD t)) (hw : Raw l inner) (hlt : k < l + inner.length) (htt : t < l + inner.length) :
    EvD K (tCall (spWKK K g) [] E (tCons te (tCons tx (tCons ty tNil)))) σ H (g l inner k t) := fun H1 e Q q =>
  h H1 e _ fun v H2 e2 hv => hk H2 (e.trans e2) _ fun w H3 e3 hw' => ht H3 ((e.trans e2).trans e3) _ fun x H4 e4 hx => by
    cases dp_int hw'
    cases dp_int hx
    exact ⟨v, l, inner, k, t, rfl, dp_ex (e3.trans e4) _ hv, hw, hlt, htt, fun r H5 e5 hr => q r H5 (((e2.trans e3).trans e4).trans e5) hr⟩
/-- for i in range(n - 1, -1, -1) -/
theorem q_forR3 {σ : L2.St} {H : Hp} {D : Ends} {tu tz : TS} {ta : TA} {j : Nat} {lo : Int} {n : Nat} (h : EvA ta σ H [.int lo, .int (-1), .int (-1)]) (hn : lo + 1 = (n : Int)) (h1 : n ≤ 100000) (Pv : Nat → L2.St → Hp → Prop) (h0 : ∀ H1, Ex H H1 → Pv 0 σ H1)
    (hs : ∀ (i : Nat) σ' H', i < n → Pv i σ' H' → tu { D with nx := Pv (i + 1), ct := Pv (i + 1), bk := tz D } (σ'.set j (some (.int (lo + (i : Nat) * (-1))))) H') (hd : ∀ σ' H', Pv n σ' H' → tz D σ' H') : tSeq (tFor (iRng3 ta) (gName j) tu) tz D σ H :=
  h H (Ex.refl H) _ fun H1 e => ⟨lo, -1, -1, n, rfl, by
    have q := RgC.neg (i := lo) (j := -1) (by omega) (by omega) (by omega) (by omega)
    rw [show (lo - -1).toNat = n by omega] at q
    exact q, for_rangeC (D := { D with nx := tz D }) Pv (h0 H1 e) (fun i σ' H' hi p => hs i σ' H' hi p) hd⟩
end WR
set_option Elab.async false
set_option linter.all false
set_option maxRecDepth 100000
set_option maxHeartbeats 1000000
namespace WR
open PySem PySem.Spec PyProof.Rows L2 Evl

/-! ### how many ways: the mathematics -/
def wayL (kf : Nat → List Nat) (to : Nat) : Nat → List Int
  | 0 => []
  | n + 1 => wayL kf to n ++ [((kf n).map fun c => (wayL kf to n).getD c 0).sum + (if n = to then 1 else 0)]
def way (kf : Nat → List Nat) (to k : Nat) : Int := (wayL kf to (k + 1)).getD k 0
theorem wayL_len {kf : Nat → List Nat} {to : Nat} : ∀ n, (wayL kf to n).length = n
  | 0 => rfl
  | n + 1 => by
    show (wayL kf to n ++ [_]).length = _
    rw [List.length_append, wayL_len n]
    rfl
theorem wayL_at {kf : Nat → List Nat} {to k : Nat} : ∀ {n : Nat}, k < n → (wayL kf to n).getD k 0 = way kf to k
  | n + 1, h => by
    by_cases e : k = n
    · subst e
      rfl
    · show (wayL kf to n ++ [_]).getD k 0 = _
      rw [List.getD_eq_getElem?_getD, List.getElem?_append_left (by rw [wayL_len]; omega), ← List.getD_eq_getElem?_getD]
      exact wayL_at (by omega)
theorem wayL_eq {kf : Nat → List Nat} {to : Nat} (n : Nat) : wayL kf to n = (List.range n).map (way kf to) := by
  refine List.ext_getElem? fun k => ?_
  by_cases h : k < n
  · rw [List.getElem?_map, List.getElem?_range h]
    have := wayL_at (kf := kf) (to := to) h
    rw [List.getD_eq_getElem?_getD, List.getElem?_eq_getElem (by rw [wayL_len]; exact h)] at this
    rw [List.getElem?_eq_getElem (by rw [wayL_len]; exact h)]
    exact congrArg some this
  · rw [List.getElem?_eq_none (by rw [wayL_len]; omega), List.getElem?_eq_none (by rw [List.length_map, List.length_range]; omega)]
theorem way_rec {kf : Nat → List Nat} {to k : Nat} (h : ∀ c ∈ kf k, c < k) : way kf to k = ((kf k).map (way kf to)).sum + (if k = to then 1 else 0) := by
  unfold way
  show (wayL kf to k ++ [_]).getD k 0 = _
  rw [List.getD_eq_getElem?_getD, List.getElem?_append_right (by rw [wayL_len]; exact Nat.le_refl _), wayL_len, Nat.sub_self]
  show ((kf k).map fun c => (wayL kf to k).getD c 0).sum + _ = _
  congr 2
  exact List.map_congr_left fun c hc => wayL_at (h c hc)
theorem sum_nn : ∀ {ns : List Int}, (∀ n ∈ ns, 0 ≤ n) → 0 ≤ ns.sum
  | [], _ => Int.le_refl 0
  | n :: r, h => by
    rw [List.sum_cons]
    have := h n (List.mem_cons_self ..)
    have := sum_nn (ns := r) fun m hm => h m (List.mem_cons_of_mem _ hm)
    omega
theorem sum_ge : ∀ {ns : List Int} {n : Int}, (∀ n ∈ ns, 0 ≤ n) → n ∈ ns → n ≤ ns.sum
  | m :: r, n, h, hn => by
    rw [List.sum_cons]
    have := h m (List.mem_cons_self ..)
    have := sum_nn (ns := r) fun m hm => h m (List.mem_cons_of_mem _ hm)
    rcases List.mem_cons.mp hn with rfl | hn
    · omega
    · have := sum_ge (ns := r) (fun m hm => h m (List.mem_cons_of_mem _ hm)) hn
      omega
theorem sum_pos : ∀ {ns : List Int}, 0 < ns.sum → ∃ n ∈ ns, 0 < n
  | [], h => absurd h (by simp)
  | n :: r, h => by
    rw [List.sum_cons] at h
    by_cases z : 0 < n
    · exact ⟨n, List.mem_cons_self .., z⟩
    · obtain ⟨m, a, b⟩ := sum_pos (ns := r) (by omega)
      exact ⟨m, List.mem_cons_of_mem _ a, b⟩
theorem sum_le_mul : ∀ {ns : List Int} {B : Int}, (∀ n ∈ ns, n ≤ B) → ns.sum ≤ ns.length * B
  | [], B, _ => by simp
  | n :: r, B, h => by
    rw [List.sum_cons, List.length_cons]
    have := h n (List.mem_cons_self ..)
    have := sum_le_mul (ns := r) fun m hm => h m (List.mem_cons_of_mem _ hm)
    rw [Int.natCast_add, Int.add_mul]
    omega
section
variable {kf : Nat → List Nat} {to : Nat} (hd : ∀ u c, c ∈ kf u → c < u)
include hd
theorem way_nn : ∀ k, 0 ≤ way kf to k := fun k => by
  induction k using Nat.strongRecOn with
  | ind k ih =>
    rw [way_rec (hd k)]
    have : 0 ≤ ((kf k).map (way kf to)).sum := sum_nn fun n hn => by
      obtain ⟨c, hc, rfl⟩ := List.mem_map.mp hn
      exact ih c (hd k c hc)
    split <;> omega
theorem way_self : 1 ≤ way kf to to := by
  rw [way_rec (hd to), if_pos rfl]
  have : 0 ≤ ((kf to).map (way kf to)).sum := sum_nn fun n hn => by
    obtain ⟨c, hc, rfl⟩ := List.mem_map.mp hn
    exact way_nn hd c
  omega
theorem way_ge {u c : Nat} (h : c ∈ kf u) : way kf to c ≤ way kf to u := by
  rw [way_rec (hd u)]
  have := sum_ge (ns := (kf u).map (way kf to)) (fun n hn => by
    obtain ⟨c, hc, rfl⟩ := List.mem_map.mp hn
    exact way_nn hd c) (List.mem_map_of_mem h)
  split <;> omega
theorem way_le {B : Nat} (hB : ∀ u, (kf u).length ≤ B) : ∀ k, way kf to k ≤ ((B + 1) ^ k : Nat) := fun k => by
  induction k using Nat.strongRecOn with
  | ind k ih =>
    rw [way_rec (hd k)]
    cases k with
    | zero =>
      have : kf 0 = [] := List.eq_nil_iff_forall_not_mem.mpr fun c hc => by have := hd 0 c hc; omega
      rw [this]
      show (0 : Int) + _ ≤ ((1 : Nat) : Int)
      split <;> omega
    | succ m =>
      have hs : ((kf (m + 1)).map (way kf to)).sum ≤ ((kf (m + 1)).map (way kf to)).length * (((B + 1) ^ m : Nat) : Int) := sum_le_mul fun n hn => by
        obtain ⟨c, hc, rfl⟩ := List.mem_map.mp hn
        have h1 := ih c (hd _ c hc)
        have h2 : (B + 1) ^ c ≤ (B + 1) ^ m := Nat.pow_le_pow_right (by omega) (by have := hd _ c hc; omega)
        omega
      rw [List.length_map] at hs
      have h3 : (kf (m + 1)).length * (B + 1) ^ m ≤ B * (B + 1) ^ m := Nat.mul_le_mul_right _ (hB _)
      have h4 : (B + 1) ^ (m + 1) = B * (B + 1) ^ m + (B + 1) ^ m := by rw [Nat.pow_succ, Nat.mul_comm, Nat.add_mul, Nat.one_mul]
      have h5 : 1 ≤ (B + 1) ^ m := Nat.pos_of_ne_zero (by have := Nat.pow_pos (n := m) (show 0 < B + 1 by omega); omega)
      have h6 : (((kf (m + 1)).length : Int)) * (((B + 1) ^ m : Nat) : Int) = (((kf (m + 1)).length * (B + 1) ^ m : Nat) : Int) := (Int.natCast_mul ..).symm
      rw [h6] at hs
      split <;> omega
end
theorem way_rch {kk : List (List Nat)} (hd : ∀ u c, c ∈ rowAt kk u → c < u) {to : Nat} (k : Nat) : 0 < way (rowAt kk) to k ↔ Rch kk k to := by
  constructor
  · induction k using Nat.strongRecOn with
    | ind k ih =>
      intro h
      by_cases e : k = to
      · subst e
        exact rch_self
      · rw [way_rec (hd k), if_neg e, Int.add_zero] at h
        obtain ⟨n, hn, hp⟩ := sum_pos h
        obtain ⟨c, hc, rfl⟩ := List.mem_map.mp hn
        have := ih c (hd k c hc) hp
        intro T hT hS
        exact this T (hS k c hT hc) hS
  · intro h
    by_cases z : 0 < way (rowAt kk) to k
    · exact z
    · have hk : way (rowAt kk) to k = 0 := by have := way_nn (to := to) hd k; omega
      have := h (fun y => way (rowAt kk) to y = 0) hk fun u c hu hc => by
        have h1 := way_ge (to := to) hd hc
        have h2 := way_nn (to := to) hd c
        have hu : way (rowAt kk) to u = 0 := hu
        show way (rowAt kk) to c = 0
        omega
      have h3 := way_self (to := to) hd
      have h4 : way (rowAt kk) to to = 0 := this
      omega
theorem way_small {l : Nat} {inner : List (List Nat)} (hw : Raw l inner) {to k : Nat} (hk : k < l + inner.length) : Sm 150 0 (.int (way (kidsAt l inner) to k)) := by
  have h8 := hw.l8
  have h20 := hw.n20
  have hd : ∀ u c, c ∈ kidsAt l inner u → c < u := fun u c h => (kidsAt_lt hw h).2
  have h1 := way_nn (to := to) hd k
  have h2 := way_le (to := to) hd (B := 30) (fun u => kl30 hw) k
  have h3 : (30 + 1) ^ k ≤ (30 + 1) ^ 28 := Nat.pow_le_pow_right (by decide) (by omega)
  have h4 : (30 + 1) ^ 28 < 10 ^ 45 := by decide
  refine sm_big ?_
  generalize (30 + 1) ^ k = a at h2 h3
  generalize (30 + 1) ^ 28 = b at h3 h4
  generalize 10 ^ 45 = c at h4 ⊢
  omega
theorem rowAt_kkE {l : Nat} {inner : List (List Nat)} : rowAt (kkOf l inner) = kidsAt l inner := funext fun u => rowAt_kk
section
variable {K : PySem.W.Frag} {σ : L2.St} {H H' : Hp} {te : TE} {D : Ends} {tz : TS} {l : Nat} {inner : List (List Nat)} {v : V}
/-- kids = _law_lists(web) -/
theorem q_lists1 {E : XK} {i : Nat} (h : Ev te σ H v) (hv : Dp K H v (webD l inner)) (hw : Raw l inner)
    (c : ∀ p rs H1, H p = none → Ex H H1 → KdAt H1 p rs (kkOf l inner) → tz D (σ.set i (some (.ref p))) H1) :
    tSeq (tAsg (tCall (spLists K) [] E (tCons te tNil)) (gName i)) tz D σ H :=
  h H (Ex.refl H) _ fun H1 e1 => ⟨v, l, inner, rfl, dp_ex e1 _ hv, hw, fun p rs H2 e2 hp kd => c p rs H2 (fresh_back e1 hp) (e1.trans e2) kd⟩
theorem q_lists2 {E : XK} {w i j : Nat} (h : σ[w]? = some (some v)) (hv : Dp K H v (webD l inner)) (hw : Raw l inner)
    (c : ∀ p rs H1, H p = none → Ex H H1 → KdAt H1 p rs (kkOf l inner) → tz D ((σ.set i (some (.ref p))).set j (some (.str (webD l inner).shown))) H1) :
    tSeq (tPar i j (tCons (tCall (spLists K) [] E (tCons (tVar w) tNil)) (tCons (tCB (rReprA K) (tCons (tVar w) tNil)) tNil))) tz D σ H :=
  ⟨v, h, v, l, inner, rfl, hv, hw, fun p rs H1 e1 hp kd => (ev_repr (K := K) (ed_var h (dp_ex e1 _ hv)) ((sm_web hw).ok (by decide) (by decide)) : Ev _ σ H1 _) H1 (Ex.refl H1) _ fun H2 e2 =>
    ⟨_, _, rfl, c p rs H2 hp (e1.trans e2) (kd.ex e2)⟩⟩
end
end WR
set_option Elab.async false
set_option linter.all false
set_option maxRecDepth 100000
set_option maxHeartbeats 1000000
namespace WR
open PySem PySem.Spec PyProof.Rows L2 Evl

/-! ### comprehensions over numbers, tuples of numbers compared, zip -/
section
variable {K : PySem.W.Frag} {σ : L2.St} {H : Hp} {ta tb te : TE} {t : TT} {wi : TI} {j : Nat} {vs : List Nat}
theorem et_yes : EvT tYes σ H true := fun H1 _ _ q => q H1 (Ex.refl H1)
theorem fm_fil {ks : List Nat} {b : Nat → Bool} {g : Nat → PyData} {f : PyData → Option PyData} (h : ∀ k ∈ ks, f (natD k) = if b k = true then some (g k) else none) : (natDs ks).filterMap f = (ks.filter b).map g := by
  induction ks with
  | nil => rfl
  | cons k r ih =>
    show ((natD k) :: natDs r).filterMap f = _
    rw [List.filterMap_cons, h k (List.mem_cons_self ..), List.filter_cons]
    have := ih fun x hx => h x (List.mem_cons_of_mem _ hx)
    cases e : b k with
    | true => simp [this]
    | false => simp [this]
theorem en_natFil {ks : List Nat} (b : Nat → Bool) (g : Nat → PyData) (h : Src K wi σ H (natDs ks)) (hl : ks.length ≤ 40000) (hw : ∀ x, wipe ((wipe σ vs).set j (some x)) vs = wipe σ vs)
    (ht : ∀ k H1, Ex H H1 → k ∈ ks → EvT t ((wipe σ vs).set j (some (nV k))) H1 (b k))
    (hv : ∀ k H1, Ex H H1 → k ∈ ks → b k = true → EvD K te ((wipe σ vs).set j (some (nV k))) H1 (g k))
    (hg : ∀ k ∈ ks, b k = true → nl (g k) = true) : EvN K (tLc wi (gName j) t te vs) σ H ((ks.filter b).map g) := by
  let f : PyData → Option PyData := fun d => match d with | .int i => if b i.toNat = true then some (g i.toNat) else none | _ => none
  have hf : ∀ k : Nat, f (natD k) = if b k = true then some (g k) else none := fun k => by
    show (if b ((k : Int)).toNat = true then some (g ((k : Int)).toNat) else none) = _
    rw [Int.toNat_natCast]
  have q := en_lc (K := K) (t := t) (te := te) (j := j) (vs := vs) f h (by unfold natDs; rw [List.length_map]; exact hl) hw (fun d v H1 e hd hv => by
      obtain ⟨i, hi, rfl⟩ := List.mem_map.mp hd
      rw [hf]
      cases dp_int hv
      refine et_is (ht i H1 e hi) ?_
      cases b i with
      | true => rfl
      | false => rfl) (fun d r v H1 e hd hv2 hr => by
      obtain ⟨i, hi, rfl⟩ := List.mem_map.mp hd
      rw [hf] at hr
      split at hr
      · rename_i hb
        cases hr
        cases dp_int hv2
        exact hv i H1 e hi hb
      · cases hr) fun d r hd hr => by
      obtain ⟨i, hi, rfl⟩ := List.mem_map.mp hd
      rw [hf] at hr
      split at hr
      · rename_i hb
        cases hr
        exact hg i hi hb
      · cases hr
  rw [fm_fil (b := b) (g := g) fun k _ => hf k] at q
  exact q
theorem en_natMap {ks : List Nat} (g : Nat → PyData) (h : Src K wi σ H (natDs ks)) (hl : ks.length ≤ 40000) (hw : ∀ x, wipe ((wipe σ vs).set j (some x)) vs = wipe σ vs)
    (hv : ∀ k H1, Ex H H1 → k ∈ ks → EvD K te ((wipe σ vs).set j (some (nV k))) H1 (g k))
    (hg : ∀ k ∈ ks, nl (g k) = true) : EvN K (tLc wi (gName j) tYes te vs) σ H (ks.map g) := by
  have q := en_natFil (K := K) (t := tYes) (te := te) (fun _ => true) g h hl hw (fun _ _ _ _ => et_yes) (fun k H1 e hk _ => hv k H1 e hk) (fun k hk _ => hg k hk)
  rw [List.filter_eq_self.mpr fun _ _ => rfl] at q
  exact q
theorem rng_nats {n : Nat} : rngD 0 n = natDs (List.range n) := by
  unfold rngD natDs
  refine List.map_congr_left fun k _ => ?_
  show PyData.int ((0 : Int) + (k : Int)) = .int (k : Int)
  rw [Int.zero_add]
theorem rng_natsLo {lo n : Nat} : rngD (lo : Int) n = natDs ((List.range n).map fun k => lo + k) := by
  unfold rngD natDs
  rw [List.map_map]
  refine List.map_congr_left fun k _ => ?_
  show PyData.int ((lo : Int) + (k : Int)) = .int ((lo + k : Nat) : Int)
  rw [Int.natCast_add]
/-- range(n) -/
theorem src_rng {ta : TA} {n : Nat} (h : EvA ta σ H [.int (n : Int)]) (h1 : n ≤ 40000) : Src K (iRng1 ta) σ H (natDs (List.range n)) := by
  have q := srcS_R1 (K := K) (σ := σ) (H := H) (n := (n : Int)) h (by omega)
  rw [Int.toNat_natCast, rng_nats] at q
  exact q.src
theorem srcS_rng {ta : TA} {n : Nat} (h : EvA ta σ H [.int (n : Int)]) (h1 : n ≤ 40000) : SrcS K (iRng1 ta) σ H (rngD 0 n) := by
  have q := srcS_R1 (K := K) (σ := σ) (H := H) (n := (n : Int)) h (by omega)
  rw [Int.toNat_natCast] at q
  exact q
theorem natDs_mem {d : PyData} {ks : List Nat} (h : d ∈ natDs ks) : ∃ k ∈ ks, d = natD k := by
  obtain ⟨k, hk, rfl⟩ := List.mem_map.mp h
  exact ⟨k, hk, rfl⟩
theorem natDs_at {i : Nat} {d : PyData} {ks : List Nat} (h : (natDs ks)[i]? = some d) : ∃ k, ks[i]? = some k ∧ d = natD k := by
  unfold natDs at h
  rw [List.getElem?_map] at h
  obtain ⟨k, hk, rfl⟩ := Option.map_eq_some_iff.mp h
  exact ⟨k, hk, rfl⟩
/-! tuples of integers compared -/
theorem eqvAll_ints : ∀ a b : List Int, PyData.eqvAll (a.map PyData.int) (b.map PyData.int) = decide (a = b)
  | [], [] => by simp [PyData.eqvAll]
  | [], _ :: _ => by simp [PyData.eqvAll]
  | _ :: _, [] => by simp [PyData.eqvAll]
  | x :: a, y :: b => by
    have := eqvAll_ints a b
    simp only [List.map_cons, PyData.eqvAll, PyData.eqv, this, List.cons.injEq]
    by_cases h1 : x = y <;> by_cases h2 : a = b <;> simp [h1, h2]
theorem eqv_tupI (a b : List Int) : PyData.eqv (tupI a) (tupI b) = decide (a = b) := by
  show PyData.eqv (.tuple _) (.tuple _) = _
  simp only [PyData.eqv]
  exact eqvAll_ints a b
theorem shaped_tupI (a : List Int) : SeqAt.shaped (tupI a) = true := by
  have q := lay_ints a
  show (PyData.canLay0 _ && decide (PyData.depth _ ≤ 64)) = true
  unfold tupI
  simp only [PyData.canLay0, PyData.depth, q.1, q.2]
  decide
theorem kidsD_tupI (ks : List Nat) : kidsD ks = tupI (ks.map fun (k : Nat) => (k : Int)) := by
  unfold tupI
  rw [List.map_map]
  rfl
theorem ev_eqTI {a b : List Int} (h1 : EvD K ta σ H (tupI a)) (h2 : EvD K tb σ H (tupI b)) : Ev (tOp (rEqD K) ta tb) σ H (.bl (decide (a = b))) := fun H1 e Q q =>
  h1 H1 e _ fun v H2 e2 hv => h2 H2 (e.trans e2) _ fun w H3 e3 hw => ⟨tupI a, tupI b, dp_ex e3 _ hv, hw, shaped_tupI a, shaped_tupI b, by
    rw [eqv_tupI]
    exact q _ (e2.trans e3)⟩
theorem ev_neTI {a b : List Int} (h1 : EvD K ta σ H (tupI a)) (h2 : EvD K tb σ H (tupI b)) : Ev (tOp (rNeD K) ta tb) σ H (.bl (!decide (a = b))) := fun H1 e Q q =>
  h1 H1 e _ fun v H2 e2 hv => h2 H2 (e.trans e2) _ fun w H3 e3 hw => ⟨tupI a, tupI b, dp_ex e3 _ hv, hw, shaped_tupI a, shaped_tupI b, by
    rw [eqv_tupI]
    exact q _ (e2.trans e3)⟩
theorem ints_nats {a b : List Nat} : (a.map fun (k : Nat) => (k : Int)) = (b.map fun (k : Nat) => (k : Int)) ↔ a = b := by
  constructor
  · intro h
    have := congrArg (List.map Int.toNat) h
    simp only [List.map_map] at this
    have e : ∀ l : List Nat, l.map (Int.toNat ∘ fun (k : Nat) => (k : Int)) = l := fun l => by
      conv => rhs; rw [← List.map_id l]
      exact List.map_congr_left fun k _ => Int.toNat_natCast k
    rw [e, e] at this
    exact this
  · exact fun h => by rw [h]
theorem ev_eqK {a b : List Nat} (h1 : EvD K ta σ H (kidsD a)) (h2 : EvD K tb σ H (kidsD b)) : Ev (tOp (rEqD K) ta tb) σ H (.bl (decide (a = b))) := by
  rw [kidsD_tupI] at h1 h2
  refine ev_is (ev_eqTI h1 h2) ?_
  congr 1
  exact decide_eq_decide.mpr ints_nats
theorem ev_neK {a b : List Nat} (h1 : EvD K ta σ H (kidsD a)) (h2 : EvD K tb σ H (kidsD b)) : Ev (tOp (rNeD K) ta tb) σ H (.bl (!decide (a = b))) := by
  rw [kidsD_tupI] at h1 h2
  refine ev_is (ev_neTI h1 h2) ?_
  congr 2
  exact decide_eq_decide.mpr ints_nats
/-! [1 for a, b in zip(x, y) if ..] over tuples of integers -/
theorem walk_zipTh {K : PySem.W.Frag} {a b : Addr} {xs ys : List V} {n : Nat} (hn : n = min xs.length ys.length) : Walk (RZ.ItzT K a b) n (fun H => SqT K H a xs ∧ SqT K H b ys) (YPair (fun i => xs[i]?) (fun i => ys[i]?)) := by
  subst hn
  refine ⟨fun i _ hi q => ?_, fun _ q => ⟨xs, ys, q.1, q.2, by omega⟩, fun i H v H' _ q y => ?_⟩
  · have h1 : i < xs.length := by omega
    have h2 : i < ys.length := by omega
    exact ⟨xs, ys, xs[i], ys[i], q.1, q.2, by simp [h1], by simp [h2]⟩
  · obtain ⟨T, x, z, h1, h2, h3, h4, h5⟩ := y
    exact ⟨T, x, z, h1, h2, h3, h4 xs q.1, h5 ys q.2⟩
def zipOk (b : Int → Int → Bool) (xs ys : List Int) : Bool := (xs.zip ys).all fun p => !b p.1 p.2
theorem zipOk_iff {b : Int → Int → Bool} {xs ys : List Int} : zipOk b xs ys = true ↔ ∀ (i : Nat) (x y : Int), xs[i]? = some x → ys[i]? = some y → b x y = false := by
  unfold zipOk
  rw [List.all_eq_true]
  constructor
  · intro h i x y hx hy
    have := h (x, y) (List.mem_of_getElem? (i := i) (List.getElem?_zip_eq_some.mpr ⟨hx, hy⟩))
    simpa using this
  · intro h p hp
    obtain ⟨i, hi, e⟩ := List.mem_iff_getElem.mp hp
    have e2 : (xs.zip ys)[i]? = some (p.1, p.2) := by rw [List.getElem?_eq_getElem hi, e]
    obtain ⟨h1, h2⟩ := List.getElem?_zip_eq_some.mp e2
    rw [h i _ _ h1 h2]
    rfl
theorem et_zipNone {i j : Nat} {vs : List Nat} {xs ys : List Int} (b : Int → Int → Bool) (h1 : EvD K ta σ H (tupI xs)) (h2 : EvD K tb σ H (tupI ys)) (hn : xs.length ≤ 40000) (hw : ∀ x y, wipe (((wipe σ vs).set i (some x)).set j (some y)) vs = wipe σ vs)
    (ht : ∀ (a c : Int) H1, Ex H H1 → EvT t (((wipe σ vs).set i (some (.int a))).set j (some (.int c))) H1 (b a c)) :
    Ev (tOp (rEqD K) (tLc (RZ.iZipA K (tCons ta (tCons tb tNil))) (gTup K 2 (gCons (gName i) (gCons (gName j) gNil))) t (tC (.int 1)) vs) (tLst tNil)) σ H (.bl (zipOk b xs ys)) := fun H1 e Q q =>
  h1 H1 e _ fun v H2 e2 hv => h2 H2 (e.trans e2) _ fun w H3 e3 hw' => by
    obtain ⟨a, xa, rfl, hsx, hdx⟩ := dp_tup (dp_ex e3 _ hv)
    obtain ⟨c, yb, rfl, hsy, hdy⟩ := dp_tup hw'
    have hdx : DpAll K H3 xa (xs.map PyData.int) := hdx
    have hdy : DpAll K H3 yb (ys.map PyData.int) := hdy
    rw [ints_of hdx] at hsx
    rw [ints_of hdy] at hsy
    refine ⟨a, c, xs.map V.int, ys.map V.int, rfl, .inr ⟨hsx, hsy, fun Dl hD => ?_⟩⟩
    refine lc_it (walk_zipTh (K := K) (a := a) (b := c) (xs := xs.map V.int) (ys := ys.map V.int) rfl) (fun m H' => Ex H3 H' ∧ ∃ k : Nat, H' Dl = some (.lst (List.replicate k (V.int 1))) ∧ k ≤ m ∧ (k = 0 ↔ ∀ i : Nat, i < m → ∀ x y : Int, xs[i]? = some x → ys[i]? = some y → b x y = false)) ⟨Ex.new hD, 0, upd_same, Nat.le_refl 0, by simp⟩ (fun m H' _ p => ⟨ex_t p.1 hsx, ex_t p.1 hsy⟩) (fun m x H' H'' hm p hy => ?_) (fun H' p => ?_)
    · obtain ⟨T, x1, y1, rfl, hT, rfl, hx1, hy1⟩ := hy
      simp only [List.getElem?_map] at hx1 hy1
      obtain ⟨x0, hx0, rfl⟩ := Option.map_eq_some_iff.mp hx1
      obtain ⟨y0, hy0, rfl⟩ := Option.map_eq_some_iff.mp hy1
      have hml := (List.getElem?_eq_some_iff.mp hx0).1
      have en := Ex.new (o := .tup [V.int x0, V.int y0]) hT
      obtain ⟨p1, k, pk, pkm, pki⟩ := p
      refine ⟨T, _, rfl, st_of upd_same, rfl, _, _, rfl, _, _, rfl, rfl, hw _ _, ?_⟩
      refine ht x0 y0 _ (((e.trans e2).trans e3).trans (p1.trans en)) _ (Ex.refl _) _ fun H5 e5 => ?_
      have p5 := p1.trans (en.trans e5)
      have pk5 := (en.trans e5) _ _ pk
      cases hb : b x0 y0 with
      | false =>
        refine ⟨p5, k, pk5, by omega, pki.trans ⟨fun h i hi x y hx hy => ?_, fun h i hi => h i (by omega)⟩⟩
        by_cases z : i = m
        · subst z
          rw [hx0] at hx
          rw [hy0] at hy
          cases hx
          cases hy
          exact hb
        · exact h i (by omega) x y hx hy
      | true =>
        refine ⟨_, pk5, sz_lt (by rw [List.length_replicate]; omega), Ex.mut p5 hD, k + 1, by rw [upd_same, List.replicate_succ'], by omega, ⟨fun z => absurd z (by omega), fun h => ?_⟩⟩
        have := h m (by omega) x0 y0 hx0 hy0
        rw [hb] at this
        cases this
    · obtain ⟨p1, k, pk, pkm, pki⟩ := p
      have er : List.replicate k (V.int 1) = nVs (List.replicate k 1) := by
        unfold nVs
        rw [List.map_replicate]
        rfl
      rw [er] at pk
      refine ⟨by show 0 ≤ sizeLine; decide, fun l hl => ⟨.list (natDs (List.replicate k 1)), .list [], .lst (sq_of (Ex.new hl _ _ pk)) (dpAll_nat _), .lst (sq_of upd_same) .nil, shaped_nats _, shaped_nats [], ?_⟩⟩
      rw [eqv_nats_nil, show (List.replicate k 1).isEmpty = zipOk b xs ys from ?_]
      · exact q _ ((e2.trans e3).trans (p1.trans (Ex.new hl)))
      · rw [Bool.eq_iff_iff, List.isEmpty_iff, zipOk_iff, ← List.length_eq_zero_iff, List.length_replicate, pki]
        constructor
        · intro h i x y hx hy
          refine h i ?_ x y hx hy
          have h1 := (List.getElem?_eq_some_iff.mp hx).1
          have h2 := (List.getElem?_eq_some_iff.mp hy).1
          rw [List.length_map, List.length_map]
          omega
        · exact fun h i _ x y hx hy => h i x y hx hy
theorem nl_webA (l : Nat) (inner : List (List Nat)) : nl (webD l inner) = true := by
  show (true && (nlAll (inner.map kidsD) && true)) = true
  rw [nl_kidsDs]
  rfl
/-- for x in data: .. -/
theorem s_forD {D : Ends} {tu : TS} {ds : List PyData} (h : Src K wi σ H ds) (Pv : Hp → Nat → L2.St → Hp → Prop) (h0 : ∀ H1, Ex H H1 → Pv H1 0 σ H1) (hG : ∀ H2 i σ' H', Pv H2 i σ' H' → Ex H2 H')
    (hs : ∀ H2 i d x σ' H', Ex H H2 → ds[i]? = some d → Dp K H' x d → Pv H2 i σ' H' → tu { D with nx := Pv H2 (i + 1), ct := Pv H2 (i + 1), bk := D.nx } (σ'.set j (some x)) H') (hd : ∀ H2 σ' H', Ex H H2 → Pv H2 ds.length σ' H' → D.nx σ' H') :
    tFor wi (gName j) tu D σ H := h H (Ex.refl H) _ fun J H2 G e2 hg w =>
  for_it w (D := D) (Pv H2) (h0 H2 e2) (fun i σ' H' _ p => hg H' (hG H2 i σ' H' p)) (fun i x σ' Hc H' hi p hy => by
    obtain ⟨rfl, d, h1, h2⟩ := hy
    exact hs H2 i d x σ' H' e2 h1 h2 p) fun σ' H' p => hd H2 σ' H' e2 p
/-! a draw: what stands stays -/
theorem Bs.rfl {dk L : Addr} {ns : List Int} {N : Int} (h : Dk H dk L ns N) : Bs H H dk L ns N := by
  obtain ⟨a, b, n, d, hn⟩ := h
  exact ⟨rem_ex, ⟨a, b, n, d, hn⟩, ⟨_, d.at_⟩, ⟨_, d.ls⟩⟩
theorem Bs.tr {H1 H2 H3 : Hp} {dk L : Addr} {ns : List Int} {N M : Int} (a : Bs H1 H2 dk L ns N) (b : Bs H2 H3 dk L ns M) : Bs H1 H3 dk L ns M := ⟨rem_trans a.ex b.ex, b.deck, a.bdk, a.bL⟩
theorem Bs.at {H1 H2 : Hp} {dk L : Addr} {ns : List Int} {N M : Int} (hD : Dk H1 dk L ns N) (b : Bs H1 H2 dk L ns M) {v : V} {d : PyData} (n : nl d = true) (h : Dp K H1 v d) : Dp K H2 v d := by
  obtain ⟨x, y, z, dd, _⟩ := hD
  exact dp_ex b.ex _ (dp_rem dd.at_ _ n h)
theorem Bs.ld {H1 H2 : Hp} {dk L p : Addr} {ns : List Int} {N M : Int} (hD : Dk H1 dk L ns N) (b : Bs H1 H2 dk L ns M) (hp : p ≠ dk) {ds : List PyData} (n : nlAll ds = true) (h : LD K H1 p ds) : LD K H2 p ds := by
  obtain ⟨xs, h1, h2⟩ := h
  obtain ⟨x, y, z, dd, _⟩ := hD
  exact ⟨xs, b.ex _ _ (by rw [rem_ne hp]; exact h1), dpAll_ex b.ex _ (dpAll_rem dd.at_ _ n h2)⟩
theorem Dk.ne {dk L p : Addr} {ns : List Int} {N : Int} (h : Dk H dk L ns N) (hp : H p = none) : p ≠ dk := fun z => by
  obtain ⟨a, b, n, d, _⟩ := h
  rw [z, d.at_] at hp
  cases hp
/-- draw(deck, m) as a value -/
def EvR (te : TE) (σ : L2.St) (H : Hp) (p L : Addr) (ns : List Int) (N : Int) (m : Nat) : Prop := ∀ H1, Ex H H1 → ∀ Q : VK, (∀ (r : Nat) H2, r < m → Bs H1 H2 p L ns (N + 1) → Q (nV r) H2) → te σ H1 Q
theorem ev_draw {p L : Addr} {ns : List Int} {m : Nat} {N : Int} {E : XK} (h : Ev ta σ H (.ref p)) (hm : Ev tb σ H (nV m)) (hD : Dk H p L ns N) (hN : N ≤ 1000000000) (h1 : 1 ≤ m) (h2 : m ≤ 1000000000) :
    EvR (tCall spDraw [] E (tCons ta (tCons tb tNil))) σ H p L ns N m := fun H0 e0 Q q =>
  h H0 e0 _ fun H1 e1 => hm H1 (e0.trans e1) _ fun H2 e2 => ⟨p, L, ns, m, N, Eq.refl _, hD.ex (e0.trans (e1.trans e2)), hN, by omega, by omega, fun r H3 hr0 hr1 e3 hD3 => by
    obtain ⟨r, rfl⟩ : ∃ k : Nat, r = (k : Int) := ⟨r.toNat, by omega⟩
    have b : Bs H2 H3 p L ns (N + 1) := by
      obtain ⟨a, b, n, d, _⟩ := hD.ex (e0.trans (e1.trans e2))
      exact ⟨e3, hD3, ⟨_, d.at_⟩, ⟨_, d.ls⟩⟩
    have b0 := ((Bs.rfl (hD.ex e0)).more (e1.trans e2)).tr b
    exact q r H3 (by omega) b0⟩
theorem q_drawV {D : Ends} {tz : TS} {i : Nat} {p L : Addr} {ns : List Int} {m : Nat} {N : Int} (h : EvR te σ H p L ns N m)
    (k : ∀ (r : Nat) H1, r < m → Bs H H1 p L ns (N + 1) → tz D (σ.set i (some (nV r))) H1) : tSeq (tAsg te (gName i)) tz D σ H := h H (Ex.refl H) _ k
end
end WR
set_option Elab.async false
set_option linter.all false
set_option maxRecDepth 100000
set_option maxHeartbeats 1000000
namespace WR
open PySem PySem.Spec PyProof.Rows L2 Evl

/-! ### tuples of integers by order -/
theorem lex_self : ∀ a : List Int, HT.lexLt a a = false
  | [] => rfl
  | x :: a => by rw [HT.lexLt_cons, if_pos rfl, lex_self a]
theorem lex_asymm : ∀ {a b : List Int}, HT.lexLt a b = true → HT.lexLt b a = false
  | [], [], h => rfl
  | [], _ :: _, _ => rfl
  | _ :: _, [], h => by cases h
  | x :: a, y :: b, h => by
    rw [HT.lexLt_cons] at h ⊢
    by_cases z : x = y
    · rw [if_pos z] at h
      rw [if_pos z.symm]
      exact lex_asymm h
    · rw [if_neg z] at h
      rw [if_neg (Ne.symm z)]
      have := of_decide_eq_true h
      exact decide_eq_false (by omega)
theorem lex_lt : ∀ a b : List Int, HT.lexLt a b = decide (a < b)
  | [], [] => by simp [HT.lexLt]
  | [], _ :: _ => by simp [HT.lexLt]
  | _ :: _, [] => by simp [HT.lexLt]
  | x :: a, y :: b => by
    rw [HT.lexLt_cons, lex_lt a b]
    by_cases z : x = y
    · subst z
      rw [if_pos rfl]
      simp [List.cons_lt_cons_iff]
    · rw [if_neg z]
      refine decide_eq_decide.mpr ?_
      rw [List.cons_lt_cons_iff]
      exact ⟨fun h => .inl h, fun h => h.elim id fun w => absurd w.1 z⟩
theorem dataLt_tupI (a b : List Int) : PySem.W.dataLt (tupI a) (tupI b) = HT.lexLt a b := by
  rw [lex_lt, ← PySem.W.dataLt_ints]
  exact PySem.W.dataLt_tuple _ _
theorem alikeAll_ints : ∀ a b : List Int, PySem.W.alikeAll (a.map PyData.int) (b.map PyData.int) = true
  | [], _ => by simp [PySem.W.alikeAll]
  | _ :: _, [] => by simp [PySem.W.alikeAll]
  | x :: a, y :: b => by
    have := alikeAll_ints a b
    simp [PySem.W.alikeAll, PySem.W.alike, this]
theorem alike_tupI (a b : List Int) : PySem.W.alike (tupI a) (tupI b) = true := by
  show PySem.W.alike (.tuple _) (.tuple _) = true
  simp only [PySem.W.alike]
  exact alikeAll_ints a b
theorem depth_tupI (a : List Int) : (tupI a).depth ≤ 1 := by
  have q := lay_ints a
  unfold tupI
  simp only [PyData.depth, q.2]
  omega
def rGtD (K : PySem.W.Frag) : R2 := fun x y H Q => ∃ d e, Dp K H x d ∧ Dp K H y e ∧ PySem.W.alike d e = true ∧ d ≠ .none ∧ d.depth ≤ 64 ∧ Q (.bl (PySem.W.dataLt e d)) H
theorem op_gtD {X : Cx} (hu : X.A.units + 64 < cLine) : OpR X (compareOp .Gt) (rGtD X.K) := by
  intro pins s σ H x y v u Q I rx ry h
  obtain ⟨d, e, hd, he, al, dn, dl, q⟩ := h
  obtain ⟨as, r1⟩ := Dp.reads I d x v hd rx
  obtain ⟨bs, r2⟩ := Dp.reads I e y u he ry
  exact PySem.W.gt_data r1 r2 al dn (by omega) ⟨.bl _, H, I, rfl, q⟩
def rLtD (K : PySem.W.Frag) : R2 := fun x y H Q => ∃ d e, Dp K H x d ∧ Dp K H y e ∧ PySem.W.alike d e = true ∧ d ≠ .none ∧ d.depth ≤ 64 ∧ Q (.bl (PySem.W.dataLt d e)) H
theorem op_ltD {X : Cx} (hu : X.A.units + 64 < cLine) : OpR X (compareOp .Lt) (rLtD X.K) := by
  intro pins s σ H x y v u Q I rx ry h
  obtain ⟨d, e, hd, he, al, dn, dl, q⟩ := h
  obtain ⟨as, r1⟩ := Dp.reads I d x v hd rx
  obtain ⟨bs, r2⟩ := Dp.reads I e y u he ry
  exact PySem.W.lt_data r1 r2 al dn (by omega) ⟨.bl _, H, I, rfl, q⟩
section
variable {K : PySem.W.Frag} {σ : L2.St} {H : Hp} {ta tb : TE}
theorem ev_gtTI {a b : List Int} (h1 : EvD K ta σ H (tupI a)) (h2 : EvD K tb σ H (tupI b)) : Ev (tOp (rGtD K) ta tb) σ H (.bl (HT.lexLt b a)) := fun H1 e Q q =>
  h1 H1 e _ fun v H2 e2 hv => h2 H2 (e.trans e2) _ fun w H3 e3 hw => ⟨tupI a, tupI b, dp_ex e3 _ hv, hw, alike_tupI a b, (by intro z; cases z), Nat.le_trans (depth_tupI a) (by decide), by
    rw [dataLt_tupI]
    exact q _ (e2.trans e3)⟩
theorem ev_ltTI {a b : List Int} (h1 : EvD K ta σ H (tupI a)) (h2 : EvD K tb σ H (tupI b)) : Ev (tOp (rLtD K) ta tb) σ H (.bl (HT.lexLt a b)) := fun H1 e Q q =>
  h1 H1 e _ fun v H2 e2 hv => h2 H2 (e.trans e2) _ fun w H3 e3 hw => ⟨tupI a, tupI b, dp_ex e3 _ hv, hw, alike_tupI a b, (by intro z; cases z), Nat.le_trans (depth_tupI a) (by decide), by
    rw [dataLt_tupI]
    exact q _ (e2.trans e3)⟩
end
end WR
set_option Elab.async false
set_option linter.all false
set_option maxRecDepth 100000
set_option maxHeartbeats 1000000
namespace WR
open PySem PySem.Spec PyProof.Rows L2 Evl

/-! ### sorted of tuples of integers, of any lengths (none empty) -/
abbrev encP (b : Int × List Int) : PyData := tupI (b.1 :: b.2)
def rSortP (K : PySem.W.Frag) : List V → Hp → VK → Prop := fun vs H Q => ∃ (a : Addr) (xs : List V) (bs : List (Int × List Int)), vs = [V.ref a] ∧ SqL K H a xs ∧ DpAll K H xs (bs.map encP) ∧ bs.length ≤ 100000 ∧
  ∀ (ys : List V) (p : Addr), DpAll K H ys ((bs.mergeSort (PySem.W.dataLe false encP)).map encP) → H p = none → Q (.ref p) (upd H p (.lst ys))
theorem each_in {R : V → Value → Prop} {K : PySem.W.Frag} {H : Hp} : ∀ {xs : List V} {us : List Value} {bs : List (Int × List Int)}, Vals xs us → DpAll K H xs (bs.map encP) → PySem.W.EachIs (fun v b => ∃ x, RelV x v ∧ Dp K H x (encP b)) us bs
  | [], us, bs, hv, hd => by
    cases hv
    cases bs with
    | nil => exact .nil
    | cons b r => cases hd
  | x :: xs, us, bs, hv, hd => by
    cases hv with
    | cons h1 h2 =>
      cases bs with
      | nil => cases hd
      | cons b r =>
        cases hd with
        | cons d1 d2 => exact .cons ⟨x, h1, d1⟩ (each_in (R := R) h2 d2)
theorem each_out {K : PySem.W.Frag} {H : Hp} : ∀ {us : List Value} {bs : List (Int × List Int)}, PySem.W.EachIs (fun v b => ∃ x, RelV x v ∧ Dp K H x (encP b)) us bs → ∃ ys, Vals ys us ∧ DpAll K H ys (bs.map encP)
  | _, _, .nil => ⟨[], .nil, .nil⟩
  | _, _, .cons ⟨x, h1, h2⟩ hr => by
    obtain ⟨ys, a, b⟩ := each_out hr
    exact ⟨x :: ys, .cons h1 a, .cons h2 b⟩
theorem cr_sortP {X : Cx} (hu : X.A.units + 64 < cLine) : CallR X (.builtin "sorted") (rSortP X.K) := by
  intro pins s σ H vs us Q I r h
  obtain ⟨a, xs, bs, rfl, hs, hd, hl, q⟩ := h
  obtain ⟨its, rv, hli, hz⟩ := I.list hs
  rw [Vals.ref1 r]
  have e := each_in (R := fun _ _ => True) rv hd
  have er : PySem.W.EachIs (fun v b => ∃ as, Reads s.heap v (encP b) as) its bs := e.mono fun v b ⟨x, h1, h2⟩ => Dp.reads I (encP b) x v h2 h1
  have hlen : its.length = bs.length := e.length
  refine PySem.W.sorted_data hli.isList e er (PySem.W.AllAlike.of fun b b' => alike_tupI _ _) (PySem.W.Sortable.tuples fun b => ⟨_, _, rfl⟩) (sz_of hl) (fun b _ => ?_) fun out h1 h2 => ?_
  · have := depth_tupI (b.1 :: b.2)
    show X.A.units + 2 + (tupI (b.1 :: b.2)).depth < cLine
    omega
  · obtain ⟨ys, v1, v2⟩ := each_out h2
    obtain ⟨ep, hat⟩ := PyProof.Rows.sortedAll_at s.heap its out.toArray
    have hyl : ys.length ≤ sizeLine := by
      rw [v1.length, h1]
      exact sz_of hl
    exact ⟨.ref _, upd H (s.heap.objs.size + 1) (.lst ys), I.laid (t' := s.toks) (fun _ _ => PyProof.Rows.sortedAll_old) (Nat.le_succ _) ⟨hyl, out, ep, v1, hat⟩, rfl, q ys _ v2 (I.hok.fresh (Nat.le_succ _))⟩
section
variable {K : PySem.W.Frag} {σ : L2.St} {H : Hp} {te : TE}
theorem en_sortP {bs : List (Int × List Int)} (h : EvD K te σ H (.list (bs.map encP))) (hl : bs.length ≤ 100000) :
    EvN K (tCB (rSortP K) (tCons te tNil)) σ H ((bs.mergeSort (PySem.W.dataLe false encP)).map encP) := fun H1 e Q q =>
  h H1 e _ fun v H2 e2 hv => by
    obtain ⟨a, xs, rfl, hs, hd⟩ := dp_lst hv
    exact ⟨a, xs, bs, rfl, hs, hd, hl, fun ys p hy hp => q p ys _ (fresh_back e2 hp) (e2.trans (Ex.new hp)) upd_same (dpAll_ex (Ex.new hp) _ hy)⟩
end
/-! the sorted list is the only one in order -/
def leP (a b : Int × List Int) : Bool := !HT.lexLt (b.1 :: b.2) (a.1 :: a.2)
theorem dataLe_P : PySem.W.dataLe false encP = leP := by
  funext a b
  show (!PySem.W.dataLt (encP b) (encP a)) = _
  rw [dataLt_tupI]
  rfl
theorem lex_total : ∀ {a b : List Int}, HT.lexLt a b = false → HT.lexLt b a = false → a = b
  | [], [], _, _ => rfl
  | [], _ :: _, h, _ => by cases h
  | _ :: _, [], _, h => by cases h
  | x :: a, y :: b, h1, h2 => by
    rw [HT.lexLt_cons] at h1 h2
    by_cases z : x = y
    · rw [if_pos z] at h1
      rw [if_pos z.symm] at h2
      rw [z, lex_total h1 h2]
    · rw [if_neg z] at h1
      rw [if_neg (Ne.symm z)] at h2
      have := of_decide_eq_false h1
      have := of_decide_eq_false h2
      omega
theorem lex_trans : ∀ {a b c : List Int}, HT.lexLt a b = true → HT.lexLt b c = true → HT.lexLt a c = true
  | [], [], _, h, _ => by cases h
  | [], _ :: _, [], _, h => by cases h
  | [], _ :: _, _ :: _, _, _ => rfl
  | _ :: _, [], _, h, _ => by cases h
  | _ :: _, _ :: _, [], _, h => by cases h
  | x :: a, y :: b, z :: c, h1, h2 => by
    rw [HT.lexLt_cons] at h1 h2 ⊢
    by_cases p : x = y
    · rw [if_pos p] at h1
      by_cases q : y = z
      · rw [if_pos q] at h2
        rw [if_pos (p.trans q)]
        exact lex_trans h1 h2
      · rw [if_neg q] at h2
        rw [if_neg (p ▸ q), p]
        exact h2
    · rw [if_neg p] at h1
      have h1 := of_decide_eq_true h1
      by_cases q : y = z
      · rw [if_neg (q ▸ p)]
        exact decide_eq_true (by omega)
      · rw [if_neg q] at h2
        have h2 := of_decide_eq_true h2
        rw [if_neg (by omega)]
        exact decide_eq_true (by omega)
theorem leP_sort {bs cs : List (Int × List Int)} (hp : bs.Perm cs) (hc : cs.Pairwise fun a b => HT.lexLt (a.1 :: a.2) (b.1 :: b.2) = true) : bs.mergeSort (PySem.W.dataLe false encP) = cs := by
  rw [dataLe_P]
  have htr : ∀ a b c : Int × List Int, leP a b = true → leP b c = true → leP a c = true := fun a b c h1 h2 => by
    unfold leP at h1 h2 ⊢
    rw [Bool.not_eq_true'] at h1 h2 ⊢
    cases e : HT.lexLt (c.1 :: c.2) (a.1 :: a.2) with
    | false => rfl
    | true =>
      cases e2 : HT.lexLt (b.1 :: b.2) (c.1 :: c.2) with
      | true =>
        have := lex_trans e2 e
        rw [h1] at this
        cases this
      | false =>
        have := lex_total h2 e2
        rw [this, h1] at e
        cases e
  have htot : ∀ a b : Int × List Int, (leP a b || leP b a) = true := fun a b => by
    unfold leP
    cases e : HT.lexLt (b.1 :: b.2) (a.1 :: a.2) with
    | false => rfl
    | true =>
      rw [lex_asymm e]
      rfl
  have hs := List.pairwise_mergeSort htr htot bs
  have hpm : (bs.mergeSort leP).Perm cs := (List.mergeSort_perm bs leP).trans hp
  have hanti : ∀ a b : Int × List Int, leP a b = true → leP b a = true → a = b := fun a b h1 h2 => by
    unfold leP at h1 h2
    rw [Bool.not_eq_true'] at h1 h2
    have := lex_total h2 h1
    have e1 := List.cons.inj this
    exact Prod.ext e1.1 e1.2
  have hc2 : cs.Pairwise fun a b => leP a b = true := hc.imp fun {a b} h => by
    unfold leP
    rw [lex_asymm h]
    rfl
  refine List.Perm.eq_of_pairwise (fun a b _ _ h1 h2 => hanti a b h1 h2) hs hc2 hpm
end WR
set_option Elab.async false
set_option linter.all false
set_option maxRecDepth 100000
set_option maxHeartbeats 1000000
namespace WR
open PySem PySem.Spec PyProof.Rows L2 Evl

/-! ### what holds of a drawn web, by its own numbers -/
structure WebP (l : Nat) (inner : List (List Nat)) : Prop where
  raw : Raw l inner
  nd : ∀ ks ∈ inner, ks.Nodup
  asc : ∀ ks ∈ inner, ks.Pairwise (· ≤ ·)
  bare : ∀ u, l ≤ u → u < l + inner.length → ∃ c ∈ kidsAt l inner u, (parsAt l inner c).length ≤ 1
  one : ∀ u, l ≤ u → u < l + inner.length → (parsAt l inner u).length ≤ 1 → 2 ≤ (kidsAt l inner u).length
  mix : ∀ u, u < l + inner.length → 2 ≤ (parsAt l inner u).length → (kidsAt l inner u).length = 1
  lf1 : ∀ u, u < l → (parsAt l inner u).length ≤ 1
  root : ∀ u, u < l + inner.length → (parsAt l inner u = [] ↔ u + 1 = l + inner.length)
theorem kidsAt_leaf {l : Nat} {inner : List (List Nat)} {u : Nat} (h : u < l) : kidsAt l inner u = [] := if_pos h
theorem kidsAt_inner {l : Nat} {inner : List (List Nat)} {u : Nat} (h : l ≤ u) (h2 : u < l + inner.length) : kidsAt l inner u ∈ inner := by
  unfold kidsAt
  rw [if_neg (by omega), List.getD_eq_getElem?_getD, List.getElem?_eq_getElem (by omega)]
  exact List.getElem_mem _
theorem mem_pars {l : Nat} {inner : List (List Nat)} {c u : Nat} : u ∈ parsAt l inner c ↔ u < l + inner.length ∧ c ∈ kidsAt l inner u := by
  unfold parsAt
  rw [List.mem_filter, List.mem_range, decide_eq_true_iff]
theorem itemOf_mem {K : Nat → List Nat} {od : List Nat} {u x : Nat} : x ∈ itemOf K od u ↔ ∃ c ∈ K u, x = plc c od := by
  unfold itemOf
  constructor
  · intro h
    obtain ⟨i, hi, rfl⟩ := List.mem_map.mp h
    obtain ⟨c, hc, rfl⟩ := List.mem_map.mp ((sortI_perm _).mem_iff.mp hi)
    exact ⟨c, hc, by rw [Int.toNat_natCast]⟩
  · rintro ⟨c, hc, rfl⟩
    refine List.mem_map.mpr ⟨((plc c od : Nat) : Int), (sortI_perm _).mem_iff.mpr (List.mem_map.mpr ⟨c, hc, rfl⟩), ?_⟩
    rw [Int.toNat_natCast]
theorem itemOf_len {K : Nat → List Nat} {od : List Nat} {u : Nat} : (itemOf K od u).length = (K u).length := by
  unfold itemOf
  rw [List.length_map, (sortI_perm _).length_eq, List.length_map]
theorem cnt_count {K : Nat → List Nat} {k : Nat} : ∀ n, cnt K k n = (List.range n).countP fun u => decide (k ∈ K u)
  | 0 => rfl
  | n + 1 => by
    show cnt K k n + (if k ∈ K n then 1 else 0) = _
    rw [cnt_count n, List.range_succ, List.countP_append, List.countP_cons, List.countP_nil]
    by_cases h : k ∈ K n
    · rw [if_pos h, decide_eq_true h]
      rfl
    · rw [if_neg h, decide_eq_false h]
      rfl
theorem Drawn.web {L : Nat} {inner : List (List Nat)} (h : Drawn L inner) (h1 : 1 ≤ L) (h8 : L ≤ 8) : WebP L inner := by
  have hraw := h.raw h1 h8
  have hnd := h.nd
  obtain ⟨kk, od, hG, hn, hO, hlen, hin⟩ := h.ex
  have hLo := hO.len
  have hil : inner.length = od.length - L := by rw [hin, List.length_map, List.length_drop]
  have hnn : L + inner.length = kk.length := by omega
  -- the kind at a place
  let o : Nat → Nat := fun j => od.getD j 0
  have ho : ∀ j, j < kk.length → od[j]? = some (o j) := fun j hj => by
    show od[j]? = some (od.getD j 0)
    rw [List.getD_eq_getElem?_getD, List.getElem?_eq_getElem (by omega)]
    rfl
  have hom : ∀ j, j < kk.length → o j ∈ od := fun j hj => List.mem_of_getElem? (ho j hj)
  have hol : ∀ j, j < kk.length → o j < kk.length := fun j hj => hO.lt _ (hom j hj)
  have hop : ∀ j, j < kk.length → plc (o j) od = j := fun j hj => plc_at hO.nd (ho j hj)
  have hpo : ∀ c, c ∈ od → plc c od < kk.length ∧ o (plc c od) = c := fun c hc => by
    have a := plc_lt hc
    have b := plc_get hc
    refine ⟨by omega, ?_⟩
    have := ho (plc c od) (by omega)
    rw [b] at this
    exact (Option.some.inj this).symm
  have hk1 : ∀ j, j < kk.length → kidsAt L inner j = itemOf (rowAt kk) od (o j) := fun j hj => by
    by_cases z : j < L
    · rw [kidsAt_leaf z]
      have e : o j = j := by
        have := ho j hj
        rw [hO.lf j z] at this
        exact (Option.some.inj this).symm
      rw [e]
      unfold itemOf
      rw [hG.leaf j z]
      rfl
    · unfold kidsAt
      rw [if_neg z, List.getD_eq_getElem?_getD, hin, List.getElem?_map, List.getElem?_drop, show L + (j - L) = j by omega, ho j hj]
      rfl
  have hk3 : ∀ x j, x < kk.length → j < kk.length → (x ∈ kidsAt L inner j ↔ o x ∈ rowAt kk (o j)) := fun x j hx hj => by
    rw [hk1 j hj, itemOf_mem]
    constructor
    · rintro ⟨c, hc, rfl⟩
      have hco := (hO.dn (o j) c (hom j hj) hc).1
      rw [(hpo c hco).2]
      exact hc
    · intro hc
      exact ⟨o x, hc, (hop x hx).symm⟩
  have hod : od = (List.range kk.length).map o := by
    refine List.ext_getElem? fun j => ?_
    by_cases z : j < kk.length
    · rw [ho j z, List.getElem?_map, List.getElem?_range z]
      rfl
    · rw [List.getElem?_eq_none (by omega), List.getElem?_eq_none (by rw [List.length_map, List.length_range]; omega)]
  have hperm : od.Perm (List.range kk.length) := by
    refine (List.perm_ext_iff_of_nodup hO.nd List.nodup_range).mpr fun a => ⟨fun ha => List.mem_range.mpr (hO.lt a ha), fun ha => ?_⟩
    have ha := List.mem_range.mp ha
    -- a nodup list of so many numbers below so many has each
    refine Classical.byContradiction fun z => ?_
    have hnd2 : (a :: od).Nodup := List.nodup_cons.mpr ⟨z, hO.nd⟩
    have := nodup_len kk.length (a :: od) hnd2 (fun c hc => by
      rcases List.mem_cons.mp hc with rfl | hc
      · exact ha
      · exact hO.lt c hc)
    rw [List.length_cons] at this
    omega
  have hk4 : ∀ x, x < kk.length → (parsAt L inner x).length = cnt (rowAt kk) (o x) kk.length := fun x hx => by
    have e1 : cnt (rowAt kk) (o x) kk.length = od.countP fun u => decide (o x ∈ rowAt kk u) := by rw [cnt_count, hperm.countP_eq]
    have e2 : (od.countP fun u => decide (o x ∈ rowAt kk u)) = (List.range kk.length).countP ((fun u => decide (o x ∈ rowAt kk u)) ∘ o) :=
      (congrArg (List.countP fun u => decide (o x ∈ rowAt kk u)) hod).trans List.countP_map
    rw [e1, e2]
    unfold parsAt
    rw [← List.countP_eq_length_filter, hnn]
    refine List.countP_congr fun j hj => ?_
    have hj := List.mem_range.mp hj
    simp only [Function.comp_apply, decide_eq_true_iff]
    exact hk3 x j hx hj
  have hoL : ∀ j, L ≤ j → j < kk.length → L ≤ o j := fun j h2 hj => by
    refine Classical.byContradiction fun z => ?_
    have a := hO.lf (o j) (by omega)
    have b := plc_at hO.nd a
    rw [hop j hj] at b
    omega
  refine ⟨hraw, hnd, fun ks hks => ?_, fun u hu1 hu2 => ?_, fun u hu1 hu2 hp => ?_, fun u hu hp => ?_, fun u hu => ?_, fun u hu => ?_⟩
  · rw [hin] at hks
    obtain ⟨u, _, rfl⟩ := List.mem_map.mp hks
    unfold itemOf
    refine List.pairwise_map.mpr ((sortI_sorted _).imp fun {a b} hab => ?_)
    omega
  · rw [hnn] at hu2
    obtain ⟨c, hc, hc1, _⟩ := hG.bare (o u) (hoL u hu1 hu2) (hol u hu2)
    have hco := (hO.dn (o u) c (hom u hu2) hc).1
    obtain ⟨a, b⟩ := hpo c hco
    refine ⟨plc c od, (hk3 _ u a hu2).mpr (by rw [b]; exact hc), ?_⟩
    rw [hk4 _ a, b]
    exact hc1
  · rw [hnn] at hu2
    rw [hk1 u hu2, itemOf_len]
    rw [hk4 u hu2] at hp
    have := hol u hu2
    exact hG.one (o u) (hoL u hu1 hu2) this (by omega) hp
  · rw [hnn] at hu
    rw [hk4 u hu] at hp
    rw [hk1 u hu, itemOf_len]
    exact hG.mix (o u) hp
  · rw [hk4 u (by omega)]
    have e : o u = u := by
      have := ho u (by omega)
      rw [hO.lf u hu] at this
      exact (Option.some.inj this).symm
    rw [e]
    exact hG.lf1 u hu
  · rw [hnn] at hu ⊢
    obtain ⟨t, ht, hr⟩ := hG.root
    have key : ∀ x, x < kk.length → (parsAt L inner x = [] ↔ o x = t) := fun x hx => by
      rw [← hr (o x) (hol x hx), ← hk4 x hx, List.length_eq_zero_iff]
    have top : parsAt L inner (kk.length - 1) = [] := by
      refine List.eq_nil_iff_forall_not_mem.mpr fun j hj => ?_
      obtain ⟨a, b⟩ := mem_pars.mp hj
      have := (kidsAt_lt hraw b).2
      omega
    have htop := (key (kk.length - 1) (by omega)).mp top
    rw [key u hu]
    constructor
    · intro e
      have a := hop u hu
      rw [e, ← htop, hop _ (by omega)] at a
      omega
    · intro e
      rw [← htop]
      congr 1
      omega
end WR
set_option Elab.async false
set_option linter.all false
set_option maxRecDepth 100000
set_option maxHeartbeats 1000000
namespace WR
open PySem PySem.Spec PyProof.Rows L2 Evl

/-! ### roads: the mathematics -/
def minN (ks : List Nat) : Nat := ks.min?.getD 0
theorem minN_eq {ks : List Nat} {m : Nat} (h : m ∈ ks) (h2 : ∀ y ∈ ks, m ≤ y) : minN ks = m := by
  unfold minN
  rw [List.min?_eq_some_iff.mpr ⟨h, h2⟩]
  rfl
theorem minN_mem {ks : List Nat} (h : ks ≠ []) : minN ks ∈ ks := by
  unfold minN
  cases e : ks.min? with
  | none => exact absurd (List.min?_eq_none_iff.mp e) h
  | some m => exact List.min?_mem e
/-- the plain child with the least number -/
def nxt (kf : Nat → List Nat) (pl : Nat → Bool) (u : Nat) : Nat := minN ((kf u).filter pl)
def roadL (nx : Nat → Nat) (l : Nat) : Nat → Nat → List Nat
  | 0, k => [k]
  | m + 1, k => if k < l then [k] else k :: roadL nx l m (nx k)
def roadN (l : Nat) (inner : List (List Nat)) (k : Nat) : List Nat := roadL (nxt (kidsAt l inner) fun c => decide ((parsAt l inner c).length ≤ 1)) l k k
theorem roadL_leaf {nx : Nat → Nat} {l m k : Nat} (h : k < l) : roadL nx l m k = [k] := by
  cases m with
  | zero => rfl
  | succ m => exact if_pos h
theorem roadL_go {nx : Nat → Nat} {l m k : Nat} (h : ¬ k < l) : roadL nx l (m + 1) k = k :: roadL nx l m (nx k) := if_neg h
theorem roadL_ne {nx : Nat → Nat} {l m k : Nat} : roadL nx l m k ≠ [] := by
  cases m with
  | zero => exact fun z => by cases z
  | succ m =>
    show (if k < l then [k] else k :: roadL nx l m (nx k)) ≠ []
    split <;> exact fun z => by cases z
theorem roadL_congr {nx ny : Nat → Nat} {l : Nat} {b : Nat} (h : ∀ u, l ≤ u → u ≤ b → nx u = ny u) (hd : ∀ u, l ≤ u → u ≤ b → ny u < u) : ∀ {m k : Nat}, k ≤ b → roadL nx l m k = roadL ny l m k
  | 0, _, _ => rfl
  | m + 1, k, hk => by
    show (if k < l then [k] else k :: roadL nx l m (nx k)) = if k < l then [k] else k :: roadL ny l m (ny k)
    by_cases z : k < l
    · rw [if_pos z, if_pos z]
    · rw [if_neg z, if_neg z, h k (by omega) hk, roadL_congr h hd (by have := hd k (by omega) hk; omega)]
theorem roadL_len {nx : Nat → Nat} {l : Nat} : ∀ {m k : Nat}, (roadL nx l m k).length ≤ m + 1
  | 0, _ => Nat.le_refl _
  | m + 1, k => by
    show (if k < l then [k] else k :: roadL nx l m (nx k)).length ≤ _
    split
    · simp
    · rw [List.length_cons]
      have := roadL_len (nx := nx) (l := l) (m := m) (k := nx k)
      omega
theorem roadL_le {nx : Nat → Nat} {l b : Nat} (hd : ∀ u, l ≤ u → u ≤ b → nx u < u) : ∀ {m k : Nat}, k ≤ b → ∀ x ∈ roadL nx l m k, x ≤ k
  | 0, k, _, x, h => by rw [List.mem_singleton.mp h]; exact Nat.le_refl _
  | m + 1, k, hk, x, h => by
    by_cases z : k < l
    · rw [roadL_leaf z] at h
      rw [List.mem_singleton.mp h]
      exact Nat.le_refl _
    · rw [roadL_go z] at h
      have := hd k (by omega) hk
      rcases List.mem_cons.mp h with rfl | h
      · exact Nat.le_refl _
      · have := roadL_le hd (m := m) (k := nx k) (by omega) x h
        omega
section
variable {l : Nat} {inner : List (List Nat)} (W : WebP l inner)
include W
theorem nxt_ok {u : Nat} (h1 : l ≤ u) (h2 : u < l + inner.length) : nxt (kidsAt l inner) (fun c => decide ((parsAt l inner c).length ≤ 1)) u ∈ kidsAt l inner u ∧ (parsAt l inner (nxt (kidsAt l inner) (fun c => decide ((parsAt l inner c).length ≤ 1)) u)).length ≤ 1 := by
  obtain ⟨c, hc, hc1⟩ := W.bare u h1 h2
  have hm : ((kidsAt l inner u).filter fun c => decide ((parsAt l inner c).length ≤ 1)) ≠ [] := fun z => by
    have : c ∈ (kidsAt l inner u).filter fun c => decide ((parsAt l inner c).length ≤ 1) := List.mem_filter.mpr ⟨hc, decide_eq_true hc1⟩
    rw [z] at this
    cases this
  obtain ⟨a, b⟩ := List.mem_filter.mp (minN_mem hm)
  exact ⟨a, of_decide_eq_true b⟩
theorem nxt_lt {u : Nat} (h1 : l ≤ u) (h2 : u < l + inner.length) : nxt (kidsAt l inner) (fun c => decide ((parsAt l inner c).length ≤ 1)) u < u := (kidsAt_lt W.raw (nxt_ok W h1 h2).1).2
theorem roadN_le {k : Nat} (hk : k < l + inner.length) : ∀ x ∈ roadN l inner k, x ≤ k :=
  roadL_le (b := k) (fun u h1 h2 => nxt_lt W h1 (by omega)) (Nat.le_refl k)
end
/-- a promise of a def of a drawn web and a kind -/
def spPK (K : PySem.W.Frag) (g : Nat → List (List Nat) → Nat → PyData) : Sp := fun vs H Q _ =>
  ∃ v l inner k, vs = [v, .int ((k : Nat) : Int)] ∧ Dp K H v (webD l inner) ∧ WebP l inner ∧ k < l + inner.length ∧ ∀ r H', Ex H H' → Dp K H' r (g l inner k) → Q r H'
theorem spPK_len {K : PySem.W.Frag} {g : Nat → List (List Nat) → Nat → PyData} {vs : List V} {H : Hp} {Q : VK} {E : XK} (h : spPK K g vs H Q E) : vs.length = 2 := by
  obtain ⟨v, l, inner, k, rfl, _⟩ := h
  rfl
theorem ed_callPK {K : PySem.W.Frag} {σ : L2.St} {H : Hp} {te tx : TE} {l k : Nat} {inner : List (List Nat)} {g : Nat → List (List Nat) → Nat → PyData} {E : XK} (h : EvD K te σ H (webD l inner)) (hk : EvD K tx σ H (natD k)) (hw : WebP l inner) (hlt : k < l + inner.length) :
    EvD K (tCall (spPK K g) [] E (tCons te (tCons tx tNil))) σ H (g l inner k) := fun H1 e Q q =>
  h H1 e _ fun v H2 e2 hv => hk H2 (e.trans e2) _ fun w H3 e3 hw' => by
    cases dp_int hw'
    exact ⟨v, l, inner, k, rfl, dp_ex e3 _ hv, hw, hlt, fun r H4 e4 hr => q r H4 ((e2.trans e3).trans e4) hr⟩
section
variable {K : PySem.W.Frag} {σ : L2.St} {H : Hp} {te : TE}
/-- min of a new list of kinds -/
theorem ev_minN {ks : List Nat} (h : EvN K te σ H (natDs ks)) (h0 : ks ≠ []) : Ev (tCB (rMin K) (tCons te tNil)) σ H (nV (minN ks)) := fun H1 e Q q =>
  h H1 e _ fun p xs H2 hp e2 hx hd => by
    rw [nats_of hd] at hx
    refine ⟨p, ks.map fun (k : Nat) => (k : Int), rfl, sq_of (by rw [hx, nVs_int]), ?_, fun m hm hle => ?_⟩
    · rw [List.length_map]
      cases ks with
      | nil => exact absurd rfl h0
      | cons _ _ => simp
    · obtain ⟨c, hc, rfl⟩ := List.mem_map.mp hm
      have : minN ks = c := minN_eq hc fun y hy => by
        have := hle (y : Int) (List.mem_map_of_mem hy)
        omega
      rw [← this]
      exact q H2 e2
/-- xs[-1] -/
theorem ev_lastL {p : Addr} {pre : List Nat} {u : Nat} (h : Ev te σ H (.ref p)) (hp : H p = some (.lst (nVs (pre ++ [u])))) : Ev (tOp (rIxL K) te (tUn (rU fun i => .int (-i)) (tC (.int 1)))) σ H (nV u) :=
  ev_op h (ev_un ev_c ru_neg) (rv_ixL (K := K) (sq_of hp) (by
    unfold nVs
    rw [List.map_append]
    exact atI_last _ _))
theorem fm_natsP {f : PyData → Option PyData} {g : Nat → Bool} (hf : ∀ x, f (natD x) = if g x = true then some (natD x) else none) : ∀ ks : List Nat, (natDs ks).filterMap f = natDs (ks.filter g)
  | [] => rfl
  | x :: r => by
    show (natD x :: natDs r).filterMap f = _
    rw [List.filterMap_cons, hf, List.filter_cons, fm_natsP hf r]
    cases g x <;> rfl
/-- the kinds of ks that .., a new list -/
theorem en_natLc {tt : TT} {wi : TI} {j : Nat} {vs : List Nat} {ks : List Nat} (g : Nat → Bool) (h : Src K wi σ H (natDs ks)) (hz : ks.length ≤ 40000) (hw : ∀ x, wipe ((wipe σ vs).set j (some x)) vs = wipe σ vs) (hj : j < (wipe σ vs).length)
    (ht : ∀ c H1, Ex H H1 → c ∈ ks → EvT tt ((wipe σ vs).set j (some (nV c))) H1 (g c)) : EvN K (tLc wi (gName j) tt (tVar j) vs) σ H (natDs (ks.filter g)) := by
  have q1 := en_lc (K := K) (t := tt) (te := tVar j) (j := j) (vs := vs) (ds := natDs ks) (fun d => match d with | .int c => if g c.toNat = true then some (natD c.toNat) else none | _ => none) h (by unfold natDs; rw [List.length_map]; exact hz) hw (fun d v H1 e hd hv => ?_) (fun d r v H1 e hd hv hr => ?_) (fun d r hd hr => ?_)
  · have e : (natDs ks).filterMap (fun d => match d with | .int c => if g c.toNat = true then some (natD c.toNat) else none | _ => none) = natDs (ks.filter g) := fm_natsP (f := fun d => match d with | .int c => if g c.toNat = true then some (natD c.toNat) else none | _ => none) (fun x => by
      show (if g ((x : Int).toNat) = true then some (natD ((x : Int).toNat)) else none) = _
      rw [Int.toNat_natCast]) ks
    rw [e] at q1
    exact q1
  · obtain ⟨c, hc, rfl⟩ := List.mem_map.mp hd
    cases dp_int hv
    refine et_is (ht c H1 e hc) ?_
    show g c = (if g ((c : Int).toNat) = true then some (natD ((c : Int).toNat)) else none).isSome
    rw [Int.toNat_natCast]
    cases g c <;> rfl
  · obtain ⟨c, hc, rfl⟩ := List.mem_map.mp hd
    have hr : (if g ((c : Int).toNat) = true then some (natD ((c : Int).toNat)) else none) = some r := hr
    rw [Int.toNat_natCast] at hr
    split at hr
    · cases hr
      cases dp_int hv
      exact ed_i (ev_var (by rw [List.getElem?_set_self hj]))
    · cases hr
  · obtain ⟨c, hc, rfl⟩ := List.mem_map.mp hd
    have hr : (if g ((c : Int).toNat) = true then some (natD ((c : Int).toNat)) else none) = some r := hr
    split at hr
    · cases hr
      rfl
    · cases hr
end
end WR
set_option Elab.async false
set_option linter.all false
set_option maxRecDepth 100000
set_option maxHeartbeats 1000000
namespace WR
open PySem PySem.Spec PyProof.Rows L2 Evl

/-! ### k06: the mathematics -/
theorem rch_trans {kk : List (List Nat)} {a b c : Nat} (h1 : Rch kk a b) (h2 : Rch kk b c) : Rch kk a c := fun T hT hS => h2 T (h1 T hT hS) hS
section
variable {l : Nat} {inner : List (List Nat)} (W : WebP l inner)
include W
theorem hdK : ∀ u c, c ∈ rowAt (kkOf l inner) u → c < u := fun u c h => by
  rw [rowAt_kk] at h
  exact (kidsAt_lt W.raw h).2
theorem rch_kid {u c : Nat} (h : c ∈ kidsAt l inner u) : Rch (kkOf l inner) u c := rch_shut u c rch_self (by rw [rowAt_kk]; exact h)
theorem rch_root : ∀ {x : Nat}, x < l + inner.length → Rch (kkOf l inner) (l + inner.length - 1) x := by
  have key : ∀ m x, x + m + 1 = l + inner.length → Rch (kkOf l inner) (l + inner.length - 1) x := fun m => by
    induction m using Nat.strongRecOn with
    | ind m ih =>
      intro x hx
      by_cases z : x + 1 = l + inner.length
      · rw [show l + inner.length - 1 = x by omega]
        exact rch_self
      · have hne : parsAt l inner x ≠ [] := fun e => z ((W.root x (by omega)).mp e)
        obtain ⟨u, hu⟩ := List.exists_mem_of_ne_nil _ hne
        obtain ⟨a, b⟩ := mem_pars.mp hu
        have := (kidsAt_lt W.raw b).2
        exact rch_trans (ih (l + inner.length - 1 - u) (by omega) u (by omega)) (rch_kid W b)
  intro x hx
  exact key (l + inner.length - 1 - x) x (by omega)
theorem mem_ben {k x : Nat} : x ∈ benL l inner k ↔ x < k ∧ Rch (kkOf l inner) k x := by
  unfold benL
  rw [List.mem_filter, List.mem_range, rchB_iff]
theorem ben_kid {k c : Nat} (h : c ∈ kidsAt l inner k) : c ∈ benL l inner k := (mem_ben W).mpr ⟨(kidsAt_lt W.raw h).2, rch_kid W h⟩
theorem ben_sub {k c x : Nat} (h : c ∈ kidsAt l inner k) (hx : x ∈ benL l inner c) : x ∈ benL l inner k := by
  obtain ⟨a, b⟩ := (mem_ben W).mp hx
  have := (kidsAt_lt W.raw h).2
  exact (mem_ben W).mpr ⟨by omega, rch_trans (rch_kid W h) b⟩
theorem ben_len {k : Nat} (hk : k < l + inner.length) : ((benL l inner k).length = l + inner.length - 1 ↔ k = l + inner.length - 1) := by
  have h1 := W.raw.l1
  constructor
  · intro h
    have : (benL l inner k).length ≤ k := by
      unfold benL
      have := List.length_filter_le (rchB (kkOf l inner) k) (List.range k)
      rw [List.length_range] at this
      exact this
    omega
  · rintro rfl
    unfold benL
    rw [List.filter_eq_self.mpr fun x hx => ?_, List.length_range]
    exact rchB_iff.mpr (rch_root W (by have := List.mem_range.mp hx; omega))
end
/-! roads -/
theorem roadL_fuel {nx : Nat → Nat} {l b : Nat} (hd : ∀ u, l ≤ u → u ≤ b → nx u < u) : ∀ {m m' k : Nat}, k ≤ b → k ≤ m → k ≤ m' → roadL nx l m k = roadL nx l m' k
  | m, m', k, hb, h1, h2 => by
    by_cases z : k < l
    · rw [roadL_leaf z, roadL_leaf z]
    · by_cases z0 : k = 0
      · subst z0
        cases m with
        | zero =>
          cases m' with
          | zero => rfl
          | succ m' =>
            have := hd 0 (by omega) hb
            omega
        | succ m =>
          have := hd 0 (by omega) hb
          omega
      · obtain ⟨a, rfl⟩ : ∃ a, m = a + 1 := ⟨m - 1, by omega⟩
        obtain ⟨c, rfl⟩ : ∃ c, m' = c + 1 := ⟨m' - 1, by omega⟩
        have := hd k (by omega) hb
        rw [roadL_go z, roadL_go z, roadL_fuel hd (m := a) (m' := c) (k := nx k) (by omega) (by omega) (by omega)]
theorem roadL_head {nx : Nat → Nat} {l m k : Nat} : (roadL nx l m k).head? = some k := by
  cases m with
  | zero => rfl
  | succ m =>
    show (if k < l then [k] else k :: roadL nx l m (nx k)).head? = _
    split <;> rfl
theorem getLastD_cons {a d : Nat} {r : List Nat} (h : r ≠ []) : (a :: r).getLastD d = r.getLastD d := by
  cases r with
  | nil => exact absurd rfl h
  | cons b r => simp [List.getLastD]
theorem roadL_last {nx : Nat → Nat} {l b : Nat} (hd : ∀ u, l ≤ u → u ≤ b → nx u < u) : ∀ {m k : Nat}, k ≤ b → k ≤ m → 0 < l → (roadL nx l m k).getLastD 0 < l
  | 0, k, hb, hm, h0 => by
    rw [roadL_leaf (by omega)]
    show k < l
    omega
  | m + 1, k, hb, hm, h0 => by
    by_cases z : k < l
    · rw [roadL_leaf z]
      exact z
    · have := hd k (by omega) hb
      rw [roadL_go z, getLastD_cons roadL_ne]
      exact roadL_last hd (by omega) (by omega) h0
theorem roadL_tail {nx : Nat → Nat} {l b : Nat} {p : Nat → Prop} (hd : ∀ u, l ≤ u → u ≤ b → nx u < u) (hp : ∀ u, l ≤ u → u ≤ b → p (nx u)) : ∀ {m k : Nat}, k ≤ b → ∀ x ∈ (roadL nx l m k).tail, p x
  | 0, k, hb, x, hx => by cases hx
  | m + 1, k, hb, x, hx => by
    by_cases z : k < l
    · rw [roadL_leaf z] at hx
      cases hx
    · rw [roadL_go z] at hx
      have hx : x ∈ roadL nx l m (nx k) := hx
      have h1 := hd k (by omega) hb
      have hh := roadL_head (nx := nx) (l := l) (m := m) (k := nx k)
      cases e : roadL nx l m (nx k) with
      | nil => exact absurd e roadL_ne
      | cons y r =>
        rw [e] at hx hh
        have hy : y = nx k := Option.some.inj hh
        rcases List.mem_cons.mp hx with h | h
        · rw [h, hy]
          exact hp k (by omega) hb
        · exact roadL_tail hd hp (m := m) (k := nx k) (by omega) x (by rw [e]; exact h)
theorem roadL_link {nx : Nat → Nat} {l b : Nat} {q : Nat → Nat → Prop} (hd : ∀ u, l ≤ u → u ≤ b → nx u < u) (hq : ∀ u, l ≤ u → u ≤ b → q u (nx u)) : ∀ {m k : Nat}, k ≤ b → ∀ i x y, (roadL nx l m k)[i]? = some x → (roadL nx l m k)[i + 1]? = some y → q x y
  | 0, k, hb, i, x, y, hx, hy => by
    have := (List.getElem?_eq_some_iff.mp hy).1
    have e : (roadL nx l 0 k).length = 1 := rfl
    omega
  | m + 1, k, hb, i, x, y, hx, hy => by
    by_cases z : k < l
    · rw [roadL_leaf z] at hy
      have := (List.getElem?_eq_some_iff.mp hy).1
      simp at this
    · rw [roadL_go z] at hx hy
      have h1 := hd k (by omega) hb
      cases i with
      | zero =>
        have hx : some k = some x := hx
        cases hx
        have hy : (roadL nx l m (nx k))[0]? = some y := hy
        have hh := roadL_head (nx := nx) (l := l) (m := m) (k := nx k)
        rw [List.head?_eq_getElem?, hy] at hh
        cases hh
        exact hq k (by omega) hb
      | succ i => exact roadL_link hd hq (m := m) (k := nx k) (by omega) i x y hx hy
theorem roadL_part {nx : Nat → Nat} {l b : Nat} (hd : ∀ u, l ≤ u → u ≤ b → nx u < u) : ∀ {m k : Nat}, k ≤ b → k ≤ m → ∀ x ∈ roadL nx l m k, (roadL nx l x x).getLastD 0 = (roadL nx l m k).getLastD 0
  | 0, k, hb, hm, x, hx => by
    have hk : k = 0 := by omega
    subst hk
    have hx := List.mem_singleton.mp hx
    subst hx
    rfl
  | m + 1, k, hb, hm, x, hx => by
    by_cases z : k < l
    · rw [roadL_leaf z] at hx ⊢
      rw [List.mem_singleton.mp hx, roadL_leaf z]
    · have hx' := hx
      rw [roadL_go z] at hx'
      rcases List.mem_cons.mp hx' with h | h
      · subst h
        rw [roadL_fuel hd (m := x) (m' := m + 1) hb (Nat.le_refl _) hm]
      · have h1 := hd k (by omega) hb
        rw [roadL_go z, getLastD_cons roadL_ne]
        exact roadL_part hd (by omega) (by omega) x h
section
variable {l : Nat} {inner : List (List Nat)} (W : WebP l inner) {k : Nat} (hk : k < l + inner.length)
include W hk
theorem nxd : ∀ u, l ≤ u → u ≤ k → nxt (kidsAt l inner) (fun c => decide ((parsAt l inner c).length ≤ 1)) u < u := fun u a b => nxt_lt W a (by omega)
theorem road_last : (roadN l inner k).getLastD 0 < l := roadL_last (nxd W hk) (Nat.le_refl k) (Nat.le_refl k) (by have := W.raw.l1; omega)
theorem road_plain : ∀ x ∈ (roadN l inner k).tail, (parsAt l inner x).length ≤ 1 := roadL_tail (nxd W hk) (fun u a b => (nxt_ok W a (by omega)).2) (Nat.le_refl k)
theorem road_link : ∀ i x y, (roadN l inner k)[i]? = some x → (roadN l inner k)[i + 1]? = some y → y ∈ kidsAt l inner x := roadL_link (q := fun x y => y ∈ kidsAt l inner x) (nxd W hk) (fun u a b => (nxt_ok W a (by omega)).1) (Nat.le_refl k)
theorem road_part : ∀ x ∈ roadN l inner k, (roadN l inner x).getLastD 0 = (roadN l inner k).getLastD 0 := roadL_part (nxd W hk) (Nat.le_refl k) (Nat.le_refl k)
end
/-! trees have as many links as kinds less one -/
theorem bump_sum {cs : List Int} {c : Nat} (h : c < cs.length) : (bump cs c).sum = cs.sum + 1 := by
  unfold bump
  have h1 : cs[c]? = some (cs.getD c 0) := by
    rw [List.getD_eq_getElem?_getD, List.getElem?_eq_getElem h]
    rfl
  rw [sum_set h1]
  omega
theorem bumpAll_sum : ∀ {ks : List Nat} {cs : List Int}, (∀ c ∈ ks, c < cs.length) → (bumpAll cs ks).sum = cs.sum + ks.length
  | [], cs, _ => by
    show cs.sum = _
    simp
  | c :: r, cs, h => by
    show (bumpAll (bump cs c) r).sum = _
    rw [bumpAll_sum fun x hx => by rw [bump_len]; exact h x (List.mem_cons_of_mem _ hx), bump_sum (h c (List.mem_cons_self ..)), List.length_cons]
    omega
theorem cnts_sum {l : Nat} {inner : List (List Nat)} (hw : Raw l inner) : ∀ i, i ≤ inner.length → (cntF (l + inner.length) (inner.take i)).sum = ((linksTo l inner (l + i)).length : Nat)
  | 0, _ => by
    have h0 : linksTo l inner (l + 0) = [] := by
      unfold linksTo
      refine List.flatMap_eq_nil_iff.mpr fun u hu => ?_
      rw [kidsAt_leaf (by have := List.mem_range.mp hu; omega)]
      rfl
    rw [h0, List.take_zero]
    show (List.replicate (l + inner.length) (0 : Int)).sum = 0
    generalize l + inner.length = n
    induction n with
    | zero => rfl
    | succ n ih => rw [List.replicate_succ, List.sum_cons, ih]; rfl
  | i + 1, hi => by
    have hil : i < inner.length := by omega
    have hg : inner[i]? = some inner[i] := List.getElem?_eq_getElem hil
    have hk2 : kidsAt l inner (l + i) = inner[i] := by
      unfold kidsAt
      rw [if_neg (by omega), show l + i - l = i by omega, List.getD_eq_getElem?_getD, hg]
      rfl
    rw [cntF_take hg, bumpAll_sum fun c hc => by rw [cntF_len]; exact raw_lt hw (List.getElem_mem hil) c hc, cnts_sum hw i (by omega), show l + (i + 1) = (l + i) + 1 by omega, linksTo_succ, List.length_append, List.length_map, hk2]
    omega
theorem ones_sum : ∀ {ns : List Int}, (∀ n ∈ ns, 1 ≤ n) → ((ns.length : Int) ≤ ns.sum ∧ (ns.sum = ns.length ↔ ∀ n ∈ ns, n ≤ 1))
  | [], _ => ⟨by simp, by simp⟩
  | n :: r, h => by
    obtain ⟨a, b⟩ := ones_sum (ns := r) fun m hm => h m (List.mem_cons_of_mem _ hm)
    have hn := h n (List.mem_cons_self ..)
    rw [List.sum_cons, List.length_cons]
    refine ⟨by omega, ?_⟩
    constructor
    · intro e m hm
      have e2 : r.sum = r.length := by omega
      rcases List.mem_cons.mp hm with rfl | hm
      · omega
      · exact b.mp e2 m hm
    · intro e
      have := b.mpr fun m hm => e m (List.mem_cons_of_mem _ hm)
      have := e n (List.mem_cons_self ..)
      omega
theorem tree_links {l : Nat} {inner : List (List Nat)} (W : WebP l inner) : decide (((mixL l inner).length : Int) = 0) = decide (((linksTo l inner (l + inner.length)).length : Int) = ((l + inner.length : Nat) : Int) - 1) := by
  have h1 := W.raw.l1
  obtain ⟨n, en⟩ : ∃ n, l + inner.length = n + 1 := ⟨l + inner.length - 1, by omega⟩
  have hs := cnts_sum W.raw inner.length (Nat.le_refl _)
  rw [List.take_length] at hs
  have hcl : (cnts l inner).length = l + inner.length := cntF_len _ _
  have hc : cnts l inner = (List.range (l + inner.length)).map (cK l inner) := by
    refine List.ext_getElem? fun k => ?_
    by_cases z : k < l + inner.length
    · rw [List.getElem?_map, List.getElem?_range z, List.getElem?_eq_getElem (by omega)]
      show some _ = some ((cnts l inner).getD k 0)
      rw [List.getD_eq_getElem?_getD, List.getElem?_eq_getElem (by omega)]
      rfl
    · rw [List.getElem?_eq_none (by omega), List.getElem?_eq_none (by rw [List.length_map, List.length_range]; omega)]
  have hck : ∀ k, k < l + inner.length → cK l inner k = ((parsAt l inner k).length : Int) := fun k hk => cK_pars W.nd hk
  have htop : cK l inner n = 0 := by
    rw [hck n (by omega), (W.root n (by omega)).mpr (by omega)]
    rfl
  have hsum : ((List.range n).map (cK l inner)).sum = ((linksTo l inner (l + inner.length)).length : Nat) := by
    have e : (cnts l inner).sum = ((List.range n).map (cK l inner)).sum := by
      rw [hc, en, List.range_succ, List.map_append, List.sum_append]
      simp [htop]
    rw [← e]
    exact hs
  have hone : ∀ m ∈ (List.range n).map (cK l inner), 1 ≤ m := fun m hm => by
    obtain ⟨k, hk, rfl⟩ := List.mem_map.mp hm
    have hk := List.mem_range.mp hk
    rw [hck k (by omega)]
    have : parsAt l inner k ≠ [] := fun e => by have := (W.root k (by omega)).mp e; omega
    have := List.length_pos_iff.mpr this
    omega
  obtain ⟨_, hiff⟩ := ones_sum hone
  rw [List.length_map, List.length_range, hsum] at hiff
  refine decide_eq_decide.mpr ?_
  rw [show ((l + inner.length : Nat) : Int) - 1 = (n : Int) by omega, hiff]
  constructor
  · intro e m hm
    obtain ⟨k, hk, rfl⟩ := List.mem_map.mp hm
    have hk := List.mem_range.mp hk
    refine Classical.byContradiction fun z => ?_
    have hm : k ∈ mixL l inner := by
      unfold mixL
      exact List.mem_filter.mpr ⟨List.mem_range.mpr (by omega), decide_eq_true (by omega)⟩
    have := List.length_pos_of_mem hm
    omega
  · intro e
    have : mixL l inner = [] := by
      unfold mixL
      refine List.filter_eq_nil_iff.mpr fun k hk => ?_
      have hk := List.mem_range.mp hk
      by_cases z : k < n
      · have := e _ (List.mem_map_of_mem (List.mem_range.mpr z))
        simp
        omega
      · have : k = n := by omega
        rw [this, htop]
        decide
    rw [this]
    rfl
end WR
set_option Elab.async false
set_option linter.all false
set_option maxRecDepth 100000
set_option maxHeartbeats 1000000
namespace WR
open PySem PySem.Spec PyProof.Rows L2 Evl

/-! ### rows -/
theorem ev_sumI {K : PySem.W.Frag} {σ : L2.St} {H : Hp} {te : TE} {ns : List Int} (h : EvN K te σ H (ns.map PyData.int)) : Ev (tCB (rSum K) (tCons te tNil)) σ H (.int ns.sum) := fun H1 e Q q =>
  h H1 e _ fun p xs H2 hp e2 hx hd => by
    rw [ints_of hd] at hx
    exact ⟨p, ns, rfl, sq_of hx, q H2 e2⟩
theorem fm_natsJ {f : PyData → Option PyData} {g : Nat → Int} {ks : List Nat} (h : ∀ c ∈ ks, f (natD c) = some (.int (g c))) : (natDs ks).filterMap f = (ks.map g).map PyData.int := by
  unfold natDs
  rw [List.filterMap_map, List.map_map]
  exact fm_map fun c hc => h c hc
def rowI (l : Nat) (inner : List (List Nat)) (k : Nat) : List Int := (List.range l).map fun x => way (kidsAt l inner) x k
def rowD (l : Nat) (inner : List (List Nat)) (k : Nat) : PyData := tupI (rowI l inner k)
def rowsD (l : Nat) (inner : List (List Nat)) (n : Nat) : List PyData := (List.range n).map (rowD l inner)
theorem rowsD_succ {l n : Nat} {inner : List (List Nat)} : rowsD l inner (n + 1) = rowsD l inner n ++ [rowD l inner n] := by
  unfold rowsD
  rw [List.range_succ, List.map_append]
  rfl
theorem rowsD_at {l n k : Nat} {inner : List (List Nat)} (h : k < n) : (rowsD l inner n)[k]? = some (rowD l inner k) := by
  unfold rowsD
  rw [List.getElem?_map, List.getElem?_range h]
  rfl
theorem nl_rowsD {l n : Nat} {inner : List (List Nat)} : nlAll (rowsD l inner n) = true := nlAll_mem fun d hd => by
  obtain ⟨k, _, rfl⟩ := List.mem_map.mp hd
  exact nl_tupI _
theorem rowI_at {l k x : Nat} {inner : List (List Nat)} (h : x < l) : ((rowI l inner k).map PyData.int)[x]? = some (.int (way (kidsAt l inner) x k)) := by
  unfold rowI
  rw [List.getElem?_map, List.getElem?_map, List.getElem?_range h]
  rfl
theorem way_leaf {l k x : Nat} {inner : List (List Nat)} (h : k < l) : way (kidsAt l inner) x k = if x = k then 1 else 0 := by
  rw [way_rec (fun c hc => by rw [show kidsAt l inner k = [] from if_pos h] at hc; cases hc), show kidsAt l inner k = [] from if_pos h]
  by_cases z : k = x
  · rw [if_pos z, if_pos z.symm]
    rfl
  · rw [if_neg z, if_neg (Ne.symm z)]
    rfl
/-- the row of a leaf -/
def spLeafRow (K : PySem.W.Frag) : Sp := fun vs H Q _ => ∃ l x : Nat, vs = [nV l, nV x] ∧ l ≤ 1000 ∧ ∀ r H', Ex H H' → Dp K H' r (tupI ((List.range l).map fun a => if a = x then 1 else 0)) → Q r H'
end WR
set_option Elab.async false
set_option linter.all false
set_option maxRecDepth 100000
set_option maxHeartbeats 1000000
namespace WR
open PySem PySem.Spec PyProof.Rows L2 Evl

/-! ### point [3] (a): rows tell what is beneath -/
theorem roadL_rch {kk : List (List Nat)} {nx : Nat → Nat} {l b : Nat} (hd : ∀ u, l ≤ u → u ≤ b → nx u < u) (hq : ∀ u, l ≤ u → u ≤ b → nx u ∈ rowAt kk u) : ∀ {m k : Nat}, k ≤ b → ∀ x ∈ roadL nx l m k, Rch kk k x
  | 0, k, hb, x, hx => by rw [List.mem_singleton.mp hx]; exact rch_self
  | m + 1, k, hb, x, hx => by
    by_cases z : k < l
    · rw [roadL_leaf z] at hx
      rw [List.mem_singleton.mp hx]
      exact rch_self
    · rw [roadL_go z] at hx
      have h1 := hd k (by omega) hb
      rcases List.mem_cons.mp hx with h | h
      · rw [h]
        exact rch_self
      · exact rch_trans (rch_shut k (nx k) rch_self (hq k (by omega) hb)) (roadL_rch hd hq (m := m) (k := nx k) (by omega) x h)
theorem roadL_par {nx : Nat → Nat} {l b : Nat} {q : Nat → Nat → Prop} (hd : ∀ u, l ≤ u → u ≤ b → nx u < u) (hq : ∀ u, l ≤ u → u ≤ b → q u (nx u)) : ∀ {m k : Nat}, k ≤ b → ∀ x ∈ roadL nx l m k, x ≠ k → ∃ p ∈ roadL nx l m k, q p x
  | 0, k, hb, x, hx, hn => absurd (List.mem_singleton.mp hx) hn
  | m + 1, k, hb, x, hx, hn => by
    by_cases z : k < l
    · rw [roadL_leaf z] at hx
      exact absurd (List.mem_singleton.mp hx) hn
    · rw [roadL_go z] at hx ⊢
      have h1 := hd k (by omega) hb
      rcases List.mem_cons.mp hx with h | h
      · exact absurd h hn
      · by_cases e : x = nx k
        · exact ⟨k, List.mem_cons_self .., by rw [e]; exact hq k (by omega) hb⟩
        · obtain ⟨p, hp, hpq⟩ := roadL_par hd hq (m := m) (k := nx k) (by omega) x h e
          exact ⟨p, List.mem_cons_of_mem _ hp, hpq⟩
theorem sum_two {f : Nat → Int} {c d : Nat} (h0 : ∀ k, 0 ≤ f k) (hn : c ≠ d) : ∀ {ks : List Nat}, c ∈ ks → d ∈ ks → f c + f d ≤ (ks.map f).sum
  | k :: r, hc, hd => by
    have hge : ∀ x, x ∈ r → f x ≤ (r.map f).sum := fun x hx => sum_ge (fun n hn => by
      obtain ⟨y, _, rfl⟩ := List.mem_map.mp hn
      exact h0 y) (List.mem_map_of_mem hx)
    rw [List.map_cons, List.sum_cons]
    rcases List.mem_cons.mp hc with e1 | c1
    · rcases List.mem_cons.mp hd with e2 | d1
      · exact absurd (e1.trans e2.symm) hn
      · have := hge d d1
        rw [e1]
        omega
    · rcases List.mem_cons.mp hd with e2 | d1
      · have := hge c c1
        rw [e2]
        omega
      · have := sum_two h0 hn c1 d1
        have := h0 k
        omega
section
variable {l : Nat} {inner : List (List Nat)} (W : WebP l inner)
include W
theorem road_rch {k x : Nat} (hk : k < l + inner.length) (hx : x ∈ roadN l inner k) : Rch (kkOf l inner) k x :=
  roadL_rch (b := k) (fun u a b => nxt_lt W a (by omega)) (fun u a b => by rw [rowAt_kk]; exact (nxt_ok W a (by omega)).1) (Nat.le_refl k) x hx
theorem hdN : ∀ u c, c ∈ kidsAt l inner u → c < u := fun u c h => (kidsAt_lt W.raw h).2
theorem way_pos {k x : Nat} : 0 < way (kidsAt l inner) x k ↔ Rch (kkOf l inner) k x := by
  have := way_rch (kk := kkOf l inner) (hdK W) (to := x) k
  rw [rowAt_kkE] at this
  exact this
theorem way_mono {k t x : Nat} (h : Rch (kkOf l inner) k t) : way (kidsAt l inner) x t ≤ way (kidsAt l inner) x k :=
  h (fun y => way (kidsAt l inner) x y ≤ way (kidsAt l inner) x k) (Int.le_refl _) fun u c hu hc => by
    rw [rowAt_kk] at hc
    exact Int.le_trans (way_ge (hdN W) hc) hu
theorem leafof {k : Nat} (hk : k < l + inner.length) : (roadN l inner k).getLastD 0 < l ∧ (roadN l inner k).getLastD 0 ∈ roadN l inner k ∧ 1 ≤ way (kidsAt l inner) ((roadN l inner k).getLastD 0) k := by
  have hne : roadN l inner k ≠ [] := roadL_ne
  have hm : (roadN l inner k).getLastD 0 ∈ roadN l inner k := by
    rw [List.getLastD_eq_getLast?, List.getLast?_eq_some_getLast hne]
    exact List.getLast_mem hne
  have := (way_pos W).mpr (road_rch W hk hm)
  exact ⟨road_last W hk, hm, by omega⟩
/-- a kind with two children has more than each of them -/
theorem way_strict {u c : Nat} (hu : u < l + inner.length) (hc : c ∈ kidsAt l inner u) (h2 : 2 ≤ (kidsAt l inner u).length) : ∃ x, x < l ∧ way (kidsAt l inner) x c < way (kidsAt l inner) x u := by
  have hlu : l ≤ u := by
    refine Classical.byContradiction fun z => ?_
    rw [show kidsAt l inner u = [] from if_pos (by omega)] at hc
    cases hc
  have hnd : (kidsAt l inner u).Nodup := W.nd _ (kidsAt_inner hlu hu)
  obtain ⟨d, hd, hdc⟩ : ∃ d ∈ kidsAt l inner u, c ≠ d := by
    cases e : kidsAt l inner u with
    | nil =>
      rw [e] at hc
      cases hc
    | cons a r =>
      rw [e] at h2 hnd
      cases r with
      | nil => simp at h2
      | cons b r =>
        rw [List.nodup_cons] at hnd
        by_cases z : c = a
        · exact ⟨b, by simp, fun y => hnd.1 (by rw [← z, y]; exact List.mem_cons_self ..)⟩
        · exact ⟨a, by simp, z⟩
  have hdl := (kidsAt_lt W.raw hd).1
  obtain ⟨h3, _, h4⟩ := leafof W hdl
  refine ⟨_, h3, ?_⟩
  rw [way_rec (hdN W u), if_neg (by omega), Int.add_zero]
  have := sum_two (f := way (kidsAt l inner) ((roadN l inner d).getLastD 0)) (fun k => way_nn (hdN W) k) hdc hc hd
  have h5 := way_nn (to := (roadN l inner d).getLastD 0) (hdN W) c
  omega
theorem rch_step {k t : Nat} (h : Rch (kkOf l inner) k t) (hn : t ≠ k) : ∃ c ∈ kidsAt l inner k, Rch (kkOf l inner) c t := by
  have := h (fun y => y = k ∨ ∃ c ∈ kidsAt l inner k, Rch (kkOf l inner) c y) (.inl rfl) fun u c hu hc => by
    rcases hu with rfl | ⟨d, hd, hdu⟩
    · rw [rowAt_kk] at hc
      exact .inr ⟨c, hc, rch_self⟩
    · exact .inr ⟨d, hd, rch_shut u c hdu hc⟩
  rcases this with e | e
  · exact absurd e hn
  · exact e
theorem rch_in {k t : Nat} (hk : k < l + inner.length) (h : Rch (kkOf l inner) k t) : t < l + inner.length := by
  have := rch_le (hdK W) h
  omega
/-- equal rows: a mixing and its child -/
theorem eq_child {k t : Nat} (hk : k < l + inner.length) (h : Rch (kkOf l inner) k t) (hn : t ≠ k) (he : ∀ x, x < l → way (kidsAt l inner) x t = way (kidsAt l inner) x k) : 1 < (parsAt l inner k).length ∧ kidsAt l inner k = [t] := by
  obtain ⟨c, hc, hct⟩ := rch_step W h hn
  have hlk : l ≤ k := by
    refine Classical.byContradiction fun z => ?_
    rw [show kidsAt l inner k = [] from if_pos (by omega)] at hc
    cases hc
  have no2 : ∀ {u d : Nat}, u < l + inner.length → Rch (kkOf l inner) k u → d ∈ kidsAt l inner u → Rch (kkOf l inner) d t → ¬ 2 ≤ (kidsAt l inner u).length := fun {u d} hu hku hd hdt h2 => by
    obtain ⟨x, hx, hlt⟩ := way_strict W hu hd h2
    have h3 := way_mono W (x := x) hdt
    have h4 := way_mono W (x := x) hku
    have := he x hx
    omega
  have hp : 1 < (parsAt l inner k).length := by
    refine Classical.byContradiction fun z => ?_
    exact no2 hk rch_self hc hct (W.one k hlk hk (by omega))
  have h1 := W.mix k hk hp
  obtain ⟨a, ha⟩ := List.length_eq_one_iff.mp h1
  rw [ha] at hc
  have hca := List.mem_singleton.mp hc
  subst hca
  refine ⟨hp, ?_⟩
  rw [ha]
  by_cases z : t = c
  · rw [z]
  · obtain ⟨d, hd, hdt⟩ := rch_step W hct z
    have hck : c ∈ kidsAt l inner k := by rw [ha]; exact List.mem_singleton.mpr rfl
    have hcl := (kidsAt_lt W.raw hck).1
    have hlc : l ≤ c := by
      refine Classical.byContradiction fun y => ?_
      rw [show kidsAt l inner c = [] from if_pos (by omega)] at hd
      cases hd
    obtain ⟨e, he1, he2⟩ := W.bare k hlk hk
    rw [ha] at he1
    rw [List.mem_singleton.mp he1] at he2
    exact absurd (W.one c hlc hcl he2) (no2 hcl (rch_kid W hck) hd hdt)
theorem child_eq {k t x : Nat} (hx : x < l) (h : kidsAt l inner k = [t]) : way (kidsAt l inner) x k = way (kidsAt l inner) x t := by
  have hlk : l ≤ k := by
    refine Classical.byContradiction fun z => ?_
    rw [show kidsAt l inner k = [] from if_pos (by omega)] at h
    cases h
  rw [way_rec (hdN W k), if_neg (by omega), Int.add_zero, h]
  simp
/-- where no number is above: beneath, or above -/
theorem below_or {k t : Nat} (hk : k < l + inner.length) (ht : t < l + inner.length) (hb : ∀ x, x < l → way (kidsAt l inner) x t ≤ way (kidsAt l inner) x k) : Rch (kkOf l inner) k t ∨ Rch (kkOf l inner) t k := by
  obtain ⟨h1, h2, h3⟩ := leafof W ht
  have h4 := hb _ h1
  have h5 := (way_pos W).mp (show 0 < way (kidsAt l inner) ((roadN l inner t).getLastD 0) k by omega)
  refine Classical.byContradiction fun z => ?_
  have z1 : ¬ Rch (kkOf l inner) k t := fun y => z (.inl y)
  have z2 : k ∉ roadN l inner t := fun y => z (.inr (road_rch W ht y))
  have hle := roadN_le W ht
  have := h5 (fun y => Rch (kkOf l inner) k y ∧ y ∉ roadN l inner t) ⟨rch_self, z2⟩ fun u c hu hc => by
    refine ⟨rch_shut u c hu.1 hc, fun hcr => ?_⟩
    have hkc : Rch (kkOf l inner) k c := rch_shut u c hu.1 hc
    have hct : c ≠ t := fun y => z1 (y ▸ hkc)
    rw [rowAt_kk] at hc
    obtain ⟨p, hp, hpc, hp1⟩ := roadL_par (b := t) (q := fun p x => x ∈ kidsAt l inner p ∧ (parsAt l inner x).length ≤ 1) (fun u a b => nxt_lt W a (by omega)) (fun u a b => nxt_ok W a (by omega)) (Nat.le_refl t) c hcr hct
    have hp' : p < l + inner.length := by have := hle p hp; omega
    have m1 : u ∈ parsAt l inner c := mem_pars.mpr ⟨rch_in W hk hu.1, hc⟩
    have m2 : p ∈ parsAt l inner c := mem_pars.mpr ⟨hp', hpc⟩
    have : u = p := by
      cases e : parsAt l inner c with
      | nil =>
        rw [e] at m1
        cases m1
      | cons a r =>
        rw [e] at hp1 m1 m2
        have hr : r = [] := List.length_eq_zero_iff.mp (by rw [List.length_cons] at hp1; omega)
        subst hr
        rw [List.mem_singleton.mp m1, List.mem_singleton.mp m2]
    exact hu.2 (this ▸ hp)
  exact this.2 h2
end
theorem rowI_le {l k t : Nat} {inner : List (List Nat)} : (∀ x, x < l → way (kidsAt l inner) x t = way (kidsAt l inner) x k) ↔ rowI l inner t = rowI l inner k := by
  unfold rowI
  constructor
  · intro h
    exact List.map_congr_left fun x hx => h x (List.mem_range.mp hx)
  · intro h x hx
    have := congrArg (fun l => l[x]?) h
    simp only [List.getElem?_map, List.getElem?_range hx] at this
    exact Option.some.inj this
def mixB (l : Nat) (inner : List (List Nat)) (k t : Nat) : Bool := decide ((1 : Int) < ((parsAt l inner k).length : Int)) && decide (kidsAt l inner k = [t])
def belowB (l : Nat) (inner : List (List Nat)) (t k : Nat) : Bool := (List.range l).all fun x => decide (way (kidsAt l inner) x t ≤ way (kidsAt l inner) x k)
theorem mixB_iff {l k t : Nat} {inner : List (List Nat)} : mixB l inner k t = true ↔ 1 < (parsAt l inner k).length ∧ kidsAt l inner k = [t] := by
  unfold mixB
  rw [Bool.and_eq_true, decide_eq_true_iff, decide_eq_true_iff]
  exact ⟨fun h => ⟨by have := h.1; omega, h.2⟩, fun h => ⟨by have := h.1; omega, h.2⟩⟩
theorem belowB_iff {l k t : Nat} {inner : List (List Nat)} : belowB l inner t k = true ↔ ∀ x, x < l → way (kidsAt l inner) x t ≤ way (kidsAt l inner) x k := by
  unfold belowB
  rw [List.all_eq_true]
  exact ⟨fun h x hx => of_decide_eq_true (h x (List.mem_range.mpr hx)), fun h x hx => decide_eq_true (h x (List.mem_range.mp hx))⟩
theorem beneath_rows {l k t : Nat} {inner : List (List Nat)} (W : WebP l inner) (hk : k < l + inner.length) (ht : t < l + inner.length) (hn : t ≠ k) :
    decide (t ∈ benL l inner k) = (belowB l inner t k && (!decide (rowI l inner t = rowI l inner k) || mixB l inner k t)) := by
  rw [Bool.eq_iff_iff, decide_eq_true_iff, Bool.and_eq_true, Bool.or_eq_true, Bool.not_eq_true', decide_eq_false_iff_not, belowB_iff, mixB_iff, mem_ben W]
  constructor
  · rintro ⟨h1, h2⟩
    refine ⟨fun x hx => way_mono W h2, ?_⟩
    by_cases z : rowI l inner t = rowI l inner k
    · exact .inr (eq_child W hk h2 hn (rowI_le.mpr z))
    · exact .inl z
  · rintro ⟨h1, h2⟩
    rcases h2 with h2 | h2
    · rcases below_or W hk ht h1 with h | h
      · have := rch_le (hdK W) h
        exact ⟨by omega, h⟩
      · refine absurd (rowI_le.mp fun x hx => ?_) h2
        have a := h1 x hx
        have b := way_mono W (x := x) h
        omega
    · have hm : t ∈ kidsAt l inner k := by rw [h2.2]; exact List.mem_singleton.mpr rfl
      exact ⟨(kidsAt_lt W.raw hm).2, rch_kid W hm⟩
theorem equal_rows {l k t : Nat} {inner : List (List Nat)} (W : WebP l inner) (hk : k < l + inner.length) (ht : t < l + inner.length) (hn : t ≠ k) :
    decide (rowI l inner t = rowI l inner k) = (mixB l inner k t || mixB l inner t k) := by
  rw [Bool.eq_iff_iff, decide_eq_true_iff, Bool.or_eq_true, mixB_iff, mixB_iff]
  constructor
  · intro h
    have h1 := rowI_le.mpr h
    rcases below_or W hk ht fun x hx => Int.le_of_eq (h1 x hx) with h2 | h2
    · exact .inl (eq_child W hk h2 hn h1)
    · exact .inr (eq_child W ht h2 (Ne.symm hn) fun x hx => (h1 x hx).symm)
  · intro h
    refine rowI_le.mp fun x hx => ?_
    rcases h with h | h
    · exact (child_eq W hx h.2).symm
    · exact child_eq W hx h.2
end WR
set_option Elab.async false
set_option linter.all false
set_option maxRecDepth 100000
set_option maxHeartbeats 1000000
namespace WR
open PySem PySem.Spec PyProof.Rows L2 Evl

/-! ### sorted of rows -/
theorem code_inj {B : Int} : ∀ {a b : List Int}, a.length = b.length → TS.Bd B a → TS.Bd B b → TS.code B a = TS.code B b → a = b
  | [], [], _, _, _, _ => rfl
  | [], _ :: _, h, _, _, _ => by cases h
  | _ :: _, [], h, _, _, _ => by cases h
  | x :: a, y :: b, hl, h1, h2, he => by
    have hl' : a.length = b.length := by simpa using hl
    rcases Int.lt_trichotomy x y with z | z | z
    · have := TS.code_lt hl' h1.tail h2.tail z
      omega
    · subst z
      have e : TS.code B a = TS.code B b := by
        rcases Int.lt_trichotomy (TS.code B a) (TS.code B b) with y | y | y
        · have := (TS.code_same (B := B) (d := x) hl').mpr y
          omega
        · exact y
        · have := (TS.code_same (B := B) (d := x) hl'.symm).mpr y
          omega
      rw [code_inj hl' h1.tail h2.tail e]
    · have := TS.code_lt hl'.symm h2.tail h1.tail z
      omega
def bigB : Int := 1000000000000000000000000000000000000000000000
def keyR (r : List Int) : Int := TS.code bigB r
def insR (x : List Int) : List (List Int) → List (List Int)
  | [] => [x]
  | y :: r => if keyR x ≤ keyR y then x :: y :: r else y :: insR x r
def srtR : List (List Int) → List (List Int)
  | [] => []
  | x :: r => insR x (srtR r)
theorem insR_perm (x : List Int) : ∀ l, (insR x l).Perm (x :: l)
  | [] => List.Perm.refl _
  | y :: r => by
    unfold insR
    split
    · exact List.Perm.refl _
    · exact ((insR_perm x r).cons y).trans (List.Perm.swap x y r)
theorem srtR_perm : ∀ l, (srtR l).Perm l
  | [] => List.Perm.refl _
  | x :: r => (insR_perm x _).trans ((srtR_perm r).cons x)
theorem insR_sorted (x : List Int) : ∀ l : List (List Int), l.Pairwise (fun a b => keyR a ≤ keyR b) → (insR x l).Pairwise fun a b => keyR a ≤ keyR b
  | [], _ => by simp [insR]
  | y :: r, h => by
    rw [List.pairwise_cons] at h
    unfold insR
    split
    · rename_i hxy
      refine List.pairwise_cons.mpr ⟨fun a ha => ?_, List.pairwise_cons.mpr h⟩
      rcases List.mem_cons.mp ha with rfl | ha
      · exact hxy
      · have := h.1 a ha
        omega
    · rename_i hxy
      refine List.pairwise_cons.mpr ⟨fun a ha => ?_, insR_sorted x r h.2⟩
      rcases List.mem_cons.mp ((insR_perm x r).mem_iff.mp ha) with rfl | ha
      · omega
      · exact h.1 a ha
theorem srtR_sorted : ∀ l, (srtR l).Pairwise fun a b => keyR a ≤ keyR b
  | [] => List.Pairwise.nil
  | x :: r => insR_sorted x _ (srtR_sorted r)
theorem map_inj_on {α β : Type} {f : α → β} {p : α → Prop} (hf : ∀ a b, p a → p b → f a = f b → a = b) : ∀ {l m : List α}, (∀ a ∈ l, p a) → (∀ a ∈ m, p a) → l.map f = m.map f → l = m
  | [], [], _, _, _ => rfl
  | [], _ :: _, _, _, h => by cases h
  | _ :: _, [], _, _, h => by cases h
  | a :: l, b :: m, h1, h2, h => by
    rw [List.map_cons, List.map_cons] at h
    injection h with ha hr
    rw [hf a b (h1 a (List.mem_cons_self ..)) (h2 b (List.mem_cons_self ..)) ha, map_inj_on hf (fun x hx => h1 x (List.mem_cons_of_mem _ hx)) (fun x hx => h2 x (List.mem_cons_of_mem _ hx)) hr]
/-- rows of one length, their numbers not below 0 and not too great -/
def RowOk (d : Nat) (r : List Int) : Prop := r.length = d ∧ TS.Bd bigB r
theorem srt_one {d : Nat} {a b : List (List Int)} (hp : a.Perm b) (ha : a.Pairwise fun x y => keyR x ≤ keyR y) (hb : b.Pairwise fun x y => keyR x ≤ keyR y) (hok : ∀ r ∈ b, RowOk d r) : a = b := by
  refine map_inj_on (f := keyR) (p := RowOk d) (fun x y h1 h2 h => code_inj (by rw [h1.1, h2.1]) h1.2 h2.2 h) (fun r hr => hok r (hp.mem_iff.mp hr)) hok ?_
  exact sorted_one (hp.map _) (List.pairwise_map.mpr ha) (List.pairwise_map.mpr hb)
theorem srtR_of_perm {d : Nat} {a b : List (List Int)} (hp : a.Perm b) (hok : ∀ r ∈ b, RowOk d r) : srtR a = srtR b :=
  srt_one (((srtR_perm a).trans hp).trans (srtR_perm b).symm) (srtR_sorted a) (srtR_sorted b) fun r hr => hok r ((srtR_perm b).mem_iff.mp hr)
theorem dpAll_perm {K : PySem.W.Frag} {H : Hp} {xs ys : List V} (hp : ys.Perm xs) : ∀ {rows : List (List Int)}, DpAll K H xs (rows.map tupI) → ∃ rows' : List (List Int), rows'.Perm rows ∧ DpAll K H ys (rows'.map tupI) := by
  induction hp with
  | nil => exact fun {rows} h => ⟨rows, List.Perm.refl _, h⟩
  | cons x _ ih =>
    intro rows h
    cases rows with
    | nil => cases h
    | cons r rs =>
      cases h with
      | cons a b =>
        obtain ⟨rs', h1, h2⟩ := ih b
        exact ⟨r :: rs', h1.cons r, .cons a h2⟩
  | swap x y l =>
    intro rows h
    cases rows with
    | nil => cases h
    | cons r rs =>
      cases h with
      | cons a b =>
        cases rs with
        | nil => cases b
        | cons q qs =>
          cases b with
          | cons c d => exact ⟨q :: r :: qs, List.Perm.swap r q qs, .cons c (.cons a d)⟩
  | trans _ _ ih1 ih2 =>
    intro rows h
    obtain ⟨r1, h1, h2⟩ := ih2 h
    obtain ⟨r2, h3, h4⟩ := ih1 h2
    exact ⟨r2, h3.trans h1, h4⟩
theorem tupI_of {K : PySem.W.Frag} {H : Hp} {v : V} {r : List Int} (h : Dp K H v (tupI r)) : TupI K H v r := by
  obtain ⟨a, xs, rfl, hs, hd⟩ := dp_tup h
  rw [ints_of hd] at hs
  exact ⟨a, rfl, hs⟩
theorem pw_rows {K : PySem.W.Frag} {H : Hp} : ∀ {ys : List V} {rows : List (List Int)}, DpAll K H ys (rows.map tupI) → ys.Pairwise (fun x y => ∀ n m, TupI K H x n → TupI K H y m → TS.code bigB n ≤ TS.code bigB m) → rows.Pairwise fun a b => keyR a ≤ keyR b
  | _, [], h, _ => List.Pairwise.nil
  | _, r :: rs, h, hp => by
    cases h with
    | cons a b =>
      rw [List.pairwise_cons] at hp
      refine List.pairwise_cons.mpr ⟨fun q hq => ?_, pw_rows b hp.2⟩
      obtain ⟨i, hi⟩ := List.mem_iff_getElem?.mp (List.mem_map_of_mem (f := tupI) hq)
      obtain ⟨v, hv, hd⟩ := dpAll_at' b hi
      exact hp.1 v (List.mem_of_getElem? hv) r q (tupI_of a) (tupI_of hd)
def rSortE (K : PySem.W.Frag) : List V → Hp → VK → Prop := fun vs H Q => ∃ d B, 1 ≤ d ∧ rSortU K d B vs H Q
theorem cr_sortE {X : Cx} : CallR X (.builtin "sorted") (rSortE X.K) := by
  intro pins s σ H vs us Q I r h
  obtain ⟨d, B, hd, h⟩ := h
  exact cr_sortT hd pins s σ H vs us Q I r h
theorem en_sortR {K : PySem.W.Frag} {σ : L2.St} {H : Hp} {te : TE} {rows : List (List Int)} {d : Nat} (h : EvD K te σ H (.list (rows.map tupI))) (h64 : rows.length < 64) (hd : 1 ≤ d) (hok : ∀ r ∈ rows, RowOk d r) :
    EvN K (tCB (rSortE K) (tCons te tNil)) σ H ((srtR rows).map tupI) := fun H1 e Q q =>
  h H1 e _ fun v H2 e2 hv => by
    obtain ⟨a, xs, rfl, hs, hdd⟩ := dp_lst hv
    refine ⟨d, bigB, hd, a, xs, rfl, hs, by rw [dpAll_len hdd, List.length_map]; exact h64, fun x hx => ?_, fun ys p hperm hsort hp => ?_⟩
    · obtain ⟨i, hi⟩ := List.mem_iff_getElem?.mp hx
      obtain ⟨d', hd', hdx⟩ := dpAll_at hdd hi
      rw [List.getElem?_map] at hd'
      obtain ⟨r, hr, rfl⟩ := Option.map_eq_some_iff.mp hd'
      have := hok r (List.mem_of_getElem? hr)
      exact ⟨r, tupI_of hdx, this.1, this.2⟩
    · obtain ⟨rows', h1, h2⟩ := dpAll_perm hperm hdd
      have h3 := pw_rows h2 hsort
      have e3 : rows' = srtR rows := srt_one (h1.trans (srtR_perm rows).symm) h3 (srtR_sorted rows) fun r hr => hok r ((srtR_perm rows).mem_iff.mp hr)
      rw [e3] at h2
      exact q p ys _ (fresh_back e2 hp) (e2.trans (Ex.new hp)) upd_same (dpAll_ex (Ex.new hp) _ h2)
/-! lots -/
def rowsI (l : Nat) (inner : List (List Nat)) : List (List Int) := (List.range (l + inner.length)).map (rowI l inner)
theorem rowsD_eq {l : Nat} {inner : List (List Nat)} : rowsD l inner (l + inner.length) = (rowsI l inner).map tupI := by
  unfold rowsD rowsI
  rw [List.map_map]
  rfl
theorem rowI_ok {l : Nat} {inner : List (List Nat)} (hw : Raw l inner) {k : Nat} (hk : k < l + inner.length) : RowOk l (rowI l inner k) := by
  refine ⟨by unfold rowI; rw [List.length_map, List.length_range], fun m hm => ?_⟩
  unfold rowI at hm
  obtain ⟨x, _, rfl⟩ := List.mem_map.mp hm
  have h8 := hw.l8
  have h20 := hw.n20
  have hd : ∀ u c, c ∈ kidsAt l inner u → c < u := fun u c h => (kidsAt_lt hw h).2
  refine ⟨way_nn hd k, ?_⟩
  have h2 := way_le (to := x) hd (B := 30) (fun u => kl30 hw) k
  have h3 : (30 + 1) ^ k ≤ (30 + 1) ^ 28 := Nat.pow_le_pow_right (by decide) (by omega)
  have h4 : (30 + 1) ^ 28 < 1000000000000000000000000000000000000000000000 := by decide
  show way (kidsAt l inner) x k < 1000000000000000000000000000000000000000000000
  generalize (30 + 1) ^ k = a at h2 h3
  generalize (30 + 1) ^ 28 = b at h3 h4
  omega
theorem rowsI_ok {l : Nat} {inner : List (List Nat)} (hw : Raw l inner) : ∀ r ∈ rowsI l inner, RowOk l r := fun r hr => by
  obtain ⟨k, hk, rfl⟩ := List.mem_map.mp hr
  exact rowI_ok hw (List.mem_range.mp hk)
def lotD (l : Nat) (inner : List (List Nat)) : PyData := .tuple ((srtR (rowsI l inner)).map tupI)
theorem sm_rowI {l k : Nat} {inner : List (List Nat)} (hw : Raw l inner) (hk : k < l + inner.length) : Sm 1300 1 (tupI (rowI l inner k)) := by
  have h8 := hw.l8
  unfold tupI rowI
  refine (sm_tup (w := 150) (dp := 0) (n := 8) (fun d hd => ?_) (by rw [List.length_map, List.length_map, List.length_range]; exact h8)).up (by decide) (by decide)
  rw [List.map_map] at hd
  obtain ⟨x, _, rfl⟩ := List.mem_map.mp hd
  exact way_small hw hk
theorem srtR_len (l : List (List Int)) : (srtR l).length = l.length := (srtR_perm l).length_eq
theorem sm_lot {l : Nat} {inner : List (List Nat)} (hw : Raw l inner) : Sm 36428 2 (lotD l inner) := by
  have h8 := hw.l8
  have h20 := hw.n20
  refine (sm_tup (w := 1300) (dp := 1) (n := 28) (fun d hd => ?_) (by rw [List.length_map, srtR_len]; unfold rowsI; rw [List.length_map, List.length_range]; omega)).up (by decide) (by decide)
  obtain ⟨r, hr, rfl⟩ := List.mem_map.mp hd
  obtain ⟨k, hk, rfl⟩ := List.mem_map.mp ((srtR_perm _).mem_iff.mp hr)
  exact sm_rowI hw (List.mem_range.mp hk)
end WR
set_option Elab.async false
set_option linter.all false
set_option maxRecDepth 100000
set_option maxHeartbeats 1000000
namespace WR
open PySem PySem.Spec PyProof.Rows L2 Evl

/-! ### a web numbered otherwise has the same lot -/
theorem sum_perm {a b : List Int} (h : a.Perm b) : a.sum = b.sum := by
  induction h with
  | nil => rfl
  | cons x _ ih => rw [List.sum_cons, List.sum_cons, ih]
  | swap x y l =>
    rw [List.sum_cons, List.sum_cons, List.sum_cons, List.sum_cons]
    omega
  | trans _ _ h1 h2 => exact h1.trans h2
theorem itemOf_sum {K : Nat → List Nat} {od : List Nat} {u : Nat} (f : Nat → Int) : ((itemOf K od u).map f).sum = ((K u).map fun c => f (plc c od)).sum := by
  unfold itemOf
  rw [List.map_map]
  rw [sum_perm ((sortI_perm ((K u).map fun c => ((plc c od : Nat) : Int))).map _), List.map_map]
  congr 1
structure Nb (kk : List (List Nat)) (L : Nat) (inner : List (List Nat)) (od : List Nat) : Prop where
  gen : Gen L kk.length (rowAt kk)
  ord : Ord L kk.length (rowAt kk) od
  len : od.length = kk.length
  inn : inner = (od.drop L).map (itemOf (rowAt kk) od)
section
variable {kk : List (List Nat)} {L : Nat} {inner : List (List Nat)} {od : List Nat} (h : Nb kk L inner od)
include h
theorem Nb.n : L + inner.length = kk.length := by
  have := h.ord.len
  have := h.len
  rw [h.inn, List.length_map, List.length_drop]
  omega
theorem Nb.at {j : Nat} (hj : j < kk.length) : od[j]? = some (od.getD j 0) := by
  rw [List.getD_eq_getElem?_getD, List.getElem?_eq_getElem (by rw [h.len]; exact hj)]
  rfl
theorem Nb.perm : od.Perm (List.range kk.length) := by
  refine (List.perm_ext_iff_of_nodup h.ord.nd List.nodup_range).mpr fun a => ⟨fun ha => List.mem_range.mpr (h.ord.lt a ha), fun ha => ?_⟩
  have ha := List.mem_range.mp ha
  refine Classical.byContradiction fun z => ?_
  have := nodup_len kk.length (a :: od) (List.nodup_cons.mpr ⟨z, h.ord.nd⟩) (fun c hc => by
    rcases List.mem_cons.mp hc with rfl | hc
    · exact ha
    · exact h.ord.lt c hc)
  rw [List.length_cons, h.len] at this
  omega
theorem Nb.map : od = (List.range kk.length).map fun j => od.getD j 0 := by
  refine List.ext_getElem? fun j => ?_
  by_cases z : j < kk.length
  · rw [h.at z, List.getElem?_map, List.getElem?_range z]
    rfl
  · rw [List.getElem?_eq_none (by rw [h.len]; omega), List.getElem?_eq_none (by rw [List.length_map, List.length_range]; omega)]
theorem Nb.mem {u : Nat} (hu : u < kk.length) : u ∈ od := h.perm.mem_iff.mpr (List.mem_range.mpr hu)
theorem Nb.plc {u : Nat} (hu : u < kk.length) : plc u od < kk.length ∧ od.getD (plc u od) 0 = u := by
  have a := plc_lt (h.mem hu)
  have b := plc_get (h.mem hu)
  rw [h.len] at a
  refine ⟨a, ?_⟩
  rw [h.at a] at b
  exact Option.some.inj b
theorem Nb.kids {j : Nat} (hj : j < kk.length) : kidsAt L inner j = itemOf (rowAt kk) od (od.getD j 0) := by
  by_cases z : j < L
  · rw [show kidsAt L inner j = [] from if_pos z]
    have e : od.getD j 0 = j := by
      have := h.at hj
      rw [h.ord.lf j z] at this
      exact (Option.some.inj this).symm
    rw [e]
    unfold itemOf
    rw [h.gen.leaf j z]
    rfl
  · unfold kidsAt
    rw [if_neg z, List.getD_eq_getElem?_getD, h.inn, List.getElem?_map, List.getElem?_drop, show L + (j - L) = j by omega, h.at hj]
    rfl
theorem Nb.leaf {u x : Nat} (hu : u < kk.length) (hx : x < L) : WR.plc u od = x ↔ u = x := by
  have h1 := h.ord.lf x hx
  constructor
  · intro e
    have b := plc_get (h.mem hu)
    rw [e, h1] at b
    exact (Option.some.inj b).symm
  · rintro rfl
    exact plc_at h.ord.nd h1
theorem Nb.way {u x : Nat} (hd : ∀ u c, c ∈ kidsAt L inner u → c < u) (hu : u < kk.length) (hx : x < L) : way (kidsAt L inner) x (WR.plc u od) = ((rowAt kk u).map fun c => WR.way (kidsAt L inner) x (WR.plc c od)).sum + if u = x then 1 else 0 := by
  obtain ⟨a, b⟩ := h.plc hu
  rw [way_rec (hd _), h.kids a, b, itemOf_sum]
  have := h.leaf hu hx
  by_cases z : u = x
  · rw [if_pos (this.mpr z), if_pos z]
  · rw [if_neg fun y => z (this.mp y), if_neg z]
end
theorem ways_same {kk : List (List Nat)} {L : Nat} {i1 i2 : List (List Nat)} {o1 o2 : List Nat} (h1 : Nb kk L i1 o1) (h2 : Nb kk L i2 o2) (d1 : ∀ u c, c ∈ kidsAt L i1 u → c < u) (d2 : ∀ u c, c ∈ kidsAt L i2 u → c < u) {x : Nat} (hx : x < L) :
    ∀ u, u < kk.length → way (kidsAt L i1) x (plc u o1) = way (kidsAt L i2) x (plc u o2) := by
  obtain ⟨r, hr⟩ := h1.gen.rk
  have key : ∀ m u, r u < m → u < kk.length → way (kidsAt L i1) x (plc u o1) = way (kidsAt L i2) x (plc u o2) := fun m => by
    induction m with
    | zero => exact fun u h _ => absurd h (Nat.not_lt_zero _)
    | succ m ih =>
      intro u hm hu
      rw [h1.way d1 hu hx, h2.way d2 hu hx]
      congr 2
      exact List.map_congr_left fun c hc => ih c (by have := hr u c hc; omega) (h1.gen.lt u c hc)
  exact fun u hu => key (r u + 1) u (Nat.lt_succ_self _) hu
theorem rows_od {kk : List (List Nat)} {L : Nat} {inner : List (List Nat)} {od : List Nat} (h : Nb kk L inner od) : rowsI L inner = od.map fun u => rowI L inner (plc u od) := by
  unfold rowsI
  conv => rhs; rw [h.map]
  rw [h.n, List.map_map]
  refine List.map_congr_left fun j hj => ?_
  have hj := List.mem_range.mp hj
  show rowI L inner j = rowI L inner (plc (od.getD j 0) _)
  congr 1
  have e := h.map
  rw [← e]
  exact (plc_at h.ord.nd (h.at hj)).symm
theorem rows_perm {kk : List (List Nat)} {L : Nat} {i1 i2 : List (List Nat)} {o1 o2 : List Nat} (h1 : Nb kk L i1 o1) (h2 : Nb kk L i2 o2) (w1 : Raw L i1) (w2 : Raw L i2) : (rowsI L i1).Perm (rowsI L i2) := by
  have d1 : ∀ u c, c ∈ kidsAt L i1 u → c < u := fun u c h => (kidsAt_lt w1 h).2
  have d2 : ∀ u c, c ∈ kidsAt L i2 u → c < u := fun u c h => (kidsAt_lt w2 h).2
  rw [rows_od h1, rows_od h2]
  have e : (o1.map fun u => rowI L i1 (plc u o1)) = o1.map fun u => rowI L i2 (plc u o2) := List.map_congr_left fun u hu => by
    have hu := h1.ord.lt u hu
    unfold rowI
    refine List.map_congr_left fun x hx => ways_same h1 h2 d1 d2 (List.mem_range.mp hx) u hu
  rw [e]
  exact (h1.perm.trans h2.perm.symm).map _
theorem lot_same {kk : List (List Nat)} {L : Nat} {i1 i2 : List (List Nat)} (h1 : NumD kk L i1) (h2 : NumD kk L i2) (w1 : Raw L i1) (w2 : Raw L i2) : lotD L i1 = lotD L i2 := by
  obtain ⟨o1, a1, _, b1, c1, e1⟩ := h1
  obtain ⟨o2, a2, _, b2, c2, e2⟩ := h2
  unfold lotD
  rw [srtR_of_perm (rows_perm ⟨a1, b1, c1, e1⟩ ⟨a2, b2, c2, e2⟩ w1 w2) (rowsI_ok w2)]
/-! a heap without some lists -/
def remS (H : Hp) : List Addr → Hp
  | [] => H
  | a :: ls => rem (remS H ls) a
theorem remS_in {H : Hp} {q : Addr} : ∀ {ls : List Addr}, q ∈ ls → remS H ls q = none
  | a :: ls, h => by
    show rem (remS H ls) a q = none
    by_cases z : q = a
    · rw [z, rem_self]
    · rw [rem_ne z]
      rcases List.mem_cons.mp h with h | h
      · exact absurd h z
      · exact remS_in h
theorem remS_ne {H : Hp} {q : Addr} : ∀ {ls : List Addr}, q ∉ ls → remS H ls q = H q
  | [], _ => rfl
  | a :: ls, h => by
    show rem (remS H ls) a q = H q
    rw [rem_ne fun z => h (by rw [z]; exact List.mem_cons_self ..)]
    exact remS_ne fun z => h (List.mem_cons_of_mem _ z)
theorem dp_remS {K : PySem.W.Frag} {H : Hp} {v : V} {d : PyData} (n : nl d = true) (h : Dp K H v d) : ∀ {ls : List Addr}, (∀ a ∈ ls, ∃ ys, H a = some (.lst ys)) → Dp K (remS H ls) v d
  | [], _ => h
  | a :: ls, hl => by
    have ih := dp_remS n h (ls := ls) fun x hx => hl x (List.mem_cons_of_mem _ hx)
    show Dp K (rem (remS H ls) a) v d
    by_cases z : a ∈ ls
    · have e : rem (remS H ls) a = remS H ls := by
        funext q
        by_cases y : q = a
        · rw [y, rem_self, remS_in z]
        · rw [rem_ne y]
      rw [e]
      exact ih
    · obtain ⟨ys, hy⟩ := hl a (List.mem_cons_self ..)
      exact dp_rem (ys := ys) (by rw [remS_ne z]; exact hy) d n ih
theorem q_parD {K : PySem.W.Frag} {σ : L2.St} {H : Hp} {D : Ends} {tz : TS} {i j : Nat} {ta tb : TE} {x : V} {d : PyData} (h1 : Ev ta σ H x) (h2 : ∀ H1, Ex H H1 → EvD K tb σ H1 d) (k : ∀ y H1, Ex H H1 → Dp K H1 y d → tz D ((σ.set i (some x)).set j (some y)) H1) : tSeq (tPar i j (tCons ta (tCons tb tNil))) tz D σ H :=
  h1 H (Ex.refl H) _ fun H1 e1 => h2 H1 e1 H1 (Ex.refl _) _ fun y H2 e2 hy => ⟨_, _, rfl, k y H2 (e1.trans e2) hy⟩
end WR
set_option Elab.async false
set_option linter.all false
set_option maxRecDepth 100000
set_option maxHeartbeats 1000000
namespace WR
open PySem PySem.Spec PyProof.Rows L2 Evl

/-! ### forms: the mathematics -/
theorem WebP.gen {l : Nat} {inner : List (List Nat)} (W : WebP l inner) : Gen l (kkOf l inner).length (rowAt (kkOf l inner)) := by
  have hw := W.raw
  have h1 := hw.l1
  rw [rowAt_kkE, kkOf_len]
  have hcnt : ∀ k, cnt (kidsAt l inner) k (l + inner.length) = (parsAt l inner k).length := fun k => by
    rw [cnt_count]
    unfold parsAt
    rw [← List.countP_eq_length_filter]
  have hout : ∀ u, l + inner.length ≤ u → kidsAt l inner u = [] := fun u h => by
    unfold kidsAt
    rw [if_neg (by omega), List.getD_eq_getElem?_getD, List.getElem?_eq_none (by omega)]
    rfl
  refine ⟨h1, by omega, hout, fun u h => kidsAt_leaf h, fun u c h => (kidsAt_lt hw h).1, fun u => ?_, ⟨id, fun u c h => (kidsAt_lt hw h).2⟩, fun u a b _ h => ?_, fun u h => ?_, fun u h => ?_, fun u a b => ?_, ⟨topN l inner, by unfold topN; omega, fun k hk => ?_⟩⟩
  · by_cases z : u < l
    · rw [kidsAt_leaf z]
      exact List.nodup_nil
    · by_cases y : u < l + inner.length
      · exact W.nd _ (kidsAt_inner (by omega) y)
      · rw [hout u (by omega)]
        exact List.nodup_nil
  · rw [hcnt] at h
    exact W.one u a b h
  · rw [hcnt] at h
    refine W.mix u ?_ h
    cases e : parsAt l inner u with
    | nil =>
      rw [e] at h
      simp at h
    | cons p r =>
      have hp : p ∈ parsAt l inner u := by rw [e]; exact List.mem_cons_self ..
      exact (kidsAt_lt hw (mem_pars.mp hp).2).1
  · rw [hcnt]
    exact W.lf1 u h
  · obtain ⟨c, hc, hp⟩ := W.bare u a b
    rw [← hcnt] at hp
    exact ⟨c, hc, hp, by have := (kidsAt_lt hw hc).1; omega⟩
  · rw [hcnt, List.length_eq_zero_iff, W.root k hk]
    unfold topN
    omega
/-! order -/
theorem lex_snoc : ∀ {a b : List Int} {x y : Int}, a.length = b.length → HT.lexLt (a ++ [x]) (b ++ [y]) = if a = b then decide (x < y) else HT.lexLt a b
  | [], [], x, y, _ => by
    rw [if_pos rfl]
    show HT.lexLt [x] [y] = _
    rw [HT.lexLt_cons]
    by_cases z : x = y
    · rw [if_pos z, decide_eq_false (by omega)]
      rfl
    · rw [if_neg z]
  | [], _ :: _, _, _, h => by cases h
  | _ :: _, [], _, _, h => by cases h
  | p :: a, q :: b, x, y, h => by
    have hl : a.length = b.length := by simpa using h
    rw [List.cons_append, List.cons_append, HT.lexLt_cons, HT.lexLt_cons]
    by_cases z : p = q
    · rw [if_pos z, if_pos z, lex_snoc hl]
      by_cases y : a = b
      · rw [if_pos y, if_pos (by rw [z, y])]
      · rw [if_neg y, if_neg (fun w => y (List.cons.inj w).2)]
    · rw [if_neg z, if_neg z, if_neg (fun w => z (List.cons.inj w).1)]
theorem sort_nat {enc : Nat → PyData} {code : Nat → List Int} (h : ∀ a b, PySem.W.dataLt (enc a) (enc b) = HT.lexLt (code a) (code b)) (hinj : ∀ a b, code a = code b → a = b) (bs : List Nat) :
    ((bs.mergeSort (PySem.W.dataLe false enc)).Perm bs ∧ (bs.mergeSort (PySem.W.dataLe false enc)).Pairwise fun a b => HT.lexLt (code b) (code a) = false) ∧
    ∀ cs : List Nat, bs.Perm cs → (cs.Pairwise fun a b => HT.lexLt (code a) (code b) = true) → bs.mergeSort (PySem.W.dataLe false enc) = cs := by
  have hle : PySem.W.dataLe false enc = fun a b => !HT.lexLt (code b) (code a) := by
    funext a b
    show (!PySem.W.dataLt (enc b) (enc a)) = _
    rw [h]
  rw [hle]
  have htr : ∀ a b c : Nat, (!HT.lexLt (code b) (code a)) = true → (!HT.lexLt (code c) (code b)) = true → (!HT.lexLt (code c) (code a)) = true := fun a b c h1 h2 => by
    rw [Bool.not_eq_true'] at h1 h2 ⊢
    cases e : HT.lexLt (code c) (code a) with
    | false => rfl
    | true =>
      cases e2 : HT.lexLt (code b) (code c) with
      | true =>
        have := lex_trans e2 e
        rw [h1] at this
        cases this
      | false =>
        have := lex_total h2 e2
        rw [this, h1] at e
        cases e
  have htot : ∀ a b : Nat, ((!HT.lexLt (code b) (code a)) || (!HT.lexLt (code a) (code b))) = true := fun a b => by
    cases e : HT.lexLt (code b) (code a) with
    | false => rfl
    | true =>
      rw [lex_asymm e]
      rfl
  have hs := List.pairwise_mergeSort htr htot bs
  have hpm := List.mergeSort_perm bs fun a b => !HT.lexLt (code b) (code a)
  refine ⟨⟨hpm, hs.imp fun {a b} h => by rw [Bool.not_eq_true'] at h; exact h⟩, fun cs hp hc => ?_⟩
  refine List.Perm.eq_of_pairwise (fun a b _ _ h1 h2 => hinj a b (lex_total ?_ ?_)) hs (hc.imp fun {a b} h => ?_) (hpm.trans hp)
  · rw [Bool.not_eq_true'] at h2
    exact h2
  · rw [Bool.not_eq_true'] at h1
    exact h1
  · rw [lex_asymm h]
    rfl
def enc1 (l : Nat) (inner : List (List Nat)) (k : Nat) : PyData := .tuple [tupI (rowI l inner k), natD k]
def cod1 (l : Nat) (inner : List (List Nat)) (k : Nat) : List Int := rowI l inner k ++ [(k : Int)]
def flagN (l : Nat) (inner : List (List Nat)) (k : Nat) : Bool := decide (1 < (parsAt l inner k).length)
def enc2 (l : Nat) (inner : List (List Nat)) (k : Nat) : PyData := .tuple [tupI (rowI l inner k), .bool (flagN l inner k), natD k]
def cod2 (l : Nat) (inner : List (List Nat)) (k : Nat) : List Int := (rowI l inner k ++ [if flagN l inner k = true then 1 else 0]) ++ [(k : Int)]
theorem rowI_len {l k : Nat} {inner : List (List Nat)} : (rowI l inner k).length = l := by unfold rowI; rw [List.length_map, List.length_range]
theorem cod1_inj {l : Nat} {inner : List (List Nat)} {a b : Nat} (h : cod1 l inner a = cod1 l inner b) : a = b := by
  unfold cod1 at h
  have := (List.append_inj h (by rw [rowI_len, rowI_len])).2
  have := (List.cons.inj this).1
  omega
theorem cod2_inj {l : Nat} {inner : List (List Nat)} {a b : Nat} (h : cod2 l inner a = cod2 l inner b) : a = b := by
  unfold cod2 at h
  have := (List.append_inj h (by rw [List.length_append, List.length_append, rowI_len, rowI_len]; rfl)).2
  have := (List.cons.inj this).1
  omega
theorem eqv_nat (a b : Nat) : PyData.eqv (natD a) (natD b) = decide (a = b) := by
  show PyData.eqv (.int _) (.int _) = _
  simp only [PyData.eqv]
  by_cases z : a = b
  · subst z
    simp
  · rw [decide_eq_false z]
    exact beq_eq_false_iff_ne.mpr (by omega)
theorem lt_nat (a b : Nat) : PySem.W.dataLt (natD a) (natD b) = decide ((a : Int) < (b : Int)) := PySem.W.dataLt_int _ _
theorem enc1_lt {l : Nat} {inner : List (List Nat)} (a b : Nat) : PySem.W.dataLt (enc1 l inner a) (enc1 l inner b) = HT.lexLt (cod1 l inner a) (cod1 l inner b) := by
  unfold enc1 cod1
  rw [PySem.W.dataLt_pair (alike_tupI _ _) (by rfl), eqv_tupI, eqv_nat, dataLt_tupI, lt_nat, lex_snoc (by rw [rowI_len, rowI_len])]
  by_cases z : rowI l inner a = rowI l inner b
  · rw [if_pos (decide_eq_true z), if_pos z]
    by_cases y : a = b
    · rw [if_pos (decide_eq_true y), decide_eq_false (by omega)]
    · rw [if_neg (by simpa using y)]
  · rw [if_neg (by simpa using z), if_neg z]
theorem enc2_lt {l : Nat} {inner : List (List Nat)} (a b : Nat) : PySem.W.dataLt (enc2 l inner a) (enc2 l inner b) = HT.lexLt (cod2 l inner a) (cod2 l inner b) := by
  unfold enc2 cod2
  rw [PySem.W.dataLt_tuple, PySem.W.dataLt_cons (alike_tupI _ _), PySem.W.dataLt_cons (by rfl), PySem.W.dataLt_cons (by rfl), eqv_tupI, eqv_nat, dataLt_tupI, lt_nat, PySem.W.dataLt_bool, lex_snoc (by rw [List.length_append, List.length_append, rowI_len, rowI_len]; rfl), lex_snoc (by rw [rowI_len, rowI_len])]
  have hb : PyData.eqv (.bool (flagN l inner a)) (.bool (flagN l inner b)) = decide (flagN l inner a = flagN l inner b) := by
    simp only [PyData.eqv]
    cases flagN l inner a <;> cases flagN l inner b <;> rfl
  have hn := (PySem.W.dataLt_tuple [] []).symm.trans (dataLt_tupI [] [])
  rw [show HT.lexLt ([] : List Int) [] = false from rfl] at hn
  rw [hb, hn]
  have hf : (rowI l inner a ++ [if flagN l inner a = true then (1 : Int) else 0] = rowI l inner b ++ [if flagN l inner b = true then (1 : Int) else 0]) ↔ rowI l inner a = rowI l inner b ∧ flagN l inner a = flagN l inner b := by
    constructor
    · intro h
      obtain ⟨h1, h2⟩ := List.append_inj h (by rw [rowI_len, rowI_len])
      refine ⟨h1, ?_⟩
      have := (List.cons.inj h2).1
      cases ha : flagN l inner a <;> cases hb : flagN l inner b <;> rw [ha, hb] at this <;> first | rfl | (simp at this)
    · rintro ⟨h1, h2⟩
      rw [h1, h2]
  by_cases z : rowI l inner a = rowI l inner b
  · rw [if_pos (decide_eq_true z)]
    by_cases y : flagN l inner a = flagN l inner b
    · rw [if_pos (decide_eq_true y), if_pos (hf.mpr ⟨z, y⟩)]
      by_cases x : a = b
      · rw [if_pos (decide_eq_true x), decide_eq_false (by omega)]
      · rw [if_neg (by simpa using x)]
    · rw [if_neg (by simpa using y), if_neg (fun w => y (hf.mp w).2), if_pos z]
      cases ha : flagN l inner a <;> cases hb : flagN l inner b <;> rfl
  · rw [if_neg (by simpa using z), if_neg (fun w => z (hf.mp w).1), if_neg z]
/-! the program's order -/
noncomputable def orderL (l : Nat) (inner : List (List Nat)) : List Nat := (List.range (l + inner.length)).mergeSort (PySem.W.dataLe false (enc1 l inner))
noncomputable def ordI (l : Nat) (inner : List (List Nat)) : List Nat := (orderL l inner).filter fun k => decide (l ≤ k)
noncomputable def odL (l : Nat) (inner : List (List Nat)) : List Nat := List.range l ++ ordI l inner
noncomputable def formI (l : Nat) (inner : List (List Nat)) : List (List Nat) := (ordI l inner).map (itemOf (kidsAt l inner) (odL l inner))
theorem orderL_perm {l : Nat} {inner : List (List Nat)} : (orderL l inner).Perm (List.range (l + inner.length)) := (sort_nat (enc1_lt (l := l) (inner := inner)) (fun _ _ => cod1_inj) _).1.1
theorem orderL_nd {l : Nat} {inner : List (List Nat)} : (orderL l inner).Nodup := orderL_perm.nodup_iff.mpr List.nodup_range
theorem orderL_lt {l : Nat} {inner : List (List Nat)} : (orderL l inner).Pairwise fun a b => HT.lexLt (cod1 l inner a) (cod1 l inner b) = true := by
  have h := (sort_nat (enc1_lt (l := l) (inner := inner)) (fun _ _ => cod1_inj) (List.range (l + inner.length))).1.2
  have hn : (orderL l inner).Pairwise fun a b => a ≠ b := orderL_nd
  exact (h.and hn).imp fun {a b} hab => by
    cases e : HT.lexLt (cod1 l inner a) (cod1 l inner b) with
    | true => rfl
    | false => exact absurd (cod1_inj (lex_total e hab.1)) hab.2
theorem mem_ordI {l k : Nat} {inner : List (List Nat)} : k ∈ ordI l inner ↔ l ≤ k ∧ k < l + inner.length := by
  unfold ordI
  rw [List.mem_filter, orderL_perm.mem_iff, List.mem_range, decide_eq_true_iff]
  exact And.comm
theorem ordI_lt {l : Nat} {inner : List (List Nat)} : (ordI l inner).Pairwise fun a b => HT.lexLt (cod1 l inner a) (cod1 l inner b) = true := orderL_lt.filter _
theorem ordI_nd {l : Nat} {inner : List (List Nat)} : (ordI l inner).Nodup := orderL_nd.filter _
theorem inr_nd {l n : Nat} : ((List.range n).map (l + ·)).Nodup := List.Pairwise.map _ (fun a b h => by show l + a ≠ l + b; omega) List.nodup_range
theorem ordI_perm {l : Nat} {inner : List (List Nat)} : (ordI l inner).Perm ((List.range inner.length).map (l + ·)) := by
  refine (List.perm_ext_iff_of_nodup ordI_nd inr_nd).mpr fun k => ?_
  rw [mem_ordI, List.mem_map]
  constructor
  · rintro ⟨h1, h2⟩
    exact ⟨k - l, List.mem_range.mpr (by omega), by omega⟩
  · rintro ⟨j, hj, rfl⟩
    have := List.mem_range.mp hj
    omega
theorem ordI_len {l : Nat} {inner : List (List Nat)} : (ordI l inner).length = inner.length := by
  rw [ordI_perm.length_eq, List.length_map, List.length_range]
theorem odL_len {l : Nat} {inner : List (List Nat)} : (odL l inner).length = l + inner.length := by
  unfold odL
  rw [List.length_append, List.length_range, ordI_len]
theorem odL_drop {l : Nat} {inner : List (List Nat)} : (odL l inner).drop l = ordI l inner := by
  unfold odL
  rw [List.drop_left' List.length_range]
theorem odL_nd {l : Nat} {inner : List (List Nat)} : (odL l inner).Nodup := by
  unfold odL
  rw [List.nodup_append]
  refine ⟨List.nodup_range, ordI_nd, fun a ha b hb z => ?_⟩
  have := List.mem_range.mp ha
  have := mem_ordI.mp hb
  omega
theorem plc_before {R : Nat → Nat → Prop} (ha : ∀ a b, R a b → ¬ R b a) {od : List Nat} (hp : od.Pairwise R) {a b : Nat} (h1 : a ∈ od) (h2 : b ∈ od) (h : R a b) : plc a od < plc b od := by
  have e1 := plc_get h1
  have e2 := plc_get h2
  obtain ⟨i1, f1⟩ := List.getElem?_eq_some_iff.mp e1
  obtain ⟨i2, f2⟩ := List.getElem?_eq_some_iff.mp e2
  rcases Nat.lt_trichotomy (plc a od) (plc b od) with z | z | z
  · exact z
  · have e3 : some a = some b := by rw [← e1, ← e2, z]
    cases e3
    exact absurd h (ha a a h)
  · have := List.pairwise_iff_getElem.mp hp _ _ i2 i1 z
    rw [f1, f2] at this
    exact absurd this (ha a b h)
section
variable {l : Nat} {inner : List (List Nat)} (W : WebP l inner)
include W
/-- a child's row is not above -/
theorem row_le_lex {c u : Nat} (hc : c ∈ kidsAt l inner u) : rowI l inner c = rowI l inner u ∨ HT.lexLt (rowI l inner c) (rowI l inner u) = true := by
  have hle : ∀ x, way (kidsAt l inner) x c ≤ way (kidsAt l inner) x u := fun x => way_ge (hdN W) hc
  unfold rowI
  generalize List.range l = xs
  induction xs with
  | nil => exact .inl rfl
  | cons x r ih =>
    rw [List.map_cons, List.map_cons]
    by_cases z : way (kidsAt l inner) x c = way (kidsAt l inner) x u
    · rcases ih with e | e
      · exact .inl (by rw [z, e])
      · exact .inr (by rw [HT.lexLt_cons, if_pos z]; exact e)
    · exact .inr (by rw [HT.lexLt_cons, if_neg z]; exact decide_eq_true (by have := hle x; omega))
theorem cod1_kid {c u : Nat} (hc : c ∈ kidsAt l inner u) : HT.lexLt (cod1 l inner c) (cod1 l inner u) = true := by
  have hcu := (kidsAt_lt W.raw hc).2
  unfold cod1
  rw [lex_snoc (by rw [rowI_len, rowI_len])]
  rcases row_le_lex W hc with e | e
  · rw [if_pos e]
    exact decide_eq_true (by omega)
  · rw [if_neg fun z => ?_]
    · exact e
    · rw [z, lex_self] at e
      cases e
theorem odL_ord : Ord l (kkOf l inner).length (rowAt (kkOf l inner)) (odL l inner) := by
  rw [rowAt_kkE, kkOf_len]
  have hlf : ∀ k, k < l → (odL l inner)[k]? = some k := fun k hk => by
    unfold odL
    rw [List.getElem?_append_left (by rw [List.length_range]; exact hk), List.getElem?_range hk]
  have hmem : ∀ k, k < l + inner.length → k ∈ odL l inner := fun k hk => by
    by_cases z : k < l
    · exact List.mem_of_getElem? (hlf k z)
    · exact List.mem_append_right _ (mem_ordI.mpr ⟨by omega, hk⟩)
  refine ⟨odL_nd, fun k hk => ?_, hlf, by rw [odL_len]; omega, fun u c hu hc => ?_⟩
  · rcases List.mem_append.mp hk with h | h
    · have := List.mem_range.mp h
      omega
    · exact (mem_ordI.mp h).2
  · have hcl := kidsAt_lt W.raw hc
    refine ⟨hmem c hcl.1, ?_⟩
    have hlu : l ≤ u := by
      refine Classical.byContradiction fun z => ?_
      rw [kidsAt_leaf (by omega)] at hc
      cases hc
    have hun : u < l + inner.length := by
      rcases List.mem_append.mp hu with h | h
      · have := List.mem_range.mp h
        omega
      · exact (mem_ordI.mp h).2
    have hpu : plc u (odL l inner) = l + plc u (ordI l inner) := by
      refine plc_at odL_nd ?_
      unfold odL
      rw [List.getElem?_append_right (by rw [List.length_range]; omega), List.length_range, show l + plc u (ordI l inner) - l = plc u (ordI l inner) by omega]
      exact plc_get (mem_ordI.mpr ⟨hlu, hun⟩)
    by_cases z : c < l
    · rw [plc_at odL_nd (hlf c z), hpu]
      omega
    · have hpc : plc c (odL l inner) = l + plc c (ordI l inner) := by
        refine plc_at odL_nd ?_
        unfold odL
        rw [List.getElem?_append_right (by rw [List.length_range]; omega), List.length_range, show l + plc c (ordI l inner) - l = plc c (ordI l inner) by omega]
        exact plc_get (mem_ordI.mpr ⟨by omega, hcl.1⟩)
      rw [hpu, hpc]
      have := plc_before (R := fun a b => HT.lexLt (cod1 l inner a) (cod1 l inner b) = true) (fun a b h1 h2 => by rw [lex_asymm h1] at h2; cases h2) ordI_lt (mem_ordI.mpr ⟨by omega, hcl.1⟩) (mem_ordI.mpr ⟨hlu, hun⟩) (cod1_kid W hc)
      omega
theorem form_nb : Nb (kkOf l inner) l (formI l inner) (odL l inner) :=
  ⟨W.gen, odL_ord W, by rw [odL_len, kkOf_len], by rw [odL_drop, rowAt_kkE]; rfl⟩
theorem form_num : NumD (kkOf l inner) l (formI l inner) :=
  ⟨odL l inner, W.gen, by rw [kkOf_len]; have := W.raw.n20; omega, odL_ord W, by rw [odL_len, kkOf_len], by rw [odL_drop, rowAt_kkE]; rfl⟩
theorem form_web : WebP l (formI l inner) := (form_num W).drawn.web W.raw.l1 W.raw.l8
theorem form_len : (formI l inner).length = inner.length := by
  unfold formI
  rw [List.length_map, ordI_len]
theorem item_self {u : Nat} (hu : u < l + inner.length) : itemOf (kidsAt l inner) (List.range (l + inner.length)) u = kidsAt l inner u := by
  have ha : (kidsAt l inner u).Pairwise (· ≤ ·) := by
    by_cases z : u < l
    · rw [kidsAt_leaf z]
      exact List.Pairwise.nil
    · exact W.asc _ (kidsAt_inner (by omega) hu)
  unfold itemOf
  have e : ((kidsAt l inner u).map fun c => ((plc c (List.range (l + inner.length)) : Nat) : Int)) = (kidsAt l inner u).map fun (c : Nat) => (c : Int) := List.map_congr_left fun c hc => by
    rw [plc_at List.nodup_range (List.getElem?_range (kidsAt_lt W.raw hc).1)]
  rw [e, sorted_one (sortI_perm _) (sortI_sorted _) (List.pairwise_map.mpr (ha.imp fun {a b} h => by omega)), List.map_map]
  conv => rhs; rw [← List.map_id (kidsAt l inner u)]
  exact List.map_congr_left fun c _ => Int.toNat_natCast c
theorem inner_self : ((List.range (l + inner.length)).drop l).map (itemOf (kidsAt l inner) (List.range (l + inner.length))) = inner := by
  refine List.ext_getElem? fun j => ?_
  rw [List.getElem?_map, List.getElem?_drop]
  by_cases z : j < inner.length
  · rw [List.getElem?_range (by omega)]
    show some (itemOf _ _ (l + j)) = _
    rw [item_self W (by omega)]
    unfold kidsAt
    rw [if_neg (by omega), show l + j - l = j by omega, List.getD_eq_getElem?_getD, List.getElem?_eq_getElem z]
    rfl
  · rw [List.getElem?_eq_none (by rw [List.length_range]; omega), List.getElem?_eq_none (by omega)]
    rfl
theorem self_nb : Nb (kkOf l inner) l inner (List.range (l + inner.length)) := by
  refine ⟨W.gen, ⟨List.nodup_range, fun k hk => by rw [kkOf_len]; exact List.mem_range.mp hk, fun k hk => List.getElem?_range (by omega), by rw [List.length_range]; omega, fun u c hu hc => ?_⟩, by rw [List.length_range, kkOf_len], by rw [rowAt_kkE]; exact (inner_self W).symm⟩
  rw [rowAt_kk] at hc
  have h := kidsAt_lt W.raw hc
  refine ⟨List.mem_range.mpr h.1, ?_⟩
  rw [plc_at List.nodup_range (List.getElem?_range h.1), plc_at List.nodup_range (List.getElem?_range (List.mem_range.mp hu))]
  exact h.2
/-- the rows of the form -/
theorem form_row {j : Nat} (hj : j < l + inner.length) : rowI l (formI l inner) j = rowI l inner ((odL l inner).getD j 0) := by
  have hF := form_nb W
  have hs := self_nb W
  have hd1 : ∀ u c, c ∈ kidsAt l (formI l inner) u → c < u := fun u c h => (kidsAt_lt (form_web W).raw h).2
  have hjo : (odL l inner)[j]? = some ((odL l inner).getD j 0) := by
    rw [List.getD_eq_getElem?_getD, List.getElem?_eq_getElem (by rw [odL_len]; exact hj)]
    rfl
  have hun : (odL l inner).getD j 0 < l + inner.length := by
    have := (odL_ord W).lt _ (List.mem_of_getElem? hjo)
    rw [kkOf_len] at this
    exact this
  unfold rowI
  refine List.map_congr_left fun x hx => ?_
  have := ways_same hF hs hd1 (hdN W) (List.mem_range.mp hx) _ (by rw [kkOf_len]; exact hun)
  rw [plc_at odL_nd hjo, plc_at List.nodup_range (List.getElem?_range hun)] at this
  exact this
theorem form_fix : formI l (formI l inner) = formI l inner := by
  have WF := form_web W
  have hlen := form_len W
  have hord : ordI l (formI l inner) = (List.range (formI l inner).length).map (l + ·) := by
    have h1 := (sort_nat (enc1_lt (l := l) (inner := formI l inner)) (fun _ _ => cod1_inj) ((List.range (formI l inner).length).map (l + ·))).2
    have hs := (sort_nat (enc1_lt (l := l) (inner := formI l inner)) (fun _ _ => cod1_inj) (ordI l (formI l inner))).2
    have e1 := hs _ (List.Perm.refl _) ordI_lt
    have e2 := hs ((List.range (formI l inner).length).map (l + ·)) ordI_perm ?_
    · rw [← e1, e2]
    · refine List.pairwise_map.mpr ((List.pairwise_lt_range (n := (formI l inner).length)).imp_of_mem fun {a b} ha hb hab => ?_)
      have ha := List.mem_range.mp ha
      have hb := List.mem_range.mp hb
      rw [hlen] at ha hb
      unfold cod1
      rw [lex_snoc (by rw [rowI_len, rowI_len]), form_row W (by omega), form_row W (by omega)]
      have ga : ∀ i, i < inner.length → (odL l inner).getD (l + i) 0 = (ordI l inner).getD i 0 := fun i hi => by
        unfold odL
        rw [List.getD_eq_getElem?_getD, List.getElem?_append_right (by rw [List.length_range]; omega), List.length_range, show l + i - l = i by omega, ← List.getD_eq_getElem?_getD]
      rw [ga a ha, ga b hb]
      have hp := List.pairwise_iff_getElem.mp (ordI_lt (l := l) (inner := inner)) a b (by rw [ordI_len]; exact ha) (by rw [ordI_len]; exact hb) hab
      have ea : (ordI l inner).getD a 0 = (ordI l inner)[a]'(by rw [ordI_len]; exact ha) := by rw [List.getD_eq_getElem?_getD, List.getElem?_eq_getElem (by rw [ordI_len]; exact ha)]; rfl
      have eb : (ordI l inner).getD b 0 = (ordI l inner)[b]'(by rw [ordI_len]; exact hb) := by rw [List.getD_eq_getElem?_getD, List.getElem?_eq_getElem (by rw [ordI_len]; exact hb)]; rfl
      rw [ea, eb]
      unfold cod1 at hp
      rw [lex_snoc (by rw [rowI_len, rowI_len])] at hp
      by_cases z : rowI l inner ((ordI l inner)[a]'(by rw [ordI_len]; exact ha)) = rowI l inner ((ordI l inner)[b]'(by rw [ordI_len]; exact hb))
      · rw [if_pos z]
        exact decide_eq_true (by omega)
      · rw [if_neg z] at hp ⊢
        exact hp
  have hod : odL l (formI l inner) = List.range (l + (formI l inner).length) := by
    unfold odL
    rw [hord, List.range_add]
  show (ordI l (formI l inner)).map (itemOf (kidsAt l (formI l inner)) (odL l (formI l inner))) = _
  rw [hod, hord]
  have := inner_self WF
  rw [List.range_add, List.drop_left' List.length_range, ← List.range_add] at this
  exact this
/-- the law's order is the same -/
theorem ord_law : ((List.range inner.length).map (l + ·)).mergeSort (PySem.W.dataLe false (enc2 l inner)) = ordI l inner := by
  refine (sort_nat (enc2_lt (l := l) (inner := inner)) (fun _ _ => cod2_inj) _).2 _ ordI_perm.symm ?_
  refine (ordI_lt (l := l) (inner := inner)).imp_of_mem fun {a b} ha hb hab => ?_
  have ha := mem_ordI.mp ha
  have hb := mem_ordI.mp hb
  unfold cod1 at hab
  rw [lex_snoc (by rw [rowI_len, rowI_len])] at hab
  unfold cod2
  rw [lex_snoc (by rw [List.length_append, List.length_append, rowI_len, rowI_len]; rfl), lex_snoc (by rw [rowI_len, rowI_len])]
  by_cases z : rowI l inner a = rowI l inner b
  · rw [if_pos z] at hab
    have hab := of_decide_eq_true hab
    have hne : b ≠ a := by omega
    have heq := equal_rows W (k := a) (t := b) ha.2 hb.2 hne
    rw [decide_eq_true z.symm] at heq
    have hmb : mixB l inner b a = true := by
      cases e : mixB l inner a b with
      | true =>
        have h2 := (mixB_iff.mp e).2
        have : b ∈ kidsAt l inner a := by rw [h2]; exact List.mem_singleton.mpr rfl
        have := (kidsAt_lt W.raw this).2
        omega
      | false =>
        rw [e, Bool.false_or] at heq
        exact heq.symm
    obtain ⟨m1, m2⟩ := mixB_iff.mp hmb
    have fb : flagN l inner b = true := decide_eq_true m1
    have fa : flagN l inner a = false := by
      obtain ⟨c, hc, hc1⟩ := W.bare b hb.1 hb.2
      rw [m2] at hc
      rw [List.mem_singleton.mp hc] at hc1
      exact decide_eq_false (by omega)
    rw [fa, fb, if_neg (by rw [z]; intro w; have := (List.append_inj w rfl).2; simp at this), if_pos z]
    rfl
  · rw [if_neg z] at hab
    rw [if_neg fun w => z (List.append_inj w (by rw [rowI_len, rowI_len])).1, if_neg z]
    exact hab
end
end WR
set_option Elab.async false
set_option linter.all false
set_option maxRecDepth 100000
set_option maxHeartbeats 1000000
namespace WR
open PySem PySem.Spec PyProof.Rows L2 Evl
theorem scLeafRow : FnScope ["leaves", "leaf", "at"] ["leaves", "leaf"] (defScope sLeafRow) := ⟨rfl, rfl, rfl, by decide +kernel, rfl, by decide +kernel, by decide +kernel⟩
abbrev nRo : List Str := ["web", "leaves", "inner", "found", "item", "leaf", "child"]
theorem scRo : FnScope nRo ["web"] (defScope sRowsOf) := ⟨rfl, rfl, rfl, by decide +kernel, rfl, by decide +kernel, by decide +kernel⟩
abbrev scRI : Scope := { kind := ScopeKind.function, names := [(Str.ofString ".0", NameKind.local), (Str.ofString "leaf", NameKind.cell), (Str.ofString "sum", NameKind.globalImplicit), (Str.ofString "found", NameKind.cell), (Str.ofString "item", NameKind.cell)], isGenerator := false, isCoroutine := false, more := [] }
section
variable {P : Program} {w : World} {K : PySem.W.Frag} {mg : Str → Option Value} {base : Heap}
theorem ok_leafrow {f : Addr} {fd : FuncData} (F : Fun K "leaf_row" "leaf_row" sLeafRow f fd) (m1 : mg "range" = none) (m2 : mg "tuple" = none) :
    FnOk P w K mg base CX0 1 f fd ["leaves", "leaf"] (spLeafRow K) := by
  refine F.ok scLeafRow (fun vs H Q E h => ?_) (fun cdv A outer s H vs Q E hr h => ?_)
  · obtain ⟨l, x, rfl, _⟩ := h
    rfl
  obtain ⟨l, x, rfl, hl, q⟩ := h
  refine ⟨_, pss_one (ps_ret (pe_callTy call_tuple_of (by rfl) m2 (by decide +kernel) (pa_cons (pe_lc (own := [("at", 2)]) (g := gName 2) (tt := tYes) (te := tIf (tTest (tOp rEq (tVar 2) (tVar 1))) (tC (.int 1)) (tC (.int 0))) rfl scLeafRow.nd
      (pi_range1 (by rfl) m1 (pa_cons (pv 0) pa_nil)) (blkOk_by (N := ["leaves", "leaf", "at"]) (sc := defScope sLeafRow) (by decide +kernel))
      (fun _ _ _ _ _ => pg_name (i := 2) scLeafRow.nd rfl (Or.inl rfl)) (fun _ _ _ _ _ => pts_nil) (fun _ _ _ _ _ => pe_ifExp (pt_cmpR op_eq (pv 2) (pv 1) (nomark _)) pe_int pe_int)) pa_nil))), ?_⟩
  have hS := srcS_R1 (K := K) (σ := start ["leaves", "leaf", "at"] [nV l, nV x]) (H := H) (n := (l : Int)) (ta := tCons (tVar 0) tNil) (ea_cons (ev_var rfl) ea_nil) (by omega)
  rw [Int.toNat_natCast] at hS
  refine s_retD (K := K) (d := tupI ((List.range l).map fun a => if a = x then 1 else 0)) (ed_tupL (ds := ((List.range l).map fun a => if a = x then (1 : Int) else 0).map PyData.int) (ed_n ?_)) fun r H2 e2 hr2 => q r H2 e2 hr2
  have q1 := en_lc (K := K) (σ := start ["leaves", "leaf", "at"] [nV l, nV x]) (H := H) (ds := rngD 0 l) (j := 2) (vs := [2]) (t := tYes) (te := tIf (tTest (tOp rEq (tVar 2) (tVar 1))) (tC (.int 1)) (tC (.int 0)))
      (fun d => match d with | .int c => some (.int (if c = (x : Int) then 1 else 0)) | _ => none) hS.src (by rw [rngD_len]; omega) (fun _ => rfl) (fun d v H8 e8 hd hv => ?_) (fun d r v H8 e8 hd hv hr => ?_) (fun d r hd hr => ?_)
  · rw [fm_rng (g := fun a => PyData.int (if a = x then 1 else 0)) (fun a _ => ?_)] at q1
    · rw [List.map_map]
      exact q1
    · show some (PyData.int (if (0 : Int) + (a : Int) = (x : Int) then 1 else 0)) = some (PyData.int (if a = x then 1 else 0))
      by_cases z : a = x
      · rw [if_pos z, if_pos (by omega)]
      · rw [if_neg z, if_neg (by omega)]
  · obtain ⟨c, _, rfl⟩ := List.mem_map.mp hd
    exact fun H1 _ _ q => q H1 (Ex.refl H1)
  · obtain ⟨c, _, rfl⟩ := List.mem_map.mp hd
    cases hr
    cases dp_int hv
    refine ed_i (ev_if (b := decide ((0 : Int) + (c : Int) = (x : Int))) (et_test (ev_is (ev_op (ev_var rfl) (ev_var rfl) (rv_eq rfl)) ?_)) (fun hb => ?_) fun hb => ?_)
    · show V.bl (decide (V.int ((0 : Int) + (c : Int)) = V.int (x : Int))) = _
      rw [dec_int]
      rfl
    · rw [if_pos (of_decide_eq_true hb)]
      exact ev_c
    · rw [if_neg (of_decide_eq_false hb)]
      exact ev_c
  · obtain ⟨c, _, rfl⟩ := List.mem_map.mp hd
    cases hr
    rfl
theorem ok_rowsof {f fL : Addr} {fd fdL : FuncData} (F : Fun K "rows_of" "rows_of" sRowsOf f fd)
    (FL : Fun K "leaf_row" "leaf_row" sLeafRow fL fdL) (bL : Binds K fdL ["leaves", "leaf"] []) (gL : mg "leaf_row" = some (.ref fL))
    (m1 : mg "range" = none) (m2 : mg "tuple" = none) (m3 : mg "sum" = none)
    (GL : FnOk P w K mg base CX0 1 fL fdL ["leaves", "leaf"] (spLeafRow K)) :
    FnOk P w K mg base CX0 2 f fd ["web"] (spW K fun l inner => .list (rowsD l inner (l + inner.length))) := by
  refine F.ok scRo (fun vs H Q E h => spW_len h) (fun cdv A outer s H vs Q E hr h => ?_)
  obtain ⟨v, l, inner, rfl, hv, hw, q⟩ := h
  refine ⟨_, pss_cons (ps_asg (pv 0) (pg_tup rfl (pgs_cons (pg_name (i := 1) scRo.nd rfl (.inr rfl)) (pgs_cons (pg_name (i := 2) scRo.nd rfl (.inl rfl)) pgs_nil))))
    (pss_cons (ps_set (i := 3) scRo.nd rfl (.inr rfl) (pe_lc (own := [("leaf", 5)]) (g := gName 5) (tt := tYes) (te := tCall (spLeafRow K) [] E0 (tCons (tVar 1) (tCons (tVar 5) tNil))) rfl scRo.nd
      (pi_range1 (by rfl) m1 (pa_cons (pv 1) pa_nil)) (blkOk_by (N := nRo) (sc := defScope sRowsOf) (by decide +kernel))
      (fun _ _ _ _ _ => pg_name (i := 5) scRo.nd rfl (Or.inl rfl)) (fun _ _ _ _ _ => pts_nil) (fun _ _ _ _ _ => pe_call GL hr (by rfl) gL FL.kp bL .nil pass0 (pa_cons (pv 1) (pa_cons (pv 5) pa_nil)))))
    (pss_cons (ps_for PassesOwn.never rfl (pi_tup (pv 2)) (pg_name (i := 4) scRo.nd rfl (.inr rfl))
      (pss_one (ps_expr (pe_bm PySem.F.plainAttrs_list PySem.F.slot_list_append PySem.F.type_list_append mt_append (pv 3) (pa_cons (pe_callTy call_tuple_of (by rfl) m2 (by decide +kernel) (pa_cons
        (pe_lc (own := [("leaf", 5)]) (g := gName 5) (tt := tYes) (te := tCB (rSum K) (tCons (tLc (iTup K (tVar 4)) (gName 6) tYes (tOp (rIxT K) (tOp (rIxL K) (tVar 3) (tVar 6)) (tVar 5)) [6]) tNil)) rfl scRo.nd
          (pi_range1 (by rfl) m1 (pa_cons (pv 1) pa_nil)) (blkOk_by (N := nRo) (sc := defScope sRowsOf) (by decide +kernel))
          (fun _ _ _ _ _ => pg_name (i := 5) scRo.nd rfl (Or.inr rfl)) (fun _ _ _ _ _ => pts_nil) (fun _ _ _ _ _ => pe_callB (cr_sum rfl) (by rfl) m3 (by decide +kernel) (pa_cons
            (pe_lc (own := [("child", 6)]) (g := gName 6) (tt := tYes) (te := tOp (rIxT K) (tOp (rIxL K) (tVar 3) (tVar 6)) (tVar 5)) rfl scRo.nd
              (pi_tup (pv 4)) (blkOk_by (N := nRo) (sc := scRI) (by decide +kernel))
              (fun _ _ _ _ _ => pg_name (i := 6) scRo.nd rfl (Or.inl rfl)) (fun _ _ _ _ _ => pts_nil) (fun _ _ _ _ _ => pe_ix (r := rIxT K) ix_tup (pe_ix (r := rIxL K) ix_list (pv 3) (pv 6) (fun _ _ => rfl)) (pv 5) (fun _ _ => rfl))) pa_nil))) pa_nil)) pa_nil)))))
    (pss_one (ps_ret (pv 3))))), ?_⟩
  have h1 := hw.l1
  have h8 := hw.l8
  have h20 := hw.n20
  have hdn : ∀ u c, c ∈ kidsAt l inner u → c < u := fun u c h => (kidsAt_lt hw h).2
  refine q_unp2 (ed_var rfl hv) fun x y H1 e1 hx hy => ?_
  cases dp_int hx
  let S (x3 x4 : Option V) : L2.St := [some v, some (nV l), some y, x3, x4, none, none]
  show tSeq _ _ _ (S none none) H1
  have hS1 : ∀ {x3 x4 : Option V} {H' : Hp}, SrcS K (iRng1 (tCons (tVar 1) tNil)) (S x3 x4) H' (rngD 0 l) := fun {x3 x4 H'} => by
    have q1 := srcS_R1 (K := K) (σ := S x3 x4) (H := H') (n := (l : Int)) (ta := tCons (tVar 1) tNil) (ea_cons (ev_var rfl) ea_nil) (by omega)
    rw [Int.toNat_natCast] at q1
    exact q1
  refine q_asgLD (K := K) (ds := rowsD l inner l) ?_ fun p H2 hp e2 hL => ?_
  · have q1 := en_lc (K := K) (σ := S none none) (H := H1) (ds := rngD 0 l) (j := 5) (vs := [5]) (t := tYes) (te := tCall (spLeafRow K) [] E0 (tCons (tVar 1) (tCons (tVar 5) tNil)))
      (fun d => match d with | .int c => some (rowD l inner c.toNat) | _ => none) hS1.src (by rw [rngD_len]; omega) (fun _ => rfl) (fun d v H8 e8 hd hv => ?_) (fun d r v H8 e8 hd hv hr => ?_) (fun d r hd hr => ?_)
    · rw [fm_rng (g := rowD l inner) (fun k _ => by
        show some (rowD l inner ((0 : Int) + (k : Int)).toNat) = _
        rw [show ((0 : Int) + (k : Int)).toNat = k by omega])] at q1
      exact q1
    · obtain ⟨c, _, rfl⟩ := List.mem_map.mp hd
      exact fun H1 _ _ q => q H1 (Ex.refl H1)
    · obtain ⟨c, hc, rfl⟩ := List.mem_map.mp hd
      have hc := List.mem_range.mp hc
      cases hr
      rw [show (0 : Int) + (c : Int) = (c : Int) by omega] at hv ⊢
      cases dp_int hv
      rw [Int.toNat_natCast]
      have er : rowD l inner c = tupI ((List.range l).map fun a => if a = c then 1 else 0) := by
        unfold rowD rowI
        congr 1
        exact List.map_congr_left fun a _ => way_leaf hc
      rw [er]
      exact fun H9 e9 Q9 q9 => ⟨nV l, rfl, nV c, rfl, l, c, rfl, by omega, fun r H10 e10 hr10 => q9 r H10 e10 hr10⟩
    · obtain ⟨c, _, rfl⟩ := List.mem_map.mp hd
      cases hr
      exact nl_tupI _
  have hpH : H1 p = none := hp
  show tSeq (tFor _ _ _) _ _ (S (some (.ref p)) none) H2
  refine q_forS (H0 := H1) (ds := inner.map kidsD) e2 (srcS_T (ev_var rfl) hy) (fun i σ' H' => Ex H1 H' ∧ (∃ x4, σ' = S (some (.ref p)) x4) ∧ LD K H' p (rowsD l inner (l + i))) (fun H3 e3 => ⟨e2.trans e3, ⟨_, rfl⟩, hL.ex e3⟩) (fun i σ' H' p => p.1) (fun i d x σ' H' hi hx hP => ?_) fun σ' H' hP => ?_
  · obtain ⟨e3, ⟨x4, rfl⟩, hL3⟩ := hP
    rw [List.getElem?_map] at hi
    obtain ⟨ks, hks, rfl⟩ := Option.map_eq_some_iff.mp hi
    have hil := (List.getElem?_eq_some_iff.mp hks).1
    have hka : kidsAt l inner (l + i) = ks := by
      unfold kidsAt
      rw [if_neg (by omega), show l + i - l = i by omega, List.getD_eq_getElem?_getD, hks]
      rfl
    show tDrop _ _ (S (some (.ref p)) (some x)) H'
    refine s_appD (K := K) (d := rowD l inner (l + i)) hL3 (ev_var rfl) (ed_tupL (ds := (rowI l inner (l + i)).map PyData.int) (ed_n ?_)) (by unfold rowsD; rw [List.length_map, List.length_range]; omega) nl_rowsD (nl_tupI _) fun H4 b4 hL4 => ⟨b4 _ e3 hpH, ⟨_, rfl⟩, ?_⟩
    · have q1 := en_lc (K := K) (σ := S (some (.ref p)) (some x)) (H := H') (ds := rngD 0 l) (j := 5) (vs := [5]) (t := tYes) (te := tCB (rSum K) (tCons (tLc (iTup K (tVar 4)) (gName 6) tYes (tOp (rIxT K) (tOp (rIxL K) (tVar 3) (tVar 6)) (tVar 5)) [6]) tNil))
        (fun d => match d with | .int c => some (.int (way (kidsAt l inner) c.toNat (l + i))) | _ => none) hS1.src (by rw [rngD_len]; omega) (fun _ => rfl) (fun d v H8 e8 hd hv => ?_) (fun d r v H8 e8 hd hv hr => ?_) (fun d r hd hr => ?_)
      · rw [fm_rng (g := fun k => .int (way (kidsAt l inner) k (l + i))) (fun k _ => by
          show some (PyData.int (way (kidsAt l inner) ((0 : Int) + (k : Int)).toNat (l + i))) = _
          rw [show ((0 : Int) + (k : Int)).toNat = k by omega])] at q1
        unfold rowI
        rw [List.map_map]
        exact q1
      · obtain ⟨c, _, rfl⟩ := List.mem_map.mp hd
        exact fun H1 _ _ q => q H1 (Ex.refl H1)
      · obtain ⟨c, hc, rfl⟩ := List.mem_map.mp hd
        have hc := List.mem_range.mp hc
        cases hr
        rw [show (0 : Int) + (c : Int) = (c : Int) by omega] at hv ⊢
        cases dp_int hv
        rw [Int.toNat_natCast]
        have ew : way (kidsAt l inner) c (l + i) = (ks.map (way (kidsAt l inner) c)).sum := by
          rw [way_rec (hdn _), hka, if_neg (by omega), Int.add_zero]
        rw [ew]
        refine ed_i (ev_sumI (K := K) ?_)
        have hx8 := dp_ex (e3.trans e8) _ hx
        have q2 := en_lc (K := K) (σ := [some v, some (nV l), some y, some (.ref p), some x, some (nV c), none]) (H := H8) (ds := natDs ks) (j := 6) (vs := [6]) (t := tYes) (te := tOp (rIxT K) (tOp (rIxL K) (tVar 3) (tVar 6)) (tVar 5))
          (fun d => match d with | .int u => some (.int (way (kidsAt l inner) c u.toNat)) | _ => none) (src_T (tl := tVar 4) (ed_var rfl hx8)) (by unfold natDs; rw [List.length_map]; have := hw.len ks (List.mem_of_getElem? hks); omega) (fun _ => rfl) (fun d v H9 e9 hd hv => ?_) (fun d r v H9 e9 hd hv hr => ?_) (fun d r hd hr => ?_)
        · rw [fm_natsJ (g := way (kidsAt l inner) c) (fun u _ => rfl)] at q2
          exact q2
        · obtain ⟨c, _, rfl⟩ := List.mem_map.mp hd
          exact fun H1 _ _ q => q H1 (Ex.refl H1)
        · obtain ⟨u, hu, rfl⟩ := List.mem_map.mp hd
          cases hr
          cases dp_int hv
          have hul : u < l + i := hw.lt i ks hks u hu
          exact ed_ixT (n := c) (ds := (rowI l inner u).map PyData.int) (ed_ixL (n := u) (ds := rowsD l inner (l + i)) (ed_var rfl (dp_ex (e8.trans e9) _ hL3.dp)) (ed_i (ev_var rfl)) rfl (rowsD_at hul)) (ed_i (ev_var rfl)) rfl (rowI_at hc)
        · obtain ⟨u, _, rfl⟩ := List.mem_map.mp hd
          cases hr
          rfl
      · obtain ⟨c, _, rfl⟩ := List.mem_map.mp hd
        cases hr
        rfl
    · rw [show l + (i + 1) = (l + i) + 1 by omega, rowsD_succ]
      exact hL4
  · obtain ⟨e3, ⟨x4, rfl⟩, hL3⟩ := hP
    rw [List.length_map] at hL3
    exact s_retD (K := K) (d := .list (rowsD l inner (l + inner.length))) (ed_var rfl hL3.dp) fun r H4 e4 hr4 => q r H4 ((e1.trans e3).trans e4) hr4
end
end WR
set_option Elab.async false
set_option linter.all false
set_option maxRecDepth 100000
set_option maxHeartbeats 1000000
namespace WR
open PySem PySem.Spec PyProof.Rows L2 Evl
theorem scRoot : FnScope ["web", "leaves", "inner"] ["web"] (defScope sRoot) := ⟨rfl, rfl, rfl, by decide +kernel, rfl, by decide +kernel, by decide +kernel⟩
theorem scKids : FnScope ["web", "kind", "leaves", "inner"] ["web", "kind"] (defScope sKids) := ⟨rfl, rfl, rfl, by decide +kernel, rfl, by decide +kernel, by decide +kernel⟩
section
variable {P : Program} {w : World} {K : PySem.W.Frag} {mg : Str → Option Value} {base : Heap}
theorem ok_root {f : Addr} {fd : FuncData} (F : Fun K "root" "root" sRoot f fd) (m5 : mg "len" = none) : FnOk P w K mg base CX0 1 f fd ["web"] (spW K fun l inner => natD (topN l inner)) := by
  refine F.ok scRoot (fun vs H Q E h => spW_len h) (fun cdv A outer s H vs Q E hr h => ?_)
  obtain ⟨v, l, inner, rfl, hv, hw, q⟩ := h
  refine ⟨_, pss_cons (ps_asg (pv 0) (pg_tup rfl (pgs_cons (pg_name (i := 1) scRoot.nd rfl (.inl rfl)) (pgs_cons (pg_name (i := 2) scRoot.nd rfl (.inl rfl)) pgs_nil))))
    (pss_one (ps_ret (pe_op op_sub (pe_op op_add (pv 1) (pe_callB call_len_seq (by rfl) m5 PySem.boot_len (pa_cons (pv 2) pa_nil))) pe_int))), ?_⟩
  refine q_unp2 (ed_var rfl hv) fun x y H1 e1 hx hy => ?_
  refine s_retD (d := natD (topN l inner)) (ed_is (ed_i (ev_op (ev_op (ev_i (ed_var rfl hx)) (ed_lenT (ed_var rfl hy)) rv_I0) ev_c rv_I0)) ?_) fun v H2 e2 hr => q v H2 (e1.trans e2) hr
  show PyData.int _ = PyData.int _
  have := hw.l1
  rw [List.length_map]
  unfold topN
  congr 1
  omega
theorem ok_kids {f : Addr} {fd : FuncData} (F : Fun K "children" "children" sKids f fd) : FnOk P w K mg base CX0 1 f fd ["web", "kind"] (spWK K fun l inner k => kidsD (kidsAt l inner k)) := by
  refine F.ok scKids (fun vs H Q E h => spWK_len h) (fun cdv A outer s H vs Q E hr h => ?_)
  obtain ⟨v, l, inner, k, rfl, hv, hw, hlt, q⟩ := h
  refine ⟨_, pss_cons (ps_asg (pv 0) (pg_tup rfl (pgs_cons (pg_name (i := 2) scKids.nd rfl (.inl rfl)) (pgs_cons (pg_name (i := 3) scKids.nd rfl (.inl rfl)) pgs_nil))))
    (pss_cons (ps_if (pt_cmpR op_lt (pv 1) (pv 2) (nomark _)) (pss_one (ps_ret (pe_tup pa_nil))) pss_nil)
    (pss_one (ps_ret (pe_ix ix_tup (pv 3) (pe_op op_sub (pv 1) (pv 2)) (fun _ _ => rfl))))), ?_⟩
  refine q_unp2 (ed_var rfl hv) fun x y H1 e1 hx hy => ?_
  refine q_when (b := decide ((k : Int) < (l : Int))) (et_test (ev_op (ev_var rfl) (ev_i (ed_var rfl hx)) rv_I0)) (fun hb H2 e2 => ?_) fun hb H2 e2 => ?_
  · have hb := of_decide_eq_true hb
    refine s_retD (K := K) (d := .tuple []) (ed_tup eda_nil (by simp)) fun v H3 e3 hr => q v H3 ((e1.trans e2).trans e3) ?_
    show Dp K H3 v (kidsD (kidsAt l inner k))
    rw [show kidsAt l inner k = [] from if_pos (by omega)]
    exact hr
  · have hb := of_decide_eq_false hb
    have hi : k - l < inner.length := by omega
    refine s_retD (d := kidsD (inner.getD (k - l) [])) (ed_ixT (n := k - l) (ed_var rfl (dp_ex e2 _ hy)) (ed_i (ev_op (ev_var rfl) (ev_i (ed_var rfl (dp_ex e2 _ hx))) rv_I0)) (by omega) ?_) fun v H3 e3 hr => q v H3 ((e1.trans e2).trans e3) ?_
    · rw [List.getElem?_map, List.getElem?_eq_getElem hi, List.getD_eq_getElem?_getD, List.getElem?_eq_getElem hi]
      rfl
    · show Dp K H3 v (kidsD (kidsAt l inner k))
      rw [show kidsAt l inner k = inner.getD (k - l) [] from if_neg (by omega)]
      exact hr
end
end WR
set_option Elab.async false
set_option linter.all false
set_option maxRecDepth 100000
set_option maxHeartbeats 1000000
namespace WR
open PySem PySem.Spec PyProof.Rows L2 Evl

/-! ### values that are drawn, over a base that stands -/
section
variable {K : PySem.W.Frag} {σ : L2.St} {H : Hp} {ta tb te t1 : TE} {dk L : Addr} {ns : List Int} {D : Ends} {tz : TS}
def Keep (dk L : Addr) (ns : List Int) (Pr : V → Hp → Prop) : Prop := ∀ v H1 H2 N M, Dk H1 dk L ns N → Bs H1 H2 dk L ns M → Pr v H1 → Pr v H2
def EvP (σ : L2.St) (H : Hp) (dk L : Addr) (ns : List Int) (te : TE) (c : Int) (Pr : V → Hp → Prop) : Prop := ∀ H1 N, Bs H H1 dk L ns N → N + c ≤ 380000000 → ∀ Q : VK, (∀ v H2, Bs H1 H2 dk L ns (N + c) → Pr v H2 → Q v H2) → te σ H1 Q
def EvPA (σ : L2.St) (H : Hp) (dk L : Addr) (ns : List Int) (ta : TA) (m : Nat) (c : Int) (Pr : V → Hp → Prop) : Prop := ∀ H1 N, Bs H H1 dk L ns N → N + c ≤ 380000000 → ∀ Q : List V → Hp → Prop, (∀ vs H2, Bs H1 H2 dk L ns (N + c) → vs.length = m → (∀ v ∈ vs, Pr v H2) → Q vs H2) → ta σ H1 Q
theorem EvP.imp {c : Int} {Pr Pr' : V → Hp → Prop} (h : EvP σ H dk L ns te c Pr) (k : ∀ v H, Pr v H → Pr' v H) : EvP σ H dk L ns te c Pr' := fun H1 N b hN Q q => h H1 N b hN Q fun v H2 b2 p => q v H2 b2 (k v H2 p)
theorem EvP.wk {c c' : Int} {Pr : V → Hp → Prop} (h : EvP σ H dk L ns te c Pr) (hc : c ≤ c') : EvP σ H dk L ns te c' Pr := fun H1 N b hN Q q => h H1 N b (by omega) Q fun v H2 b2 p => q v H2 (b2.wk (by omega)) p
theorem evp_ev {v : V} {Pr : V → Hp → Prop} (h : ∀ H1 N, Bs H H1 dk L ns N → Ev te σ H1 v) (p : ∀ H1 N, Bs H H1 dk L ns N → Pr v H1) : EvP σ H dk L ns te 0 Pr := fun H1 N b _ Q q =>
  h H1 N b H1 (Ex.refl H1) _ fun H2 e2 => q v H2 ((Bs.rfl b.deck).more e2 |>.wk (by omega)) (p H2 N (b.more e2))
theorem evpa_nil {Pr : V → Hp → Prop} : EvPA σ H dk L ns tNil 0 0 Pr := fun H1 N b _ Q q => q [] H1 ((Bs.rfl b.deck).wk (by omega)) rfl fun v h => by cases h
theorem evpa_cons {m : Nat} {c d : Int} {tr : TA} {Pr : V → Hp → Prop} (kp : Keep dk L ns Pr) (h : EvP σ H dk L ns te c Pr) (hr : EvPA σ H dk L ns tr m d Pr) (hd : 0 ≤ d) (hc : 0 ≤ c) : EvPA σ H dk L ns (tCons te tr) (m + 1) (c + d) Pr := fun H1 N b hN Q q =>
  h H1 N b (by omega) _ fun v H2 b2 p => hr H2 (N + c) (b.tr b2) (by omega) _ fun vs H3 b3 hl hvs => q _ H3 ((b2.tr b3).wk (by omega)) (by rw [List.length_cons, hl]) fun x hx => by
    rcases List.mem_cons.mp hx with rfl | hx
    · exact kp x H2 H3 _ _ b2.deck b3 p
    · exact hvs x hx
/-- one(deck, [..]) -/
theorem evp_one {E : XK} {ta' : TA} {m : Nat} {c : Int} {Pr : V → Hp → Prop} (kp : Keep dk L ns Pr) (h1 : ∀ H, Ev t1 σ H (.ref dk)) (ha : EvPA σ H dk L ns ta' m c Pr) (hm : 1 ≤ m) (hm2 : m ≤ 1000) (hc : c ≤ 100000) (hc0 : 0 ≤ c) :
    EvP σ H dk L ns (tCall (spOne K) [] E (tCons t1 (tCons (tLst ta') tNil))) (c + 1) (fun v H => Pr v H) := fun H1 N b hN Q q =>
  h1 H1 H1 (Ex.refl H1) _ fun H2 e2 => by
    refine ha H2 N (b.more e2) (by omega) _ fun vs H3 b3 hl hvs => ⟨sz_of (by omega), fun li hli => ?_⟩
    have en := Ex.new (o := .lst vs) hli
    have b4 := b3.more en
    have hne := b3.deck.ne hli
    refine ⟨dk, L, ns, _, li, vs, Eq.refl _, b4.deck, by omega, upd_same, hne, by omega, by omega, fun x H5 hx e5 d5 => ?_⟩
    have b45 : Bs (upd H3 li (.lst vs)) H5 dk L ns (N + c + 1) := ⟨e5, d5, by obtain ⟨a, b', n, d, _⟩ := b4.deck; exact ⟨_, d.at_⟩, by obtain ⟨a, b', n, d, _⟩ := b4.deck; exact ⟨_, d.ls⟩⟩
    have b15 : Bs H1 H5 dk L ns (N + (c + 1)) := (((Bs.rfl b.deck).more e2).tr (b4.tr b45)).wk (by omega)
    have b3' : Bs H3 H5 dk L ns (N + c + 1) := ((Bs.rfl b3.deck).more en).tr b45
    exact q x H5 b15 (kp x H3 H5 _ _ b3.deck b3' (hvs x hx))
/-- draw(deck, m) -/
def PrN (S : Nat → Prop) (v : V) (_ : Hp) : Prop := ∃ r, S r ∧ v = nV r
theorem keep_N {S : Nat → Prop} : Keep dk L ns (PrN S) := fun _ _ _ _ _ _ _ h => h
theorem evp_draw {E : XK} {m : Nat} (h1 : ∀ H, Ev t1 σ H (.ref dk)) (h2 : ∀ H1 N, Bs H H1 dk L ns N → Ev tb σ H1 (nV m)) (hm : 1 ≤ m) (hm2 : m ≤ 1000000000) : EvP σ H dk L ns (tCall spDraw [] E (tCons t1 (tCons tb tNil))) 1 (PrN fun r => r < m) := fun H1 N b hN Q q =>
  ev_draw (h1 H1) (h2 H1 N b) b.deck (by omega) hm hm2 H1 (Ex.refl H1) Q fun r H2 hr b2 => q _ H2 b2 ⟨r, hr, Eq.refl _⟩
/-- webs -/
def PrW (K : PySem.W.Frag) (C : Nat → List (List Nat) → Prop) (v : V) (H : Hp) : Prop := ∃ l inner, C l inner ∧ Dp K H v (webD l inner)
theorem keep_W {C : Nat → List (List Nat) → Prop} : Keep dk L ns (PrW K C) := fun v H1 H2 N M hD b h => by
  obtain ⟨l, inner, h1, h2⟩ := h
  exact ⟨l, inner, h1, b.at (K := K) hD (nl_webA l inner) h2⟩
theorem evp_web {E : XK} {mo mx : Nat} (h1 : ∀ H, Ev t1 σ H (.ref dk)) (m1 : 1 ≤ mo) (m8 : mo ≤ 8) (m9 : mx ≤ 9) : EvP σ H dk L ns (tCall (spLWeb K) [] E (tCons t1 (tCons (tC (nV mo)) (tCons (tC (nV mx)) tNil)))) 137 (PrW K fun l inner => Drawn l inner ∧ 1 ≤ l ∧ l ≤ mo) := fun H1 N b hN Q q =>
  h1 H1 H1 (Ex.refl H1) _ fun H2 e2 => ⟨dk, L, ns, N, mo, mx, Eq.refl _, b.deck.ex e2, by omega, m1, m8, by omega, fun H3 v Lv inner b3 l1 l2 hv hw => by
    refine q v H3 ?_ ⟨Lv, inner, ⟨hw, l1, l2⟩, hv⟩
    exact (((Bs.rfl b.deck).more e2).tr b3).wk (by omega)⟩
/-- x = a drawn value -/
theorem q_asgP {i : Nat} {c N : Int} {Pr : V → Hp → Prop} (h : EvP σ H dk L ns te c Pr) (hD : Dk H dk L ns N) (hN : N + c ≤ 380000000) (k : ∀ v H1, Bs H H1 dk L ns (N + c) → Pr v H1 → tz D (σ.set i (some v)) H1) : tSeq (tAsg te (gName i)) tz D σ H :=
  h H N (Bs.rfl hD) hN _ k
/-- x, y = two drawn values -/
theorem q_parP {i j : Nat} {c d N : Int} {Pr Pr' : V → Hp → Prop} (kp : Keep dk L ns Pr) (h : EvP σ H dk L ns ta c Pr) (h2 : EvP σ H dk L ns tb d Pr') (hD : Dk H dk L ns N) (hN : N + c + d ≤ 380000000) (hd : 0 ≤ d)
    (k : ∀ v w H1, Bs H H1 dk L ns (N + c + d) → Pr v H1 → Pr' w H1 → tz D ((σ.set i (some v)).set j (some w)) H1) : tSeq (tPar i j (tCons ta (tCons tb tNil))) tz D σ H :=
  h H N (Bs.rfl hD) (by omega) _ fun v H1 b1 p1 => h2 H1 (N + c) b1 (by omega) _ fun w H2 b2 p2 => ⟨v, w, Eq.refl _, k v w H2 (b1.tr b2) (kp v H1 H2 _ _ b1.deck b2 p1) p2⟩
end
end WR
set_option Elab.async false
set_option linter.all false
set_option maxRecDepth 100000
set_option maxHeartbeats 1000000
namespace WR
open PySem PySem.Spec PyProof.Rows L2 Evl

/-! ### ways by their numbers: the mathematics -/
structure Asc (l : Nat) (inner : List (List Nat)) : Prop where
  raw : Raw l inner
  up : ∀ ks ∈ inner, ks.Pairwise (· < ·)
theorem Asc.at {l : Nat} {inner : List (List Nat)} (A : Asc l inner) (u : Nat) : (kidsAt l inner u).Pairwise (· < ·) := by
  unfold kidsAt
  by_cases z : u < l
  · rw [if_pos z]
    exact List.Pairwise.nil
  · rw [if_neg z, List.getD_eq_getElem?_getD]
    cases e : inner[u - l]? with
    | none => exact List.Pairwise.nil
    | some ks => exact A.up ks (List.mem_of_getElem? e)
def chooseW (f : Nat → Int) : List Nat → Int → Nat × Int
  | [], p => (0, p)
  | c :: r, p => if p < f c then (c, p) else chooseW f r (p - f c)
/-- what is ahead of a child -/
def aheadW (f : Nat → Int) (ks : List Nat) (c : Nat) : Int := ((ks.filter fun x => decide (x < c)).map f).sum
theorem aheadW_cons {f : Nat → Int} {k : Nat} {r : List Nat} {c : Nat} : aheadW f (k :: r) c = (if k < c then f k else 0) + aheadW f r c := by
  unfold aheadW
  rw [List.filter_cons]
  by_cases z : k < c
  · rw [if_pos (decide_eq_true z), if_pos z, List.map_cons, List.sum_cons]
  · rw [if_neg (by simpa using z), if_neg z, Int.zero_add]
theorem aheadW_zero {f : Nat → Int} {ks : List Nat} {c : Nat} (h : ∀ x ∈ ks, c ≤ x) : aheadW f ks c = 0 := by
  unfold aheadW
  rw [List.filter_eq_nil_iff.mpr fun x hx => by have := h x hx; simp; omega]
  rfl
theorem aheadW_nn {f : Nat → Int} (h0 : ∀ k, 0 ≤ f k) {ks : List Nat} {c : Nat} : 0 ≤ aheadW f ks c := sum_nn fun n hn => by
  obtain ⟨y, _, rfl⟩ := List.mem_map.mp hn
  exact h0 y
theorem chooseW_ok {f : Nat → Int} (h0 : ∀ k, 0 ≤ f k) : ∀ {ks : List Nat} {p : Int}, ks.Pairwise (· < ·) → 0 ≤ p → p < (ks.map f).sum →
    (chooseW f ks p).1 ∈ ks ∧ 0 ≤ (chooseW f ks p).2 ∧ (chooseW f ks p).2 < f (chooseW f ks p).1 ∧ p = aheadW f ks (chooseW f ks p).1 + (chooseW f ks p).2
  | [], p, _, hp, hs => by
    rw [List.map_nil, List.sum_nil] at hs
    omega
  | c :: r, p, ha, hp, hs => by
    rw [List.pairwise_cons] at ha
    rw [List.map_cons, List.sum_cons] at hs
    unfold chooseW
    by_cases z : p < f c
    · rw [if_pos z]
      refine ⟨List.mem_cons_self .., hp, z, ?_⟩
      show p = aheadW f (c :: r) c + p
      rw [aheadW_zero fun x hx => ?_]
      · omega
      · rcases List.mem_cons.mp hx with rfl | hx
        · exact Nat.le_refl _
        · exact Nat.le_of_lt (ha.1 x hx)
    · rw [if_neg z]
      obtain ⟨h1, h2, h3, h4⟩ := chooseW_ok h0 (ks := r) (p := p - f c) ha.2 (by omega) (by omega)
      refine ⟨List.mem_cons_of_mem _ h1, h2, h3, ?_⟩
      rw [aheadW_cons, if_pos (ha.1 _ h1)]
      omega
theorem ahead_add {f : Nat → Int} (h0 : ∀ k, 0 ≤ f k) : ∀ {ks : List Nat} {c d : Nat}, ks.Pairwise (· < ·) → c ∈ ks → c < d → aheadW f ks c + f c ≤ aheadW f ks d
  | k :: r, c, d, ha, hc, hd => by
    rw [List.pairwise_cons] at ha
    rw [aheadW_cons, aheadW_cons]
    rcases List.mem_cons.mp hc with e | hc
    · subst e
      rw [if_neg (Nat.lt_irrefl _), if_pos hd, aheadW_zero fun x hx => Nat.le_of_lt (ha.1 x hx)]
      have := aheadW_nn h0 (ks := r) (c := d)
      omega
    · have := ahead_add h0 ha.2 hc hd
      have h1 := ha.1 c hc
      rw [if_pos h1, if_pos (show k < d by omega)]
      omega
theorem ahead_sum {f : Nat → Int} (h0 : ∀ k, 0 ≤ f k) : ∀ {ks : List Nat} {c : Nat}, ks.Pairwise (· < ·) → c ∈ ks → aheadW f ks c + f c ≤ (ks.map f).sum
  | k :: r, c, ha, hc => by
    rw [List.pairwise_cons] at ha
    rw [aheadW_cons, List.map_cons, List.sum_cons]
    rcases List.mem_cons.mp hc with e | hc
    · subst e
      rw [if_neg (Nat.lt_irrefl _), aheadW_zero fun x hx => Nat.le_of_lt (ha.1 x hx)]
      have := sum_nn (ns := r.map f) fun n hn => by
        obtain ⟨y, _, rfl⟩ := List.mem_map.mp hn
        exact h0 y
      omega
    · have := ahead_sum h0 ha.2 hc
      rw [if_pos (ha.1 c hc)]
      omega
def wayN (kf : Nat → List Nat) (to : Nat) : Nat → Nat → Int → List Nat
  | 0, k, _ => [k]
  | n + 1, k, p => if k = to then [k] else k :: wayN kf to n (chooseW (way kf to) (kf k) p).1 (chooseW (way kf to) (kf k) p).2
def wayAt (kf : Nat → List Nat) (to k : Nat) (p : Int) : List Nat := wayN kf to k k p
def isWayL (kf : Nat → List Nat) : List Nat → Prop
  | [] => False
  | [_] => True
  | a :: b :: r => b ∈ kf a ∧ isWayL kf (b :: r)
def placeL (kf : Nat → List Nat) (to : Nat) : List Nat → Int
  | a :: b :: r => aheadW (way kf to) (kf a) b + placeL kf to (b :: r)
  | _ => 0
section
variable {kf : Nat → List Nat} (hd : ∀ u c, c ∈ kf u → c < u) (ha : ∀ u, (kf u).Pairwise (· < ·))
include hd ha
theorem way_above {to k : Nat} (h : k < to) : way kf to k = 0 := by
  induction k using Nat.strongRecOn with
  | ind k ih =>
    rw [way_rec (hd k), if_neg (by omega), Int.add_zero]
    have : ∀ c ∈ kf k, way kf to c = 0 := fun c hc => ih c (hd k c hc) (by have := hd k c hc; omega)
    rw [List.map_congr_left this]
    generalize kf k = ks
    induction ks with
    | nil => rfl
    | cons _ r ih2 =>
      rw [List.map_cons, List.sum_cons]
      simpa using ih2
theorem way_to {to : Nat} : way kf to to = 1 := by
  rw [way_rec (hd to), if_pos rfl]
  have : ∀ c ∈ kf to, way kf to c = 0 := fun c hc => way_above hd ha (hd to c hc)
  rw [List.map_congr_left this]
  have e : ∀ ks : List Nat, (ks.map fun _ => (0 : Int)).sum = 0 := fun ks => by
    induction ks with
    | nil => rfl
    | cons _ r ih2 =>
      rw [List.map_cons, List.sum_cons, ih2]
      rfl
  rw [e]
  rfl
theorem wayN_cons {to n k : Nat} {p : Int} : ∃ r, wayN kf to n k p = k :: r := by
  cases n with
  | zero => exact ⟨[], rfl⟩
  | succ n =>
    unfold wayN
    split
    · exact ⟨[], rfl⟩
    · exact ⟨_, rfl⟩
theorem choose_kid {to k : Nat} {p : Int} (hn : k ≠ to) (h0 : 0 ≤ p) (h1 : p < way kf to k) :
    (chooseW (way kf to) (kf k) p).1 ∈ kf k ∧ 0 ≤ (chooseW (way kf to) (kf k) p).2 ∧ (chooseW (way kf to) (kf k) p).2 < way kf to (chooseW (way kf to) (kf k) p).1 ∧ p = aheadW (way kf to) (kf k) (chooseW (way kf to) (kf k) p).1 + (chooseW (way kf to) (kf k) p).2 := by
  rw [way_rec (hd k), if_neg hn, Int.add_zero] at h1
  exact chooseW_ok (fun k => way_nn hd k) (ha k) h0 h1
theorem wayN_ok {to : Nat} : ∀ {n k : Nat} {p : Int}, k ≤ n → 0 ≤ p → p < way kf to k → isWayL kf (wayN kf to n k p) ∧ (wayN kf to n k p).getLast? = some to ∧ placeL kf to (wayN kf to n k p) = p
  | 0, k, p, hk, h0, h1 => by
    have e : k = 0 := by omega
    subst e
    by_cases z : 0 = to
    · subst z
      rw [way_to hd ha] at h1
      exact ⟨trivial, rfl, by show (0 : Int) = p; omega⟩
    · rw [way_above hd ha (by omega)] at h1
      omega
  | n + 1, k, p, hk, h0, h1 => by
    unfold wayN
    by_cases z : k = to
    · subst z
      rw [if_pos rfl]
      rw [way_to hd ha] at h1
      exact ⟨trivial, rfl, by show (0 : Int) = p; omega⟩
    · rw [if_neg z]
      obtain ⟨c1, c2, c3, c4⟩ := choose_kid hd ha z h0 h1
      generalize chooseW (way kf to) (kf k) p = cp at c1 c2 c3 c4
      obtain ⟨c, q⟩ := cp
      have hck := hd k c c1
      obtain ⟨i1, i2, i3⟩ := wayN_ok (n := n) (k := c) (p := q) (by omega) c2 c3
      obtain ⟨r, er⟩ := wayN_cons hd ha (to := to) (n := n) (k := c) (p := q)
      show isWayL kf (k :: wayN kf to n c q) ∧ (k :: wayN kf to n c q).getLast? = some to ∧ placeL kf to (k :: wayN kf to n c q) = p
      rw [er] at i1 i2 i3 ⊢
      refine ⟨⟨c1, i1⟩, by rw [List.getLast?_cons_cons]; exact i2, ?_⟩
      show aheadW (way kf to) (kf k) c + placeL kf to (c :: r) = p
      rw [i3]
      exact c4.symm
theorem wayN_lt {to : Nat} : ∀ {n k : Nat} {p q : Int}, k ≤ n → 0 ≤ p → p < q → q < way kf to k → HT.lexLt ((wayN kf to n k p).map fun (x : Nat) => (x : Int)) ((wayN kf to n k q).map fun (x : Nat) => (x : Int)) = true
  | 0, k, p, q, hk, h0, h1, h2 => by
    have e : k = 0 := by omega
    subst e
    by_cases z : 0 = to
    · subst z
      rw [way_to hd ha] at h2
      omega
    · rw [way_above hd ha (by omega)] at h2
      omega
  | n + 1, k, p, q, hk, h0, h1, h2 => by
    have z : k ≠ to := by
      rintro rfl
      rw [way_to hd ha] at h2
      omega
    unfold wayN
    rw [if_neg z, if_neg z]
    obtain ⟨c1, c2, c3, c4⟩ := choose_kid hd ha z h0 (show p < way kf to k by omega)
    obtain ⟨d1, d2, d3, d4⟩ := choose_kid hd ha z (show 0 ≤ q by omega) h2
    generalize chooseW (way kf to) (kf k) p = cp at c1 c2 c3 c4
    generalize chooseW (way kf to) (kf k) q = cq at d1 d2 d3 d4
    obtain ⟨c, p'⟩ := cp
    obtain ⟨d, q'⟩ := cq
    have c1 : c ∈ kf k := c1
    have d1 : d ∈ kf k := d1
    have c3 : p' < way kf to c := c3
    have d2 : 0 ≤ q' := d2
    have c2 : 0 ≤ p' := c2
    have d3 : q' < way kf to d := d3
    have c4 : p = aheadW (way kf to) (kf k) c + p' := c4
    have d4 : q = aheadW (way kf to) (kf k) d + q' := d4
    show HT.lexLt (((k :: wayN kf to n c p')).map fun (x : Nat) => (x : Int)) ((k :: wayN kf to n d q').map fun (x : Nat) => (x : Int)) = true
    rw [List.map_cons, List.map_cons, HT.lexLt_cons, if_pos rfl]
    have hck := hd k c c1
    rcases Nat.lt_trichotomy c d with y | y | y
    · obtain ⟨r, er⟩ := wayN_cons hd ha (to := to) (n := n) (k := c) (p := p')
      obtain ⟨r2, er2⟩ := wayN_cons hd ha (to := to) (n := n) (k := d) (p := q')
      rw [er, er2, List.map_cons, List.map_cons, HT.lexLt_cons, if_neg (by omega)]
      exact decide_eq_true (by omega)
    · subst y
      exact wayN_lt (n := n) (by omega) c2 (by omega) d3
    · have := ahead_add (f := way kf to) (fun k => way_nn hd k) (ha k) d1 y
      omega
theorem placeL_lt {to : Nat} : ∀ {w : List Nat} {k : Nat}, isWayL kf (k :: w) → (k :: w).getLast? = some to → 0 ≤ placeL kf to (k :: w) ∧ placeL kf to (k :: w) < way kf to k
  | [], k, _, h => by
    have e : k = to := by simpa using h
    subst e
    rw [way_to hd ha]
    exact ⟨Int.le_refl 0, by show (0 : Int) < 1; decide⟩
  | b :: r, k, h, hl => by
    rw [List.getLast?_cons_cons] at hl
    obtain ⟨i1, i2⟩ := placeL_lt (w := r) (k := b) h.2 hl
    have h1 := aheadW_nn (f := way kf to) (fun k => way_nn hd k) (ks := kf k) (c := b)
    have h2 := ahead_sum (f := way kf to) (fun k => way_nn hd k) (ha k) h.1
    have h3 := way_rec (to := to) (hd k)
    show 0 ≤ aheadW (way kf to) (kf k) b + placeL kf to (b :: r) ∧ aheadW (way kf to) (kf k) b + placeL kf to (b :: r) < way kf to k
    refine ⟨by omega, ?_⟩
    rw [h3]
    split <;> omega
end
/-- to a leaf there are at most so many ways -/
theorem way_leaf_le {l : Nat} {inner : List (List Nat)} (A : Asc l inner) {x : Nat} (hx : x < l) : ∀ j, way (kidsAt l inner) x (l + j) ≤ ((2 ^ j : Nat) : Int) := by
  have hd : ∀ u c, c ∈ kidsAt l inner u → c < u := fun u c h => (kidsAt_lt A.raw h).2
  have hn : ∀ k, 0 ≤ way (kidsAt l inner) x k := fun k => way_nn hd k
  have hlf : ∀ k, k < l → way (kidsAt l inner) x k = if k = x then 1 else 0 := fun k hk => by
    rw [way_rec (hd k), show kidsAt l inner k = [] from if_pos hk]
    simp
  -- the sum over all kinds below
  have hsub : ∀ (n : Nat) (ks : List Nat), ks.Pairwise (· < ·) → (∀ c ∈ ks, c < n) → (ks.map (way (kidsAt l inner) x)).sum ≤ ((List.range n).map (way (kidsAt l inner) x)).sum := fun n => by
    induction n with
    | zero =>
      intro ks _ h
      cases ks with
      | nil => exact Int.le_refl _
      | cons c r => exact absurd (h c (List.mem_cons_self ..)) (by omega)
    | succ n ih =>
      intro ks hp h
      rw [List.range_succ, List.map_append, List.sum_append]
      have h9 : ([n].map (way (kidsAt l inner) x)).sum = way (kidsAt l inner) x n := by simp
      rw [h9]
      rcases List.eq_nil_or_concat ks with rfl | ⟨r, c, rfl⟩
      · have := ih [] List.Pairwise.nil (fun c hc => by cases hc)
        have := hn n
        simp only [List.map_nil, List.sum_nil] at *
        omega
      · rw [List.concat_eq_append] at hp h ⊢
        obtain ⟨p1, _, p3⟩ := List.pairwise_append.mp hp
        by_cases z : c = n
        · subst z
          rw [List.map_append, List.sum_append]
          have h8 : ([c].map (way (kidsAt l inner) x)).sum = way (kidsAt l inner) x c := by simp
          rw [h8]
          have := ih r p1 fun a ha => p3 a ha c (by simp)
          omega
        · have := ih (r ++ [c]) hp fun a ha => by
            have h1 := h a ha
            rcases List.mem_append.mp ha with ha | ha
            · have := p3 a ha c (by simp)
              have := h c (by simp)
              omega
            · have := List.mem_singleton.mp ha
              subst this
              omega
          have := hn n
          omega
  have hls : ∀ n, n ≤ l → ((List.range n).map (way (kidsAt l inner) x)).sum ≤ 1 ∧ (n ≤ x → ((List.range n).map (way (kidsAt l inner) x)).sum = 0) := fun n => by
    induction n with
    | zero => exact fun _ => ⟨by simp, fun _ => rfl⟩
    | succ n ih =>
      intro hn'
      obtain ⟨i1, i2⟩ := ih (by omega)
      rw [List.range_succ, List.map_append, List.sum_append]
      have h9 : ([n].map (way (kidsAt l inner) x)).sum = way (kidsAt l inner) x n := by simp
      rw [h9, hlf n (by omega)]
      by_cases z : n = x
      · rw [if_pos z]
        have := i2 (by omega)
        exact ⟨by omega, fun y => by omega⟩
      · rw [if_neg z]
        exact ⟨by omega, fun y => by have := i2 (by omega); omega⟩
  have hall : ∀ j, ((List.range (l + j)).map (way (kidsAt l inner) x)).sum ≤ ((2 ^ j : Nat) : Int) := fun j => by
    induction j with
    | zero => exact (hls l (Nat.le_refl l)).1
    | succ j ih =>
      rw [show l + (j + 1) = (l + j) + 1 by omega, List.range_succ, List.map_append, List.sum_append]
      have h9 : ([l + j].map (way (kidsAt l inner) x)).sum = way (kidsAt l inner) x (l + j) := by simp
      rw [h9]
      have h1 := hsub (l + j) (kidsAt l inner (l + j)) (A.at _) fun c hc => hd _ c hc
      have h2 : way (kidsAt l inner) x (l + j) = ((kidsAt l inner (l + j)).map (way (kidsAt l inner) x)).sum := by
        rw [way_rec (hd _), if_neg (by omega), Int.add_zero]
      have h3 : (2 ^ (j + 1) : Nat) = 2 ^ j + 2 ^ j := by rw [Nat.pow_succ]; omega
      omega
  intro j
  have h1 := hsub (l + j) (kidsAt l inner (l + j)) (A.at _) fun c hc => hd _ c hc
  have h2 : way (kidsAt l inner) x (l + j) = ((kidsAt l inner (l + j)).map (way (kidsAt l inner) x)).sum := by
    rw [way_rec (hd _), if_neg (by omega), Int.add_zero]
  have := hall j
  omega
theorem way_leaf_mil {l : Nat} {inner : List (List Nat)} (A : Asc l inner) {x k : Nat} (hx : x < l) (hk : k < l + inner.length) : way (kidsAt l inner) x k ≤ 1000000 := by
  have h20 := A.raw.n20
  by_cases z : k < l
  · rw [way_rec (fun c hc => (kidsAt_lt A.raw hc).2), show kidsAt l inner k = [] from if_pos z]
    split <;> simp
  · have := way_leaf_le A hx (k - l)
    rw [show l + (k - l) = k by omega] at this
    have h3 : 2 ^ (k - l) ≤ 2 ^ 19 := Nat.pow_le_pow_right (by decide) (by omega)
    have h4 : (2 : Nat) ^ 19 ≤ 1000000 := by decide
    generalize (2 : Nat) ^ (k - l) = a at this h3
    omega
end WR
set_option Elab.async false
set_option linter.all false
set_option maxRecDepth 100000
set_option maxHeartbeats 1000000
namespace WR
open PySem PySem.Spec PyProof.Rows L2 Evl

/-! ### webs drawn, ascending; lists that grow over a base -/
theorem Bs.app {B H H1 : Hp} {dk L r : Addr} {ns : List Int} {N : Int} (b : Bs B H dk L ns N) (h : B r = none) (a : ∀ B' : Hp, Ex B' H → B' r = none → Ex B' H1) : Bs B H1 dk L ns N := by
  have hne := b.ne h
  have hL : L ≠ r := fun z => by
    obtain ⟨o, ho⟩ := b.bL
    rw [z, h] at ho
    cases ho
  obtain ⟨x, y, n, d, hn⟩ := b.deck
  have e1 := a (WR.rem H r) rem_ex rem_self
  exact ⟨a _ b.ex (by rw [rem_ne hne]; exact h), ⟨x, y, n, ⟨e1 _ _ (by rw [rem_ne (Ne.symm hne)]; exact d.at_), e1 _ _ (by rw [rem_ne hL]; exact d.ls), d.a0, d.b0, d.n0, d.len⟩, hn⟩, b.bdk, b.bL⟩
theorem Drawn.asc {L : Nat} {inner : List (List Nat)} (h : Drawn L inner) (h1 : 1 ≤ L) (h8 : L ≤ 8) : Asc L inner := by
  have hr := h.raw h1 h8
  have hnd := h.nd
  obtain ⟨kk, od, hG, hn, hO, hlen, hin⟩ := h.ex
  refine ⟨hr, fun ks hks => ?_⟩
  have h2 : ks.Pairwise (· ≤ ·) := by
    rw [hin] at hks
    obtain ⟨u, _, rfl⟩ := List.mem_map.mp hks
    unfold itemOf
    refine List.pairwise_map.mpr ((sortI_sorted _).imp fun {a b} hab => ?_)
    omega
  exact (h2.and (hnd ks hks)).imp fun {a b} hab => Nat.lt_of_le_of_ne hab.1 hab.2
/-- the items of a ladder -/
structure Lad (ks : List (List Nat)) (last lf n : Nat) : Prop where
  lt : ∀ j k, ks[j]? = some k → ∀ c ∈ k, c < 8 + j
  up : ∀ k ∈ ks, k.Pairwise (· < ·)
  len : ∀ k ∈ ks, k.length ≤ 2
  bnd : last < 8 + ks.length
  leaf : 1 ≤ lf ∧ lf ≤ n + 1
  top : ks = [] ∧ last = 0 ∧ n = 0 ∨ 8 ≤ last
  cov : ∀ c, c < 8 + ks.length → c ≠ last → ¬ (lf ≤ c ∧ c < 8) → ∃ k ∈ ks, c ∈ k
/-- each kind but the last has a parent -/
def Cov (l : Nat) (inner : List (List Nat)) : Prop := ∀ c, c + 1 < l + inner.length → ∃ k ∈ inner, c ∈ k
theorem Lad.app {ks : List (List Nat)} {it : List Nat} (h1 : ∀ j k, ks[j]? = some k → ∀ c ∈ k, c < 8 + j) (h2 : ∀ c ∈ it, c < 8 + ks.length) : ∀ j k, (ks ++ [it])[j]? = some k → ∀ c ∈ k, c < 8 + j := fun j k hj c hc => by
  rw [List.getElem?_append] at hj
  by_cases z : j < ks.length
  · rw [if_pos z] at hj
    exact h1 j k hj c hc
  · rw [if_neg z] at hj
    have hl := (List.getElem?_eq_some_iff.mp hj).1
    have e : j - ks.length = 0 := by rw [List.length_singleton] at hl; omega
    rw [e] at hj
    cases hj
    have := h2 c hc
    omega
theorem sort_pair {a b : Nat} (h : a < b) : (sortI [(b : Int), (a : Int)]).map PyData.int = natDs [a, b] ∧ (sortI [(a : Int), (b : Int)]).map PyData.int = natDs [a, b] := by
  have e : ∀ l : List Int, l.Perm [(a : Int), (b : Int)] → sortI l = [(a : Int), (b : Int)] := fun l hl => sorted_one ((sortI_perm _).trans hl) (sortI_sorted _) (by
    refine List.pairwise_cons.mpr ⟨fun x hx => ?_, List.pairwise_singleton ..⟩
    rw [List.mem_singleton.mp hx]
    omega)
  refine ⟨?_, ?_⟩
  · rw [e _ (List.Perm.swap ..)]
    rfl
  · rw [e _ (List.Perm.refl _)]
    rfl
section
variable {K : PySem.W.Frag} {σ : L2.St} {H : Hp} {ta tb te t1 : TE} {dk L : Addr} {ns : List Int} {D : Ends} {tz : TS}
theorem en_lstRg {lo n : Nat} (h1 : Ev ta σ H (nV lo)) (h2 : Ev tb σ H (nV n)) (hl : lo ≤ n) (hn : n ≤ 1000) : EvN K (tLstRg (tRg2 ta tb)) σ H (natDs ((List.range (n - lo)).map (lo + ·))) := fun H1 e Q q =>
  h1 H1 e _ fun H2 e2 => h2 H2 (e.trans e2) _ fun H3 e3 => ⟨(lo : Int), (n : Int), rfl, rfl, RgOk.of_le (by omega) (by omega) (by omega) (by omega), fun p hp => by
    rw [rgV_lo hl]
    exact q p _ _ (fresh_back (e2.trans e3) hp) ((e2.trans e3).trans (Ex.new hp)) upd_same (dpAll_nat _)⟩
theorem en_catN {ds es : List PyData} (ha : EvN K ta σ H ds) (hb : EvN K tb σ H es) (hl : ds.length + es.length ≤ 100000) : EvN K (tOp rCat ta tb) σ H (ds ++ es) := fun H1 e Q q =>
  ha H1 e _ fun a xs H2 ha' e2 ha2 hda => hb H2 (e.trans e2) _ fun b ys H3 hb' e3 hb3 hd3 =>
    ⟨a, b, xs, ys, rfl, rfl, e3 _ _ ha2, hb3, sz_of (by rw [dpAll_len hda, dpAll_len hd3]; exact hl), fun c hc =>
      q c _ _ (fresh_back (e2.trans e3) hc) ((e2.trans e3).trans (Ex.new hc)) upd_same (dpAll_app (dpAll_ex (e3.trans (Ex.new hc)) _ hda) (dpAll_ex (Ex.new hc) _ hd3))⟩
def spLadder (K : PySem.W.Frag) : Sp := fun vs H Q _ => ∃ dk L ns N, vs = [.ref dk] ∧ Dk H dk L ns N ∧ N ≤ 379999900 ∧ ∀ v H' inner, Bs H H' dk L ns (N + 5) → Asc 8 inner → Cov 8 inner → Dp K H' v (webD 8 inner) → Q v H'
theorem evp_ladder {E : XK} (h1 : ∀ H, Ev t1 σ H (.ref dk)) : EvP σ H dk L ns (tCall (spLadder K) [] E (tCons t1 tNil)) 100 (PrW K fun l inner => Asc l inner) := fun H1 N b hN Q q =>
  h1 H1 H1 (Ex.refl H1) _ fun H2 e2 => ⟨dk, L, ns, N, rfl, b.deck.ex e2, by omega, fun v H3 inner b3 ha hc hv => q v H3 ((((Bs.rfl b.deck).more e2).tr b3).wk (by omega)) ⟨8, inner, ha, hv⟩⟩
theorem evp_ladderC {E : XK} (h1 : ∀ H, Ev t1 σ H (.ref dk)) : EvP σ H dk L ns (tCall (spLadder K) [] E (tCons t1 tNil)) 100 (PrW K fun l inner => Asc l inner ∧ Cov l inner) := fun H1 N b hN Q q =>
  h1 H1 H1 (Ex.refl H1) _ fun H2 e2 => ⟨dk, L, ns, N, rfl, b.deck.ex e2, by omega, fun v H3 inner b3 ha hc hv => q v H3 ((((Bs.rfl b.deck).more e2).tr b3).wk (by omega)) ⟨8, inner, ⟨ha, hc⟩, hv⟩⟩
end
end WR
set_option Elab.async false
set_option linter.all false
set_option maxRecDepth 100000
set_option maxHeartbeats 1000000
namespace WR
open PySem PySem.Spec PyProof.Rows L2 Evl

/-! ### the law's walks: the mathematics -/
def totL (kf : Nat → List Nat) : Nat → List Nat
  | 0 => []
  | n + 1 => totL kf n ++ [((kf n).map fun c => (totL kf n).getD c 0).sum + 1]
def tot (kf : Nat → List Nat) (k : Nat) : Nat := (totL kf (k + 1)).getD k 0
theorem totL_len {kf : Nat → List Nat} : ∀ n, (totL kf n).length = n
  | 0 => rfl
  | n + 1 => by
    show (totL kf n ++ [_]).length = _
    rw [List.length_append, totL_len n]
    rfl
theorem totL_at {kf : Nat → List Nat} {k : Nat} : ∀ {n : Nat}, k < n → (totL kf n).getD k 0 = tot kf k
  | n + 1, h => by
    by_cases e : k = n
    · subst e
      rfl
    · show (totL kf n ++ [_]).getD k 0 = _
      rw [List.getD_eq_getElem?_getD, List.getElem?_append_left (by rw [totL_len]; omega), ← List.getD_eq_getElem?_getD]
      exact totL_at (by omega)
theorem tot_rec {kf : Nat → List Nat} {k : Nat} (h : ∀ c ∈ kf k, c < k) : tot kf k = ((kf k).map (tot kf)).sum + 1 := by
  unfold tot
  show (totL kf k ++ [_]).getD k 0 = _
  rw [List.getD_eq_getElem?_getD, List.getElem?_append_right (by rw [totL_len]; exact Nat.le_refl _), totL_len, Nat.sub_self]
  show ((kf k).map fun c => (totL kf k).getD c 0).sum + 1 = _
  congr 2
  exact List.map_congr_left fun c hc => totL_at (h c hc)
/-- the stack: groups of at most 30, each below a bound that falls -/
inductive Stk (n : Nat) : Nat → List Nat → Prop
  | nil : Stk n n []
  | grp {b b' : Nat} {rest g : List Nat} (h : Stk n b' rest) (hb : b < b') (hl : g.length ≤ 30) (hg : ∀ x ∈ g, x < b) : Stk n b (rest ++ g)
theorem Stk.le {n b : Nat} {left : List Nat} (h : Stk n b left) : b ≤ n := by
  induction h with
  | nil => exact Nat.le_refl _
  | grp _ hb _ _ ih => omega
theorem Stk.len {n b : Nat} {left : List Nat} (h : Stk n b left) : left.length ≤ 30 * (n - b) := by
  induction h with
  | nil => exact Nat.zero_le _
  | grp h hb hl _ ih =>
    rw [List.length_append]
    have := h.le
    omega
theorem Stk.pop {n b : Nat} {left l : List Nat} {x : Nat} (h : Stk n b left) (e : left = l ++ [x]) : ∃ b', x < b' ∧ Stk n b' l := by
  induction h generalizing l x with
  | nil => exact absurd e (by simp)
  | grp h hb hl hg ih =>
    rename_i b b' rest g
    rcases List.eq_nil_or_concat g with rfl | ⟨g', y, rfl⟩
    · rw [List.append_nil] at e
      exact ih e
    · rw [List.concat_eq_append, ← List.append_assoc] at e
      obtain ⟨e1, e2⟩ := List.append_inj' e rfl
      have e2 : y = x := by simpa using e2
      subst e2
      subst e1
      refine ⟨b, hg y (by simp), .grp h hb ?_ fun z hz => hg z (by simp [hz])⟩
      rw [List.concat_eq_append, List.length_append] at hl
      omega
structure Wk (kf : Nat → List Nat) (n k : Nat) (fs : List Int) (left : List Nat) : Prop where
  len : fs.length = n
  bal : ∀ x, x < n → fs.getD x 0 + (left.map (way kf x)).sum = way kf x k
  lt : ∀ y ∈ left, y < n
  stk : ∃ b, Stk (n + 1) b left
theorem Wk.step {kf : Nat → List Nat} {n k y : Nat} {fs : List Int} {l : List Nat} (hd : ∀ u c, c ∈ kf u → c < u) (hl : ∀ u, (kf u).length ≤ 30) (w : Wk kf n k fs (l ++ [y])) : Wk kf n k (bump fs y) (l ++ kf y) := by
  have hy : y < n := w.lt y (by simp)
  refine ⟨by rw [bump_len]; exact w.len, fun x hx => ?_, fun z hz => ?_, ?_⟩
  · have := w.bal x hx
    rw [List.map_append, List.sum_append] at this ⊢
    rw [bump_at (by rw [w.len]; exact hx)]
    have h2 := way_rec (to := x) (fun c hc => hd y c hc)
    have h3 : ([y].map (way kf x)).sum = way kf x y := by simp
    rw [h3, h2] at this
    omega
  · rcases List.mem_append.mp hz with h | h
    · exact w.lt z (List.mem_append_left _ h)
    · have := hd y z h
      omega
  · obtain ⟨b, hb⟩ := w.stk
    obtain ⟨b', h1, h2⟩ := hb.pop rfl
    exact ⟨y, .grp h2 h1 (hl y) fun z hz => hd y z hz⟩
theorem Wk.fall {kf : Nat → List Nat} {y : Nat} {l : List Nat} (hd : ∀ u c, c ∈ kf u → c < u) : ((l ++ kf y).map (tot kf)).sum < ((l ++ [y]).map (tot kf)).sum := by
  rw [List.map_append, List.sum_append, List.map_append, List.sum_append]
  have h2 := tot_rec (fun c hc => hd y c hc)
  have h3 : ([y].map (tot kf)).sum = tot kf y := by simp
  omega
theorem Wk.start {kf : Nat → List Nat} {n k : Nat} (hk : k < n) : Wk kf n k (List.replicate n 0) [k] := by
  refine ⟨List.length_replicate, fun x hx => ?_, fun y hy => by rw [List.mem_singleton.mp hy]; exact hk, n, ?_⟩
  · rw [List.getD_eq_getElem?_getD, List.getElem?_replicate, if_pos hx]
    simp
  · exact .grp (rest := []) .nil (Nat.lt_succ_self n) (by simp) (fun x hx => by rw [List.mem_singleton.mp hx]; exact hk)
theorem Wk.done {kf : Nat → List Nat} {n k : Nat} {fs : List Int} (w : Wk kf n k fs []) : fs = (List.range n).map fun x => way kf x k := by
  refine List.ext_getElem? fun x => ?_
  by_cases z : x < n
  · have := w.bal x z
    rw [List.map_nil, List.sum_nil, Int.add_zero, List.getD_eq_getElem?_getD, List.getElem?_eq_getElem (by rw [w.len]; exact z)] at this
    rw [List.getElem?_map, List.getElem?_range z, List.getElem?_eq_getElem (by rw [w.len]; exact z)]
    exact congrArg some this
  · rw [List.getElem?_eq_none (by rw [w.len]; omega), List.getElem?_eq_none (by rw [List.length_map, List.length_range]; omega)]
theorem q_par2 {σ : L2.St} {H : Hp} {D : Ends} {tz : TS} {i j : Nat} {r : R2} {ta tb tc : TE} (h : ta σ H fun x H1 => tb σ H1 fun y H2 => r x y H2 fun v H3 => tc σ H3 fun w H4 => ∃ v' w', [v, w] = [v', w'] ∧ tz D ((σ.set i (some v')).set j (some w')) H4) : tSeq (tPar i j (tCons (tOp r ta tb) (tCons tc tNil))) tz D σ H := h
def spWalks (K : PySem.W.Frag) : Sp := fun vs H Q _ => ∃ p rs l inner k, vs = [.ref p, nV k] ∧ KdAt H p rs (kkOf l inner) ∧ Raw l inner ∧ k < l + inner.length ∧
  ∀ r H', Ex H H' → Dp K H' (.ref r) (.list (((List.range (l + inner.length)).map fun x => way (kidsAt l inner) x k).map PyData.int)) → Q (.ref r) H'
end WR
set_option Elab.async false
set_option linter.all false
set_option maxRecDepth 100000
set_option maxHeartbeats 1000000
namespace WR
open PySem PySem.Spec PyProof.Rows L2 Evl

/-! ### _law_without -/
/-- reached from the root without g -/
def RchG (kk : List (List Nat)) (g x : Nat) : Prop := ∀ T : Nat → Prop, (∀ r, r + 1 = kk.length → r ≠ g → T r) → (∀ u c, T u → c ∈ rowAt kk u → c ≠ g → T c) → T x
structure Wo (kk : List (List Nat)) (g : Nat) (S : List Nat) : Prop where
  lt : ∀ x ∈ S, x < kk.length
  iff : ∀ x, x ∈ S ↔ RchG kk g x
def spWithout (K : PySem.W.Frag) : Sp := fun vs H Q _ => ∃ p rs kk k, vs = [.ref p, nV k] ∧ KdAt H p rs kk ∧ Sml kk ∧ 0 < kk.length ∧ (∀ ks ∈ kk, ∀ c ∈ ks, c < kk.length) ∧
  ∀ d H' S, Wo kk k S → H d = none → Ex H H' → H' d = some (.dK (dKs S)) → Q (.ref d) H'
end WR
set_option Elab.async false
set_option linter.all false
set_option maxRecDepth 100000
set_option maxHeartbeats 1000000
namespace WR
open PySem PySem.Spec PyProof.Rows L2 Evl

/-! ### ways by a kind, ways round it -/
def avoid (kf : Nat → List Nat) (g : Nat) : Nat → List Nat := fun u => (kf u).filter fun c => decide (c ≠ g)
theorem way_up {kf : Nat → List Nat} (hd : ∀ u c, c ∈ kf u → c < u) {to k : Nat} (h : k < to) : way kf to k = 0 := by
  induction k using Nat.strongRecOn with
  | ind k ih =>
    rw [way_rec (hd k), if_neg (by omega), Int.add_zero]
    have : (kf k).map (way kf to) = (kf k).map fun _ => 0 := List.map_congr_left fun c hc => ih c (hd k c hc) (by have := hd k c hc; omega)
    rw [this]
    generalize kf k = l
    induction l with
    | nil => rfl
    | cons _ _ ih => rw [List.map_cons, List.sum_cons, ih]; rfl
theorem way_one {kf : Nat → List Nat} (hd : ∀ u c, c ∈ kf u → c < u) {k : Nat} : way kf k k = 1 := by
  rw [way_rec (hd k), if_pos rfl]
  have : (kf k).map (way kf k) = (kf k).map fun _ => 0 := List.map_congr_left fun c hc => way_up hd (hd k c hc)
  rw [this]
  have e : ∀ l : List Nat, (l.map fun _ => (0 : Int)).sum = 0 := fun l => by
    induction l with
    | nil => rfl
    | cons _ _ ih => rw [List.map_cons, List.sum_cons, ih]; rfl
  rw [e]
  rfl
theorem avoid_lt {kf : Nat → List Nat} (hd : ∀ u c, c ∈ kf u → c < u) (g : Nat) : ∀ u c, c ∈ avoid kf g u → c < u := fun u c h => hd u c (List.mem_filter.mp h).1
theorem split_sum {kf : Nat → List Nat} {g to : Nat} {C : Int} {A B D : Nat → Int} (hg : A g = C) (hB : B g = 1) : ∀ {l : List Nat}, (∀ c ∈ l, c ≠ g → A c = B c * C + D c) → (l.map A).sum = (l.map B).sum * C + ((l.filter fun c => decide (c ≠ g)).map D).sum
  | [], _ => by simp
  | c :: r, h => by
    have ih := split_sum (kf := kf) (to := to) hg hB (l := r) fun x hx => h x (List.mem_cons_of_mem _ hx)
    rw [List.map_cons, List.sum_cons, List.map_cons, List.sum_cons, List.filter_cons, ih, Int.add_mul]
    by_cases z : c = g
    · rw [if_neg (by simp [z]), z, hg, hB, Int.one_mul]
      omega
    · rw [if_pos (by simp [z]), List.map_cons, List.sum_cons, h c (List.mem_cons_self ..) z]
      omega
theorem way_split {kf : Nat → List Nat} (hd : ∀ u c, c ∈ kf u → c < u) {g to : Nat} : ∀ {k : Nat}, k ≠ g → way kf to k = way kf g k * way kf to g + way (avoid kf g) to k := fun {k} => by
  induction k using Nat.strongRecOn with
  | ind k ih =>
    intro hk
    have h1 := split_sum (kf := kf) (to := to) (g := g) (C := way kf to g) (A := way kf to) (B := way kf g) (D := way (avoid kf g) to) rfl (way_one hd) (l := kf k) fun c hc hcg => ih c (hd k c hc) hcg
    rw [way_rec (hd k), way_rec (kf := avoid kf g) (avoid_lt hd g k), way_rec (kf := kf) (to := g) (hd k), if_neg hk, Int.add_zero, h1]
    have h2 : avoid kf g k = (kf k).filter fun c => decide (c ≠ g) := rfl
    rw [h2]
    omega
theorem rowAt_map {kk : List (List Nat)} {g : Nat} : rowAt (kk.map fun ks => ks.filter fun c => decide (c ≠ g)) = avoid (rowAt kk) g := by
  funext u
  unfold rowAt avoid
  show _ = (kk.getD u []).filter _
  rw [List.getD_eq_getElem?_getD, List.getElem?_map, List.getD_eq_getElem?_getD]
  cases kk[u]? <;> rfl
theorem avoid_rch {kk : List (List Nat)} (hd : ∀ u c, c ∈ rowAt kk u → c < u) {g r x : Nat} (hr : r + 1 = kk.length) (hg : r ≠ g) : 0 < way (avoid (rowAt kk) g) x r ↔ RchG kk g x := by
  have h1 := way_rch (kk := kk.map fun ks => ks.filter fun c => decide (c ≠ g)) (by rw [rowAt_map]; exact avoid_lt hd g) (to := x) r
  rw [rowAt_map] at h1
  rw [h1]
  unfold Rch
  rw [rowAt_map]
  constructor
  · intro h T hT hS
    exact h T (hT r hr hg) fun u c hu hc => by
      obtain ⟨a, b⟩ := List.mem_filter.mp hc
      exact hS u c hu a (of_decide_eq_true b)
  · intro h T hT hS
    exact h T (fun r' hr' _ => by rw [show r' = r by omega]; exact hT) fun u c hu hc hcg => hS u c hu (List.mem_filter.mpr ⟨hc, decide_eq_true hcg⟩)
def holdB (l : Nat) (inner : List (List Nat)) (g x : Nat) : Bool := decide (way (kidsAt l inner) g (topN l inner) * way (kidsAt l inner) x g = way (kidsAt l inner) x (topN l inner))
theorem hold_iff {l : Nat} {inner : List (List Nat)} (hw : Raw l inner) {g x : Nat} : holdB l inner g x = true ↔ ¬ RchG (kkOf l inner) g x := by
  have h1 := hw.l1
  have hd : ∀ u c, c ∈ kidsAt l inner u → c < u := fun u c h => (kidsAt_lt hw h).2
  have hdk : ∀ u c, c ∈ rowAt (kkOf l inner) u → c < u := by rw [rowAt_kkE]; exact hd
  have hr : topN l inner + 1 = (kkOf l inner).length := by
    rw [kkOf_len]
    unfold topN
    omega
  unfold holdB
  rw [decide_eq_true_iff]
  by_cases z : topN l inner = g
  · rw [z, way_one hd, Int.one_mul]
    refine ⟨fun _ h => ?_, fun _ => rfl⟩
    exact h (fun _ => False) (fun r' hr' hne => by
      have : r' = g := by omega
      exact hne this) fun _ _ h _ _ => h
  · have h2 := way_split hd (to := x) z
    have h3 := avoid_rch hdk (x := x) hr z
    rw [rowAt_kkE] at h3
    have h4 := way_nn (to := x) (avoid_lt hd g) (topN l inner)
    rw [← h3]
    constructor
    · intro h y
      omega
    · intro h
      omega
theorem way_bits {l : Nat} {inner : List (List Nat)} (hw : Raw l inner) {to k : Nat} (hk : k < l + inner.length) : (way (kidsAt l inner) to k).natAbs < 2 ^ 150 := by
  have h8 := hw.l8
  have h20 := hw.n20
  have hd : ∀ u c, c ∈ kidsAt l inner u → c < u := fun u c h => (kidsAt_lt hw h).2
  have h1 := way_nn (to := to) hd k
  have h2 := way_le (to := to) hd (B := 30) (fun u => kl30 hw) k
  have h3 : (30 + 1) ^ k ≤ (30 + 1) ^ 28 := Nat.pow_le_pow_right (by decide) (by omega)
  have h4 : (30 + 1) ^ 28 < 2 ^ 150 := by decide
  generalize (30 + 1) ^ k = a at h2 h3
  generalize (30 + 1) ^ 28 = b at h3 h4
  generalize 2 ^ 150 = c at h4 ⊢
  omega
end WR
set_option Elab.async false
set_option linter.all false
set_option maxRecDepth 100000
set_option maxHeartbeats 1000000
namespace WR
open PySem PySem.Spec PyProof.Rows L2 Evl

/-! ### ways by a kind, counted one by one: the mathematics -/
def valW (kf : Nat → List Nat) (x : Nat) (W : List Nat) (g : Nat) : Int := if g ∈ W then way kf x (W.getLastD 0) else way kf g (W.getLastD 0) * way kf x g
theorem lastD_snoc {W : List Nat} {c : Nat} : (W ++ [c]).getLastD 0 = c := by
  rw [List.getLastD_eq_getLast?, List.getLast?_append]
  rfl
theorem lastD_mem {W : List Nat} (h : W ≠ []) : W.getLastD 0 ∈ W := by
  rw [List.getLastD_eq_getLast?, List.getLast?_eq_some_getLast h]
  exact List.getLast_mem h
theorem sum_mulR {f : Nat → Int} {C : Int} : ∀ ks : List Nat, (ks.map fun c => f c * C).sum = (ks.map f).sum * C
  | [] => by simp
  | k :: r => by
    rw [List.map_cons, List.sum_cons, List.map_cons, List.sum_cons, sum_mulR r, Int.add_mul]
structure WOk (n : Nat) (W : List Nat) : Prop where
  ne : W ≠ []
  nd : W.Nodup
  lt : ∀ c ∈ W, c < n
  le : ∀ c ∈ W, W.getLastD 0 ≤ c
theorem WOk.len {n : Nat} {W : List Nat} (h : WOk n W) : W.length ≤ n := nodup_len n W h.nd h.lt
theorem WOk.snoc {n : Nat} {W : List Nat} {c : Nat} (h : WOk n W) (hc : c < W.getLastD 0) : WOk n (W ++ [c]) := by
  refine ⟨by simp, ?_, fun a ha => ?_, fun a ha => ?_⟩
  · rw [List.nodup_append]
    refine ⟨h.nd, (by simp), fun a ha b hb z => ?_⟩
    rw [List.mem_singleton.mp hb] at z
    have := h.le a ha
    omega
  · rcases List.mem_append.mp ha with ha | ha
    · exact h.lt a ha
    · rw [List.mem_singleton.mp ha]
      have := h.lt _ (lastD_mem h.ne)
      omega
  · rw [lastD_snoc]
    rcases List.mem_append.mp ha with ha | ha
    · have := h.le a ha
      omega
    · rw [List.mem_singleton.mp ha]
      exact Nat.le_refl _
theorem valW_step {kf : Nat → List Nat} (hd : ∀ u c, c ∈ kf u → c < u) {x : Nat} {W : List Nat} {g : Nat} (h : W ≠ []) :
    valW kf x W g = (if W.getLastD 0 = x ∧ g ∈ W then 1 else 0) + ((kf (W.getLastD 0)).map fun c => valW kf x (W ++ [c]) g).sum := by
  obtain ⟨u, hu⟩ : ∃ u, u = W.getLastD 0 := ⟨_, rfl⟩
  rw [← hu]
  unfold valW
  rw [← hu]
  by_cases z : g ∈ W
  · rw [if_pos z, way_rec (hd u)]
    have e : ((kf u).map fun c => if g ∈ W ++ [c] then way kf x ((W ++ [c]).getLastD 0) else way kf g ((W ++ [c]).getLastD 0) * way kf x g) = (kf u).map (way kf x) := List.map_congr_left fun c _ => by
      rw [if_pos (List.mem_append_left _ z), lastD_snoc]
    rw [e]
    by_cases y : u = x
    · rw [if_pos y, if_pos ⟨y, z⟩]
      omega
    · rw [if_neg y, if_neg fun w => y w.1]
      omega
  · have hgu : u ≠ g := fun y => z (y ▸ hu ▸ lastD_mem h)
    rw [if_neg z, if_neg fun w => z w.2, Int.zero_add, way_rec (hd u), if_neg hgu, Int.add_zero, ← sum_mulR]
    congr 1
    refine List.map_congr_left fun c _ => ?_
    rw [lastD_snoc]
    by_cases y : g = c
    · subst y
      rw [if_pos (by simp), way_one hd, Int.one_mul]
    · rw [if_neg (by simp [z, y])]
structure Ht (kf : Nat → List Nat) (n r x : Nat) (fs : List Int) (e : Int) (ws : List (List Nat)) : Prop where
  len : fs.length = n
  bal : ∀ g, g < n → fs.getD g 0 + (ws.map fun W => valW kf x W g).sum = way kf g r * way kf x g
  all : e + (ws.map fun W => way kf x (W.getLastD 0)).sum = way kf x r
  ok : ∀ W ∈ ws, WOk n W
  stk : ∃ b, Stk (n + 1) b (ws.map fun W => W.getLastD 0)
def bumpIf (fs : List Int) (W : List Nat) (b : Bool) : List Int := if b = true then bumpAll fs W else fs
theorem Ht.step {kf : Nat → List Nat} {n r x : Nat} {fs : List Int} {e : Int} {ws : List (List Nat)} {W : List Nat} (hd : ∀ u c, c ∈ kf u → c < u) (hl : ∀ u, (kf u).length ≤ 30) (h : Ht kf n r x fs e (ws ++ [W])) :
    Ht kf n r x (bumpIf fs W (decide (W.getLastD 0 = x))) (e + if W.getLastD 0 = x then 1 else 0) (ws ++ (kf (W.getLastD 0)).map fun c => W ++ [c]) := by
  have hW := h.ok W (by simp)
  have hlen : (bumpIf fs W (decide (W.getLastD 0 = x))).length = n := by
    unfold bumpIf
    split
    · rw [bumpAll_len]
      exact h.len
    · exact h.len
  refine ⟨hlen, fun g hg => ?_, ?_, fun V hV => ?_, ?_⟩
  · have hb := h.bal g hg
    rw [List.map_append, List.sum_append] at hb ⊢
    have h1 : (([W] : List (List Nat)).map fun W => valW kf x W g).sum = valW kf x W g := by simp
    rw [h1, valW_step hd hW.ne] at hb
    rw [List.map_map]
    have e2 : ((fun W => valW kf x W g) ∘ fun c => W ++ [c]) = fun c => valW kf x (W ++ [c]) g := rfl
    rw [e2]
    unfold bumpIf
    by_cases z : W.getLastD 0 = x
    · rw [if_pos (decide_eq_true z), bumpAll_at hW.nd (by rw [h.len]; exact hg)]
      by_cases y : g ∈ W
      · rw [if_pos ⟨z, y⟩] at hb
        rw [if_pos y]
        omega
      · rw [if_neg fun w => y w.2] at hb
        rw [if_neg y]
        omega
    · rw [if_neg (by simpa using z)]
      rw [if_neg fun w => z w.1] at hb
      omega
  · have hb := h.all
    rw [List.map_append, List.sum_append] at hb ⊢
    have h1 : (([W] : List (List Nat)).map fun W => way kf x (W.getLastD 0)).sum = way kf x (W.getLastD 0) := by simp
    rw [h1, way_rec (hd _)] at hb
    rw [List.map_map]
    have e2 : ((kf (W.getLastD 0)).map ((fun W => way kf x (W.getLastD 0)) ∘ fun c => W ++ [c])) = (kf (W.getLastD 0)).map (way kf x) := List.map_congr_left fun c _ => by
      show way kf x ((W ++ [c]).getLastD 0) = _
      rw [lastD_snoc]
    rw [e2]
    omega
  · rcases List.mem_append.mp hV with hV | hV
    · exact h.ok V (List.mem_append_left _ hV)
    · obtain ⟨c, hc, rfl⟩ := List.mem_map.mp hV
      exact hW.snoc (hd _ c hc)
  · obtain ⟨b, hb⟩ := h.stk
    rw [List.map_append] at hb
    obtain ⟨b', h1, h2⟩ := hb.pop (x := W.getLastD 0) (l := ws.map fun W => W.getLastD 0) rfl
    refine ⟨W.getLastD 0, ?_⟩
    rw [List.map_append]
    have e2 : (((kf (W.getLastD 0)).map fun c => W ++ [c]).map fun W => W.getLastD 0) = kf (W.getLastD 0) := by
      rw [List.map_map]
      conv => rhs; rw [← List.map_id (kf (W.getLastD 0))]
      exact List.map_congr_left fun c _ => lastD_snoc
    rw [e2]
    exact .grp h2 h1 (hl _) fun z hz => hd _ z hz
theorem Ht.fall {kf : Nat → List Nat} {ws : List (List Nat)} {W : List Nat} (hd : ∀ u c, c ∈ kf u → c < u) : ((ws ++ (kf (W.getLastD 0)).map fun c => W ++ [c]).map fun W => tot kf (W.getLastD 0)).sum < ((ws ++ [W]).map fun W => tot kf (W.getLastD 0)).sum := by
  rw [List.map_append, List.sum_append, List.map_append, List.sum_append, List.map_map]
  have h2 := tot_rec (kf := kf) (fun c hc => hd (W.getLastD 0) c hc)
  have h3 : (([W] : List (List Nat)).map fun W => tot kf (W.getLastD 0)).sum = tot kf (W.getLastD 0) := by simp
  have e2 : ((kf (W.getLastD 0)).map ((fun W => tot kf (W.getLastD 0)) ∘ fun c => W ++ [c])) = (kf (W.getLastD 0)).map (tot kf) := List.map_congr_left fun c _ => by
    show tot kf ((W ++ [c]).getLastD 0) = _
    rw [lastD_snoc]
  rw [e2]
  omega
theorem Ht.start {kf : Nat → List Nat} (hd : ∀ u c, c ∈ kf u → c < u) {n r x : Nat} (hr : r < n) : Ht kf n r x (List.replicate n 0) 0 [[r]] := by
  refine ⟨List.length_replicate, fun g hg => ?_, ?_, fun W hW => ?_, n, ?_⟩
  · rw [List.getD_eq_getElem?_getD, List.getElem?_replicate, if_pos hg]
    have e : (([[r]] : List (List Nat)).map fun W => valW kf x W g).sum = valW kf x [r] g := by simp
    rw [e]
    unfold valW
    show (0 : Int) + (if g ∈ [r] then way kf x r else way kf g r * way kf x g) = _
    by_cases z : g = r
    · subst z
      rw [if_pos (by simp), way_one hd]
      omega
    · rw [if_neg (by simpa using z)]
      omega
  · show (0 : Int) + (way kf x r + 0) = way kf x r
    omega
  · rw [List.mem_singleton.mp hW]
    refine ⟨by simp, (by simp), fun c hc => by rw [List.mem_singleton.mp hc]; exact hr, fun c hc => ?_⟩
    rw [List.mem_singleton.mp hc]
    exact Nat.le_refl r
  · exact .grp (rest := []) .nil (Nat.lt_succ_self n) (by simp) (fun y hy => by rw [List.mem_singleton.mp hy]; exact hr)
theorem Ht.done {kf : Nat → List Nat} {n r x : Nat} {fs : List Int} {e : Int} (h : Ht kf n r x fs e []) : fs = ((List.range n).map fun g => way kf g r * way kf x g) ∧ e = way kf x r := by
  refine ⟨List.ext_getElem? fun g => ?_, by have := h.all; simpa using this⟩
  by_cases z : g < n
  · have := h.bal g z
    rw [List.map_nil, List.sum_nil, Int.add_zero, List.getD_eq_getElem?_getD, List.getElem?_eq_getElem (by rw [h.len]; exact z)] at this
    rw [List.getElem?_map, List.getElem?_range z, List.getElem?_eq_getElem (by rw [h.len]; exact z)]
    exact congrArg some this
  · rw [List.getElem?_eq_none (by rw [h.len]; omega), List.getElem?_eq_none (by rw [List.length_map, List.length_range]; omega)]
end WR
set_option Elab.async false
set_option linter.all false
set_option maxRecDepth 100000
set_option maxHeartbeats 2000000
namespace WR
open PySem PySem.Spec PyProof.Rows L2 Evl

/-! ### lists of tuples that grow and shrink -/
theorem eqv_listNil : ∀ ds : List PyData, PyData.eqv (.list ds) (.list []) = ds.isEmpty
  | [] => by simp [PyData.eqv, PyData.eqvAll]
  | _ :: _ => by simp [PyData.eqv, PyData.eqvAll]
theorem lay_kids : ∀ ws : List (List Nat), PyData.canLayAll0 (ws.map kidsD) = true ∧ PyData.depthAll (ws.map kidsD) ≤ 1
  | [] => by simp [PyData.canLayAll0, PyData.depthAll]
  | w :: ws => by
    have ih := lay_kids ws
    have q := lay_ints (w.map fun (k : Nat) => (k : Int))
    rw [List.map_cons, kidsD_tupI]
    unfold tupI
    simp only [PyData.canLayAll0, PyData.canLay0, PyData.depthAll, PyData.depth, q.1, q.2, ih.1]
    exact ⟨rfl, by omega⟩
theorem shaped_kids (ws : List (List Nat)) : SeqAt.shaped (.list (ws.map kidsD)) = true := by
  have q := lay_kids ws
  show (PyData.canLay0 _ && decide (PyData.depth _ ≤ 64)) = true
  simp only [PyData.canLay0, PyData.depth, q.1]
  rw [Bool.true_and]
  exact decide_eq_true (by omega)
theorem et_neNilD {K : PySem.W.Frag} {σ : L2.St} {H : Hp} {ta : TE} {l : Addr} {ws : List (List Nat)} (ha : Ev ta σ H (.ref l)) (hl : LD K H l (ws.map kidsD)) : EvT (tTest (tOp (rNeD K) ta (tLst tNil))) σ H (!ws.isEmpty) :=
  et_test (ev_opL (x := .ref l) (xs := []) ha (el_lst ea_nil (by simp)) fun q H1 h1 e1 H2 e2 Q q2 => by
    refine ⟨.list (ws.map kidsD), .list [], (hl.ex (e1.trans e2)).dp, .lst (sq_of (e2 _ _ h1)) .nil, shaped_kids ws, shaped_ints [], ?_⟩
    rw [eqv_listNil, show (ws.map kidsD).isEmpty = ws.isEmpty by cases ws <;> rfl]
    exact q2 H2 (Ex.refl H2))
theorem dpAll_split {K : PySem.W.Frag} {H : Hp} {xs : List V} {ds : List PyData} {d : PyData} (h : DpAll K H xs (ds ++ [d])) : ∃ ys x, xs = ys ++ [x] ∧ DpAll K H ys ds ∧ Dp K H x d := by
  have hl := dpAll_len h
  rw [List.length_append] at hl
  have hl : xs.length = ds.length + 1 := hl
  obtain ⟨x, h1, h2⟩ := dpAll_at' (i := ds.length) (d := d) h (by simp)
  refine ⟨xs.take ds.length, x, ?_, ?_, h2⟩
  · have q1 := List.take_append_drop ds.length xs
    have q2 : xs.drop ds.length = [x] := by
      rw [List.drop_eq_getElem_cons (by omega)]
      have q3 := (List.getElem?_eq_some_iff.mp h1).2
      rw [q3, List.drop_of_length_le (by omega)]
    rw [q2] at q1
    exact q1.symm
  · have q1 := dpAll_take ds.length h
    rw [List.take_left] at q1
    exact q1
theorem flat0 : ∀ n, (List.replicate n [V.int 0]).flatten = (List.replicate n (0 : Int)).map V.int
  | 0 => rfl
  | n + 1 => by rw [List.replicate_succ, List.flatten_cons, flat0 n]; rfl
theorem s_extD {K : PySem.W.Frag} {σ : L2.St} {H : Hp} {D : Ends} {ta tb : TE} {l : Addr} {ds es : List PyData} (hl : LD K H l ds) (ha : Ev ta σ H (.ref l)) (h : EvN K tb σ H es) (hz : ds.length + es.length ≤ 100000) (hn : nlAll (ds ++ es) = true)
    (k : ∀ H1, (∀ B : Hp, Ex B H → B l = none → Ex B H1) → LD K H1 l (ds ++ es) → D.nx σ H1) :
    tDrop (tBM K "list" rExtend ta (tCons tb tNil)) D σ H := ha H (Ex.refl H) _ fun H1 e1 => by
  obtain ⟨xs, h1, h2⟩ := hl
  refine ⟨.inl ⟨rfl, xs, sq_of (e1 l _ h1)⟩, h H1 e1 _ fun b ys H2 _ e2 hb hd => ?_⟩
  have h3 := e2 l _ (e1 l _ h1)
  refine ⟨l, b, xs, ys, rfl, rfl, h3, hb, sz_of (by rw [dpAll_len h2, dpAll_len hd]; exact hz), k _ (fun B eb hb => Ex.mut ((eb.trans e1).trans e2) hb) ⟨_, upd_same, ?_⟩⟩
  exact dpAll_updL h3 _ hn (dpAll_app (dpAll_ex (e1.trans e2) _ h2) hd)
section
variable {K : PySem.W.Frag} {σ : L2.St} {H : Hp} {ta tb tc : TE}
theorem el_rep0 {n : Nat} (h : Ev tb σ H (.int (n : Int))) (hn : n ≤ 1000) : EvL (tOp rRep (tLst (tCons (tC (.int 0)) tNil)) tb) σ H ((List.replicate n (0 : Int)).map V.int) := fun H1 e Q q => by
  have e0 : EvL (tLst (tCons (tC (.int 0)) tNil)) σ H [.int 0] := el_lst (ea_cons ev_c ea_nil) (by simp)
  refine e0 H1 e _ fun z H2 hz e2 hz2 => h H2 (e.trans e2) _ fun H3 e3 => ⟨z, (n : Int), _, rfl, rfl, e3 _ _ hz2, by omega, by omega, ?_, fun p hp => ?_⟩
  · rw [Int.toNat_natCast]
    show 1 * n ≤ sizeLine
    exact sz_of (by omega)
  · have hf0 : (List.replicate (n : Int).toNat [V.int 0]).flatten = (List.replicate n (0 : Int)).map V.int := by
      rw [Int.toNat_natCast]
      exact flat0 n
    rw [hf0]
    exact q p _ (fresh_back (e2.trans e3) hp) ((e2.trans e3).trans (Ex.new hp)) upd_same
theorem q_par3R {D : Ends} {tz : TS} {i j l : Nat} {v : V} {xs : List V} {ds : List PyData} (h1 : EvL ta σ H xs) (h2 : ∀ H1, Ex H H1 → Ev tb σ H1 v) (h3 : ∀ H1, Ex H H1 → EvN K tc σ H1 ds)
    (k : ∀ p q H1, H p = none → H q = none → p ≠ q → Ex H H1 → H1 p = some (.lst xs) → LD K H1 q ds → tz D (((σ.set i (some (.ref p))).set j (some v)).set l (some (.ref q))) H1) : tSeq (tPar3 i j l (tCons ta (tCons tb (tCons tc tNil)))) tz D σ H :=
  h1 H (Ex.refl H) _ fun p H1 hp e1 hH1 => h2 H1 e1 H1 (Ex.refl _) _ fun H2 e2 => h3 H2 (e1.trans e2) H2 (Ex.refl _) _ fun q ys H3 hq e3 hq3 hd3 => ⟨_, _, _, rfl, k p q H3 hp (fresh_back (e1.trans e2) hq) (fun z => by
    rw [← z, e2 _ _ hH1] at hq
    cases hq) ((e1.trans e2).trans e3) (e3 _ _ (e2 _ _ hH1)) ⟨ys, hq3, hd3⟩⟩
end
end WR
set_option Elab.async false
set_option linter.all false
set_option maxRecDepth 100000
set_option maxHeartbeats 2000000
namespace WR
open PySem PySem.Spec PyProof.Rows L2 Evl

/-! ### sorted of data made of kinds -/
structure EncOk (enc : Nat → PyData) : Prop where
  al : ∀ a b, PySem.W.alike (enc a) (enc b) = true
  tup : ∀ a, ∃ x r, enc a = .tuple (x :: r)
  dep : ∀ a, (enc a).depth ≤ 8
def rSortN (K : PySem.W.Frag) : List V → Hp → VK → Prop := fun vs H Q => ∃ (enc : Nat → PyData) (a : Addr) (xs : List V) (bs : List Nat), EncOk enc ∧ vs = [V.ref a] ∧ SqL K H a xs ∧ DpAll K H xs (bs.map enc) ∧ bs.length ≤ 100000 ∧
  ∀ (ys : List V) (p : Addr), DpAll K H ys ((bs.mergeSort (PySem.W.dataLe false enc)).map enc) → H p = none → Q (.ref p) (upd H p (.lst ys))
theorem eachN_in {enc : Nat → PyData} {K : PySem.W.Frag} {H : Hp} : ∀ {xs : List V} {us : List Value} {bs : List Nat}, Vals xs us → DpAll K H xs (bs.map enc) → PySem.W.EachIs (fun v b => ∃ x, RelV x v ∧ Dp K H x (enc b)) us bs
  | [], us, bs, hv, hd => by
    cases hv
    cases bs with
    | nil => exact .nil
    | cons b r => cases hd
  | x :: xs, us, bs, hv, hd => by
    cases hv with
    | cons h1 h2 =>
      cases bs with
      | nil => cases hd
      | cons b r =>
        cases hd with
        | cons d1 d2 => exact .cons ⟨x, h1, d1⟩ (eachN_in h2 d2)
theorem eachN_out {enc : Nat → PyData} {K : PySem.W.Frag} {H : Hp} : ∀ {us : List Value} {bs : List Nat}, PySem.W.EachIs (fun v b => ∃ x, RelV x v ∧ Dp K H x (enc b)) us bs → ∃ ys, Vals ys us ∧ DpAll K H ys (bs.map enc)
  | _, _, .nil => ⟨[], .nil, .nil⟩
  | _, _, .cons ⟨x, h1, h2⟩ hr => by
    obtain ⟨ys, a, b⟩ := eachN_out hr
    exact ⟨x :: ys, .cons h1 a, .cons h2 b⟩
theorem cr_sortN {X : Cx} (hu : X.A.units + 64 < cLine) : CallR X (.builtin "sorted") (rSortN X.K) := by
  intro pins s σ H vs us Q I r h
  obtain ⟨enc, a, xs, bs, hE, rfl, hs, hd, hl, q⟩ := h
  obtain ⟨its, rv, hli, hz⟩ := I.list hs
  rw [Vals.ref1 r]
  have e := eachN_in rv hd
  have er : PySem.W.EachIs (fun v b => ∃ as, Reads s.heap v (enc b) as) its bs := e.mono fun v b ⟨x, h1, h2⟩ => Dp.reads I (enc b) x v h2 h1
  refine PySem.W.sorted_data hli.isList e er (PySem.W.AllAlike.of hE.al) (PySem.W.Sortable.tuples hE.tup) (sz_of hl) (fun b _ => ?_) fun out h1 h2 => ?_
  · have := hE.dep b
    show X.A.units + 2 + (enc b).depth < cLine
    omega
  · obtain ⟨ys, v1, v2⟩ := eachN_out h2
    obtain ⟨ep, hat⟩ := PyProof.Rows.sortedAll_at s.heap its out.toArray
    have hyl : ys.length ≤ sizeLine := by
      rw [v1.length, h1]
      exact sz_of hl
    exact ⟨.ref _, upd H (s.heap.objs.size + 1) (.lst ys), I.laid (t' := s.toks) (fun _ _ => PyProof.Rows.sortedAll_old) (Nat.le_succ _) ⟨hyl, out, ep, v1, hat⟩, rfl, q ys _ v2 (I.hok.fresh (Nat.le_succ _))⟩
section
variable {K : PySem.W.Frag} {σ : L2.St} {H : Hp} {ta te : TE} {t : TT} {wi : TI} {vs : List Nat} {D : Ends} {tu tz : TS}
theorem en_sortN {enc : Nat → PyData} {bs : List Nat} (hE : EncOk enc) (h : EvD K te σ H (.list (bs.map enc))) (hl : bs.length ≤ 100000) :
    EvN K (tCB (rSortN K) (tCons te tNil)) σ H ((bs.mergeSort (PySem.W.dataLe false enc)).map enc) := fun H1 e Q q =>
  h H1 e _ fun v H2 e2 hv => by
    obtain ⟨a, xs, rfl, hs, hd⟩ := dp_lst hv
    exact ⟨enc, a, xs, bs, hE, rfl, hs, hd, hl, fun ys p hy hp => q p ys _ (fresh_back e2 hp) (e2.trans (Ex.new hp)) upd_same (dpAll_ex (Ex.new hp) _ hy)⟩
theorem enc1_ok {l : Nat} {inner : List (List Nat)} : EncOk (enc1 l inner) := by
  refine ⟨fun a b => ?_, fun a => ⟨_, _, rfl⟩, fun a => ?_⟩
  · unfold enc1
    unfold natD
    simp only [PySem.W.alike, PySem.W.alikeAll, alike_tupI, Bool.true_and, Bool.and_true]
  · have := depth_tupI (rowI l inner a)
    unfold enc1
    unfold natD
    simp only [PyData.depth, PyData.depthAll]
    omega
theorem enc2_ok {l : Nat} {inner : List (List Nat)} : EncOk (enc2 l inner) := by
  refine ⟨fun a b => ?_, fun a => ⟨_, _, rfl⟩, fun a => ?_⟩
  · unfold enc2
    unfold natD
    simp only [PySem.W.alike, PySem.W.alikeAll, alike_tupI, Bool.true_and, Bool.and_true]
  · have := depth_tupI (rowI l inner a)
    unfold enc2
    unfold natD
    simp only [PyData.depth, PyData.depthAll]
    omega
/-- [.. for a, b in pairs] -/
theorem en_pair2 {i j : Nat} {α : Type} {ks : List α} (A B g : α → PyData) (h : Src K wi σ H (ks.map fun k => .tuple [A k, B k])) (hl : ks.length ≤ 40000) (hw : ∀ x y, wipe (((wipe σ vs).set i (some x)).set j (some y)) vs = wipe σ vs)
    (hv : ∀ k x y H1, Ex H H1 → k ∈ ks → Dp K H1 x (A k) → Dp K H1 y (B k) → EvD K te (((wipe σ vs).set i (some x)).set j (some y)) H1 (g k)) (hg : ∀ k ∈ ks, nl (g k) = true) :
    EvN K (tLc wi (gTup K 2 (gCons (gName i) (gCons (gName j) gNil))) tYes te vs) σ H (ks.map g) := fun H1 e Q q => h H1 e _ fun J H2 G e2 hg' w Dl hD => by
  refine lc_it w (fun m H' => Ex H2 H' ∧ ∃ acc, H' Dl = some (.lst acc) ∧ DpAll K H' acc ((ks.take m).map g)) ⟨Ex.new hD, [], upd_same, by simpa using DpAll.nil⟩ (fun m H' _ p => hg' H' p.1) (fun m x H' H'' hm p hy => ?_) (fun H' p => ?_)
  · obtain ⟨rfl, d, hd, hx⟩ := hy
    obtain ⟨p1, acc, p2, p3⟩ := p
    rw [List.getElem?_map] at hd
    obtain ⟨k, hk, rfl⟩ := Option.map_eq_some_iff.mp hd
    have hml := (List.getElem?_eq_some_iff.mp hk).1
    obtain ⟨a, xs, rfl, hs, hdx⟩ := dp_tup hx
    cases hdx with
    | cons d1 d2 =>
      cases d2 with
      | cons d2 d3 =>
        cases d3
        refine ⟨a, _, rfl, hs, rfl, _, _, rfl, _, _, rfl, rfl, hw _ _, yes_ ?_⟩
        have e3 : Ex H _ := (e.trans e2).trans p1
        refine hv k _ _ _ e3 (List.mem_of_getElem? hk) d1 d2 _ (Ex.refl _) _ fun y H4 e4 hyr => ⟨acc, e4 _ _ p2, sz_lt ?_, Ex.mut (p1.trans e4) hD, _, upd_same, ?_⟩
        · rw [dpAll_len p3, List.length_map, List.length_take]
          omega
        · have htk : (ks.take (m + 1)).map g = (ks.take m).map g ++ [g k] := by
            rw [List.take_add_one, hk, List.map_append]
            rfl
          rw [htk]
          have hall : nlAll ((ks.take m).map g) = true := nlAll_mem fun r' hr' => by
            obtain ⟨c, h1, rfl⟩ := List.mem_map.mp hr'
            exact hg c (List.mem_of_mem_take h1)
          exact dpAll_snoc (dpAll_updL (e4 _ _ p2) _ hall (dpAll_ex e4 _ p3)) (dp_updL (e4 _ _ p2) _ (hg k (List.mem_of_getElem? hk)) hyr)
  · obtain ⟨p1, acc, p2, p3⟩ := p
    rw [List.length_map, List.take_length] at p3
    exact q Dl acc H' (fresh_back e2 hD) (e2.trans p1) p2 p3
theorem en_lstRg1 {n : Nat} (h1 : Ev ta σ H (nV n)) (hn : n ≤ 1000) : EvN K (tLstRg (tRg1 ta)) σ H (natDs (List.range n)) := fun H1 e Q q =>
  h1 H1 e _ fun H2 e2 => ⟨(n : Int), rfl, RgOk.of_le (by omega) (by omega) (by omega) (by omega), fun p hp => by
    rw [rgV_nat]
    exact q p _ _ (fresh_back e2 hp) (e2.trans (Ex.new hp)) upd_same (dpAll_nat _)⟩
/-- for i, k in enumerate(list) -/
theorem q_forE {i j : Nat} {p : Addr} {ks : List Nat} (h : Ev te σ H (.ref p)) (hp : H p = some (.lst (nVs ks))) (Pv : Nat → L2.St → Hp → Prop) (h0 : ∀ H1, Ex H H1 → Pv 0 σ H1) (hl : ∀ m σ' H', Pv m σ' H' → H' p = some (.lst (nVs ks)))
    (hx : ∀ m σ' H' H'', Ex H' H'' → Pv m σ' H' → Pv m σ' H'')
    (hs : ∀ m k σ' H', ks[m]? = some k → Pv m σ' H' → tu { D with nx := Pv (m + 1), ct := Pv (m + 1), bk := tz D } ((σ'.set i (some (nV m))).set j (some (nV k))) H') (hd : ∀ σ' H', Pv ks.length σ' H' → tz D σ' H') :
    tSeq (tFor (iEnum K (tCons te tNil)) (gTup K 2 (gCons (gName i) (gCons (gName j) gNil))) tu) tz D σ H :=
  h H (Ex.refl H) _ fun H1 e1 => ⟨p, nVs ks, rfl, sq_of (e1 _ _ hp), by
    have hn : (nVs ks).length = ks.length := by unfold nVs; rw [List.length_map]
    refine for_it (walk_enum (K := K) (a := p) (xs := nVs ks)) (D := { D with nx := tz D }) Pv (h0 H1 e1) (fun m σ' H' _ P => sq_of (hl m σ' H' P)) (fun m x σ' Hc H' hm P hy => ?_) fun σ' H' P => ?_
    · obtain ⟨T, x1, y1, rfl, hT, rfl, hx1, hy1⟩ := hy
      obtain ⟨k, hk, rfl, _, _⟩ := nVs_get hy1
      cases hx1
      have en := Ex.new (o := .tup [V.int (m : Int), nV k]) hT
      exact ⟨T, _, rfl, st_of upd_same, rfl, _, _, rfl, _, _, rfl, rfl, hs m k σ' _ hk (hx m σ' _ _ en P)⟩
    · rw [hn] at P
      exact hd σ' H' P⟩
end
/-! ### in_row_order, with_numbers, form -/
def spWP (K : PySem.W.Frag) (g : Nat → List (List Nat) → PyData) : Sp := fun vs H Q _ => ∃ v l inner, vs = [v] ∧ Dp K H v (webD l inner) ∧ WebP l inner ∧ ∀ r H', Ex H H' → Dp K H' r (g l inner) → Q r H'
theorem ed_callWP {K : PySem.W.Frag} {σ : L2.St} {H : Hp} {te : TE} {l : Nat} {inner : List (List Nat)} {g : Nat → List (List Nat) → PyData} {E : XK} (h : EvD K te σ H (webD l inner)) (W : WebP l inner) : EvD K (tCall (spWP K g) [] E (tCons te tNil)) σ H (g l inner) := fun H1 e Q q =>
  h H1 e _ fun v H2 e2 hv => ⟨v, l, inner, rfl, hv, W, fun r H3 e3 hr => q r H3 (e2.trans e3) hr⟩
def spWN (K : PySem.W.Frag) (ds : Nat → List (List Nat) → List PyData) : Sp := fun vs H Q _ => ∃ v l inner, vs = [v] ∧ Dp K H v (webD l inner) ∧ Raw l inner ∧ ∀ p xs H', H p = none → Ex H H' → H' p = some (.lst xs) → DpAll K H' xs (ds l inner) → Q (.ref p) H'
theorem en_callWN {K : PySem.W.Frag} {σ : L2.St} {H : Hp} {te : TE} {l : Nat} {inner : List (List Nat)} {ds : Nat → List (List Nat) → List PyData} {E : XK} (h : EvD K te σ H (webD l inner)) (W : Raw l inner) : EvN K (tCall (spWN K ds) [] E (tCons te tNil)) σ H (ds l inner) := fun H1 e Q q =>
  h H1 e _ fun v H2 e2 hv => ⟨v, l, inner, rfl, hv, W, fun p xs H3 hp e3 hx hd => q p xs H3 (fresh_back e2 hp) (e2.trans e3) hx hd⟩
theorem s_retN {K : PySem.W.Frag} {σ : L2.St} {H : Hp} {te : TE} {D : Ends} {ds : List PyData} (h : EvN K te σ H ds) (k : ∀ p xs H1, H p = none → Ex H H1 → H1 p = some (.lst xs) → DpAll K H1 xs ds → D.rt (.ref p) H1) : tRet te D σ H := h H (Ex.refl H) _ k
abbrev nIro : List Str := ["web", "told", "pairs", "kind", "_"]
theorem scIro : FnScope nIro ["web"] (defScope s_in_row_order) := ⟨rfl, rfl, rfl, by decide +kernel, rfl, by decide +kernel, by decide +kernel⟩
section
variable {P : Program} {w : World} {K : PySem.W.Frag} {mg : Str → Option Value} {base : Heap}
theorem ok_iro {f fR : Addr} {fd fdR : FuncData} (F : Fun K "in_row_order" "in_row_order" s_in_row_order f fd)
    (FR : Fun K "rows_of" "rows_of" sRowsOf fR fdR) (bR : Binds K fdR ["web"] []) (gR : mg "rows_of" = some (.ref fR))
    (m1 : mg "range" = none) (m2 : mg "len" = none) (m3 : mg "sorted" = none)
    (GR : FnOk P w K mg base CX0 2 fR fdR ["web"] (spW K fun l inner => .list (rowsD l inner (l + inner.length)))) :
    FnOk P w K mg base CX0 3 f fd ["web"] (spWN K fun l inner => natDs (orderL l inner)) := by
  refine F.ok scIro (fun vs H Q E h => by obtain ⟨v, l, inner, rfl, _⟩ := h; rfl) (fun cdv A outer s H vs Q E hr h => ?_)
  obtain ⟨v, l, inner, rfl, hv, hw, q⟩ := h
  have hu := hr.units
  refine ⟨_, pss_cons (ps_set (i := 1) scIro.nd rfl (.inr rfl) (pe_call GR hr (by rfl) gR FR.kp bR .nil pass0 (pa_cons (pv 0) pa_nil)))
    (pss_cons (ps_set (i := 2) scIro.nd rfl (.inl rfl) (pe_callB (cr_sortN hu) (by rfl) m3 (by decide +kernel) (pa_cons (pe_lc (own := [("kind", 3)]) (g := gName 3) (tt := tYes) (te := tTup (tCons (tOp (rIxL K) (tVar 1) (tVar 3)) (tCons (tVar 3) tNil))) rfl scIro.nd
      (pi_range1 (by rfl) m1 (pa_cons (pe_callB (r := rLenS K) call_len_seq (by rfl) m2 PySem.boot_len (pa_cons (pv 1) pa_nil)) pa_nil)) (blkOk_by (N := nIro) (sc := defScope s_in_row_order) (by decide +kernel))
      (fun _ _ _ _ _ => pg_name (i := 3) scIro.nd rfl (Or.inl rfl)) (fun _ _ _ _ _ => pts_nil) (fun _ _ _ _ _ => pe_tup (pa_cons (pe_ix (r := rIxL K) ix_list (pv 1) (pv 3) (fun _ _ => rfl)) (pa_cons (pv 3) pa_nil)))) pa_nil)))
    (pss_one (ps_ret (pe_lc (own := [("_", 4), ("kind", 3)]) (g := gTup K 2 (gCons (gName 4) (gCons (gName 3) gNil))) (tt := tYes) (te := tVar 3) rfl scIro.nd
      (pi_list (pv 2)) (blkOk_by (N := nIro) (sc := defScope s_in_row_order) (by decide +kernel))
      (fun _ _ _ _ _ => pg_tup rfl (pgs_cons (pg_name (i := 4) scIro.nd rfl (Or.inl rfl)) (pgs_cons (pg_name (i := 3) scIro.nd rfl (Or.inl rfl)) pgs_nil))) (fun _ _ _ _ _ => pts_nil) (fun _ _ _ _ _ => pv 3))))), ?_⟩
  have h8 := hw.l8
  have h20 := hw.n20
  refine q_asgD (K := K) (d := .list (rowsD l inner (l + inner.length))) (ed_callW (g := fun l inner => .list (rowsD l inner (l + inner.length))) (ed_var rfl hv) hw) fun vt H1 e1 ht => ?_
  show tSeq _ _ _ [some v, some vt, none, none, none] H1
  refine q_asgD (K := K) (d := .list ((orderL l inner).map (enc1 l inner))) (ed_n (en_sortN enc1_ok (ed_n (en_natMap (K := K) (enc1 l inner) (src_rng (n := l + inner.length) (ea_cons (ev_is (ed_lenL (K := K) (ed_var rfl ht)) (by unfold rowsD; rw [List.length_map, List.length_range])) ea_nil) (by omega)) (by rw [List.length_range]; omega) (fun _ => rfl) (fun k H2 e2 hk => ?_) fun _ _ => ?_)) (by rw [List.length_range]; omega))) fun vp H2 e2 hp => ?_
  · have hk := List.mem_range.mp hk
    exact ed_tup (ds := [tupI (rowI l inner k), natD k]) (eda_cons (ed_ixL (n := k) (ds := rowsD l inner (l + inner.length)) (ed_var rfl (dp_ex e2 _ ht)) (ed_i (ev_var rfl)) rfl (rowsD_at hk)) (eda_cons (ed_i (ev_var rfl)) eda_nil)) (by simp)
  · show (nl (tupI _) && (true && true)) = true
    rw [nl_tupI]
    rfl
  · have e : natDs (orderL l inner) = (orderL l inner).map natD := rfl
    show tRet _ _ [some v, some vt, some vp, none, none] H2
    refine s_retN (K := K) (ds := natDs (orderL l inner)) ?_ fun p xs H3 hp e3 hx hd => q p xs H3 (fresh_back (e1.trans e2) hp) ((e1.trans e2).trans e3) hx hd
    refine en_pair2 (K := K) (fun k => tupI (rowI l inner k)) natD natD (src_L (ed_var rfl hp)) (by rw [orderL_perm.length_eq, List.length_range]; omega) (fun _ _ => rfl) (fun k x y H3 e3 hk hx hy => ?_) fun _ _ => rfl
    cases dp_int hy
    exact ed_i (ev_var rfl)
end
end WR
set_option Elab.async false
set_option linter.all false
set_option maxRecDepth 100000
set_option maxHeartbeats 2000000
namespace WR
open PySem PySem.Spec PyProof.Rows L2 Evl

/-! ### with_numbers, form -/
def spWith (K : PySem.W.Frag) : Sp := fun vs H Q _ => ∃ (x y : V) (ks ns : List Nat) (f : Nat → Nat), vs = [x, y] ∧ Dp K H x (kidsD ks) ∧ (Dp K H y (.list (natDs ns)) ∨ Dp K H y (.tuple (natDs ns))) ∧ ks.length ≤ 40 ∧ (∀ c ∈ ks, ns[c]? = some (f c)) ∧
  ∀ r H', Ex H H' → Dp K H' r (.tuple ((sortI (ks.map fun c => ((f c : Nat) : Int))).map PyData.int)) → Q r H'
theorem ed_ixY {K : PySem.W.Frag} {σ : L2.St} {H : Hp} {tb : TE} {j n : Nat} {i : Int} {y : V} {ds : List PyData} {d : PyData} (hj : σ[j]? = some (some y)) (hy : Dp K H y (.list ds) ∨ Dp K H y (.tuple ds)) (hb : EvD K tb σ H (.int i)) (hi : i = (n : Int)) (hx : ds[n]? = some d) : EvD K (tOp (rIx K) (tVar j) tb) σ H d := fun H1 e Q q =>
  ev_var hj H1 e _ fun H2 e2 => hb H2 (e.trans e2) _ fun w H3 e3 hw => by
    cases dp_int hw
    subst hi
    rcases hy with hy | hy
    · obtain ⟨a, xs, rfl, hs, hd⟩ := dp_lst (dp_ex ((e.trans e2).trans e3) _ hy)
      obtain ⟨x, hx1, hx2⟩ := dpAll_at' hd hx
      exact .inl ⟨a, xs, _, x, rfl, rfl, hs, atI_nat hx1, q x H3 (e2.trans e3) hx2⟩
    · obtain ⟨a, xs, rfl, hs, hd⟩ := dp_tup (dp_ex ((e.trans e2).trans e3) _ hy)
      obtain ⟨x, hx1, hx2⟩ := dpAll_at' hd hx
      exact .inr (.inl ⟨a, xs, _, x, rfl, rfl, hs, atI_nat hx1, q x H3 (e2.trans e3) hx2⟩)
theorem scWn : FnScope ["item", "numbers", "kind"] ["item", "numbers"] (defScope s_with_numbers) := ⟨rfl, rfl, rfl, by decide +kernel, rfl, by decide +kernel, by decide +kernel⟩
abbrev nForm : List Str := ["web", "leaves", "inner", "numbers", "at", "kind"]
theorem scForm : FnScope nForm ["web"] (defScope s_form) := ⟨rfl, rfl, rfl, by decide +kernel, rfl, by decide +kernel, by decide +kernel⟩
section
variable {P : Program} {w : World} {K : PySem.W.Frag} {mg : Str → Option Value} {base : Heap}
theorem ok_with {f : Addr} {fd : FuncData} (F : Fun K "with_numbers" "with_numbers" s_with_numbers f fd) (m1 : mg "tuple" = none) (m2 : mg "sorted" = none) :
    FnOk P w K mg base CX0 1 f fd ["item", "numbers"] (spWith K) := by
  refine F.ok scWn (fun vs H Q E h => ?_) (fun cdv A outer s H vs Q E hr h => ?_)
  · obtain ⟨x, y, ks, ns, g, rfl, _⟩ := h
    rfl
  obtain ⟨x, y, ks, ns, g, rfl, hx, hy, hl, hns, q⟩ := h
  refine ⟨_, pss_one (ps_ret (pe_callTy call_tuple_of (by rfl) m1 (by decide +kernel) (pa_cons (pe_callB cr_sortedA (by rfl) m2 (by decide +kernel) (pa_cons (pe_lc (own := [("kind", 2)]) (g := gName 2) (tt := tYes) (te := tOp (rIx K) (tVar 1) (tVar 2)) rfl scWn.nd
      (pi_tup (pv 0)) (blkOk_by (N := ["item", "numbers", "kind"]) (sc := defScope s_with_numbers) (by decide +kernel))
      (fun _ _ _ _ _ => pg_name (i := 2) scWn.nd rfl (Or.inl rfl)) (fun _ _ _ _ _ => pts_nil) (fun _ _ _ _ _ => pe_ix (r := rIx K) ix_seq (pv 1) (pv 2) (fun _ _ => rfl))) pa_nil)) pa_nil))), ?_⟩
  refine s_retD (K := K) (d := .tuple ((sortI (ks.map fun c => ((g c : Nat) : Int))).map PyData.int)) (ed_tupL (ed_n (en_sortedL (ns := ks.map fun c => ((g c : Nat) : Int)) (ed_n ?_) (by rw [List.length_map]; omega)))) fun r H2 e2 hr2 => q r H2 e2 hr2
  rw [List.map_map]
  refine en_natMap (K := K) (fun c => natD (g c)) (src_T (ds := natDs ks) (ed_var rfl hx)) (by omega) (fun _ => rfl) (fun c H1 e1 hc => ?_) fun _ _ => rfl
  exact ed_ixY (n := c) (ds := natDs ns) rfl (hy.imp (dp_ex e1 _) (dp_ex e1 _)) (ed_i (ev_var rfl)) rfl (by unfold natDs; rw [List.getElem?_map, hns c hc]; rfl)
theorem ok_form {f fO fR fC fN : Addr} {fd fdO fdR fdC fdN : FuncData} (F : Fun K "form" "form" s_form f fd)
    (FO : Fun K "in_row_order" "in_row_order" s_in_row_order fO fdO) (bO : Binds K fdO ["web"] []) (gO : mg "in_row_order" = some (.ref fO))
    (FR : Fun K "root" "root" sRoot fR fdR) (bR : Binds K fdR ["web"] []) (gR : mg "root" = some (.ref fR))
    (FC : Fun K "children" "children" sKids fC fdC) (bC : Binds K fdC ["web", "kind"] []) (gC : mg "children" = some (.ref fC))
    (FN : Fun K "with_numbers" "with_numbers" s_with_numbers fN fdN) (bN : Binds K fdN ["item", "numbers"] []) (gN : mg "with_numbers" = some (.ref fN))
    (m1 : mg "range" = none) (m2 : mg "list" = none) (m3 : mg "enumerate" = none) (m4 : mg "tuple" = none)
    (GO : FnOk P w K mg base CX0 3 fO fdO ["web"] (spWN K fun l inner => natDs (orderL l inner)))
    (GR : FnOk P w K mg base CX0 1 fR fdR ["web"] (spW K fun l inner => natD (topN l inner)))
    (GC : FnOk P w K mg base CX0 1 fC fdC ["web", "kind"] (spWK K fun l inner k => kidsD (kidsAt l inner k)))
    (GN : FnOk P w K mg base CX0 1 fN fdN ["item", "numbers"] (spWith K)) :
    FnOk P w K mg base CX0 4 f fd ["web"] (spWP K fun l inner => webD l (formI l inner)) := by
  refine F.ok scForm (fun vs H Q E h => ?_) (fun cdv A outer s H vs Q E hr h => ?_)
  · obtain ⟨v, l, inner, rfl, _⟩ := h
    rfl
  obtain ⟨v, l, inner, rfl, hv, W, q⟩ := h
  have r1 := hr.mono (show 1 ≤ 3 by decide)
  refine ⟨_, pss_cons (ps_set (i := 1) scForm.nd rfl (.inr rfl) (pe_ix (r := rIxT K) ix_tup (pv 0) pe_int (fun _ _ => rfl)))
    (pss_cons (ps_setLc (i := 2) (own := [("kind", 5)]) (g := gName 5) (tt := tTest (tOp (rI0 fun i j => .bl (decide (j ≤ i))) (tVar 5) (tVar 1))) (te := tVar 5) rfl scForm.nd rfl rfl (sw_true rfl rfl rfl (by decide +kernel))
      (pi_list (pe_call GO hr (by rfl) gO FO.kp bO .nil pass0 (pa_cons (pv 0) pa_nil))) (blkOk_by (N := nForm) (sc := defScope s_form) (by decide +kernel))
      (fun _ _ _ _ _ => pg_name (i := 5) scForm.nd rfl (Or.inl rfl)) (fun _ _ _ _ _ => pts_one (pt_cmpR op_ge (pv 5) (pv 1) (nomark _))) (fun _ _ _ _ _ => pv 5))
    (pss_cons (ps_set (i := 3) scForm.nd rfl (.inr rfl) (pe_listRg rfl (by rfl) m2 (prg_1 (by rfl) m1 (pe_op op_add (pe_call GR r1 (by rfl) gR FR.kp bR .nil pass0 (pa_cons (pv 0) pa_nil)) pe_int))))
    (pss_cons (ps_for PassesOwn.never rfl (pi_enum (by rfl) m3 (pa_cons (pv 2) pa_nil)) (pg_tup rfl (pgs_cons (pg_name (i := 4) scForm.nd rfl (.inl rfl)) (pgs_cons (pg_name (i := 5) scForm.nd rfl (.inl rfl)) pgs_nil)))
      (pss_one (ps_asg (pe_op op_add (pv 1) (pv 4)) (pg_sub (pv 3) (pv 5) set_list))))
    (pss_one (ps_ret (pe_tup (pa_cons (pv 1) (pa_cons (pe_callTy call_tuple_of (by rfl) m4 (by decide +kernel) (pa_cons (pe_lc (own := [("kind", 5)]) (g := gName 5) (tt := tYes) (te := tCall (spWith K) [] E0 (tCons (tCall (spWK K fun l inner k => kidsD (kidsAt l inner k)) [] E0 (tCons (tVar 0) (tCons (tVar 5) tNil))) (tCons (tVar 3) tNil))) rfl scForm.nd
      (pi_list (pv 2)) (blkOk_by (N := nForm) (sc := defScope s_form) (by decide +kernel))
      (fun _ _ _ _ _ => pg_name (i := 5) scForm.nd rfl (Or.inl rfl)) (fun _ _ _ _ _ => pts_nil) (fun _ _ _ _ _ => pe_call GN r1 (by rfl) gN FN.kp bN .nil pass0 (pa_cons (pe_call GC r1 (by rfl) gC FC.kp bC .nil pass0 (pa_cons (pv 0) (pa_cons (pv 5) pa_nil))) (pa_cons (pv 3) pa_nil)))) pa_nil)) pa_nil)))))))), ?_⟩
  have hw := W.raw
  have h1 := hw.l1
  have h8 := hw.l8
  have h20 := hw.n20
  obtain ⟨n, en⟩ : ∃ n, n = l + inner.length := ⟨_, rfl⟩
  let S (x1 x2 x3 x4 x5 : Option V) : L2.St := [some v, x1, x2, x3, x4, x5]
  refine q_asg (v := nV l) (ev_i (K := K) (ed_ixT (n := 0) (d := natD l) (ed_var rfl hv) (ed_i ev_c) rfl rfl)) fun H1 e1 => ?_
  show tSeq _ _ _ (S (some (nV l)) none none none none) H1
  refine q_asgLD (K := K) (ds := natDs (ordI l inner)) ?_ fun p H2 hp e2 hL2 => ?_
  · unfold ordI
    refine en_natFil (K := K) (ks := orderL l inner) (fun k => decide (l ≤ k)) natD (src_L (ed_n (en_callWN (ds := fun l inner => natDs (orderL l inner)) (ed_var rfl (dp_ex e1 _ hv)) hw))) (by rw [orderL_perm.length_eq, List.length_range]; omega) (fun _ => rfl) (fun k H3 e3 hk => ?_) (fun k H3 e3 hk _ => ed_i (ev_var rfl)) fun _ _ _ => rfl
    refine et_test (ev_is (ev_op (ev_var rfl) (ev_var rfl) rv_I0) ?_)
    show V.bl _ = V.bl _
    congr 1
    exact decide_eq_decide.mpr (by omega)
  have hL2' : H2 p = some (.lst (nVs (ordI l inner))) := by
    obtain ⟨xs, a, b⟩ := hL2
    rw [nats_of b] at a
    exact a
  show tSeq _ _ _ (S (some (nV l)) (some (.ref p)) none none none) H2
  refine q_asgLD (K := K) (ds := natDs (List.range n)) (en_lstRg1 (n := n) (ev_is (ev_op (ev_i (K := K) (ed_callW (g := fun l inner => natD (topN l inner)) (ed_var rfl (dp_ex (e1.trans e2) _ hv)) hw)) ev_c rv_I0) (by show V.int _ = V.int _; congr 1; unfold topN; omega)) (by omega)) fun pn H3 hpn e3 hL3 => ?_
  have hL3' : H3 pn = some (.lst (nVs (List.range n))) := by
    obtain ⟨xs, a, b⟩ := hL3
    rw [nats_of b] at a
    exact a
  have hpne : p ≠ pn := fun z => by
    rw [← z, hL2'] at hpn
    cases hpn
  have e13 := (e1.trans e2).trans e3
  have hp3 := e3 _ _ hL2'
  have hpnH : H2 pn = none := hpn
  show tSeq (tFor _ _ _) _ _ (S (some (nV l)) (some (.ref p)) (some (.ref pn)) none none) H3
  refine q_forE (K := K) (p := p) (ks := ordI l inner) (ev_var rfl) hp3 (fun m σ' H' => ∃ (x4 x5 : Option V) (ns : List Nat), σ' = S (some (nV l)) (some (.ref p)) (some (.ref pn)) x4 x5 ∧ Ex H2 H' ∧ H' p = some (.lst (nVs (ordI l inner))) ∧ H' pn = some (.lst (nVs ns)) ∧ ns.length = n ∧ (∀ k, k < l → ns[k]? = some k) ∧ (∀ j k, j < m → (ordI l inner)[j]? = some k → ns[k]? = some (l + j)))
    (fun H4 e4 => ⟨_, _, List.range n, rfl, e3.trans e4, e4 _ _ hp3, e4 _ _ hL3', List.length_range, fun k hk => List.getElem?_range (by omega), fun j k hj => absurd hj (Nat.not_lt_zero _)⟩) (fun m σ' H' h => by obtain ⟨_, _, _, _, _, h, _⟩ := h; exact h) (fun m σ' H' H'' e h => ?_) (fun m k σ' H' hk hI => ?_) fun σ' H' hI => ?_
  · obtain ⟨x4, x5, ns, a1, a2, a3, a4, a5⟩ := h
    exact ⟨x4, x5, ns, a1, a2.trans e, e _ _ a3, e _ _ a4, a5⟩
  · obtain ⟨x4, x5, ns, rfl, e4, hp4, hn4, hln, hlf, hin⟩ := hI
    have hkm := mem_ordI.mp (List.mem_of_getElem? hk)
    show tAsg _ _ _ (S (some (nV l)) (some (.ref p)) (some (.ref pn)) (some (nV m)) (some (nV k))) H'
    have hnl : (nVs ns).length = n := by unfold nVs; rw [List.length_map, hln]
    refine s_setL (j := k) (v := nV (l + m)) hn4 (ev_is (ev_op (ev_var rfl) (ev_var rfl) rv_I0) (by show V.int _ = V.int _; congr 1)) (ev_var rfl) (ev_var rfl) (by rw [hnl]; omega) fun H5 e5 => ⟨_, _, ns.set k (l + m), rfl, Ex.mut (e4.trans e5) hpnH, ?_, ?_, by rw [List.length_set]; exact hln, fun k' hk' => ?_, fun j k' hj hjk => ?_⟩
    · rw [upd_ne hpne]
      exact e5 _ _ hp4
    · rw [upd_same]
      unfold nVs
      rw [List.map_set]
    · rw [List.getElem?_set_ne (by omega)]
      exact hlf k' hk'
    · by_cases z : j = m
      · subst z
        rw [hk] at hjk
        cases hjk
        rw [List.getElem?_set_self (by omega)]
      · have hne : k ≠ k' := fun y => by
          subst y
          obtain ⟨i1, f1⟩ := List.getElem?_eq_some_iff.mp hk
          obtain ⟨i2, f2⟩ := List.getElem?_eq_some_iff.mp hjk
          exact z ((List.getElem_inj ordI_nd).mp (f2.trans f1.symm))
        rw [List.getElem?_set_ne hne]
        exact hin j k' (by omega) hjk
  · obtain ⟨x4, x5, ns, rfl, e4, hp4, hn4, hln, hlf, hin⟩ := hI
    have hplc : ∀ k, k < n → ns[k]? = some (plc k (odL l inner)) := fun k hk => by
      by_cases z : k < l
      · rw [hlf k z, plc_at odL_nd]
        unfold odL
        rw [List.getElem?_append_left (by rw [List.length_range]; exact z), List.getElem?_range z]
      · have hm := mem_ordI.mpr ⟨Nat.not_lt.mp z, en ▸ hk⟩
        rw [hin _ k (plc_lt hm) (plc_get hm), plc_at odL_nd]
        unfold odL
        rw [List.getElem?_append_right (by rw [List.length_range]; omega), List.length_range, show l + plc k (ordI l inner) - l = plc k (ordI l inner) by omega]
        exact plc_get hm
    have e04 := (e1.trans e2).trans e4
    show tRet _ _ (S (some (nV l)) (some (.ref p)) (some (.ref pn)) x4 x5) H'
    refine s_retD (K := K) (d := webD l (formI l inner)) (ed_tup (ds := [natD l, .tuple ((formI l inner).map kidsD)]) (eda_cons (ed_i (ev_var rfl)) (eda_cons (ed_tupL (ed_n ?_)) eda_nil)) (by simp)) fun r H5 e5 hr5 => q r H5 (e04.trans e5) hr5
    unfold formI
    rw [List.map_map]
    refine en_natMap (K := K) (fun k => kidsD (itemOf (kidsAt l inner) (odL l inner) k)) (src_L (ds := natDs (ordI l inner)) (ed_var rfl (.lst (sq_of hp4) (dpAll_nat _)))) (by rw [ordI_len]; omega) (fun _ => rfl) (fun k H5 e5 hk => ?_) fun _ _ => nl_kidsD _
    have hkm := mem_ordI.mp hk
    rw [itemsD]
    refine fun H6 e6 Q6 q6 => (ed_callWK (E := E0) (te := tVar 0) (tx := tVar 5) (g := fun l inner k => kidsD (kidsAt l inner k)) (k := k) (ed_var rfl (dp_ex (e04.trans e5) _ hv)) (ed_i (ev_var rfl)) hw hkm.2) H6 e6 _ fun y H7 e7 hy => ?_
    refine ⟨.ref pn, rfl, y, .ref pn, kidsAt l inner k, ns, fun c => plc c (odL l inner), rfl, hy, .inl (.lst (sq_of ((e5.trans (e6.trans e7)) _ _ hn4)) (dpAll_nat _)), by have := kl30 (k := k) hw; omega, fun c hc => hplc c (by have := (kidsAt_lt hw hc).1; omega), fun r H8 e8 hr8 => q6 r H8 (e7.trans e8) hr8⟩
end
end WR
set_option Elab.async false
set_option linter.all false
set_option maxRecDepth 100000
set_option maxHeartbeats 1000000
namespace WR
open PySem PySem.Spec PyProof.Rows L2 Evl
theorem ev_intB {σ : L2.St} {H : Hp} {te : TE} {b : Bool} (h : Ev te σ H (.bl b)) : Ev (tCB (fun xs H Q => (∃ i, xs = [.int i] ∧ Q (.int i) H) ∨ ∃ k, xs = [.bl k] ∧ Q (.int (if k then 1 else 0)) H) (tCons te tNil)) σ H (.int (if b then 1 else 0)) :=
  ev_cb (ea_cons h ea_nil) fun H1 _ Q q => .inr ⟨b, rfl, q H1 (Ex.refl H1)⟩
end WR
set_option Elab.async false
set_option linter.all false
set_option maxRecDepth 100000
set_option maxHeartbeats 2000000
namespace WR
open PySem PySem.Spec PyProof.Rows L2 Evl

/-! ### dicts of data by number -/
def dVs : Nat → List V → List (Key × V)
  | _, [] => []
  | i, v :: r => (Sum.inl (i : Int), v) :: dVs (i + 1) r
theorem dVs_len : ∀ {i : Nat} {vs : List V}, (dVs i vs).length = vs.length
  | _, [] => rfl
  | i, v :: r => by
    show (dVs (i + 1) r).length + 1 = r.length + 1
    rw [dVs_len]
theorem dVs_val {k : Nat} : ∀ {i : Nat} {vs : List V}, valV (dVs i vs) (Sum.inl (k : Int)) = if k < i then none else vs[k - i]?
  | i, [] => by
    show none = _
    split <;> rfl
  | i, v :: r => by
    by_cases e : i = k
    · subst e
      rw [if_neg (Nat.lt_irrefl _), Nat.sub_self]
      exact valV_pos rfl
    · have hn : ¬ ((Sum.inl (i : Int) : Key) = Sum.inl (k : Int)) := fun z => e (by
        have := Sum.inl.inj z
        omega)
      show valV ((Sum.inl (i : Int), v) :: dVs (i + 1) r) _ = _
      rw [valV_neg hn, dVs_val]
      by_cases z : k < i
      · rw [if_pos z, if_pos (by omega)]
      · rw [if_neg z, if_neg (by omega), show k - i = (k - (i + 1)) + 1 by omega, List.getElem?_cons_succ]
theorem dVs_app {v : V} : ∀ {i : Nat} {vs : List V}, dVs i (vs ++ [v]) = dVs i vs ++ [(Sum.inl ((i + vs.length : Nat) : Int), v)]
  | i, [] => rfl
  | i, x :: r => by
    show (Sum.inl (i : Int), x) :: dVs (i + 1) (r ++ [v]) = (Sum.inl (i : Int), x) :: (dVs (i + 1) r ++ [(Sum.inl ((i + (r.length + 1) : Nat) : Int), v)])
    rw [dVs_app, show i + 1 + r.length = i + (r.length + 1) by omega]
theorem dVs_put {v : V} {vs : List V} : putK (dVs 0 vs) (Sum.inl (vs.length : Int)) v = dVs 0 (vs ++ [v]) := by
  rw [putK_new _ (by rw [dVs_val, if_neg (Nat.not_lt_zero _), Nat.sub_zero]; exact List.getElem?_eq_none (Nat.le_refl _)), dVs_app, Nat.zero_add]
theorem dVs_merge : ∀ {more vs : List V}, mergeK (dVs 0 vs) (dVs vs.length more) = dVs 0 (vs ++ more)
  | [], vs => by rw [List.append_nil]; rfl
  | v :: r, vs => by
    show mergeK (putK (dVs 0 vs) (Sum.inl (vs.length : Int)) v) (dVs (vs.length + 1) r) = _
    rw [dVs_put]
    have e : vs.length + 1 = (vs ++ [v]).length := by rw [List.length_append]; rfl
    have ea : vs ++ v :: r = (vs ++ [v]) ++ r := by rw [List.append_assoc]; rfl
    rw [e, ea, dVs_merge]
theorem dVs_nats {n : Nat} : dVs 0 (nVs (List.range n)) = dNs 0 (List.range n) := by
  induction n with
  | zero => rfl
  | succ n ih =>
    have e : nVs (List.range (n + 1)) = nVs (List.range n) ++ [nV n] := by
      unfold nVs
      rw [List.range_succ, List.map_append]
      rfl
    rw [e, dVs_app, ih, List.range_succ, dNs_app]
    unfold nVs
    rw [List.length_map]
    rw [List.length_range, Nat.zero_add]
def DD (K : PySem.W.Frag) (H : Hp) (d : Addr) (ds : List PyData) : Prop := ∃ vs, H d = some (.dK (dVs 0 vs)) ∧ DpAll K H vs ds
theorem DD.ex {K : PySem.W.Frag} {H H' : Hp} {p : Addr} {ds : List PyData} (h : DD K H p ds) (e : Ex H H') : DD K H' p ds := by
  obtain ⟨xs, h1, h2⟩ := h
  exact ⟨xs, e _ _ h1, dpAll_ex e ds h2⟩
abbrev rDictP (K : PySem.W.Frag) : List V → Hp → VK → Prop := fun xs H Q => ∃ (a : Addr) (ps : List Addr) (kvs : List (Key × V)), xs = [.ref a] ∧ SqL K H a (ps.map V.ref) ∧ Paired (fun p kv => SqT K H p [kV kv.1, kv.2]) ps kvs ∧
    ∀ p, H p = none → Q (.ref p) (upd H p (.dK (mergeK [] kvs)))
theorem pairs_in {K : PySem.W.Frag} {H : Hp} {g : Nat → PyData} : ∀ {n i : Nat} {xs : List V}, DpAll K H xs ((List.range' i n).map fun k => .tuple [natD k, g k]) →
    ∃ (ps : List Addr) (vs : List V), xs = ps.map V.ref ∧ Paired (fun p kv => SqT K H p [kV kv.1, kv.2]) ps (dVs i vs) ∧ DpAll K H vs ((List.range' i n).map g)
  | 0, i, xs, h => by
    cases h
    exact ⟨[], [], rfl, .nil, .nil⟩
  | n + 1, i, xs, h => by
    rw [List.range'_succ] at h ⊢
    cases h with
    | cons a b =>
      obtain ⟨ps, vs, rfl, h2, h3⟩ := pairs_in b
      obtain ⟨p, ys, rfl, hs, hy⟩ := dp_tup a
      cases hy with
      | cons y1 hy =>
        cases hy with
        | cons y2 hy =>
          cases hy
          cases dp_int y1
          exact ⟨p :: ps, _ :: vs, rfl, .cons hs h2, .cons y2 h3⟩
section
variable {K : PySem.W.Frag} {σ : L2.St} {H : Hp} {ta te td ty tk tv : TE} {D : Ends} {tz tu : TS} {ds : List PyData}
theorem q_asgDD {i n : Nat} {g : Nat → PyData} (h : EvN K te σ H ((List.range n).map fun k => .tuple [natD k, g k])) (k : ∀ d H1, H d = none → Ex H H1 → DD K H1 d ((List.range n).map g) → tz D (σ.set i (some (.ref d))) H1) :
    tSeq (tAsg (tCB (rDictP K) (tCons te tNil)) (gName i)) tz D σ H := h H (Ex.refl H) _ fun p xs H2 hp e2 hx hd => by
  rw [List.range_eq_range'] at hd
  obtain ⟨ps, vs, rfl, h1, h2⟩ := pairs_in hd
  refine ⟨p, ps, dVs 0 vs, rfl, sq_of hx, h1, fun d hd0 => ?_⟩
  have e3 := Ex.new (o := .dK (mergeK [] (dVs 0 vs))) hd0
  refine k d _ (fresh_back e2 hd0) (e2.trans e3) ⟨vs, ?_, ?_⟩
  · rw [upd_same]
    exact congrArg (fun x => some (HO.dK x)) (dVs_merge (vs := []))
  · rw [List.range_eq_range']
    exact dpAll_ex e3 _ h2
theorem ed_dgetD {d : Addr} {k : Nat} {x : PyData} (hd : Ev td σ H (.ref d)) (hk : Ev ty σ H (nV k)) (h : DD K H d ds) (hx : ds[k]? = some x) : EvD K (tDGet td ty) σ H x := fun H1 e Q q => by
  obtain ⟨vs, h1, h2⟩ := h.ex e
  obtain ⟨v, hv, hvd⟩ := dpAll_at' h2 hx
  exact ev_dgetK (fun H2 e2 => hd H2 (e.trans e2)) (fun H2 e2 => hk H2 (e.trans e2)) h1 (by rw [dVs_val, if_neg (Nat.not_lt_zero _), Nat.sub_zero]; exact hv) H1 (Ex.refl _) _ fun H2 e2 => q v H2 e2 (dp_ex e2 _ hvd)
theorem et_dnotD {d : Addr} {k : Nat} (hd : Ev td σ H (.ref d)) (hk : Ev ty σ H (nV k)) (h : DD K H d ds) : EvT (tB (tDNotIn ty td)) σ H (decide (ds.length ≤ k)) := by
  obtain ⟨vs, h1, h2⟩ := h
  refine et_is (et_dnotin hd hk h1) ?_
  rw [dVs_val, if_neg (Nat.not_lt_zero _), Nat.sub_zero]
  have hl := dpAll_len h2
  by_cases z : ds.length ≤ k
  · rw [List.getElem?_eq_none (by omega), decide_eq_true z]
    rfl
  · rw [List.getElem?_eq_getElem (by omega), decide_eq_false z]
    rfl
/-- d[n] = datum, at the end -/
theorem s_dputD {d : Addr} {x : PyData} (hv : EvD K tv σ H x) (hd : Ev td σ H (.ref d)) (hk : Ev tk σ H (nV ds.length)) (h : DD K H d ds) (hz : ds.length < 100000) (n1 : nlAll ds = true) (n2 : nl x = true)
    (c : ∀ H1 o, Ex H H1 → DD K (upd H1 d o) d (ds ++ [x]) → D.nx σ (upd H1 d o)) : sDPut td tk tv D σ H :=
  hv H (Ex.refl H) _ fun v H1 e1 hvx => hd H1 e1 _ fun H2 e2 => hk H2 (e1.trans e2) _ fun H3 e3 => by
    obtain ⟨vs, h1, h2⟩ := h.ex ((e1.trans e2).trans e3)
    have hl := dpAll_len h2
    refine ⟨d, _, rfl, DPut.k (k := Sum.inl (ds.length : Int)) h1 (sz_lt (by rw [dVs_len]; omega)), c H3 _ ((e1.trans e2).trans e3) ⟨vs ++ [v], ?_, ?_⟩⟩
    · rw [upd_same, ← hl, dVs_put]
    · exact dpAll_snoc (dpAll_updK h1 _ n1 h2) (dp_updK h1 _ n2 (dp_ex (e2.trans e3) _ hvx))
theorem ev_lenDk {d : Addr} {kvs : List (Key × V)} (hd : Ev td σ H (.ref d)) (h : H d = some (.dK kvs)) : Ev (tCB (fun xs H Q => ∃ a kvs, xs = [V.ref a] ∧ H a = some (.dK kvs) ∧ Q (.int kvs.length) H) (tCons td tNil)) σ H (nV kvs.length) := fun H1 e Q q =>
  hd H1 e _ fun H2 e2 => ⟨d, kvs, rfl, (e.trans e2) _ _ h, q H2 e2⟩
/-- for x in list of data, whose things other than the list itself may change -/
theorem q_forLc {j : Nat} {p : Addr} {xs : List V} (h : Ev te σ H (.ref p)) (hp : H p = some (.lst xs)) (Pv : Nat → L2.St → Hp → Prop) (h0 : ∀ H1, Ex H H1 → Pv 0 σ H1) (hl : ∀ m σ' H', Pv m σ' H' → H' p = some (.lst xs))
    (hs : ∀ m x σ' H', xs[m]? = some x → Pv m σ' H' → tu { D with nx := Pv (m + 1), ct := Pv (m + 1), bk := tz D } (σ'.set j (some x)) H') (hd : ∀ σ' H', Pv xs.length σ' H' → tz D σ' H') :
    tSeq (tFor (iList K te) (gName j) tu) tz D σ H :=
  h H (Ex.refl H) _ fun H1 e1 => ⟨p, rfl, ⟨xs, sq_of (e1 _ _ hp)⟩, for_it (walk_list (K := K) (a := p) (xs := xs)) (D := { D with nx := tz D }) Pv (h0 H1 e1) (fun m σ' H' _ P => sq_of (hl m σ' H' P)) (fun m x σ' Hc H' hm P hy => by
    obtain ⟨rfl, hx⟩ := hy
    exact hs m x σ' H' hx P) fun σ' H' P => hd σ' H' P⟩
/-- [.. for x in list of data made of numbers] -/
theorem en_dMap {j : Nat} {wi : TI} {vs : List Nat} {α : Type} {ks : List α} (A g : α → PyData) (h : Src K wi σ H (ks.map A)) (hl : ks.length ≤ 40000) (hw : ∀ x, wipe ((wipe σ vs).set j (some x)) vs = wipe σ vs)
    (hv : ∀ k x H1, Ex H H1 → k ∈ ks → Dp K H1 x (A k) → EvD K te ((wipe σ vs).set j (some x)) H1 (g k)) (hg : ∀ k ∈ ks, nl (g k) = true) :
    EvN K (tLc wi (gName j) tYes te vs) σ H (ks.map g) := fun H1 e Q q => h H1 e _ fun J H2 G e2 hg' w Dl hD => by
  refine lc_it w (fun m H' => Ex H2 H' ∧ ∃ acc, H' Dl = some (.lst acc) ∧ DpAll K H' acc ((ks.take m).map g)) ⟨Ex.new hD, [], upd_same, by simpa using DpAll.nil⟩ (fun m H' _ p => hg' H' p.1) (fun m x H' H'' hm p hy => ?_) (fun H' p => ?_)
  · obtain ⟨rfl, d, hd, hx⟩ := hy
    obtain ⟨p1, acc, p2, p3⟩ := p
    rw [List.getElem?_map] at hd
    obtain ⟨k, hk, rfl⟩ := Option.map_eq_some_iff.mp hd
    have hml := (List.getElem?_eq_some_iff.mp hk).1
    have e3 : Ex H _ := (e.trans e2).trans p1
    refine ⟨hw _, yes_ ?_⟩
    refine hv k _ _ e3 (List.mem_of_getElem? hk) hx _ (Ex.refl _) _ fun y H4 e4 hyr => ⟨acc, e4 _ _ p2, sz_lt ?_, Ex.mut (p1.trans e4) hD, _, upd_same, ?_⟩
    · rw [dpAll_len p3, List.length_map, List.length_take]
      omega
    · have htk : (ks.take (m + 1)).map g = (ks.take m).map g ++ [g k] := by
        rw [List.take_add_one, hk, List.map_append]
        rfl
      rw [htk]
      have hall : nlAll ((ks.take m).map g) = true := nlAll_mem fun r' hr' => by
        obtain ⟨c, h1, rfl⟩ := List.mem_map.mp hr'
        exact hg c (List.mem_of_mem_take h1)
      exact dpAll_snoc (dpAll_updL (e4 _ _ p2) _ hall (dpAll_ex e4 _ p3)) (dp_updL (e4 _ _ p2) _ (hg k (List.mem_of_getElem? hk)) hyr)
  · obtain ⟨p1, acc, p2, p3⟩ := p
    rw [List.length_map, List.take_length] at p3
    exact q Dl acc H' (fresh_back e2 hD) (e2.trans p1) p2 p3
theorem s_dputK {d : Addr} {kvs : List (Key × V)} {k : Int} {v : V} (hv : Ev tv σ H v) (hd : Ev td σ H (.ref d)) (hk : Ev tk σ H (.int k)) (h : H d = some (.dK kvs)) (hz : kvs.length < 100000)
    (c : ∀ H1, Ex H H1 → D.nx σ (upd H1 d (.dK (putK kvs (Sum.inl k) v)))) : sDPut td tk tv D σ H :=
  hv H (Ex.refl H) _ fun H1 e1 => hd H1 e1 _ fun H2 e2 => hk H2 (e1.trans e2) _ fun H3 e3 => ⟨d, _, rfl, DPut.k (k := Sum.inl k) (((e1.trans e2).trans e3) _ _ h) (sz_lt hz), c H3 ((e1.trans e2).trans e3)⟩
end
end WR
set_option Elab.async false
set_option linter.all false
set_option maxRecDepth 100000
set_option maxHeartbeats 2000000
namespace WR
open PySem PySem.Spec PyProof.Rows L2 Evl

/-! ### drafts: dicts from numbers to lists of numbers -/
abbrev Ent := Int × Addr × List Int
abbrev DrK (es : List Ent) : List (Key × V) := es.map fun e => (Sum.inl e.1, V.ref e.2.1)
/-- what the draft tells -/
abbrev gr (es : List Ent) : List (Int × List Int) := es.map fun e => (e.1, e.2.2)
/-- its lists -/
structure DrB (H : Hp) (es : List Ent) : Prop where
  at_ : ∀ e ∈ es, H e.2.1 = some (.lst (e.2.2.map V.int))
  rn : (es.map fun e => e.2.1).Nodup
  kn : (es.map fun e => e.1).Nodup
/-- the draft -/
structure DrA (H : Hp) (d : Addr) (es : List Ent) : Prop where
  dict : H d = some (.dK (DrK es))
  b : DrB H es
theorem DrB.ex {H H' : Hp} {es : List Ent} (h : DrB H es) (e : Ex H H') : DrB H' es := ⟨fun x hx => e _ _ (h.at_ x hx), h.rn, h.kn⟩
theorem DrA.ex {H H' : Hp} {d : Addr} {es : List Ent} (h : DrA H d es) (e : Ex H H') : DrA H' d es := ⟨e _ _ h.dict, h.b.ex e⟩
/-- another thing changes -/
theorem DrB.updO {H : Hp} {es : List Ent} {a : Addr} {o o' : HO} (h : DrB H es) (ha : H a = some o) (hn : ∀ xs, o ≠ .lst xs) : DrB (upd H a o') es := ⟨fun x hx => by
  rw [upd_ne fun z => ?_]
  · exact h.at_ x hx
  · have := h.at_ x hx
    rw [z, ha] at this
    exact hn _ (Option.some.inj this), h.rn, h.kn⟩
def lkI (g : List (Int × List Int)) (k : Int) : Option (List Int) := (g.find? fun p => decide (p.1 = k)).map (·.2)
theorem val_dr {es : List Ent} {k : Int} (hn : (es.map fun e => e.1).Nodup) {e : Ent} (he : e ∈ es) (hk : e.1 = k) : valV (DrK es) (Sum.inl k) = some (V.ref e.2.1) := by
  induction es with
  | nil => cases he
  | cons x es ih =>
    rw [List.map_cons] at hn
    obtain ⟨h1, h2⟩ := List.nodup_cons.mp hn
    show valV ((Sum.inl x.1, V.ref x.2.1) :: DrK es) (Sum.inl k) = _
    rcases List.mem_cons.mp he with rfl | he
    · exact valV_pos (by show Sum.inl e.1 = _; rw [hk])
    · rw [valV_neg (fun z => ?_)]
      · exact ih h2 he
      · have z' : x.1 = k := Sum.inl.inj z
        exact h1 (by rw [z', ← hk]; exact List.mem_map.mpr ⟨e, he, rfl⟩)
theorem put_new {es : List Ent} {k : Int} {v : V} (h : ∀ e ∈ es, e.1 ≠ k) : putK (DrK es) (Sum.inl k) v = DrK es ++ [(Sum.inl k, v)] := by
  unfold putK
  have : ((DrK es).any fun kv => decide (kv.1 = Sum.inl k)) = false := by
    rw [List.any_eq_false]
    intro p hp
    obtain ⟨e, he, rfl⟩ := List.mem_map.mp hp
    rw [decide_eq_true_iff]
    intro z
    exact h e he (Sum.inl.inj z)
  rw [if_neg (by rw [this]; decide)]
/-! what is made -/
/-- a new draft -/
def EvDr (te : TE) (σ : L2.St) (H : Hp) (g : List (Int × List Int)) : Prop := ∀ H1, Ex H H1 → ∀ Q : VK, (∀ d es H2, H1 d = none → (∀ e ∈ es, H1 e.2.1 = none) → Ex H1 H2 → DrA H2 d es → gr es = g → Q (.ref d) H2) → te σ H1 Q
section
variable {K : PySem.W.Frag} {σ : L2.St} {H : Hp} {te td : TE} {wi : TI}
theorem dc_it {J : It} {n : Nat} {G : Hp → Prop} {Y : Nat → Hp → V → Hp → Prop} (wk : Walk J n G Y) {g : TG} {tt : TT} {tk tv : TE} {vs : List Nat} {H1 : Hp} {D : Addr} {Qd : Hp → Prop} (Pv : Nat → Hp → Prop) (h0 : Pv 0 (upd H1 D (.dK []))) (hG : ∀ i H, i ≤ n → Pv i H → G H)
    (hs : ∀ i x H H', i < n → Pv i H → Y i H x H' → g x (wipe σ vs) H' fun σ2 H2 => wipe σ2 vs = wipe σ vs ∧ tt σ2 H2 fun b H3 =>
      if b = true then tk σ2 H3 fun y H4 => tv σ2 H4 fun z H5 => ∃ kvs k, y = kV k ∧ H5 D = some (.dK kvs) ∧ kvs.length < sizeLine ∧ Pv (i + 1) (upd H5 D (.dK (putK kvs k z))) else Pv (i + 1) H3) (hd : ∀ H, Pv n H → Qd H) :
    ∃ W : Nat → Nat → Hp → Prop, (∃ m, W 0 m (upd H1 D (.dK []))) ∧ ∀ i m H, W i m H →
      (J.stop i H ∧ Qd H) ∨ (J.go i H ∧ ∃ Nx : Hp → Prop, (∀ H', Nx H' → ∃ m', m' < m ∧ W (i + 1) m' H') ∧ ∀ x H', J.yld i H x H' → g x (wipe σ vs) H' fun σ2 H2 => wipe σ2 vs = wipe σ vs ∧ tt σ2 H2 fun b H3 =>
        if b = true then tk σ2 H3 fun y H4 => tv σ2 H4 fun z H5 => ∃ kvs k, y = kV k ∧ H5 D = some (.dK kvs) ∧ kvs.length < sizeLine ∧ Nx (upd H5 D (.dK (putK kvs k z))) else Nx H3) := by
  refine ⟨fun i m H => m = n - i ∧ i ≤ n ∧ Pv i H, ⟨n, by simp, Nat.zero_le _, h0⟩, ?_⟩
  rintro i m H ⟨rfl, hi, p⟩
  have q := hG i H hi p
  by_cases hlt : i < n
  · exact .inr ⟨wk.goes i H hlt q, Pv (i + 1), fun H' p' => ⟨n - (i + 1), by omega, rfl, hlt, p'⟩, fun x H' y => hs i x H H' hlt p (wk.yields i H x H' hlt q y)⟩
  · have e : i = n := by omega
    subst e
    exact .inl ⟨wk.stops H q, hd H p⟩
/-- {k: a new list for k in numbers} -/
theorem edr_dc {j : Nat} {vs : List Nat} {ks : List Int} (g : Int → List Int) (h : Src K wi σ H (ks.map PyData.int)) (nd : ks.Nodup) (hl : ks.length ≤ 40000) (hw : ∀ x, wipe ((wipe σ vs).set j (some x)) vs = wipe σ vs) (hj : ∀ x, ((wipe σ vs).set j (some x))[j]? = some (some x))
    (hv : ∀ k H1, Ex H H1 → k ∈ ks → EvN K te ((wipe σ vs).set j (some (.int k))) H1 ((g k).map PyData.int)) : EvDr (tDc wi (gName j) tYes (tVar j) te vs) σ H (ks.map fun k => (k, g k)) := fun H1 e Q q => h H1 e _ fun J H2 G e2 hg w D hD => by
  have hlen : (ks.map PyData.int).length = ks.length := List.length_map ..
  refine dc_it w (fun i H' => Ex H2 H' ∧ ∃ es, H' D = some (.dK (DrK es)) ∧ DrB H' es ∧ gr es = (ks.take i).map (fun k => (k, g k)) ∧ ∀ x ∈ es, H1 x.2.1 = none) ⟨Ex.new hD, [], upd_same, ⟨fun x hx => (by cases hx), List.nodup_nil, List.nodup_nil⟩, rfl, fun x hx => (by cases hx)⟩ (fun i H' _ p => hg H' p.1) (fun i x H' H'' hi p hy => ?_) fun H' p => ?_
  · obtain ⟨rfl, d, hd, hx⟩ := hy
    obtain ⟨p1, es, p2, p3, p4, p5⟩ := p
    rw [List.getElem?_map] at hd
    obtain ⟨k, hk, rfl⟩ := Option.map_eq_some_iff.mp hd
    cases hx
    refine ⟨hw _, yes_ ?_⟩
    refine ⟨.int k, hj _, hv k _ ((e.trans e2).trans p1) (List.mem_of_getElem? hk) _ (Ex.refl _) _ fun p xs H5 hp e5 hx5 hd5 => ?_⟩
    have hxs := ints_of hd5
    subst hxs
    have p2' := e5 _ _ p2
    have hkn : ∀ y ∈ es, y.1 ≠ k := fun y hy z => by
      have h1 : y.1 ∈ (gr es).map (·.1) := by
        rw [List.map_map]
        exact List.mem_map.mpr ⟨y, hy, rfl⟩
      rw [p4, List.map_map] at h1
      obtain ⟨k', hk', e'⟩ := List.mem_map.mp h1
      have e' : k' = y.1 := e'
      rw [z] at e'
      subst e'
      obtain ⟨hil, hik⟩ := List.getElem?_eq_some_iff.mp hk
      have nd2 := nd
      rw [← List.take_append_drop i ks] at nd2
      refine (List.nodup_append.mp nd2).2.2 _ hk' _ ?_ rfl
      rw [List.drop_eq_getElem_cons hil, hik]
      exact List.mem_cons_self
    have hpD : p ≠ D := fun z => by
      rw [z, p2] at hp
      cases hp
    refine ⟨DrK es, Sum.inl k, rfl, p2', ?_, Ex.mut (p1.trans e5) hD, es ++ [(k, p, g k)], ?_, ?_, ?_, fun y hy => ?_⟩
    · have h2 := congrArg List.length p4
      rw [List.length_map, List.length_map, List.length_take] at h2
      exact sz_lt (by rw [List.length_map]; omega)
    · rw [upd_same, put_new hkn]
      show some (HO.dK (DrK es ++ _)) = some (HO.dK (DrK (es ++ _)))
      unfold DrK
      rw [List.map_append]
      rfl
    · have p3' := (p3.ex e5).updO (o' := .dK (putK (DrK es) (Sum.inl k) (.ref p))) p2' fun xs z => by cases z
      refine ⟨fun y hy => ?_, ?_, ?_⟩
      · rcases List.mem_append.mp hy with hy | hy
        · exact p3'.at_ y hy
        · rw [List.mem_singleton.mp hy]
          show upd H5 D _ p = _
          rw [upd_ne hpD]
          exact hx5
      · rw [List.map_append, List.nodup_append]
        refine ⟨p3.rn, by simp, fun a ha b hb z => ?_⟩
        obtain ⟨y, hy, rfl⟩ := List.mem_map.mp ha
        have hb : b = p := by simpa using hb
        have h3 := p3.at_ y hy
        rw [z, hb, hp] at h3
        cases h3
      · rw [List.map_append, List.nodup_append]
        refine ⟨p3.kn, by simp, fun a ha b hb z => ?_⟩
        obtain ⟨y, hy, rfl⟩ := List.mem_map.mp ha
        have hb : b = k := by simpa using hb
        exact hkn y hy (z.trans hb)
    · show gr (es ++ _) = _
      unfold gr
      rw [List.map_append, List.take_add_one, hk, List.map_append]
      show gr es ++ _ = _
      rw [p4]
      rfl
    · rcases List.mem_append.mp hy with hy | hy
      · exact p5 y hy
      · rw [List.mem_singleton.mp hy]
        exact fresh_back (e2.trans p1) hp
  · obtain ⟨p1, es, p2, p3, p4, p5⟩ := p
    rw [hlen, List.take_length] at p4
    exact q D es H' (fresh_back e2 hD) p5 (e2.trans p1) ⟨p2, p3⟩ p4
/-- a walk over the keys of a draft that is locked -/
theorem src_keysI {d : Addr} {od : Obj} {es : List Ent} (h : Ev td σ H (.ref d)) (hd : H d = some (.frz od (.dK (DrK es)))) : Src K (iKeys td) σ H ((es.map fun e => e.1).map PyData.int) := fun H1 e R k => h H1 e _ fun H2 e2 => by
  have hd2 := (e.trans e2) _ _ hd
  refine ⟨d, od, rfl, .inl ⟨DrK es, hd2, k _ H2 (fun H' => H' d = some (.frz od (.dK (DrK es)))) e2 (fun H' e3 => e3 _ _ hd2) ?_⟩⟩
  have hl : (DrK es).length = ((es.map fun e => e.1).map PyData.int).length := by rw [List.length_map, List.length_map, List.length_map]
  rw [← hl]
  refine (walk_keys (kvs := DrK es)).mono (fun H h => h) fun i H x H' hi hg hy => ?_
  obtain ⟨rfl, k, v, hk, rfl⟩ := hy
  rw [List.getElem?_map] at hk
  obtain ⟨x, hx, hx2⟩ := Option.map_eq_some_iff.mp hk
  cases hx2
  exact ⟨rfl, .int x.1, by rw [List.getElem?_map, List.getElem?_map, hx]; rfl, .int _⟩
/-- an expression with the draft locked -/
theorem lockE {d : Addr} {u : HO} {Q : VK} (hd : H d = some u) (hm : Mut (some u)) (h : ∀ od, te σ (upd H d (.frz od u)) fun v H' => H' d = some (.frz od u) ∧ Q v (upd H' d u)) : tLockE te σ H Q := ⟨d, u, hd, hm, h⟩
theorem ex_unlock {d : Addr} {od : Obj} {u : HO} {H' : Hp} (hd : H d = some u) (e : Ex (upd H d (.frz od u)) H') : Ex H (upd H' d u) := fun a o ha => by
  by_cases z : a = d
  · rw [z, hd] at ha
    cases ha
    rw [z]
    exact upd_same
  · rw [upd_ne z]
    exact e a o (by rw [upd_ne z]; exact ha)
end
end WR
set_option Elab.async false
set_option linter.all false
set_option maxRecDepth 100000
set_option maxHeartbeats 1000000
namespace WR
open PySem PySem.Spec PyProof.Rows L2 Evl

/-! ### kinds of a draft, children first -/
/-- the draft's kinds by their place -/
def kkD (ks : List Nat) (K : Nat → List Nat) : List (List Nat) := ks.map fun k => (K k).map fun c => plc c ks
/-- a draft that is a web -/
structure Gd (L : Nat) (ks : List Nat) (K : Nat → List Nat) : Prop where
  nd : ks.Nodup
  lf : ∀ i, i < L → ks[i]? = some i
  cl : ∀ k ∈ ks, ∀ c ∈ K k, c ∈ ks
  gen : Gen L (kkD ks K).length (rowAt (kkD ks K))
  n20 : ks.length ≤ L + 20
  l8 : L ≤ 8
theorem kkD_len {ks : List Nat} {K : Nat → List Nat} : (kkD ks K).length = ks.length := List.length_map ..
theorem kkD_at {ks : List Nat} {K : Nat → List Nat} {k : Nat} (hk : k ∈ ks) : rowAt (kkD ks K) (plc k ks) = (K k).map fun c => plc c ks := by
  unfold rowAt kkD
  rw [List.getD_eq_getElem?_getD, List.getElem?_map, plc_get hk]
  rfl
section
variable {L : Nat} {ks : List Nat} {K : Nat → List Nat} (G : Gd L ks K)
include G
theorem Gd.leafM {k : Nat} (h : k < L) : k ∈ ks := List.mem_of_getElem? (G.lf k h)
theorem Gd.leafP {k : Nat} (h : k < L) : plc k ks = k := plc_at G.nd (G.lf k h)
theorem Gd.knd {k : Nat} (hk : k ∈ ks) : (K k).Nodup := by
  have h := G.gen.nd (plc k ks)
  rw [kkD_at hk] at h
  exact (List.pairwise_map.mp h).imp fun {a b} h1 z => h1 (by rw [z])
theorem Gd.nil {k : Nat} (hk : k ∈ ks) : K k = [] ↔ k < L := by
  constructor
  · intro e
    refine Classical.byContradiction fun z => ?_
    have hp : L ≤ plc k ks := by
      refine Classical.byContradiction fun y => z ?_
      have h1 := G.lf (plc k ks) (by omega)
      rw [plc_get hk] at h1
      have := Option.some.inj h1
      omega
    obtain ⟨c, hc, _⟩ := G.gen.bare (plc k ks) hp (by rw [kkD_len]; exact plc_lt hk)
    rw [kkD_at hk, e] at hc
    cases hc
  · intro h
    have h1 := G.gen.leaf k h
    have h2 := kkD_at (K := K) hk
    rw [G.leafP h, h1] at h2
    exact List.map_eq_nil_iff.mp h2.symm
/-- children stand deeper -/
theorem Gd.rk : ∃ r : Nat → Nat, ∀ u ∈ ks, ∀ c ∈ K u, r c < r u := by
  obtain ⟨r, hr⟩ := G.gen.rk
  refine ⟨fun k => r (plc k ks), fun u hu c hc => hr _ _ ?_⟩
  rw [kkD_at hu]
  exact List.mem_map.mpr ⟨c, hc, rfl⟩
theorem Gd.leaves : (ks.filter fun k => decide (K k = [])) = List.range L := by
  have h1 : ks = List.range L ++ ks.drop L := by
    have hl : L ≤ ks.length := by
      have := G.gen.ln
      rw [kkD_len] at this
      exact this
    refine List.ext_getElem? fun i => ?_
    by_cases z : i < L
    · rw [G.lf i z, List.getElem?_append_left (by rw [List.length_range]; exact z), List.getElem?_range z]
    · rw [List.getElem?_append_right (by rw [List.length_range]; omega), List.length_range, List.getElem?_drop, show L + (i - L) = i by omega]
  have hn := G.nd
  rw [h1] at hn
  have e1 : (List.range L).filter (fun k => decide (K k = [])) = List.range L := List.filter_eq_self.mpr fun k hk => decide_eq_true ((G.nil (G.leafM (List.mem_range.mp hk))).mpr (List.mem_range.mp hk))
  have e2 : (ks.drop L).filter (fun k => decide (K k = [])) = [] := List.filter_eq_nil_iff.mpr fun k hk => by
    rw [decide_eq_true_iff]
    intro z
    have h2 := (G.nil (List.mem_of_mem_drop hk)).mp z
    exact (List.nodup_append.mp hn).2.2 k (List.mem_range.mpr h2) k hk rfl
  conv => lhs; rw [h1]
  rw [List.filter_append, e1, e2, List.append_nil]
end
/-- what a kind waits for -/
def wtK (K : Nat → List Nat) (D : List Nat) (k : Nat) : Nat := (K k).countP fun c => decide (c ∉ D)
def upsK (ks : List Nat) (K : Nat → List Nat) (c : Nat) : List Nat := ks.filter fun k => decide (c ∈ K k)
def rdyK (K : Nat → List Nat) (D : List Nat) (k : Nat) : Bool := decide (wtK K D k = 0)
theorem wtK_zero {K : Nat → List Nat} {D : List Nat} {k : Nat} : wtK K D k = 0 ↔ ∀ c ∈ K k, c ∈ D := by
  unfold wtK
  rw [List.countP_eq_zero]
  constructor
  · intro h c hc
    have := h c hc
    rw [decide_eq_true_iff] at this
    exact Classical.not_not.mp this
  · intro h c hc
    rw [decide_eq_true_iff]
    exact fun z => z (h c hc)
theorem wtK_step {K : Nat → List Nat} {D : List Nat} {k x : Nat} (hn : (K k).Nodup) (hx : x ∈ K k) (hD : x ∉ D) : wtK K (D ++ [x]) k + 1 = wtK K D k := by
  unfold wtK
  generalize K k = cs at hn hx
  induction cs with
  | nil => cases hx
  | cons c r ih =>
    obtain ⟨h1, h2⟩ := List.nodup_cons.mp hn
    rw [List.countP_cons, List.countP_cons]
    rcases List.mem_cons.mp hx with rfl | hx
    · have e : (r.countP fun c => decide (c ∉ D ++ [x])) = r.countP fun c => decide (c ∉ D) := List.countP_congr fun c hc => by
        rw [decide_eq_true_iff, decide_eq_true_iff, List.mem_append, List.mem_singleton]
        have : c ≠ x := fun z => h1 (z ▸ hc)
        exact ⟨fun h z => h (.inl z), fun h z => z.elim h this⟩
      rw [e, decide_eq_true hD, decide_eq_false (by rw [List.mem_append, List.mem_singleton]; exact fun z => z (.inr rfl))]
      rfl
    · have hne : c ≠ x := fun z => h1 (z ▸ hx)
      have := ih h2 hx
      have e : decide (c ∉ D ++ [x]) = decide (c ∉ D) := decide_eq_decide.mpr (by
        rw [List.mem_append, List.mem_singleton]
        exact ⟨fun h z => h (.inl z), fun h z => z.elim h hne⟩)
      rw [e]
      omega
theorem wtK_same {K : Nat → List Nat} {D : List Nat} {k x : Nat} (hx : x ∉ K k) : wtK K (D ++ [x]) k = wtK K D k := by
  unfold wtK
  refine List.countP_congr fun c hc => ?_
  rw [decide_eq_true_iff, decide_eq_true_iff, List.mem_append, List.mem_singleton]
  have : c ≠ x := fun z => hx (z ▸ hc)
  exact ⟨fun h z => h (.inl z), fun h z => z.elim h this⟩
/-- R: the kinds that are ready; the first a of them were looked at -/
structure Up (ks : List Nat) (K : Nat → List Nat) (R : List Nat) (a : Nat) : Prop where
  le : a ≤ R.length
  nd : R.Nodup
  iff : ∀ k, k ∈ R ↔ k ∈ ks ∧ ∀ c ∈ K k, c ∈ R.take a
  dn : ∀ u c, u ∈ R → c ∈ K u → c ∈ R ∧ plc c R < plc u R
  pre : (ks.filter fun k => decide (K k = [])) <+: R
theorem up_zero {ks : List Nat} {K : Nat → List Nat} (hn : ks.Nodup) : Up ks K (ks.filter fun k => decide (K k = [])) 0 :=
  ⟨Nat.zero_le _, hn.filter _, fun k => by
    rw [List.mem_filter, decide_eq_true_iff, List.take_zero]
    refine and_congr_right fun _ => ⟨fun e c hc => ?_, fun h => List.eq_nil_iff_forall_not_mem.mpr fun c hc => ?_⟩
    · rw [e] at hc
      cases hc
    · exact absurd (h c hc) List.not_mem_nil, fun u c hu hc => by
    rw [List.mem_filter, decide_eq_true_iff] at hu
    rw [hu.2] at hc
    exact absurd hc List.not_mem_nil, List.prefix_rfl⟩
/-- what becomes ready by the next one -/
def nwK (ks : List Nat) (K : Nat → List Nat) (R : List Nat) (a x : Nat) : List Nat := (upsK ks K x).filter (rdyK K (R.take a ++ [x]))
section
variable {ks : List Nat} {K : Nat → List Nat} {R : List Nat} {a x : Nat}
theorem plc_appL {R t : List Nat} {c : Nat} (hn : (R ++ t).Nodup) (hc : c ∈ R) : plc c (R ++ t) = plc c R :=
  plc_at hn (by rw [List.getElem?_append_left (plc_lt hc)]; exact plc_get hc)
theorem plc_appR {R t : List Nat} {c : Nat} (hn : (R ++ t).Nodup) (hc : c ∈ t) : plc c (R ++ t) = R.length + plc c t :=
  plc_at hn (by rw [List.getElem?_append_right (by omega), show R.length + plc c t - R.length = plc c t by omega]; exact plc_get hc)
theorem Up.step (U : Up ks K R a) (hn : ks.Nodup) (hx : R[a]? = some x) : Up ks K (R ++ nwK ks K R a x) (a + 1) ∧ (R ++ nwK ks K R a x).take (a + 1) = R.take a ++ [x] := by
  obtain ⟨hal, hax⟩ := List.getElem?_eq_some_iff.mp hx
  have htk : R.take (a + 1) = R.take a ++ [x] := by rw [List.take_add_one, hx]; rfl
  have htk2 : (R ++ nwK ks K R a x).take (a + 1) = R.take a ++ [x] := by rw [List.take_append_of_le_length (by omega), htk]
  have hxR : x ∈ R := List.mem_of_getElem? hx
  have hxt : x ∉ R.take a := fun z => by
    have h1 := U.nd
    rw [← List.take_append_drop a R] at h1
    refine (List.nodup_append.mp h1).2.2 x z x ?_ rfl
    rw [List.drop_eq_getElem_cons hal, hax]
    exact List.mem_cons_self
  have hnw : ∀ k, k ∈ nwK ks K R a x ↔ k ∈ ks ∧ x ∈ K k ∧ ∀ c ∈ K k, c ∈ R.take a ++ [x] := fun k => by
    unfold nwK upsK rdyK
    rw [List.mem_filter, List.mem_filter, decide_eq_true_iff, decide_eq_true_iff, wtK_zero, and_assoc]
  have hnd : (R ++ nwK ks K R a x).Nodup := by
    rw [List.nodup_append]
    refine ⟨U.nd, (hn.filter _).filter _, fun k hk k' hk' e => ?_⟩
    subst e
    exact hxt (((U.iff k).mp hk).2 x ((hnw k).mp hk').2.1)
  refine ⟨⟨by rw [List.length_append]; omega, hnd, fun k => ?_, fun u c hu hc => ?_, U.pre.trans (List.prefix_append _ _)⟩, htk2⟩
  · rw [htk2, List.mem_append, hnw]
    constructor
    · rintro (h | ⟨h1, _, h3⟩)
      · obtain ⟨h1, h2⟩ := (U.iff k).mp h
        exact ⟨h1, fun c hc => List.mem_append_left _ (h2 c hc)⟩
      · exact ⟨h1, h3⟩
    · rintro ⟨h1, h2⟩
      by_cases z : x ∈ K k
      · exact .inr ⟨h1, z, h2⟩
      · refine .inl ((U.iff k).mpr ⟨h1, fun c hc => ?_⟩)
        rcases List.mem_append.mp (h2 c hc) with h | h
        · exact h
        · rw [List.mem_singleton.mp h] at hc
          exact absurd hc z
  · rcases List.mem_append.mp hu with h | h
    · obtain ⟨h1, h2⟩ := U.dn u c h hc
      refine ⟨List.mem_append_left _ h1, ?_⟩
      rw [plc_appL hnd h1, plc_appL hnd h]
      exact h2
    · have h2 := ((hnw u).mp h).2.2 c hc
      have h1 : c ∈ R := by
        rcases List.mem_append.mp h2 with z | z
        · exact List.mem_of_mem_take z
        · rw [List.mem_singleton.mp z]
          exact hxR
      refine ⟨List.mem_append_left _ h1, ?_⟩
      rw [plc_appL hnd h1, plc_appR hnd h]
      have := plc_lt h1
      omega
theorem Up.perm (U : Up ks K R R.length) (hn : ks.Nodup) (hc : ∀ k ∈ ks, ∀ c ∈ K k, c ∈ ks) (hr : ∃ r : Nat → Nat, ∀ u ∈ ks, ∀ c ∈ K u, r c < r u) : R.Perm ks := by
  obtain ⟨r, hr⟩ := hr
  refine (List.perm_ext_iff_of_nodup U.nd hn).mpr fun k => ⟨fun h => ((U.iff k).mp h).1, ?_⟩
  generalize hm : r k = m
  induction m using Nat.strongRecOn generalizing k with
  | _ m ih =>
    intro hk
    refine (U.iff k).mpr ⟨hk, fun c hck => ?_⟩
    rw [List.take_length]
    exact ih (r c) (by rw [← hm]; exact hr k hk c hck) c rfl (hc k hk c hck)
theorem Up.len (U : Up ks K R a) : R.length ≤ ks.length := by
  have hm : ∀ k ∈ R, k ∈ ks := fun k hk => ((U.iff k).mp hk).1
  have h := nodup_len ks.length (R.map fun k => plc k ks) (List.pairwise_map.mpr (U.nd.imp_of_mem fun {a b} ha hb h z => h (plc_inj (hm a ha) (hm b hb) z))) fun c hc => by
    obtain ⟨k, hk, rfl⟩ := List.mem_map.mp hc
    exact plc_lt (hm k hk)
  rw [List.length_map] at h
  exact h
end
/-- what upward tells -/
structure UpE (L : Nat) (ks : List Nat) (K : Nat → List Nat) (R : List Nat) : Prop where
  perm : R.Perm ks
  nd : R.Nodup
  dn : ∀ u c, u ∈ R → c ∈ K u → c ∈ R ∧ plc c R < plc u R
  lf : ∀ k, k < L → R[k]? = some k
theorem Gd.upE {L : Nat} {ks : List Nat} {K : Nat → List Nat} {R : List Nat} (G : Gd L ks K) (U : Up ks K R R.length) : UpE L ks K R :=
  ⟨U.perm G.nd G.cl G.rk, U.nd, U.dn, fun k hk => by
    obtain ⟨t, ht⟩ := U.pre
    rw [← ht, G.leaves, List.getElem?_append_left (by rw [List.length_range]; exact hk), List.getElem?_range hk]⟩
/-- the web of the draft in this order -/
def webO (L : Nat) (K : Nat → List Nat) (R : List Nat) : List (List Nat) := (R.drop L).map (itemOf K R)
theorem plc_mapI {f : Nat → Nat} {R : List Nat} {c : Nat} (hn : (R.map f).Nodup) (hc : c ∈ R) : plc (f c) (R.map f) = plc c R :=
  plc_at hn (by rw [List.getElem?_map, plc_get hc]; rfl)
theorem Gd.num {L : Nat} {ks : List Nat} {K : Nat → List Nat} {R : List Nat} (G : Gd L ks K) (E : UpE L ks K R) : NumD (kkD ks K) L (webO L K R) := by
  have hm : ∀ k, k ∈ R ↔ k ∈ ks := fun k => E.perm.mem_iff
  have hnd : (R.map fun k => plc k ks).Nodup := List.pairwise_map.mpr (E.nd.imp_of_mem fun {a b} ha hb h z => h (plc_inj ((hm a).mp ha) ((hm b).mp hb) z))
  have hlen : R.length = ks.length := E.perm.length_eq
  have hln := G.gen.ln
  rw [kkD_len] at hln
  refine ⟨R.map fun k => plc k ks, G.gen, by rw [kkD_len]; exact G.n20, ⟨hnd, fun k hk => ?_, fun k hk => ?_, by rw [List.length_map]; omega, fun u c hu hc => ?_⟩, by rw [List.length_map, kkD_len, hlen], ?_⟩
  · obtain ⟨x, hx, rfl⟩ := List.mem_map.mp hk
    rw [kkD_len]
    exact plc_lt ((hm x).mp hx)
  · rw [List.getElem?_map, E.lf k hk, Option.map_some, G.leafP hk]
  · obtain ⟨x, hx, rfl⟩ := List.mem_map.mp hu
    rw [kkD_at ((hm x).mp hx)] at hc
    obtain ⟨y, hy, rfl⟩ := List.mem_map.mp hc
    obtain ⟨h1, h2⟩ := E.dn x y hx hy
    refine ⟨List.mem_map.mpr ⟨y, h1, rfl⟩, ?_⟩
    rw [plc_mapI (f := fun k => plc k ks) hnd h1, plc_mapI (f := fun k => plc k ks) hnd hx]
    exact h2
  · unfold webO
    rw [← List.map_drop, List.map_map]
    refine List.map_congr_left fun k hk => ?_
    have hk := List.mem_of_mem_drop hk
    show itemOf K R k = itemOf (rowAt (kkD ks K)) _ (plc k ks)
    unfold itemOf
    rw [kkD_at ((hm k).mp hk), List.map_map]
    congr 2
    refine List.map_congr_left fun c hc => ?_
    show ((plc c R : Nat) : Int) = ((plc (plc c ks) (R.map fun k => plc k ks) : Nat) : Int)
    rw [plc_mapI (f := fun k => plc k ks) hnd (E.dn k c hk hc).1]
end WR
set_option Elab.async false
set_option linter.all false
set_option maxRecDepth 100000
set_option maxHeartbeats 2000000
namespace WR
open PySem PySem.Spec PyProof.Rows L2 Evl

/-! ### drafts of kinds -/
def grK (ks : List Nat) (F : Nat → List Nat) : List (Int × List Int) := ks.map fun (k : Nat) => ((k : Int), (F k).map fun (c : Nat) => (c : Int))
def kI (ks : List Nat) : List Int := ks.map fun (k : Nat) => (k : Int)
theorem kI_nd {ks : List Nat} (h : ks.Nodup) : (kI ks).Nodup := List.pairwise_map.mpr (h.imp fun {a b} hne z => hne (by omega))
theorem kI_len {ks : List Nat} : (kI ks).length = ks.length := List.length_map ..
theorem gr_keys {es : List Ent} {ks : List Nat} {F : Nat → List Nat} (h : gr es = grK ks F) : (es.map fun e => e.1) = kI ks := by
  have := congrArg (List.map Prod.fst) h
  unfold grK at this
  rw [List.map_map, List.map_map] at this
  exact this
theorem gr_len {es : List Ent} {ks : List Nat} {F : Nat → List Nat} (h : gr es = grK ks F) : es.length = ks.length := by
  have := congrArg List.length (gr_keys h)
  rw [List.length_map, kI_len] at this
  exact this
theorem gr_at {es : List Ent} {ks : List Nat} {F : Nat → List Nat} (h : gr es = grK ks F) {k : Nat} (hk : k ∈ ks) : ∃ e ∈ es, e.1 = (k : Int) ∧ e.2.2 = (F k).map fun (c : Nat) => (c : Int) := by
  have h1 : ((k : Int), (F k).map fun (c : Nat) => (c : Int)) ∈ gr es := by rw [h]; exact List.mem_map.mpr ⟨k, hk, rfl⟩
  obtain ⟨e, he, h2⟩ := List.mem_map.mp h1
  exact ⟨e, he, congrArg Prod.fst h2, congrArg Prod.snd h2⟩
theorem grK_congr {ks : List Nat} {F G : Nat → List Nat} (h : ∀ k ∈ ks, F k = G k) : grK ks F = grK ks G := List.map_congr_left fun k hk => by rw [h k hk]
theorem rd_ex {H H' : Hp} {a : Addr} {u : HO} (h : Rd H a u) (e : Ex H H') : Rd H' a u := by
  rcases h with h | ⟨o, h⟩
  · exact .inl (e _ _ h)
  · exact .inr ⟨o, e _ _ h⟩
theorem nd_injD {α β : Type} {f : α → β} {l : List α} {a b : α} (hn : (l.map f).Nodup) (ha : a ∈ l) (hb : b ∈ l) (h : f a = f b) : a = b := by
  induction l with
  | nil => cases ha
  | cons x r ih =>
    rw [List.map_cons] at hn
    obtain ⟨h1, h2⟩ := List.nodup_cons.mp hn
    rcases List.mem_cons.mp ha with za | za
    · rcases List.mem_cons.mp hb with zb | zb
      · rw [za, zb]
      · exact absurd (List.mem_map.mpr ⟨b, zb, by rw [← h, za]⟩) h1
    · rcases List.mem_cons.mp hb with zb | zb
      · exact absurd (List.mem_map.mpr ⟨a, za, by rw [h, zb]⟩) h1
      · exact ih h2 za zb
/-- one list longer -/
def addE (es : List Ent) (k v : Int) : List Ent := es.map fun x => if x.1 = k then (x.1, x.2.1, x.2.2 ++ [v]) else x
theorem addE_keys {es : List Ent} {k v : Int} : DrK (addE es k v) = DrK es := by
  unfold addE DrK
  rw [List.map_map]
  refine List.map_congr_left fun x _ => ?_
  show (Sum.inl (if x.1 = k then (x.1, x.2.1, x.2.2 ++ [v]) else x).1, V.ref (if x.1 = k then (x.1, x.2.1, x.2.2 ++ [v]) else x).2.1) = _
  split <;> rfl
theorem addE_gr {es : List Ent} {ks : List Nat} {F : Nat → List Nat} {k v : Nat} (h : gr es = grK ks F) : gr (addE es (k : Int) (v : Int)) = grK ks fun c => if c = k then F c ++ [v] else F c := by
  have e1 : gr (addE es (k : Int) (v : Int)) = (gr es).map fun p => if p.1 = (k : Int) then (p.1, p.2 ++ [(v : Int)]) else p := by
    unfold addE gr
    rw [List.map_map, List.map_map]
    refine List.map_congr_left fun x _ => ?_
    show ((if x.1 = (k : Int) then (x.1, x.2.1, x.2.2 ++ [(v : Int)]) else x).1, (if x.1 = (k : Int) then (x.1, x.2.1, x.2.2 ++ [(v : Int)]) else x).2.2) = if x.1 = (k : Int) then (x.1, x.2.2 ++ [(v : Int)]) else (x.1, x.2.2)
    split <;> rfl
  rw [e1, h]
  unfold grK
  rw [List.map_map]
  refine List.map_congr_left fun c _ => ?_
  show (if (c : Int) = (k : Int) then ((c : Int), (F c).map (fun (c : Nat) => (c : Int)) ++ [(v : Int)]) else ((c : Int), (F c).map fun (c : Nat) => (c : Int))) = ((c : Int), (if c = k then F c ++ [v] else F c).map fun (c : Nat) => (c : Int))
  by_cases z : c = k
  · rw [if_pos (by rw [z]), if_pos z, List.map_append]
    rfl
  · rw [if_neg (by omega), if_neg z]
theorem addE_ad {es : List Ent} {k v : Int} : ((addE es k v).map fun e => e.2.1) = es.map fun e => e.2.1 := by
  unfold addE
  rw [List.map_map]
  refine List.map_congr_left fun x _ => ?_
  show (if x.1 = k then (x.1, x.2.1, x.2.2 ++ [v]) else x).2.1 = _
  split <;> rfl
theorem DrB.add {H : Hp} {es : List Ent} {v : Int} (h : DrB H es) {e : Ent} (he : e ∈ es) : DrB (upd H e.2.1 (.lst (e.2.2.map V.int ++ [V.int v]))) (addE es e.1 v) := by
  have inj1 : ∀ x ∈ es, x.1 = e.1 → x = e := fun x hx z => nd_injD h.kn hx he z
  have inj2 : ∀ x ∈ es, x.2.1 = e.2.1 → x = e := fun x hx z => nd_injD h.rn hx he z
  refine ⟨fun y hy => ?_, by rw [addE_ad]; exact h.rn, ?_⟩
  · unfold addE at hy
    obtain ⟨x, hx, rfl⟩ := List.mem_map.mp hy
    by_cases z : x.1 = e.1
    · rw [if_pos z]
      have := inj1 x hx z
      subst this
      show upd H x.2.1 _ x.2.1 = some (.lst ((x.2.2 ++ [v]).map V.int))
      rw [upd_same, List.map_append]
      rfl
    · rw [if_neg z, upd_ne fun y => z (by rw [inj2 x hx y])]
      exact h.at_ x hx
  · have : ((addE es e.1 v).map fun e => e.1) = es.map fun e => e.1 := by
      unfold addE
      rw [List.map_map]
      refine List.map_congr_left fun x _ => ?_
      show (if x.1 = e.1 then (x.1, x.2.1, x.2.2 ++ [v]) else x).1 = _
      split <;> rfl
    rw [this]
    exact h.kn
theorem DrA.add {H : Hp} {d : Addr} {es : List Ent} {v : Int} (h : DrA H d es) {e : Ent} (he : e ∈ es) : DrA (upd H e.2.1 (.lst (e.2.2.map V.int ++ [V.int v]))) d (addE es e.1 v) := by
  have hne : d ≠ e.2.1 := fun z => by
    have := h.b.at_ e he
    rw [← z, h.dict] at this
    cases this
  exact ⟨by rw [upd_ne hne, addE_keys]; exact h.dict, h.b.add he⟩
/-- a list that is none of its own changes -/
theorem DrB.oth {H : Hp} {es : List Ent} {a : Addr} {o : HO} (h : DrB H es) (ha : a ∉ es.map fun e => e.2.1) : DrB (upd H a o) es :=
  ⟨fun x hx => by
    rw [upd_ne fun z => ha (List.mem_map.mpr ⟨x, hx, z⟩)]
    exact h.at_ x hx, h.rn, h.kn⟩
theorem DrA.oth {H : Hp} {d : Addr} {es : List Ent} {a : Addr} {o : HO} (h : DrA H d es) (hd : d ≠ a) (ha : a ∉ es.map fun e => e.2.1) : DrA (upd H a o) d es :=
  ⟨by rw [upd_ne hd]; exact h.dict, h.b.oth ha⟩
theorem DrB.no {H : Hp} {es : List Ent} {a : Addr} {o : HO} (h : DrB H es) (ha : H a = some o) (hn : ∀ xs, o ≠ .lst xs) : a ∉ es.map fun e => e.2.1 := fun z => by
  obtain ⟨x, hx, rfl⟩ := List.mem_map.mp z
  have := h.at_ x hx
  rw [ha] at this
  exact hn _ (Option.some.inj this)
theorem DrB.fresh {H : Hp} {es : List Ent} {a : Addr} (h : DrB H es) (ha : H a = none) : a ∉ es.map fun e => e.2.1 := fun z => by
  obtain ⟨x, hx, rfl⟩ := List.mem_map.mp z
  have := h.at_ x hx
  rw [ha] at this
  cases this
/-! dicts from kinds to numbers -/
def wtD (ks : List Nat) (f : Nat → Int) : List (Key × V) := ks.map fun (k : Nat) => (Sum.inl (k : Int), V.int (f k))
theorem wtD_val {ks : List Nat} {f : Nat → Int} {k : Nat} (hn : ks.Nodup) (hk : k ∈ ks) : valV (wtD ks f) (Sum.inl (k : Int)) = some (V.int (f k)) := by
  induction ks with
  | nil => cases hk
  | cons x r ih =>
    obtain ⟨h1, h2⟩ := List.nodup_cons.mp hn
    show valV ((Sum.inl (x : Int), V.int (f x)) :: wtD r f) (Sum.inl (k : Int)) = _
    rcases List.mem_cons.mp hk with rfl | hk
    · exact valV_pos rfl
    · rw [valV_neg (fun z => ?_)]
      · exact ih h2 hk
      · have z' : (x : Int) = (k : Int) := Sum.inl.inj z
        have z2 : x = k := by omega
        exact h1 (z2 ▸ hk)
theorem wtD_put {ks : List Nat} {f : Nat → Int} {k : Nat} {i : Int} (hk : k ∈ ks) : putK (wtD ks f) (Sum.inl (k : Int)) (V.int i) = wtD ks fun c => if c = k then i else f c := by
  unfold putK
  have ha : ((wtD ks f).any fun kv => decide (kv.1 = Sum.inl (k : Int))) = true := List.any_eq_true.mpr ⟨(Sum.inl (k : Int), V.int (f k)), List.mem_map.mpr ⟨k, hk, rfl⟩, decide_eq_true rfl⟩
  rw [if_pos ha]
  unfold wtD
  rw [List.map_map]
  refine List.map_congr_left fun x _ => ?_
  show (if (Sum.inl (x : Int) : L2.Key) = Sum.inl (k : Int) then ((Sum.inl (x : Int) : L2.Key), V.int i) else (Sum.inl (x : Int), V.int (f x))) = (Sum.inl (x : Int), V.int (if x = k then i else f x))
  by_cases z : x = k
  · rw [if_pos (by rw [z]), if_pos z]
  · rw [if_neg (fun y => z (by have := Sum.inl.inj y; omega)), if_neg z]
theorem wtD_len {ks : List Nat} {f : Nat → Int} : (wtD ks f).length = ks.length := List.length_map ..
theorem wtD_congr {ks : List Nat} {f g : Nat → Int} (h : ∀ k ∈ ks, f k = g k) : wtD ks f = wtD ks g := List.map_congr_left fun k hk => by rw [h k hk]
/-- what tells a new dict -/
def EvKd (te : TE) (σ : L2.St) (H : Hp) (kvs : List (Key × V)) : Prop := ∀ H1, Ex H H1 → ∀ Q : VK, (∀ d H2, H1 d = none → Ex H1 H2 → H2 d = some (.dK kvs) → Q (.ref d) H2) → te σ H1 Q
section
variable {K : PySem.W.Frag} {σ : L2.St} {H : Hp} {te td tk : TE} {wi : TI} {D : Ends} {tz tu : TS}
theorem putK_new {ks : List Int} {f : Int → V} {k : Int} {v : V} (h : k ∉ ks) : putK (ks.map fun k => ((Sum.inl k : Key), f k)) (Sum.inl k) v = (ks.map fun k => ((Sum.inl k : Key), f k)) ++ [(Sum.inl k, v)] := by
  unfold putK
  have : ((ks.map fun k => ((Sum.inl k : Key), f k)).any fun kv => decide (kv.1 = Sum.inl k)) = false := by
    rw [List.any_eq_false]
    intro p hp
    obtain ⟨e, he, rfl⟩ := List.mem_map.mp hp
    rw [decide_eq_true_iff]
    intro z
    exact h (Sum.inl.inj z ▸ he)
  rw [if_neg (by rw [this]; decide)]
/-- {k: f(k) for k in numbers} -/
theorem ekd_dc {j : Nat} {vs : List Nat} {ks : List Int} (f : Int → V) (h : Src K wi σ H (ks.map PyData.int)) (nd : ks.Nodup) (hl : ks.length ≤ 40000) (hw : ∀ x, wipe ((wipe σ vs).set j (some x)) vs = wipe σ vs) (hj : ∀ x, ((wipe σ vs).set j (some x))[j]? = some (some x))
    (hv : ∀ k H1, Ex H H1 → k ∈ ks → Ev te ((wipe σ vs).set j (some (.int k))) H1 (f k)) : EvKd (tDc wi (gName j) tYes (tVar j) te vs) σ H (ks.map fun k => (Sum.inl k, f k)) := fun H1 e Q q => h H1 e _ fun J H2 G e2 hg w D hD => by
  have hlen : (ks.map PyData.int).length = ks.length := List.length_map ..
  refine dc_it w (fun i H' => Ex H2 H' ∧ H' D = some (.dK ((ks.take i).map fun k => (Sum.inl k, f k)))) ⟨Ex.new hD, upd_same⟩ (fun i H' _ p => hg H' p.1) (fun i x H' H'' hi p hy => ?_) fun H' p => ?_
  · obtain ⟨rfl, d, hd, hx⟩ := hy
    obtain ⟨p1, p2⟩ := p
    rw [List.getElem?_map] at hd
    obtain ⟨k, hk, rfl⟩ := Option.map_eq_some_iff.mp hd
    cases hx
    refine ⟨hw _, yes_ ?_⟩
    refine ⟨.int k, hj _, hv k _ ((e.trans e2).trans p1) (List.mem_of_getElem? hk) _ (Ex.refl _) _ fun H5 e5 => ?_⟩
    refine ⟨_, Sum.inl k, rfl, e5 _ _ p2, sz_lt (by rw [List.length_map, List.length_take]; omega), Ex.mut (p1.trans e5) hD, ?_⟩
    have hkn : k ∉ ks.take i := fun hm => by
      obtain ⟨hil, hik⟩ := List.getElem?_eq_some_iff.mp hk
      have nd2 := nd
      rw [← List.take_append_drop i ks] at nd2
      refine (List.nodup_append.mp nd2).2.2 _ hm _ ?_ rfl
      rw [List.drop_eq_getElem_cons hil, hik]
      exact List.mem_cons_self
    rw [upd_same, putK_new hkn, List.take_add_one, hk, List.map_append]
    rfl
  · obtain ⟨p1, p2⟩ := p
    rw [hlen, List.take_length] at p2
    exact q D H' (fresh_back e2 hD) (e2.trans p1) p2
/-- draft[kind] -/
theorem ev_dr {d : Addr} {es : List Ent} {k : Int} {e : Ent} (hd : Ev td σ H (.ref d)) (hk : Ev tk σ H (.int k)) (h : Rd H d (.dK (DrK es))) (hn : (es.map fun e => e.1).Nodup) (he : e ∈ es) (hek : e.1 = k) : Ev (tDGet td tk) σ H (.ref e.2.1) := fun H1 e1 Q q =>
  hd H1 e1 _ fun H2 e2 => hk H2 (e1.trans e2) _ fun H3 e3 => ⟨d, _, rfl, .inl ⟨DrK es, Sum.inl k, rd_ex h ((e1.trans e2).trans e3), rfl, (val_dr hn he hek).symm⟩, q H3 (e2.trans e3)⟩
theorem ev_wt {d : Addr} {ks : List Nat} {f : Nat → Int} {k : Nat} (hd : Ev td σ H (.ref d)) (hk : Ev tk σ H (nV k)) (h : H d = some (.dK (wtD ks f))) (hn : ks.Nodup) (hm : k ∈ ks) : Ev (tDGet td tk) σ H (.int (f k)) :=
  ev_dgetK hd hk h (wtD_val hn hm)
/-- x = {..} while the draft is locked -/
theorem q_asgLk {d : Addr} {u : HO} {i : Nat} {kvs : List (Key × V)} (hd : H d = some u) (hm : Mut (some u)) (h : ∀ od, EvKd te σ (upd H d (.frz od u)) kvs)
    (k : ∀ w H1, H w = none → w ≠ d → Ex H H1 → H1 w = some (.dK kvs) → tz D (σ.set i (some (.ref w))) H1) : tSeq (tAsg (tLockE te) (gName i)) tz D σ H :=
  ⟨d, u, hd, hm, fun od => h od _ (Ex.refl _) _ fun w H2 hw e2 h2 => by
    have hwd : w ≠ d := fun z => by
      rw [z, upd_same] at hw
      cases hw
    rw [upd_ne hwd] at hw
    exact ⟨e2 _ _ upd_same, k w _ hw hwd (ex_unlock hd e2) (by rw [upd_ne hwd]; exact h2)⟩⟩
/-- x = {k: new list ..} while the draft is locked -/
theorem q_lkAsgDr {d : Addr} {u : HO} {i : Nat} {g : List (Int × List Int)} (hd : H d = some u) (hm : Mut (some u)) (hu : ∀ xs, u ≠ .lst xs) (h : ∀ od, EvDr te σ (upd H d (.frz od u)) g)
    (k : ∀ w es H1, H w = none → w ≠ d → (∀ e ∈ es, H e.2.1 = none) → Ex H H1 → DrA H1 w es → gr es = g → tz D (σ.set i (some (.ref w))) H1) : tSeq (tLock (tAsg te (gName i))) tz D σ H :=
  ⟨d, u, hd, hm, fun od => h od _ (Ex.refl _) _ fun w es H2 hw hes e2 h2 hg => by
    have hwd : w ≠ d := fun z => by
      rw [z, upd_same] at hw
      cases hw
    have hfz : H2 d = some (.frz od u) := e2 _ _ upd_same
    refine ⟨hfz, k w es _ (by rw [upd_ne hwd] at hw; exact hw) hwd (fun e he => ?_) (ex_unlock hd e2) (h2.oth hwd (h2.b.no hfz fun xs z => by cases z)) hg⟩
    have := hes e he
    rw [upd_ne fun z => ?_] at this
    · exact this
    · rw [z, upd_same] at this
      cases this⟩
end
section
variable {X : Cx}
abbrev BlkDr (X : Cx) (scope : Scope) (F : Cx → Prop) : Prop := ∀ (sb : Shared) (Hb : Hp) (C : Addr) (cl : List (Str × Addr)) (fp : List Addr), F (X.blk sb Hb scope (compEnvC scope cl C X.env) fp)
theorem sw_dictD {ke ve : Expr} {gs : List Comprehension} {scope : Scope} {pos py : Pos} {y : Str} {l : Nat} {env : Env} (hk : env.scope.kind = .function) (hy : env.scope.names.lookup y = some .local) (hl : (py.line == pos.line) = true)
    (ha : (scope.names.any fun (n, k) => n == y && (k == .local || k == .cell)) = false) : swapsWith (.DictComp ke ve gs scope pos) (some (.Name y py)) l env = pure true := by
  have ky : env.kindOf y = some .local := hy
  have hb : env.blockKind = .function := by
    unfold Env.blockKind
    rw [hk]
    rfl
  unfold swapsWith
  simp only [hb, ky, ha, Expr.pos, hl]
  rfl
/-- y = {..}, y a local name -/
theorem ps_setDc {i : Nat} {y : Str} {py : Pos} {ke ve tg iter : Expr} {ifs : List Expr} {scope : Scope} {own : List (Str × Nat)} {pos spos : Pos} {wi : TI} {g : TG} {tt : TT} {tk tv : TE} (calm : X.calm = true) (nd : X.N.Nodup) (hy : X.N[i]? = some y) (hyl : X.env.scope.names.lookup y = some .local)
    (hsw : swapsWith (.DictComp ke ve [⟨tg, iter, ifs, 0⟩] scope pos) (some (.Name y py)) spos.line X.env = pure true) (walk : PI X tg iter wi) (blk : BlkOk X.N X.env.scope scope own)
    (pgs : BlkDr X scope fun Y => PG Y tg g) (pts : BlkDr X scope fun Y => PTs Y ifs tt) (pks : BlkDr X scope fun Y => PE Y ke tk) (pvs : BlkDr X scope fun Y => PE Y ve tv) (fold : ∀ x, foldedSetIterable iter X.env x = pure x := by intro _; rfl) :
    PS X (.Assign [.Name y py] (.DictComp ke ve [⟨tg, iter, ifs, 0⟩] scope pos) spos) (tAsg (tDc wi g tt tk tv (own.map (·.2))) (gName i)) := by
  refine ⟨fun pins s σ H D inv want => ?_⟩
  rw [exec_Assign_Name_used _ _ _ _ hsw]
  refine wpAny_bind (wpAny_standAt (wpAny_bind ?_))
  show wpAny _ X.A (do let _ ← comprehension (.DictComp ke ve [⟨tg, iter, ifs, 0⟩] scope pos) scope X.env (firstIterPos [⟨tg, iter, ifs, 0⟩] pos) newDict false (eval iter X.env) (some (assign (.Name y py) X.env))) _ _ s
  have want' : tDc wi g tt tk tv (own.map (·.2)) σ H (fun x Ha => gName i x σ Ha D.nx) := want
  refine wpAny_bind (thn (dc_core (Qf := fun _ s' => SP X pins D .next s') calm nd inv walk blk pgs pts pks pvs fold want' fun L C se m He ie q hn f => ?_) fun _ s' hq => wpAny_pure (wpAny_pure hq))
  show wpAny _ _ (assign (.Name y py) X.env (.ref L)) _ _ _
  refine wpAny_assign_Name (store_ok2 (v := V.ref L) ie nd hy (.inl hyl) rfl (fun s2 I2 ⟨a, sb, ha⟩ => ?_) (.inr hyl))
  obtain ⟨f0, f1, f2, f3, f4, f5⟩ := f
  have apart : C ≠ a := by
    rcases ha with z | z
    · rw [z]
      exact f1
    · exact fun e => f4 y a z e.symm
  exact ⟨m, hn.sameBut sb apart, fun h3 sb3 => ⟨_, He, I2.turned (t' := s2.toks) (fun b o hb e => (sb3.2 b hb).trans e) f0 f1 f3 f4 f5, q⟩⟩
end
end WR
namespace WR
open PySem PySem.Spec PyProof.Rows L2 Evl
/-! what a locked draft tells -/
theorem nvs_map (cs : List Nat) : ((cs.map fun (c : Nat) => (c : Int)).map V.int) = nVs cs := by
  rw [List.map_map]
  rfl
theorem dr_un {H : Hp} {es : List Ent} {ks : List Nat} {F : Nat → List Nat} {k : Nat} (h : DrB H es) (hg : gr es = grK ks F) (hk : k ∈ ks) : ∃ x ∈ es, x.1 = (k : Int) ∧ x.2.2 = (F k).map (fun (c : Nat) => (c : Int)) ∧ H x.2.1 = some (.lst (nVs (F k))) := by
  obtain ⟨x, hx, h1, h2⟩ := gr_at hg hk
  refine ⟨x, hx, h1, h2, ?_⟩
  rw [h.at_ x hx, h2, nvs_map]
theorem dr_lk {H H' : Hp} {d : Addr} {es : List Ent} {ks : List Nat} {F : Nat → List Nat} {k : Nat} {od : Obj} (h : DrA H d es) (hg : gr es = grK ks F) (hk : k ∈ ks) (e : Ex (upd H d (.frz od (.dK (DrK es)))) H') :
    ∃ x ∈ es, x.1 = (k : Int) ∧ H' x.2.1 = some (.lst (nVs (F k))) := by
  obtain ⟨x, hx, h1, _, h3⟩ := dr_un h.b hg hk
  refine ⟨x, hx, h1, e _ _ ?_⟩
  rw [upd_ne fun z => ?_]
  · exact h3
  · rw [z, h.dict] at h3
    cases h3
theorem el_none {K : PySem.W.Frag} {σ : L2.St} {H : Hp} : EvN K (tLst tNil) σ H [] := fun H1 e Q q => (el_lst ea_nil (by simp) : EvL (tLst tNil) σ H []) H1 e _ fun p H2 hp e2 hx => q p [] H2 hp e2 hx .nil
theorem srcS_keysI {K : PySem.W.Frag} {σ : L2.St} {H : Hp} {td : TE} {d : Addr} {od : Obj} {es : List Ent} (h : Ev td σ H (.ref d)) (hd : H d = some (.frz od (.dK (DrK es)))) : SrcS K (iKeys td) σ H ((es.map fun e => e.1).map PyData.int) := fun H1 e R k => h H1 e _ fun H2 e2 => by
  have hd2 := (e.trans e2) _ _ hd
  refine ⟨d, od, rfl, .inl ⟨DrK es, hd2, k _ H2 (fun H' => H' d = some (.frz od (.dK (DrK es)))) e2 (fun H' e3 => e3 _ _ hd) ?_⟩⟩
  have hl : (DrK es).length = ((es.map fun e => e.1).map PyData.int).length := by rw [List.length_map, List.length_map, List.length_map]
  rw [← hl]
  refine (walk_keys (kvs := DrK es)).mono (fun H h => h) fun i H x H' hi hg hy => ?_
  obtain ⟨rfl, k, v, hk, rfl⟩ := hy
  rw [List.getElem?_map] at hk
  obtain ⟨x, hx, hx2⟩ := Option.map_eq_some_iff.mp hk
  cases hx2
  exact ⟨rfl, .int x.1, by rw [List.getElem?_map, List.getElem?_map, hx]; rfl, .int _⟩
theorem q_asgKd {te : TE} {tz : TS} {D : Ends} {σ : L2.St} {H : Hp} {i : Nat} {kvs : List (Key × V)} (h : EvKd te σ H kvs) (k : ∀ d H1, H d = none → Ex H H1 → H1 d = some (.dK kvs) → tz D (σ.set i (some (.ref d))) H1) : tSeq (tAsg te (gName i)) tz D σ H := h H (Ex.refl H) _ k
theorem kI_nat (ks : List Nat) : (kI ks).map PyData.int = natDs ks := by
  unfold kI
  rw [List.map_map]
  rfl
end WR
set_option Elab.async false
set_option linter.all false
set_option maxRecDepth 100000
set_option maxHeartbeats 2000000
namespace WR
open PySem PySem.Spec PyProof.Rows L2 Evl

/-! ### upward -/
def spUp (K : PySem.W.Frag) : Sp := fun vs H Q _ => ∃ (d : Addr) (es : List Ent) (L : Nat) (ks : List Nat) (kd : Nat → List Nat), vs = [.ref d] ∧ DrA H d es ∧ gr es = grK ks kd ∧ Gd L ks kd ∧
  ∀ p R H', H p = none → Ex H H' → H' p = some (.lst (nVs R)) → UpE L ks kd R → Q (.ref p) H'
abbrev nUp : List Str := ["draft", "waiting", "uppers", "kind", "child", "ready", "at", "lower"]
theorem scUp : FnScope nUp ["draft"] (defScope s_upward) := ⟨rfl, rfl, rfl, by decide +kernel, rfl, by decide +kernel, by decide +kernel⟩
theorem nVs_end (l : List Nat) (k : Nat) : nVs (l ++ [k]) = nVs l ++ [nV k] := by
  unfold nVs
  rw [List.map_append]
  rfl
theorem mem_upsK {ks : List Nat} {K : Nat → List Nat} {x k : Nat} : k ∈ upsK ks K x ↔ k ∈ ks ∧ x ∈ K k := by
  unfold upsK
  rw [List.mem_filter, decide_eq_true_iff]
section
variable {P : Program} {w : World} {K : PySem.W.Frag} {mg : Str → Option Value} {base : Heap}
theorem ok_upward {f : Addr} {fd : FuncData} (F : Fun K "upward" "upward" s_upward f fd) (m1 : mg "len" = none) :
    FnOk P w K mg base CX0 1 f fd ["draft"] (spUp K) := by
  refine F.ok scUp (fun vs H Q E h => ?_) (fun cdv A outer s H vs Q E hr h => ?_)
  · obtain ⟨d, es, L, ks, kd, rfl, _⟩ := h
    rfl
  obtain ⟨d, es, L, ks, kd, rfl, hd, hg, G, q⟩ := h
  have hu0 := hu_of hr
  apply Exists.intro
  apply And.intro
  case left =>
    refine' pss_cons (ps_set (i := 1) scUp.nd rfl (.inr rfl) (pe_lock (pe_dc (own := [("kind", 3)]) (g := gName 3) (tt := tYes) (tk := tVar 3) (tv := tCB (rLenS K) (tCons (tDGet (tVar 0) (tVar 3)) tNil)) rfl scUp.nd (pi_keys (pv 0)) (blkOk_by (N := nUp) (sc := defScope s_upward) (by decide +kernel))
      (fun _ _ _ _ _ => pg_name (i := 3) scUp.nd rfl (Or.inl rfl)) (fun _ _ _ _ _ => pts_nil) (fun _ _ _ _ _ => pv 3)
      (fun _ _ _ _ _ => pe_callB (r := rLenS K) call_len_seq (by rfl) m1 PySem.boot_len (pa_cons (pe_dget hu0 (pv 0) (pv 3) (fun _ _ => rfl)) pa_nil))))) ?r0
    case' r0 => skip
    refine' pss_cons (ps_lock (ps_setDc (i := 2) (own := [("kind", 3)]) (g := gName 3) (tt := tYes) (tk := tVar 3) (tv := tLst tNil) rfl scUp.nd rfl rfl (sw_dictD rfl rfl rfl (by decide +kernel)) (pi_keys (pv 0)) (blkOk_by (N := nUp) (sc := defScope s_upward) (by decide +kernel))
      (fun _ _ _ _ _ => pg_name (i := 3) scUp.nd rfl (Or.inl rfl)) (fun _ _ _ _ _ => pts_nil) (fun _ _ _ _ _ => pv 3) (fun _ _ _ _ _ => pe_lst pa_nil))) ?r1
    case' r1 => skip
    refine' pss_cons (ps_lock (ps_for PassesOwn.never rfl (pi_keys (pv 0)) (pg_name (i := 3) scUp.nd rfl (.inl rfl))
      (pss_one (ps_for PassesOwn.never rfl (pi_list (pe_dget hu0 (pv 0) (pv 3) (fun _ _ => rfl))) (pg_name (i := 4) scUp.nd rfl (.inl rfl))
        (pss_one (ps_expr (pe_bm PySem.F.plainAttrs_list PySem.F.slot_list_append PySem.F.type_list_append mt_append (pe_dget hu0 (pv 2) (pv 4) (fun _ _ => rfl)) (pa_cons (pv 3) pa_nil)))))))) ?r2
    case' r2 => skip
    refine' pss_cons (ps_lock (ps_setLc (i := 5) (own := [("kind", 3)]) (g := gName 3) (tt := tTest (tOp rEq (tDGet (tVar 1) (tVar 3)) (tC (.int 0)))) (te := tVar 3) rfl scUp.nd rfl rfl (sw_true rfl rfl rfl (by decide +kernel)) (pi_keys (pv 0)) (blkOk_by (N := nUp) (sc := defScope s_upward) (by decide +kernel))
      (fun _ _ _ _ _ => pg_name (i := 3) scUp.nd rfl (Or.inl rfl)) (fun _ _ _ _ _ => pts_one (pt_cmpR op_eq (pe_dget hu0 (pv 1) (pv 3) (fun _ _ => rfl)) pe_int (nomark _))) (fun _ _ _ _ _ => pv 3))) ?r3
    case' r3 => skip
    refine' pss_cons (ps_set (i := 6) scUp.nd rfl (.inl rfl) pe_int) ?r4
    case' r4 => skip
    refine' pss_cons (ps_while PassesOwn.never (pt_cmpR op_lt (pv 6) (pe_callB (r := rLenS K) call_len_seq (by rfl) m1 PySem.boot_len (pa_cons (pv 5) pa_nil)) (nomark _)) ?wb) ?r5
    case' wb =>
      refine' pss_cons (ps_set (i := 7) scUp.nd rfl (.inl rfl) (pe_ix (r := rIxL K) ix_list (pv 5) (pv 6) (fun _ _ => rfl))) ?w0
      case' w0 => skip
      refine' pss_cons (ps_for PassesOwn.never rfl (pi_list (pe_dget hu0 (pv 2) (pv 7) (fun _ _ => rfl))) (pg_name (i := 3) scUp.nd rfl (.inl rfl)) ?fb) ?w1
      case' fb =>
        refine' pss_cons (ps_dput hu0 (pv 1) (pv 3) (pe_op op_sub (pe_dget hu0 (pv 1) (pv 3) (fun _ _ => rfl)) pe_int) rfl) ?f0
        case' f0 => skip
        exact pss_one (ps_if (pt_cmpR op_eq (pe_dget hu0 (pv 1) (pv 3) (fun _ _ => rfl)) pe_int (nomark _)) (pss_one (ps_expr (pe_bm PySem.F.plainAttrs_list PySem.F.slot_list_append PySem.F.type_list_append mt_append (pv 5) (pa_cons (pv 3) pa_nil)))) pss_nil)
      case' w1 => skip
      exact pss_one (ps_set (i := 6) scUp.nd rfl (.inl rfl) (pe_op op_add (pv 6) pe_int))
    case' r5 => skip
    exact pss_one (ps_ret (pv 5))
  case right =>
    let S (x1 x2 x3 x4 x5 x6 x7 : Option V) : L2.St := [some (.ref d), x1, x2, x3, x4, x5, x6, x7]
    have hn := G.nd
    have hkl : ks.length ≤ 40 := by
      have := G.n20
      have := G.l8
      omega
    have hkd : (kI ks).Nodup := kI_nd hn
    have hkey := gr_keys hg
    have hwtE : ((kI ks).map fun i => ((Sum.inl i : Key), V.int ((kd i.toNat).length : Int))) = wtD ks fun k => ((kd k).length : Int) := by
      unfold kI wtD
      rw [List.map_map]
      refine List.map_congr_left fun k _ => ?_
      show (Sum.inl (k : Int), V.int ((kd (Int.toNat (k : Int))).length : Int)) = _
      rw [Int.toNat_natCast]
    have hbd : ∀ k ∈ ks, (kd k).length ≤ 40 := fun k hk => by
      have h1 := nodup_len ks.length ((kd k).map fun c => plc c ks) (List.pairwise_map.mpr ((G.knd hk).imp_of_mem fun {a b} ha hb h z => h (plc_inj (G.cl k hk a ha) (G.cl k hk b hb) z))) fun c hc => by
        obtain ⟨y, hy, rfl⟩ := List.mem_map.mp hc
        exact plc_lt (G.cl k hk y hy)
      rw [List.length_map] at h1
      omega
    -- waiting
    refine q_asgLk (i := 1) hd.dict trivial (kvs := wtD ks fun k => ((kd k).length : Int)) (fun od => ?_) fun w H1 hw hwd e1 hw1 => ?_
    · rw [← hwtE]
      refine ekd_dc (K := K) (σ := S none none none none none none none) (vs := [3]) (fun i => V.int ((kd i.toNat).length : Int)) ?_ hkd (by rw [kI_len]; omega) (fun _ => rfl) (fun _ => rfl) fun i H1 e1 hi => ?_
      · rw [← hkey]
        exact src_keysI (ev_var rfl) upd_same
      · obtain ⟨k, hk, rfl⟩ := List.mem_map.mp hi
        obtain ⟨x, hx, hx1, hx2⟩ := dr_lk hd hg hk e1
        refine ev_is (ev_len (K := K) (ev_dr (ev_var rfl) (ev_var rfl) (.inr ⟨od, e1 _ _ upd_same⟩) hd.b.kn hx hx1) (sq_of hx2)) ?_
        show V.int ((nVs (kd k)).length : Int) = V.int ((kd (Int.toNat (k : Int))).length : Int)
        rw [Int.toNat_natCast]
        unfold nVs
        rw [List.length_map]
    have hd1 := hd.ex e1
    -- uppers
    refine q_lkAsgDr (i := 2) hd1.dict trivial (fun xs z => by cases z) (g := grK ks fun _ => []) (fun od => ?_) fun up eu H2 hup hupd heu e2 hU hgu => ?_
    · have h1 := edr_dc (K := K) (σ := S (some (.ref w)) none none none none none none) (j := 3) (vs := [3]) (te := tLst tNil) (fun _ => []) (src_keysI (td := tVar 0) (od := od) (H := upd H1 d (.frz od (.dK (DrK es)))) (ev_var rfl) upd_same) (by rw [hkey]; exact hkd) (by rw [hkey, kI_len]; omega) (fun _ => rfl) (fun _ => rfl) (fun k H1 _ _ => el_none)
      rw [hkey] at h1
      unfold kI at h1
      rw [List.map_map] at h1
      exact h1
    have hd2 := hd1.ex e2
    have hupw : up ≠ w := fun z => by
      rw [z, hw1] at hup
      cases hup
    -- every list of uppers is filled
    refine ⟨d, _, hd2.dict, trivial, fun od => ?_⟩
    have eL : Ex (upd H1 d (.frz od (.dK (DrK es)))) (upd H2 d (.frz od (.dK (DrK es)))) := fun a o ha => by
      by_cases z : a = d
      · rw [z, upd_same] at ha ⊢
        exact ha
      · rw [upd_ne z] at ha ⊢
        exact e2 _ _ ha
    have hsrc := srcS_keysI (K := K) (σ := S (some (.ref w)) (some (.ref up)) none none none none none) (td := tVar 0) (od := od) (H := upd H1 d (.frz od (.dK (DrK es)))) (es := es) (ev_var rfl) upd_same
    rw [hkey, kI_nat] at hsrc
    let UF (m : Nat) (c : Nat) : List Nat := (ks.take m).filter fun k => decide (c ∈ kd k)
    have hfr : ∀ {a : Addr}, H1 a = none → a ≠ d := fun {a} ha z => by
      rw [z, hd1.dict] at ha
      cases ha
    refine s_forS (K := K) eL hsrc (fun m σ' H' => ∃ x3 x4 eu', σ' = S (some (.ref w)) (some (.ref up)) x3 x4 none none none ∧ Ex (upd H1 d (.frz od (.dK (DrK es)))) H' ∧ DrA H' up eu' ∧ gr eu' = grK ks (UF m) ∧ ∀ e ∈ eu', H1 e.2.1 = none)
      (fun H3 e3 => ⟨none, none, eu, rfl, eL.trans e3, (hU.oth hupd (hU.b.no hd2.dict fun xs z => by cases z)).ex e3, hgu, heu⟩) (fun m σ' H' p => p.choose_spec.choose_spec.choose_spec.2.1) (fun m y x σ' H' hy hx p => ?_) fun σ' H' p => ?_
    · obtain ⟨x3, x4, eu', rfl, p1, p2, p3, p4⟩ := p
      unfold natDs at hy
      rw [List.getElem?_map] at hy
      obtain ⟨k, hk, rfl⟩ := Option.map_eq_some_iff.mp hy
      cases dp_int hx
      have hks := List.mem_of_getElem? hk
      obtain ⟨a, ha, ha1, ha2⟩ := dr_lk hd1 hg hks (Ex.refl (upd H1 d (.frz od (.dK (DrK es)))))
      have htk : ∀ c, UF (m + 1) c = UF m c ++ if c ∈ kd k then [k] else [] := fun c => by
        show (ks.take (m + 1)).filter _ = _
        rw [List.take_add_one, hk, List.filter_append]
        congr 1
        by_cases z : c ∈ kd k
        · rw [if_pos z]
          exact List.filter_eq_self.mpr fun y hy => by
            rw [Option.toList_some, List.mem_singleton] at hy
            rw [hy]
            exact decide_eq_true z
        · rw [if_neg z]
          exact List.filter_eq_nil_iff.mpr fun y hy => by
            rw [Option.toList_some, List.mem_singleton] at hy
            rw [hy, decide_eq_true_iff]
            exact z
      refine s_forLn (K := K) (a := a.2.1) (xs := nVs (kd k)) (ev_dr (ev_var rfl) (ev_var rfl) (.inr ⟨od, p1 _ _ upd_same⟩) hd.b.kn ha ha1) (sq_of (p1 _ _ ha2))
        (fun j σ' H' => ∃ x4 eu', σ' = S (some (.ref w)) (some (.ref up)) (some (nV k)) x4 none none none ∧ Ex (upd H1 d (.frz od (.dK (DrK es)))) H' ∧ DrA H' up eu' ∧ gr eu' = grK ks (fun c => UF m c ++ if c ∈ (kd k).take j then [k] else []) ∧ ∀ e ∈ eu', H1 e.2.1 = none)
        (fun H3 e3 => ⟨x4, eu', rfl, p1.trans e3, p2.ex e3, by rw [p3]; exact grK_congr fun c _ => by rw [List.take_zero, if_neg List.not_mem_nil, List.append_nil], p4⟩) (fun j σ' H' _ p => sq_of (p.choose_spec.choose_spec.2.1 _ _ ha2)) (fun j x σ' H' hx p => ?_) fun σ' H' p => ?_
      · obtain ⟨x4, eu', rfl, p1, p2, p3, p4⟩ := p
        unfold nVs at hx
        rw [List.getElem?_map] at hx
        obtain ⟨c, hc, rfl⟩ := Option.map_eq_some_iff.mp hx
        have hck := List.mem_of_getElem? hc
        have hcs := G.cl k hks c hck
        obtain ⟨b, hb, hb1, hb2, hb3⟩ := dr_un p2.b p3 hcs
        refine s_app (K := K) (l := b.2.1) (xs := b.2.2.map V.int) (v := nV k) (p2.b.at_ b hb) (ev_dr (ev_var rfl) (ev_var rfl) (.inl p2.dict) p2.b.kn hb hb1) (ev_var rfl) ?_ fun H4 e4 => ?_
        · rw [hb2, nvs_map]
          unfold nVs
          rw [List.length_map, List.length_append]
          have h1 : (UF m c).length ≤ ks.length := Nat.le_trans (List.length_filter_le _ _) (by rw [List.length_take]; omega)
          have h2 : (if c ∈ (kd k).take j then [k] else []).length ≤ 1 := by split <;> simp
          omega
        · refine ⟨some (nV c), addE eu' (c : Int) (k : Int), rfl, ?_, ?_, ?_, ?_⟩
          · refine Ex.mut (p1.trans e4) ?_
            rw [upd_ne (hfr (p4 b hb))]
            exact p4 b hb
          · rw [← hb1]
            exact (p2.ex e4).add hb
          · rw [addE_gr p3]
            refine grK_congr fun c' hc' => ?_
            show (if c' = c then _ else _) = UF m c' ++ if c' ∈ (kd k).take (j + 1) then [k] else []
            have hnd := G.knd hks
            have hnj : c ∉ (kd k).take j := fun hm => by
              obtain ⟨hil, hik⟩ := List.getElem?_eq_some_iff.mp hc
              have nd2 := hnd
              rw [← List.take_append_drop j (kd k)] at nd2
              refine (List.nodup_append.mp nd2).2.2 _ hm _ ?_ rfl
              rw [List.drop_eq_getElem_cons hil, hik]
              exact List.mem_cons_self
            have hm1 : (kd k).take (j + 1) = (kd k).take j ++ [c] := by
              rw [List.take_add_one, hc]
              rfl
            by_cases z : c' = c
            · rw [if_pos z, z, if_neg hnj, hm1, if_pos (by simp), List.append_nil]
            · rw [if_neg z, hm1]
              congr 1
              by_cases y : c' ∈ (kd k).take j
              · rw [if_pos y, if_pos (List.mem_append_left _ y)]
              · rw [if_neg y, if_neg (by rw [List.mem_append, List.mem_singleton]; exact fun t => t.elim y z)]
          · intro x hx
            unfold addE at hx
            obtain ⟨x0, hx0, rfl⟩ := List.mem_map.mp hx
            have := p4 x0 hx0
            by_cases z : x0.1 = (c : Int)
            · rw [if_pos z]
              exact this
            · rw [if_neg z]
              exact this
      · obtain ⟨x4, eu', rfl, p1, p2, p3, p4⟩ := p
        refine ⟨_, x4, eu', rfl, p1, p2, ?_, p4⟩
        rw [p3]
        refine grK_congr fun c _ => ?_
        show UF m c ++ (if c ∈ (kd k).take (nVs (kd k)).length then [k] else []) = _
        rw [htk c]
        unfold nVs
        rw [List.length_map, List.take_length]
    obtain ⟨x3, x4, eu', rfl, p1, p2, p3, p4⟩ := p
    have hfz := p1 _ _ upd_same
    refine ⟨hfz, ?_⟩
    have e3 : Ex H1 (upd H' d (.dK (DrK es))) := ex_unlock hd1.dict p1
    have hU3 : DrA (upd H' d (.dK (DrK es))) up eu' := p2.oth hupd (p2.b.no hfz fun xs z => by cases z)
    have hgu3 : gr eu' = grK ks (upsK ks kd) := by
      rw [p3]
      refine grK_congr fun c _ => ?_
      show (ks.take (natDs ks).length).filter _ = _
      unfold natDs upsK
      rw [List.length_map, List.take_length]
    generalize upd H' d (.dK (DrK es)) = H3 at e3 hU3 ⊢
    clear hfz p1 p2 p3 hU hgu heu hsrc eL hd2 e2
    have hd3 := hd1.ex e3
    have hw3 := e3 _ _ hw1
    -- ready
    refine ⟨d, _, hd3.dict, trivial, fun od3 => ?_⟩
    have hrd := en_natFil (K := K) (σ := S (some (.ref w)) (some (.ref up)) x3 x4 none none none) (H := upd H3 d (.frz od3 (.dK (DrK es)))) (wi := iKeys (tVar 0)) (j := 3) (vs := [3]) (te := tVar 3) (t := tTest (tOp rEq (tDGet (tVar 1) (tVar 3)) (tC (.int 0)))) (ks := ks) (fun k => decide (kd k = [])) natD (by
      have h1 := src_keysI (K := K) (σ := S (some (.ref w)) (some (.ref up)) x3 x4 none none none) (td := tVar 0) (od := od3) (H := upd H3 d (.frz od3 (.dK (DrK es)))) (es := es) (ev_var rfl) upd_same
      rw [hkey, kI_nat] at h1
      exact h1) (by omega) (fun _ => rfl) (fun k H4 e4 hk => by
      refine et_test (ev_is (ev_op (x := .int ((kd k).length : Int)) (y := .int 0) (ev_wt (ks := ks) (f := fun k => ((kd k).length : Int)) (ev_var rfl) (ev_var rfl) (e4 _ _ (by rw [upd_ne hwd]; exact hw3)) hn hk) ev_c (rv_eq rfl)) ?_)
      show V.bl (decide (V.int ((kd k).length : Int) = V.int 0)) = V.bl (decide (kd k = []))
      congr 1
      refine decide_eq_decide.mpr ⟨fun z => ?_, fun z => by rw [z]; rfl⟩
      have := V.int.inj z
      exact List.length_eq_zero_iff.mp (by omega)) (fun k H4 e4 hk hb => ed_i (ev_var rfl)) (fun k _ _ => rfl)
    refine hrd _ (Ex.refl _) _ fun p xs H4 hp e4 hx hdx => ⟨e4 _ _ upd_same, ?_⟩
    have hxs : xs = nVs (ks.filter fun k => decide (kd k = [])) := nats_of (K := K) hdx
    subst hxs
    have hpd : p ≠ d := fun z => by
      rw [z, upd_same] at hp
      cases hp
    rw [upd_ne hpd] at hp
    have e5 : Ex H3 (upd H4 d (.dK (DrK es))) := ex_unlock hd3.dict e4
    have hp5 : upd H4 d (.dK (DrK es)) p = some (.lst (nVs (ks.filter fun k => decide (kd k = [])))) := by
      rw [upd_ne hpd]
      exact hx
    have hpe : p ∉ eu'.map fun e => e.2.1 := hU3.b.fresh hp
    have hU5 := hU3.ex e5
    have hw5 := e5 _ _ hw3
    generalize upd H4 d (.dK (DrK es)) = H5 at e5 hp5 hU5 hw5 ⊢
    have hpH : H p = none := fresh_back (e1.trans e3) hp
    have hupH : H up = none := fresh_back e1 hup
    have e05 := (e1.trans e3).trans e5
    have hwp : w ≠ p := fun z => by
      rw [← z, hw5] at hp5
      cases hp5
    have hpup : p ≠ up := fun z => by
      rw [z, hU5.dict] at hp5
      cases hp5
    clear e4 hx hrd hdx e5 hd3 hw3 hU3
    show tSeq (tAsg (tC (.int 0)) (gName 6)) _ _ (S (some (.ref w)) (some (.ref up)) x3 x4 (some (.ref p)) none none) H5
    refine q_asg (i := 6) (v := .int 0) ev_c fun H6 e6 => ?_
    show tSeq (tWhile _ _) _ _ (S (some (.ref w)) (some (.ref up)) x3 x4 (some (.ref p)) (some (.int 0)) none) H6
    refine q_while (fun m σ' H' => ∃ R a x3 x7, σ' = S (some (.ref w)) (some (.ref up)) x3 x4 (some (.ref p)) (some (nV a)) x7 ∧ Ex H H' ∧ H' w = some (.dK (wtD ks fun k => (wtK kd (R.take a) k : Int))) ∧ DrA H' up eu' ∧ H' p = some (.lst (nVs R)) ∧ Up ks kd R a ∧ m + a = ks.length)
      ks.length ⟨ks.filter fun k => decide (kd k = []), 0, x3, none, rfl, e05.trans e6, ?_, hU5.ex e6, e6 _ _ hp5, up_zero hn, rfl⟩ fun m σ' H' hI => ?_
    · rw [e6 _ _ hw5]
      congr 2
      refine wtD_congr fun k _ => ?_
      show ((kd k).length : Int) = ((wtK kd [] k : Nat) : Int)
      unfold wtK
      rw [List.countP_eq_length.mpr fun c _ => decide_eq_true List.not_mem_nil]
    obtain ⟨R, a, x3, x7, rfl, i1, i2, i3, i4, U, im⟩ := hI
    refine ⟨decide (a < R.length), ?_, fun hb H7 e7 => ?_, fun hb H7 e7 => ?_⟩
    · refine et_test (ev_is (ev_op (x := .int (a : Int)) (y := .int ((nVs R).length : Int)) (ev_var rfl) (ev_len (K := K) (ev_var rfl) (sq_of i4)) rv_I0) ?_)
      unfold nVs
      rw [List.length_map]
      show V.bl (decide ((a : Int) < (R.length : Int))) = V.bl (decide (a < R.length))
      congr 1
      exact decide_eq_decide.mpr (by omega)
    rotate_left
    · have hal : a = R.length := by
        have h1 := of_decide_eq_false hb
        have h2 := U.le
        omega
      subst hal
      refine s_ret (ev_var rfl) fun H8 e8 => ?_
      exact q p R H8 hpH ((i1.trans e7).trans e8) (e8 _ _ (e7 _ _ i4)) (G.upE U)
    have hal := of_decide_eq_true hb
    obtain ⟨x, hx⟩ : ∃ x, R[a]? = some x := ⟨_, List.getElem?_eq_getElem hal⟩
    have hxs : x ∈ ks := ((U.iff x).mp (List.mem_of_getElem? hx)).1
    have hxt : x ∉ R.take a := fun z => by
      obtain ⟨hil, hik⟩ := List.getElem?_eq_some_iff.mp hx
      have nd2 := U.nd
      rw [← List.take_append_drop a R] at nd2
      refine (List.nodup_append.mp nd2).2.2 _ z _ ?_ rfl
      rw [List.drop_eq_getElem_cons hil, hik]
      exact List.mem_cons_self
    obtain ⟨US, UT⟩ := U.step hn hx
    have hRl := U.len
    have hml : a < ks.length := by omega
    refine ⟨fun σ2 H2 => ∃ m', m' < m ∧ ∃ R a x3 x7, σ2 = S (some (.ref w)) (some (.ref up)) x3 x4 (some (.ref p)) (some (nV a)) x7 ∧ Ex H H2 ∧ H2 w = some (.dK (wtD ks fun k => (wtK kd (R.take a) k : Int))) ∧ DrA H2 up eu' ∧ H2 p = some (.lst (nVs R)) ∧ Up ks kd R a ∧ m' + a = ks.length, fun σ2 H2 h => h, ?_⟩
    refine q_asg (i := 7) (v := nV x) (ev_op (ev_var rfl) (ev_var rfl) (rv_ixL (sq_of (e7 _ _ i4)) (atI_nat (by
      show (nVs R)[a]? = _
      unfold nVs
      rw [List.getElem?_map, hx]
      rfl)))) fun H8 e8 => ?_
    have j1 := (i1.trans e7).trans e8
    have j2 := e8 _ _ (e7 _ _ i2)
    have j3 := (i3.ex e7).ex e8
    have j4 := e8 _ _ (e7 _ _ i4)
    clear i1 i2 i3 i4 e7
    show tSeq (tFor _ _ _) _ _ (S (some (.ref w)) (some (.ref up)) x3 x4 (some (.ref p)) (some (nV a)) (some (nV x))) H8
    obtain ⟨b, hb', hb1, hb2, hb3⟩ := dr_un j3.b hgu3 hxs
    have hus : ∀ j k, (upsK ks kd x)[j]? = some k → k ∈ ks ∧ x ∈ kd k ∧ k ∉ (upsK ks kd x).take j := fun j k hk => by
      have h1 := List.mem_filter.mp (List.mem_of_getElem? hk)
      refine ⟨h1.1, of_decide_eq_true h1.2, fun hm => ?_⟩
      obtain ⟨hil, hik⟩ := List.getElem?_eq_some_iff.mp hk
      have nd2 : (upsK ks kd x).Nodup := hn.filter _
      rw [← List.take_append_drop j (upsK ks kd x)] at nd2
      refine (List.nodup_append.mp nd2).2.2 _ hm _ ?_ rfl
      rw [List.drop_eq_getElem_cons hil, hik]
      exact List.mem_cons_self
    let WF (j : Nat) (k : Nat) : Int := (wtK kd (R.take a) k : Int) - if k ∈ (upsK ks kd x).take j then 1 else 0
    let RF (j : Nat) : List Nat := R ++ ((upsK ks kd x).take j).filter (rdyK kd (R.take a ++ [x]))
    have hRF : ∀ j, (RF j).length ≤ 100 := fun j => by
      show (R ++ _).length ≤ 100
      rw [List.length_append]
      have h1 := List.length_filter_le (rdyK kd (R.take a ++ [x])) ((upsK ks kd x).take j)
      have h2 : ((upsK ks kd x).take j).length ≤ (upsK ks kd x).length := by rw [List.length_take]; omega
      have h3 : (upsK ks kd x).length ≤ ks.length := List.length_filter_le _ _
      omega
    refine q_forLn (K := K) (a := b.2.1) (xs := nVs (upsK ks kd x)) (ev_dr (ev_var rfl) (ev_var rfl) (.inl j3.dict) j3.b.kn hb' hb1) (sq_of hb3)
      (fun j σ' H' => ∃ x3, σ' = S (some (.ref w)) (some (.ref up)) x3 x4 (some (.ref p)) (some (nV a)) (some (nV x)) ∧ Ex H H' ∧ H' w = some (.dK (wtD ks (WF j))) ∧ DrA H' up eu' ∧ H' p = some (.lst (nVs (RF j))))
      (fun H9 e9 => ⟨x3, rfl, j1.trans e9, ?_, j3.ex e9, ?_⟩) (fun j σ' H' _ p => ?_) (fun j y σ' H' hy p => ?_) fun σ' H' p => ?_
    · have h0 : wtD ks (fun k => (wtK kd (R.take a) k : Int)) = wtD ks (WF 0) := wtD_congr fun k _ => by
        show _ = (wtK kd (R.take a) k : Int) - if k ∈ (upsK ks kd x).take 0 then 1 else 0
        rw [List.take_zero, if_neg List.not_mem_nil, Int.sub_zero]
      rw [e9 _ _ j2, h0]
    · rw [e9 _ _ j4]
      show some (HO.lst (nVs R)) = some (HO.lst (nVs (R ++ ((upsK ks kd x).take 0).filter _)))
      rw [List.take_zero, List.filter_nil, List.append_nil]
    · obtain ⟨x3, rfl, p1, p2, p3, p4⟩ := p
      obtain ⟨b2, hb2', hb21, hb22, hb23⟩ := dr_un p3.b hgu3 hxs
      have : b2 = b := nd_injD p3.b.kn hb2' hb' (by rw [hb1, hb21])
      rw [this] at hb23
      exact sq_of hb23
    · obtain ⟨x3, rfl, p1, p2, p3, p4⟩ := p
      unfold nVs at hy
      rw [List.getElem?_map] at hy
      obtain ⟨k, hk, rfl⟩ := Option.map_eq_some_iff.mp hy
      obtain ⟨hks, hxk, hkj⟩ := hus j k hk
      have hstep := wtK_step (G.knd hks) hxk hxt
      have htk : (upsK ks kd x).take (j + 1) = (upsK ks kd x).take j ++ [k] := by
        rw [List.take_add_one, hk]
        rfl
      have hWF : ∀ c, WF (j + 1) c = if c = k then WF j k - 1 else WF j c := fun c => by
        show (wtK kd (R.take a) c : Int) - (if c ∈ (upsK ks kd x).take (j + 1) then 1 else 0) = if c = k then (wtK kd (R.take a) k : Int) - (if k ∈ (upsK ks kd x).take j then 1 else 0) - 1 else (wtK kd (R.take a) c : Int) - if c ∈ (upsK ks kd x).take j then 1 else 0
        rw [htk]
        by_cases z : c = k
        · rw [if_pos z, z, if_neg hkj, if_pos (by simp)]
          omega
        · rw [if_neg z]
          by_cases y : c ∈ (upsK ks kd x).take j
          · rw [if_pos y, if_pos (List.mem_append_left _ y)]
          · rw [if_neg y, if_neg (by rw [List.mem_append, List.mem_singleton]; exact fun t => t.elim y z)]
      have hval : WF j k - 1 = (wtK kd (R.take a ++ [x]) k : Int) := by
        show (wtK kd (R.take a) k : Int) - (if k ∈ (upsK ks kd x).take j then 1 else 0) - 1 = _
        rw [if_neg hkj]
        omega
      show tSeq (sDPut _ _ _) _ _ (S (some (.ref w)) (some (.ref up)) (some (nV k)) x4 (some (.ref p)) (some (nV a)) (some (nV x))) H'
      refine q_dput (v := .int (WF j k - 1)) (d := w) (k := (k : Int)) (ev_op (x := .int (WF j k)) (y := .int 1) (ev_wt (f := WF j) (ev_var rfl) (ev_var rfl) p2 hn hks) ev_c rv_I0) (ev_var rfl) (ev_var rfl) p2 (by rw [wtD_len]; omega) fun H9 e9 => ?_
      have k2 : upd H9 w (.dK (putK (wtD ks (WF j)) (Sum.inl (k : Int)) (.int (WF j k - 1)))) w = some (.dK (wtD ks (WF (j + 1)))) := by
        rw [upd_same, wtD_put hks]
        congr 2
        exact wtD_congr fun c _ => (hWF c).symm
      have k1 : Ex H (upd H9 w (.dK (putK (wtD ks (WF j)) (Sum.inl (k : Int)) (.int (WF j k - 1))))) := Ex.mut (p1.trans e9) hw
      have k3 := (p3.ex e9).oth (a := w) (o := .dK (putK (wtD ks (WF j)) (Sum.inl (k : Int)) (.int (WF j k - 1)))) hupw ((p3.ex e9).b.no (e9 _ _ p2) fun xs z => by cases z)
      have k4 : upd H9 w (.dK (putK (wtD ks (WF j)) (Sum.inl (k : Int)) (.int (WF j k - 1)))) p = some (.lst (nVs (RF j))) := by
        rw [upd_ne (Ne.symm hwp)]
        exact e9 _ _ p4
      generalize upd H9 w (.dK (putK (wtD ks (WF j)) (Sum.inl (k : Int)) (.int (WF j k - 1)))) = H10 at k1 k2 k3 k4 ⊢
      have hRFs : rdyK kd (R.take a ++ [x]) k = true → RF (j + 1) = RF j ++ [k] := fun hr => by
        show R ++ ((upsK ks kd x).take (j + 1)).filter _ = (R ++ ((upsK ks kd x).take j).filter _) ++ [k]
        rw [htk, List.filter_append, List.append_assoc]
        congr 2
        rw [List.filter_cons, if_pos hr]
        rfl
      have hRFn : rdyK kd (R.take a ++ [x]) k = false → RF (j + 1) = RF j := fun hr => by
        show R ++ ((upsK ks kd x).take (j + 1)).filter _ = R ++ ((upsK ks kd x).take j).filter _
        rw [htk, List.filter_append, List.filter_cons, if_neg (by rw [hr]; decide), List.filter_nil, List.append_nil]
      refine s_if (b := rdyK kd (R.take a ++ [x]) k) (et_test (ev_is (ev_op (x := .int (WF (j + 1) k)) (y := .int 0) (ev_wt (f := WF (j + 1)) (ev_var rfl) (ev_var rfl) k2 hn hks) ev_c (rv_eq rfl)) ?_)) (fun hr H11 e11 => ?_) fun hr H11 e11 => ?_
      · show V.bl (decide (V.int (WF (j + 1) k) = V.int 0)) = V.bl (rdyK kd (R.take a ++ [x]) k)
        rw [hWF, if_pos rfl, hval]
        unfold rdyK
        congr 1
        exact decide_eq_decide.mpr ⟨fun z => by have := V.int.inj z; omega, fun z => by rw [z]; rfl⟩
      · refine s_app (K := K) (l := p) (xs := nVs (RF j)) (v := nV k) (e11 _ _ k4) (ev_var rfl) (ev_var rfl) (by unfold nVs; rw [List.length_map]; have := hRF j; omega) fun H12 e12 => ?_
        refine ⟨some (nV k), rfl, Ex.mut ((k1.trans e11).trans e12) hpH, ?_, ((k3.ex e11).ex e12).oth (Ne.symm hpup) hpe, ?_⟩
        · rw [upd_ne hwp]
          exact e12 _ _ (e11 _ _ k2)
        · rw [upd_same, hRFs hr, nVs_end]
      · refine ⟨some (nV k), rfl, k1.trans e11, e11 _ _ k2, k3.ex e11, ?_⟩
        rw [hRFn hr]
        exact e11 _ _ k4
    · obtain ⟨x3, rfl, p1, p2, p3, p4⟩ := p
      have hful : (upsK ks kd x).take (nVs (upsK ks kd x)).length = upsK ks kd x := by
        unfold nVs
        rw [List.length_map, List.take_length]
      refine s_asg (v := nV (a + 1)) (ev_op (x := nV a) (y := .int 1) (ev_var rfl) ev_c rv_I0) fun H9 e9 => ?_
      refine ⟨m - 1, by omega, R ++ nwK ks kd R a x, a + 1, x3, some (nV x), rfl, p1.trans e9, ?_, p3.ex e9, ?_, US, by omega⟩
      · rw [e9 _ _ p2, UT]
        congr 2
        refine wtD_congr fun k hk => ?_
        show (wtK kd (R.take a) k : Int) - (if k ∈ (upsK ks kd x).take (nVs (upsK ks kd x)).length then 1 else 0) = _
        rw [hful]
        by_cases z : x ∈ kd k
        · rw [if_pos (mem_upsK.mpr ⟨hk, z⟩)]
          have := wtK_step (G.knd hk) z hxt
          omega
        · rw [if_neg (fun y => z (mem_upsK.mp y).2), wtK_same z, Int.sub_zero]
      · rw [e9 _ _ p4]
        show some (HO.lst (nVs (R ++ ((upsK ks kd x).take (nVs (upsK ks kd x)).length).filter _))) = _
        rw [hful]
        rfl
end
end WR
set_option Elab.async false
set_option linter.all false
set_option maxRecDepth 100000
set_option maxHeartbeats 2000000
namespace WR
open PySem PySem.Spec PyProof.Rows L2 Evl

/-! ### web_of_draft -/
def spWod (K : PySem.W.Frag) : Sp := fun vs H Q _ => ∃ (d : Addr) (es : List Ent) (L : Nat) (ks : List Nat) (kd : Nat → List Nat), vs = [.ref d] ∧ DrA H d es ∧ gr es = grK ks kd ∧ Gd L ks kd ∧
  ∀ r X H', Ex H H' → Dp K H' r (webD L (formI L X)) → NumD (kkD ks kd) L X → Q r H'
abbrev nWod : List Str := ["draft", "order", "inner", "numbers", "leaves", "at", "kind", "child"]
theorem scWod : FnScope nWod ["draft"] (defScope s_web_of_draft) := ⟨rfl, rfl, rfl, by decide +kernel, rfl, by decide +kernel, by decide +kernel⟩
abbrev scWodI : Scope := { kind := ScopeKind.function, names := [(Str.ofString ".0", NameKind.local), (Str.ofString "kind", NameKind.local), (Str.ofString "tuple", NameKind.globalImplicit), (Str.ofString "sorted", NameKind.globalImplicit), (Str.ofString "draft", NameKind.cell), (Str.ofString "numbers", NameKind.cell)], isGenerator := false, isCoroutine := false, more := [] }
theorem UpE.split {L : Nat} {ks R : List Nat} {kd : Nat → List Nat} (E : UpE L ks kd R) : R = List.range L ++ R.drop L := by
  refine List.ext_getElem? fun i => ?_
  by_cases z : i < L
  · rw [E.lf i z, List.getElem?_append_left (by rw [List.length_range]; exact z), List.getElem?_range z]
  · rw [List.getElem?_append_right (by rw [List.length_range]; omega), List.length_range, List.getElem?_drop, show L + (i - L) = i by omega]
theorem UpE.low {L : Nat} {ks R : List Nat} {kd : Nat → List Nat} (E : UpE L ks kd R) {k : Nat} (hk : k ∈ R.drop L) : L ≤ k := by
  refine Classical.byContradiction fun z => ?_
  have hn := E.nd
  rw [E.split] at hn
  exact (List.nodup_append.mp hn).2.2 k (List.mem_range.mpr (by omega)) k hk rfl
theorem UpE.inner {L : Nat} {ks R : List Nat} {kd : Nat → List Nat} (E : UpE L ks kd R) (G : Gd L ks kd) : (R.filter fun k => decide (kd k ≠ [])) = R.drop L := by
  have e1 : (List.range L).filter (fun k => decide (kd k ≠ [])) = [] := List.filter_eq_nil_iff.mpr fun k hk => by
    rw [decide_eq_true_iff]
    exact fun z => z ((G.nil (G.leafM (List.mem_range.mp hk))).mpr (List.mem_range.mp hk))
  have e2 : (R.drop L).filter (fun k => decide (kd k ≠ [])) = R.drop L := List.filter_eq_self.mpr fun k hk => by
    rw [decide_eq_true_iff]
    intro z
    have h1 := (G.nil (E.perm.mem_iff.mp (List.mem_of_mem_drop hk))).mp z
    have := E.low hk
    omega
  conv => lhs; rw [E.split]
  rw [List.filter_append, e1, e2, List.nil_append]
theorem UpE.len {L : Nat} {ks R : List Nat} {kd : Nat → List Nat} (E : UpE L ks kd R) : R.length = L + (R.drop L).length := by
  have := congrArg List.length E.split
  rw [List.length_append, List.length_range] at this
  exact this
theorem UpE.plc {L : Nat} {ks R : List Nat} {kd : Nat → List Nat} (E : UpE L ks kd R) {k : Nat} (hk : k ∈ R) : (if k ∈ R.drop L then L + WR.plc k (R.drop L) else k) = WR.plc k R := by
  by_cases z : k ∈ R.drop L
  · rw [if_pos z]
    refine (plc_at E.nd ?_).symm
    rw [← List.getElem?_drop]
    exact plc_get z
  · rw [if_neg z]
    have h1 := hk
    rw [E.split] at h1
    rcases List.mem_append.mp h1 with h | h
    · exact (plc_at E.nd (E.lf k (List.mem_range.mp h))).symm
    · exact absurd h z
theorem item_kids {K : Nat → List Nat} {od : List Nat} {u : Nat} : PyData.tuple ((sortI ((K u).map fun c => ((plc c od : Nat) : Int))).map PyData.int) = kidsD (itemOf K od u) := by
  unfold kidsD itemOf
  rw [List.map_map]
  congr 1
  refine List.map_congr_left fun i hi => ?_
  obtain ⟨c, _, rfl⟩ := List.mem_map.mp ((sortI_perm _).mem_iff.mp hi)
  show PyData.int ((plc c od : Nat) : Int) = PyData.int ((Int.toNat ((plc c od : Nat) : Int) : Nat) : Int)
  rw [Int.toNat_natCast]
section
variable {P : Program} {w : World} {K : PySem.W.Frag} {mg : Str → Option Value} {base : Heap}
theorem ok_wod {f fU fF : Addr} {fd fdU fdF : FuncData} (F : Fun K "web_of_draft" "web_of_draft" s_web_of_draft f fd)
    (FU : Fun K "upward" "upward" s_upward fU fdU) (bU : Binds K fdU ["draft"] []) (gU : mg "upward" = some (.ref fU))
    (FF : Fun K "form" "form" s_form fF fdF) (bF : Binds K fdF ["web"] []) (gF : mg "form" = some (.ref fF))
    (m1 : mg "len" = none) (m2 : mg "enumerate" = none) (m3 : mg "tuple" = none) (m4 : mg "sorted" = none)
    (GU : FnOk P w K mg base CX0 1 fU fdU ["draft"] (spUp K))
    (GF : FnOk P w K mg base CX0 4 fF fdF ["web"] (spWP K fun l inner => webD l (formI l inner))) :
    FnOk P w K mg base CX0 5 f fd ["draft"] (spWod K) := by
  refine F.ok scWod (fun vs H Q E h => ?_) (fun cdv A outer s H vs Q E hr h => ?_)
  · obtain ⟨d, es, L, ks, kd, rfl, _⟩ := h
    rfl
  obtain ⟨d, es, L, ks, kd, rfl, hd, hg, G, q⟩ := h
  have r1 := hr.mono (show 1 ≤ 4 by decide)
  have hu0 := hu_of r1
  apply Exists.intro
  apply And.intro
  case left =>
    refine' pss_cons (ps_set (i := 1) scWod.nd rfl (.inl rfl) (pe_call GU r1 (by rfl) gU FU.kp bU .nil pass0 (pa_cons (pv 0) pa_nil))) ?r0
    case' r0 => skip
    refine' pss_cons (ps_setLc (i := 2) (own := [("kind", 6)]) (g := gName 6) (tt := tTest (tOp (rI0 fun i j => .bl (decide (j < i))) (tCB (rLenS K) (tCons (tDGet (tVar 0) (tVar 6)) tNil)) (tC (.int 0)))) (te := tVar 6) rfl scWod.nd rfl rfl (sw_true rfl rfl rfl (by decide +kernel)) (pi_list (pv 1)) (blkOk_by (N := nWod) (sc := defScope s_web_of_draft) (by decide +kernel))
      (fun _ _ _ _ _ => pg_name (i := 6) scWod.nd rfl (Or.inl rfl)) (fun _ _ _ _ _ => pts_one (pt_cmpR op_gt (pe_callB (r := rLenS K) call_len_seq (by rfl) m1 PySem.boot_len (pa_cons (pe_dget hu0 (pv 0) (pv 6) (fun _ _ => rfl)) pa_nil)) pe_int (nomark _))) (fun _ _ _ _ _ => pv 6)) ?r1
    case' r1 => skip
    refine' pss_cons (ps_set (i := 3) scWod.nd rfl (.inr rfl) (pe_dc (own := [("kind", 6)]) (g := gName 6) (tt := tYes) (tk := tVar 6) (tv := tVar 6) rfl scWod.nd (pi_list (pv 1)) (blkOk_by (N := nWod) (sc := defScope s_web_of_draft) (by decide +kernel))
      (fun _ _ _ _ _ => pg_name (i := 6) scWod.nd rfl (Or.inl rfl)) (fun _ _ _ _ _ => pts_nil) (fun _ _ _ _ _ => pv 6) (fun _ _ _ _ _ => pv 6))) ?r2
    case' r2 => skip
    refine' pss_cons (ps_set (i := 4) scWod.nd rfl (.inl rfl) (pe_op op_sub (pe_callB (r := rLenS K) call_len_seq (by rfl) m1 PySem.boot_len (pa_cons (pv 1) pa_nil)) (pe_callB (r := rLenS K) call_len_seq (by rfl) m1 PySem.boot_len (pa_cons (pv 2) pa_nil)))) ?r3
    case' r3 => skip
    refine' pss_cons (ps_for PassesOwn.never rfl (pi_enum (by rfl) m2 (pa_cons (pv 2) pa_nil)) (pg_tup rfl (pgs_cons (pg_name (i := 5) scWod.nd rfl (.inl rfl)) (pgs_cons (pg_name (i := 6) scWod.nd rfl (.inl rfl)) pgs_nil)))
      (pss_one (ps_dput hu0 (pv 3) (pv 6) (pe_op op_add (pv 4) (pv 5)) rfl))) ?r4
    case' r4 => skip
    exact pss_one (ps_ret (pe_call GF hr (by rfl) gF FF.kp bF .nil pass0 (pa_cons (pe_tup (pa_cons (pv 4) (pa_cons (pe_callTy call_tuple_of (by rfl) m3 (by decide +kernel) (pa_cons
      (pe_lc (own := [("kind", 6)]) (g := gName 6) (tt := tYes) (te := tCB (fun xs H Q => ∃ p ys, xs = [.ref p] ∧ ((SqL K H p ys ∧ ∀ l, H l = none → Q (.ref l) (upd H l (.tup ys))) ∨ (SqT K H p ys ∧ Q (.ref p) H))) (tCons (tCB (rSortedA K) (tCons (tLc (iList K (tDGet (tVar 0) (tVar 6))) (gName 7) tYes (tDGet (tVar 3) (tVar 7)) [7]) tNil)) tNil)) rfl scWod.nd (pi_list (pv 2)) (blkOk_by (N := nWod) (sc := defScope s_web_of_draft) (by decide +kernel))
        (fun _ _ _ _ _ => pg_name (i := 6) scWod.nd rfl (Or.inl rfl)) (fun _ _ _ _ _ => pts_nil) (fun _ _ _ _ _ => pe_callTy call_tuple_of (by rfl) m3 (by decide +kernel) (pa_cons (pe_callB cr_sortedA (by rfl) m4 (by decide +kernel) (pa_cons
          (pe_lc (own := [("child", 7)]) (g := gName 7) (tt := tYes) (te := tDGet (tVar 3) (tVar 7)) rfl scWod.nd (pi_list (pe_dget hu0 (pv 0) (pv 6) (fun _ _ => rfl))) (blkOk_by (N := nWod) (sc := scWodI) (by decide +kernel))
            (fun _ _ _ _ _ => pg_name (i := 7) scWod.nd rfl (Or.inl rfl)) (fun _ _ _ _ _ => pts_nil) (fun _ _ _ _ _ => pe_dget hu0 (pv 3) (pv 7) (fun _ _ => rfl))) pa_nil)) pa_nil))) pa_nil)) pa_nil))) pa_nil)))
  case right =>
    let S (x1 x2 x3 x4 x5 x6 : Option V) : L2.St := [some (.ref d), x1, x2, x3, x4, x5, x6, none]
    have hn := G.nd
    have hkl : ks.length ≤ 40 := by
      have := G.n20
      have := G.l8
      omega
    have hbd : ∀ k ∈ ks, (kd k).length ≤ 40 := fun k hk => by
      have h1 := nodup_len ks.length ((kd k).map fun c => plc c ks) (List.pairwise_map.mpr ((G.knd hk).imp_of_mem fun {a b} ha hb h z => h (plc_inj (G.cl k hk a ha) (G.cl k hk b hb) z))) fun c hc => by
        obtain ⟨y, hy, rfl⟩ := List.mem_map.mp hc
        exact plc_lt (G.cl k hk y hy)
      rw [List.length_map] at h1
      omega
    refine ⟨.ref d, rfl, d, es, L, ks, kd, rfl, hd, hg, G, fun p R H1 hp e1 hx1 E => ?_⟩
    have hRk : ∀ {k}, k ∈ R → k ∈ ks := fun h => E.perm.mem_iff.mp h
    have hRl : R.length = ks.length := E.perm.length_eq
    have hW : WebP L (webO L kd R) := (G.num E).drawn.web G.gen.l1 G.l8
    dsimp only [gName]
    show tSeq (tAsg (tLc _ _ _ _ _) _) _ _ (S (some (.ref p)) none none none none none) H1
    have hin := en_natFil (K := K) (σ := S (some (.ref p)) none none none none none) (H := H1) (wi := iList K (tVar 1)) (j := 6) (vs := [6]) (te := tVar 6) (t := tTest (tOp (rI0 fun i j => .bl (decide (j < i))) (tCB (rLenS K) (tCons (tDGet (tVar 0) (tVar 6)) tNil)) (tC (.int 0)))) (ks := R) (fun k => decide (kd k ≠ [])) natD
      (src_L (ed_var rfl (.lst (sq_of hx1) (dpAll_nat R)))) (by omega) (fun _ => rfl) (fun k H4 e4 hk => by
      obtain ⟨x, hx, hxa, hxb, hxc⟩ := dr_un (hd.ex (e1.trans e4)).b hg (hRk hk)
      refine et_test (ev_is (ev_op (x := .int ((nVs (kd k)).length : Int)) (y := .int 0) (ev_len (K := K) (ev_dr (ev_var rfl) (ev_var rfl) (.inl (hd.ex (e1.trans e4)).dict) hd.b.kn hx hxa) (sq_of hxc)) ev_c rv_I0) ?_)
      show V.bl (decide ((0 : Int) < ((nVs (kd k)).length : Int))) = V.bl (decide (kd k ≠ []))
      congr 1
      unfold nVs
      rw [List.length_map]
      refine decide_eq_decide.mpr ⟨fun z y => ?_, fun z => ?_⟩
      · rw [y] at z
        exact absurd z (by decide)
      · have := List.length_pos_iff.mpr z
        omega) (fun k H4 e4 hk hb => ed_i (ev_var rfl)) (fun k _ _ => rfl)
    rw [E.inner G] at hin
    refine q_asgN (K := K) (i := 2) hin fun pi xs H2 hpi e2 hxi hdi => ?_
    have hxs : xs = nVs (R.drop L) := nats_of (K := K) hdi
    subst hxs
    have hx2 := e2 _ _ hx1
    show tSeq (tAsg _ _) _ _ (S (some (.ref p)) (some (.ref pi)) none none none none) H2
    have hnu : EvKd (tDc (iList K (tVar 1)) (gName 6) tYes (tVar 6) (tVar 6) [6]) (S (some (.ref p)) (some (.ref pi)) none none none none) H2 ((kI R).map fun i => (Sum.inl i, V.int i)) := ekd_dc (K := K) (fun i => V.int i) (by
      rw [kI_nat]
      exact src_L (ed_var rfl (.lst (sq_of hx2) (dpAll_nat R)))) (kI_nd E.nd) (by rw [kI_len]; omega) (fun _ => rfl) (fun _ => rfl) fun i H4 e4 hi => ev_var rfl
    have ekI : ((kI R).map fun i => ((Sum.inl i : Key), V.int i)) = wtD R fun k => (k : Int) := by
      unfold kI wtD
      rw [List.map_map]
      rfl
    rw [ekI] at hnu
    refine q_asgKd (i := 3) hnu fun nw H3 hnw e3 hx3 => ?_
    have hp3 := e3 _ _ hx2
    have hi3 := e3 _ _ hxi
    show tSeq (tAsg _ _) _ _ (S (some (.ref p)) (some (.ref pi)) (some (.ref nw)) none none none) H3
    refine q_asg (i := 4) (v := nV L) (ev_is (ev_op (x := .int ((nVs R).length : Int)) (y := .int ((nVs (R.drop L)).length : Int)) (ev_len (K := K) (ev_var rfl) (sq_of hp3)) (ev_len (K := K) (ev_var rfl) (sq_of hi3)) rv_I0) (by
      show V.int (((nVs R).length : Int) - ((nVs (R.drop L)).length : Int)) = V.int (L : Int)
      unfold nVs
      rw [List.length_map, List.length_map, E.len]
      congr 1
      omega)) fun H4 e4 => ?_
    have hi4 := e4 _ _ hi3
    have hn4 := e4 _ _ hx3
    have e04 := ((e1.trans e2).trans e3).trans e4
    have hnwH : H nw = none := fresh_back (e1.trans e2) hnw
    have hnwi : pi ≠ nw := fun z => by
      rw [z, hx3] at hi3
      cases hi3
    clear hin hnu hp3 hi3 hx3 hx2 hxi hdi
    show tSeq (tFor _ _ _) _ _ (S (some (.ref p)) (some (.ref pi)) (some (.ref nw)) (some (nV L)) none none) H4
    let NF (m k : Nat) : Int := if k ∈ (R.drop L).take m then ((L + plc k (R.drop L) : Nat) : Int) else (k : Int)
    have hdn : (R.drop L).Nodup := E.nd.sublist (List.drop_sublist _ _)
    refine q_forE (K := K) (p := pi) (ks := R.drop L) (ev_var rfl) hi4 (fun m σ' H' => ∃ x5 x6, σ' = S (some (.ref p)) (some (.ref pi)) (some (.ref nw)) (some (nV L)) x5 x6 ∧ Ex H H' ∧ H' pi = some (.lst (nVs (R.drop L))) ∧ H' nw = some (.dK (wtD R (NF m))))
      (fun H5 e5 => ⟨none, none, rfl, e04.trans e5, e5 _ _ hi4, ?_⟩) (fun m σ' H' p => p.choose_spec.choose_spec.2.2.1) (fun m σ' H' H'' e h => ?_) (fun m k σ' H' hk hI => ?_) fun σ' H' hI => ?_
    · have h0 : wtD R (fun k => (k : Int)) = wtD R (NF 0) := wtD_congr fun k _ => by
        show _ = if k ∈ (R.drop L).take 0 then _ else (k : Int)
        rw [List.take_zero, if_neg List.not_mem_nil]
      rw [e5 _ _ hn4, h0]
    · obtain ⟨x5, x6, a1, a2, a3, a4⟩ := h
      exact ⟨x5, x6, a1, a2.trans e, e _ _ a3, e _ _ a4⟩
    · obtain ⟨x5, x6, rfl, a2, a3, a4⟩ := hI
      have hkR : k ∈ R := List.mem_of_mem_drop (List.mem_of_getElem? hk)
      show sDPut _ _ _ _ (S (some (.ref p)) (some (.ref pi)) (some (.ref nw)) (some (nV L)) (some (nV m)) (some (nV k))) H'
      refine s_dputK (v := nV (L + m)) (d := nw) (k := (k : Int)) (ev_op (x := nV L) (y := nV m) (ev_var rfl) (ev_var rfl) rv_I0) (ev_var rfl) (ev_var rfl) a4 (by rw [wtD_len]; omega) fun H5 e5 => ?_
      refine ⟨some (nV m), some (nV k), rfl, Ex.mut (a2.trans e5) hnwH, ?_, ?_⟩
      · rw [upd_ne hnwi]
        exact e5 _ _ a3
      · have h1 : putK (wtD R (NF m)) (Sum.inl (k : Int)) (nV (L + m)) = wtD R (NF (m + 1)) := by
          show putK (wtD R (NF m)) (Sum.inl (k : Int)) (.int ((L + m : Nat) : Int)) = _
          rw [wtD_put hkR]
          refine wtD_congr fun c _ => ?_
          show (if c = k then ((L + m : Nat) : Int) else if c ∈ (R.drop L).take m then ((L + plc c (R.drop L) : Nat) : Int) else (c : Int)) = if c ∈ (R.drop L).take (m + 1) then ((L + plc c (R.drop L) : Nat) : Int) else (c : Int)
          rw [List.take_add_one, hk]
          by_cases z : c = k
          · rw [if_pos z, if_pos (by rw [z]; simp), z, plc_at hdn hk]
          · rw [if_neg z]
            by_cases y : c ∈ (R.drop L).take m
            · rw [if_pos y, if_pos (List.mem_append_left _ y)]
            · rw [if_neg y, if_neg (by rw [List.mem_append, Option.toList_some, List.mem_singleton]; exact fun t => t.elim y z)]
        rw [upd_same, h1]
    · obtain ⟨x5, x6, rfl, a2, a3, a4⟩ := hI
      have hfin : wtD R (NF (R.drop L).length) = wtD R fun k => ((plc k R : Nat) : Int) := wtD_congr fun k hk => by
        show (if k ∈ (R.drop L).take (R.drop L).length then ((L + plc k (R.drop L) : Nat) : Int) else (k : Int)) = _
        rw [List.take_length, ← E.plc hk]
        split <;> rfl
      rw [hfin] at a4
      refine s_retD (K := K) (ed_callWP (K := K) (l := L) (inner := webO L kd R) (ed_tup (ds := [natD L, .tuple ((webO L kd R).map kidsD)]) (eda_cons (ed_i (ev_var rfl)) (eda_cons (ed_tupN ?_) eda_nil)) (by simp)) hW) fun r H6 e6 hr6 => q r _ H6 (a2.trans e6) hr6 (G.num E)
      have eWD : (webO L kd R).map kidsD = (R.drop L).map fun k => kidsD (itemOf kd R k) := by
        unfold webO
        rw [List.map_map]
        rfl
      rw [eWD]
      refine en_natMap (K := K) (ks := R.drop L) (fun k => kidsD (itemOf kd R k)) (src_L (ed_var rfl (.lst (sq_of a3) (dpAll_nat _)))) (by rw [List.length_drop]; omega) (fun _ => rfl) (fun k H7 e7 hk => ?_) fun k _ => nl_kidsD _
      have hkR : k ∈ R := List.mem_of_mem_drop hk
      have hks := hRk hkR
      rw [← item_kids]
      have hl := hbd k hks
      refine ed_tupN (en_sortedL (K := K) (ed_n ?_) (by rw [List.length_map]; omega))
      rw [List.map_map]
      obtain ⟨x, hx, hxa, hxb, hxc⟩ := dr_un (hd.ex (a2.trans e7)).b hg hks
      refine en_natMap (K := K) (ks := kd k) (fun c => natD (plc c R)) (src_L ?_) (by omega) (fun _ => rfl) (fun c H8 e8 hc => ?_) fun _ _ => rfl
      · exact fun H8 e8 Q q => (ev_dr (ev_var rfl) (ev_var rfl) (.inl (hd.ex (a2.trans e7)).dict) hd.b.kn hx hxa) H8 e8 Q fun H9 e9 => q _ H9 e9 (.lst (sq_of (e9 _ _ (e8 _ _ hxc))) (dpAll_nat _))
      · exact ed_i (ev_wt (ks := R) (f := fun k => ((plc k R : Nat) : Int)) (ev_var rfl) (ev_var rfl) (e8 _ _ (e7 _ _ a4)) E.nd (E.dn k c hkR hc).1)
end
end WR
set_option Elab.async false
set_option linter.all false
set_option maxRecDepth 100000
set_option maxHeartbeats 1000000
namespace WR
open PySem PySem.Spec PyProof.Rows L2 Evl

/-! ### drafts in which kinds may be thin -/
/-- how many parents -/
def pcK (ks : List Nat) (K : Nat → List Nat) (c : Nat) : Nat := ks.countP fun k => decide (c ∈ K k)
structure Dg (L : Nat) (ks : List Nat) (K : Nat → List Nat) : Prop where
  nd : ks.Nodup
  l1 : 1 ≤ L
  l8 : L ≤ 8
  n20 : ks.length ≤ L + 20
  lf : ∀ i, i < L → ks[i]? = some i
  cl : ∀ k ∈ ks, ∀ c ∈ K k, c ∈ ks
  leaf : ∀ k, k < L → K k = []
  knd : ∀ k ∈ ks, (K k).Nodup
  rk : ∃ r : Nat → Nat, ∀ u ∈ ks, ∀ c ∈ K u, r c < r u
  lf1 : ∀ k, k < L → pcK ks K k ≤ 1
  bare : ∀ u ∈ ks, L ≤ u → ∃ c ∈ K u, pcK ks K c ≤ 1
  mix : ∀ u ∈ ks, 2 ≤ pcK ks K u → (K u).length = 1
  root : ∃ t ∈ ks, ∀ k ∈ ks, (pcK ks K k = 0 ↔ k = t)
theorem pcK_one {ks : List Nat} {K : Nat → List Nat} {c a b : Nat} (hn : ks.Nodup) (h : pcK ks K c ≤ 1) (ha : a ∈ ks) (hb : b ∈ ks) (h1 : c ∈ K a) (h2 : c ∈ K b) : a = b := by
  refine Classical.byContradiction fun hne => ?_
  unfold pcK at h
  have hs : [a, b].Sublist (ks.filter fun k => decide (c ∈ K k)) ∨ [b, a].Sublist (ks.filter fun k => decide (c ∈ K k)) := by
    have ha' : a ∈ ks.filter fun k => decide (c ∈ K k) := List.mem_filter.mpr ⟨ha, decide_eq_true h1⟩
    have hb' : b ∈ ks.filter fun k => decide (c ∈ K k) := List.mem_filter.mpr ⟨hb, decide_eq_true h2⟩
    generalize (ks.filter fun k => decide (c ∈ K k)) = l at ha' hb'
    induction l with
    | nil => cases ha'
    | cons x r ih =>
      rcases List.mem_cons.mp ha' with za | za
      · rcases List.mem_cons.mp hb' with zb | zb
        · exact absurd (za.trans zb.symm) hne
        · rw [za]
          exact .inl ((List.singleton_sublist.mpr zb).cons₂ _)
      · rcases List.mem_cons.mp hb' with zb | zb
        · rw [zb]
          exact .inr ((List.singleton_sublist.mpr za).cons₂ _)
        · rcases ih za zb with h | h
          · exact .inl (h.cons _)
          · exact .inr (h.cons _)
  rw [List.countP_eq_length_filter] at h
  rcases hs with hs | hs
  · have := hs.length_le
    simp at this
    omega
  · have := hs.length_le
    simp at this
    omega
theorem pcK_pos {ks : List Nat} {K : Nat → List Nat} {c a : Nat} (ha : a ∈ ks) (h1 : c ∈ K a) : 1 ≤ pcK ks K c := by
  unfold pcK
  exact List.countP_pos_iff.mpr ⟨a, ha, decide_eq_true h1⟩
section
variable {L : Nat} {ks : List Nat} {K : Nat → List Nat} (D : Dg L ks K)
include D
theorem Dg.leafM {k : Nat} (h : k < L) : k ∈ ks := List.mem_of_getElem? (D.lf k h)
theorem Dg.not_self {k : Nat} (hk : k ∈ ks) : k ∉ K k := fun h => by
  obtain ⟨r, hr⟩ := D.rk
  exact absurd (hr k hk k h) (Nat.lt_irrefl _)
theorem Dg.split : ks = List.range L ++ ks.drop L := by
  refine List.ext_getElem? fun i => ?_
  by_cases z : i < L
  · rw [D.lf i z, List.getElem?_append_left (by rw [List.length_range]; exact z), List.getElem?_range z]
  · rw [List.getElem?_append_right (by rw [List.length_range]; omega), List.length_range, List.getElem?_drop, show L + (i - L) = i by omega]
/-- a web where no kind is thin -/
theorem Dg.gd (one : ∀ u ∈ ks, (K u).length = 1 → 2 ≤ pcK ks K u) : Gd L ks K := by
  have hLn : L ≤ ks.length := by
    have := congrArg List.length D.split
    rw [List.length_append, List.length_range] at this
    omega
  -- the kind at a place
  have hat : ∀ {j : Nat}, j < ks.length → ∃ k, ks[j]? = some k ∧ k ∈ ks ∧ plc k ks = j := fun {j} hj => by
    obtain ⟨k, hk⟩ : ∃ k, ks[j]? = some k := ⟨_, List.getElem?_eq_getElem hj⟩
    exact ⟨k, hk, List.mem_of_getElem? hk, plc_at D.nd hk⟩
  have hcnt : ∀ k ∈ ks, cnt (rowAt (kkD ks K)) (plc k ks) (kkD ks K).length = pcK ks K k := fun k hk => by
    rw [cnt_count, kkD_len]
    unfold pcK
    have e : ks = (List.range ks.length).map fun j => ks.getD j 0 := by
      refine List.ext_getElem? fun j => ?_
      rw [List.getElem?_map]
      by_cases z : j < ks.length
      · rw [List.getElem?_range z, List.getElem?_eq_getElem z, Option.map_some, List.getD_eq_getElem?_getD, List.getElem?_eq_getElem z]
        rfl
      · rw [List.getElem?_eq_none (by omega), List.getElem?_eq_none (by rw [List.length_range]; omega)]
        rfl
    conv => rhs; rw [e]
    rw [List.countP_map]
    refine List.countP_congr fun j hj => ?_
    have hj := List.mem_range.mp hj
    obtain ⟨u, hu, hus, hup⟩ := hat hj
    have hgu : ks.getD j 0 = u := by
      rw [List.getD_eq_getElem?_getD, hu]
      rfl
    rw [decide_eq_true_iff, Function.comp_apply, decide_eq_true_iff, hgu, ← hup, kkD_at hus, List.mem_map]
    constructor
    · rintro ⟨c, hc, hcp⟩
      rw [← plc_inj (D.cl u hus c hc) hk hcp]
      exact hc
    · intro hc
      exact ⟨k, hc, rfl⟩
  have hlow : ∀ {j k : Nat}, ks[j]? = some k → (j < L ↔ k < L) := fun {j k} hk => by
    constructor
    · intro z
      rw [D.lf j z] at hk
      have := Option.some.inj hk
      omega
    · intro z
      have h1 := plc_at D.nd (D.lf k z)
      have h2 := plc_at D.nd hk
      omega
  refine ⟨D.nd, D.lf, D.cl, ?_, D.n20, D.l8⟩
  have hout : ∀ u, ks.length ≤ u → rowAt (kkD ks K) u = [] := fun u hu => by
    unfold rowAt
    rw [List.getD_eq_getElem?_getD, List.getElem?_eq_none (by rw [kkD_len]; exact hu)]
    rfl
  have hkey : ∀ u, u < ks.length → ∃ k, k ∈ ks ∧ ks[u]? = some k ∧ plc k ks = u ∧ rowAt (kkD ks K) u = (K k).map fun c => plc c ks := fun u hu => by
    obtain ⟨k, hk, hks, hp⟩ := hat hu
    refine ⟨k, hks, hk, hp, ?_⟩
    rw [← hp]
    exact kkD_at hks
  refine ⟨D.l1, by rw [kkD_len]; exact hLn, fun u hu => hout u (by rw [kkD_len] at hu; exact hu), fun u hu => ?_, fun u c hc => ?_, fun u => ?_, ?_, fun u h1 h2 h3 h4 => ?_, fun u hu => ?_, fun u hu => ?_, fun u h1 h2 => ?_, ?_⟩
  · obtain ⟨k, hks, hk, hp, hr⟩ := hkey u (by omega)
    rw [hr, D.leaf k ((hlow hk).mp hu)]
    rfl
  · by_cases z : u < ks.length
    · obtain ⟨k, hks, hk, hp, hr⟩ := hkey u z
      rw [hr] at hc
      obtain ⟨y, hy, rfl⟩ := List.mem_map.mp hc
      rw [kkD_len]
      exact plc_lt (D.cl k hks y hy)
    · rw [hout u (by omega)] at hc
      cases hc
  · by_cases z : u < ks.length
    · obtain ⟨k, hks, hk, hp, hr⟩ := hkey u z
      rw [hr]
      exact List.pairwise_map.mpr ((D.knd k hks).imp_of_mem fun {a b} ha hb h y => h (plc_inj (D.cl k hks a ha) (D.cl k hks b hb) y))
    · rw [hout u (by omega)]
      exact List.nodup_nil
  · obtain ⟨r, hr⟩ := D.rk
    refine ⟨fun u => r (ks.getD u 0), fun u c hc => ?_⟩
    by_cases z : u < ks.length
    · obtain ⟨k, hks, hk, hp, hrow⟩ := hkey u z
      rw [hrow] at hc
      obtain ⟨y, hy, rfl⟩ := List.mem_map.mp hc
      show r (ks.getD (plc y ks) 0) < r (ks.getD u 0)
      rw [List.getD_eq_getElem?_getD, plc_get (D.cl k hks y hy), List.getD_eq_getElem?_getD, hk]
      exact hr k hks y hy
    · rw [hout u (by omega)] at hc
      cases hc
  · rw [kkD_len] at h2
    obtain ⟨k, hks, hk, hp, hrow⟩ := hkey u h2
    rw [← hp, hcnt k hks] at h4
    rw [hrow, List.length_map]
    have hL : L ≤ k := by
      have := hlow hk
      omega
    obtain ⟨c, hc, _⟩ := D.bare k hks hL
    have hlen := List.length_pos_of_mem hc
    have : (K k).length ≠ 1 := fun z => by
      have := one k hks z
      omega
    omega
  · by_cases z : u < ks.length
    · obtain ⟨k, hks, hk, hp, hrow⟩ := hkey u z
      rw [← hp, hcnt k hks] at hu
      rw [hrow, List.length_map]
      exact D.mix k hks hu
    · exfalso
      rw [cnt_count] at hu
      have : (List.range (kkD ks K).length).countP (fun v => decide (u ∈ rowAt (kkD ks K) v)) = 0 := List.countP_eq_zero.mpr fun v hv => by
        rw [decide_eq_true_iff]
        intro hm
        have hv := List.mem_range.mp hv
        rw [kkD_len] at hv
        obtain ⟨k, hks, hk, hp, hrow⟩ := hkey v hv
        rw [hrow] at hm
        obtain ⟨y, hy, hy2⟩ := List.mem_map.mp hm
        have := plc_lt (D.cl k hks y hy)
        omega
      omega
  · obtain ⟨k, hks, hk, hp, hrow⟩ := hkey u (by omega)
    rw [← hp, hcnt k hks]
    exact D.lf1 k ((hlow hk).mp hu)
  · rw [kkD_len] at h2
    obtain ⟨k, hks, hk, hp, hrow⟩ := hkey u h2
    obtain ⟨c, hc, hc1⟩ := D.bare k hks (by have := hlow hk; omega)
    have hcs := D.cl k hks c hc
    refine ⟨plc c ks, by rw [hrow]; exact List.mem_map.mpr ⟨c, hc, rfl⟩, by rw [hcnt c hcs]; exact hc1, ?_⟩
    have := plc_lt hcs
    rw [kkD_len]
    omega
  · obtain ⟨t, ht, hroot⟩ := D.root
    refine ⟨plc t ks, by rw [kkD_len]; exact plc_lt ht, fun u hu => ?_⟩
    rw [kkD_len] at hu
    obtain ⟨k, hks, hk, hp, hrow⟩ := hkey u hu
    rw [← hp, hcnt k hks, hroot k hks]
    exact ⟨fun z => by rw [z], fun z => plc_inj hks ht z⟩
end
end WR
set_option Elab.async false
set_option linter.all false
set_option maxRecDepth 100000
set_option maxHeartbeats 1000000
namespace WR
open PySem PySem.Spec PyProof.Rows L2 Evl

/-! ### a link is taken out; a thin kind is taken out -/
theorem cnt_less {p q : Nat → Bool} {ks : List Nat} {u : Nat} (hn : ks.Nodup) (hu : u ∈ ks) (h1 : p u = true) (h2 : q u = false) (h : ∀ k ∈ ks, k ≠ u → q k = p k) : ks.countP q + 1 = ks.countP p := by
  have hp := List.perm_cons_erase hu
  rw [hp.countP_eq p, hp.countP_eq q, List.countP_cons, List.countP_cons, h1, h2]
  have : (ks.erase u).countP q = (ks.erase u).countP p := List.countP_congr fun k hk => by
    have hk2 := (List.Nodup.mem_erase_iff hn).mp hk
    rw [h k hk2.2 hk2.1]
  rw [this]
  rfl
def cutK (K : Nat → List Nat) (u c : Nat) : Nat → List Nat := fun k => if k = u then (K u).erase c else K k
theorem mem_cut {K : Nat → List Nat} {u c k x : Nat} (h : x ∈ cutK K u c k) : x ∈ K k := by
  unfold cutK at h
  by_cases z : k = u
  · rw [if_pos z] at h
    rw [z]
    exact List.mem_of_mem_erase h
  · rw [if_neg z] at h
    exact h
theorem cut_ne {K : Nat → List Nat} {u c k x : Nat} (hx : x ≠ c) : x ∈ cutK K u c k ↔ x ∈ K k := by
  refine ⟨mem_cut, fun h => ?_⟩
  unfold cutK
  by_cases z : k = u
  · rw [if_pos z]
    rw [z] at h
    exact (List.mem_erase_of_ne hx).mpr h
  · rw [if_neg z]
    exact h
section
variable {L : Nat} {ks : List Nat} {K : Nat → List Nat} (D : Dg L ks K)
include D
theorem Dg.pc_cut {u c : Nat} (hu : u ∈ ks) (hc : c ∈ K u) : pcK ks (cutK K u c) c + 1 = pcK ks K c := by
  unfold pcK
  refine cnt_less D.nd hu (decide_eq_true hc) (decide_eq_false ?_) fun k hk hne => ?_
  · unfold cutK
    rw [if_pos rfl]
    exact fun z => ((List.Nodup.mem_erase_iff (D.knd u hu)).mp z).1 rfl
  · unfold cutK
    rw [if_neg hne]
theorem Dg.pc_cut_ne {u c x : Nat} (hx : x ≠ c) : pcK ks (cutK K u c) x = pcK ks K x := by
  unfold pcK
  refine List.countP_congr fun k _ => ?_
  rw [decide_eq_true_iff, decide_eq_true_iff]
  exact cut_ne hx
theorem Dg.cut {u c : Nat} (hu : u ∈ ks) (hc : c ∈ K u) (h2 : 2 ≤ pcK ks K c) : Dg L ks (cutK K u c) := by
  have hpc := D.pc_cut hu hc
  have hne : ∀ {x}, x ≠ c → pcK ks (cutK K u c) x = pcK ks K x := fun h => D.pc_cut_ne h
  have hLu : L ≤ u := Classical.byContradiction fun z => by
    rw [D.leaf u (by omega)] at hc
    cases hc
  -- the one above has another child
  obtain ⟨y, hy, hy1⟩ := D.bare u hu hLu
  have hyc : y ≠ c := fun z => by
    rw [z] at hy1
    omega
  have hu2 : pcK ks K u ≤ 1 := Classical.byContradiction fun z => by
    have h1 := D.mix u hu (by omega)
    obtain ⟨a, ha⟩ := List.length_eq_one_iff.mp h1
    rw [ha] at hc hy
    exact hyc ((List.mem_singleton.mp hy).trans (List.mem_singleton.mp hc).symm)
  have huc : u ≠ c := fun z => D.not_self hu (z ▸ hc)
  refine ⟨D.nd, D.l1, D.l8, D.n20, D.lf, fun k hk x hx => D.cl k hk x (mem_cut hx), fun k hk => ?_, fun k hk => ?_, ?_, fun k hk => ?_, fun k hk hL => ?_, fun k hk h => ?_, ?_⟩
  · unfold cutK
    rw [if_neg (by omega)]
    exact D.leaf k hk
  · unfold cutK
    by_cases z : k = u
    · rw [if_pos z]
      exact (D.knd u hu).erase _
    · rw [if_neg z]
      exact D.knd k hk
  · obtain ⟨r, hr⟩ := D.rk
    exact ⟨r, fun k hk x hx => hr k hk x (mem_cut hx)⟩
  · by_cases z : k = c
    · have := D.lf1 k hk
      rw [z] at this
      omega
    · rw [hne z]
      exact D.lf1 k hk
  · by_cases z : k = u
    · subst z
      exact ⟨y, (cut_ne hyc).mpr hy, by rw [hne hyc]; exact hy1⟩
    · obtain ⟨a, ha, ha1⟩ := D.bare k hk hL
      refine ⟨a, ?_, ?_⟩
      · unfold cutK
        rw [if_neg z]
        exact ha
      · by_cases y : a = c
        · rw [y] at ha1 ⊢
          omega
        · rw [hne y]
          exact ha1
  · have hk2 : 2 ≤ pcK ks K k := by
      by_cases z : k = c
      · rw [z] at h ⊢
        omega
      · rw [hne z] at h
        exact h
    have hku : k ≠ u := fun z => by
      rw [z] at hk2
      omega
    unfold cutK
    rw [if_neg hku]
    exact D.mix k hk hk2
  · obtain ⟨t, ht, hroot⟩ := D.root
    refine ⟨t, ht, fun k hk => ?_⟩
    rw [← hroot k hk]
    by_cases z : k = c
    · rw [z]
      omega
    · rw [hne z]
end
/-- another in the place of a child -/
def subN (t b x : Nat) : Nat := if x = t then b else x
def outK (K : Nat → List Nat) (t b : Nat) : Nat → List Nat := fun k => (K k).map (subN t b)
section
variable {L : Nat} {ks : List Nat} {K : Nat → List Nat} {t b : Nat} (D : Dg L ks K) (ht : t ∈ ks) (hL : L ≤ t) (hb : K t = [b]) (h1 : pcK ks K t ≤ 1)
include D ht hL hb
theorem Dg.out_b : pcK ks K b ≤ 1 ∧ b ∈ ks ∧ b ≠ t ∧ ∀ k ∈ ks, k ≠ t → b ∉ K k := by
  have hbt : b ∈ K t := by rw [hb]; exact List.mem_singleton.mpr rfl
  obtain ⟨a, ha, ha1⟩ := D.bare t ht hL
  rw [hb] at ha
  rw [List.mem_singleton.mp ha] at ha1
  refine ⟨ha1, D.cl t ht b hbt, fun z => D.not_self ht (z ▸ hbt), fun k hk hne h => hne ?_⟩
  exact pcK_one D.nd ha1 hk ht h hbt
theorem Dg.pc_out_ne {x : Nat} (hxb : x ≠ b) (hxt : x ≠ t) : pcK (ks.erase t) (outK K t b) x = pcK ks K x := by
  unfold pcK
  have hp := List.perm_cons_erase ht
  rw [hp.countP_eq fun k => decide (x ∈ K k), List.countP_cons, decide_eq_false (by rw [hb]; exact fun z => hxb (List.mem_singleton.mp z))]
  show _ = _ + 0
  rw [Nat.add_zero]
  refine List.countP_congr fun k _ => ?_
  rw [decide_eq_true_iff, decide_eq_true_iff]
  unfold outK
  rw [List.mem_map]
  constructor
  · rintro ⟨y, hy, hyx⟩
    unfold subN at hyx
    by_cases z : y = t
    · rw [if_pos z] at hyx
      exact absurd hyx.symm hxb
    · rw [if_neg z] at hyx
      rw [← hyx]
      exact hy
  · intro h
    refine ⟨x, h, ?_⟩
    unfold subN
    rw [if_neg hxt]
theorem Dg.pc_out_b : pcK (ks.erase t) (outK K t b) b = pcK ks K t := by
  obtain ⟨_, hbs, hbt, hbo⟩ := D.out_b ht hL hb
  unfold pcK
  have hp := List.perm_cons_erase ht
  rw [hp.countP_eq fun k => decide (t ∈ K k), List.countP_cons, decide_eq_false (D.not_self ht)]
  show _ = _ + 0
  rw [Nat.add_zero]
  refine List.countP_congr fun k hk => ?_
  have hk2 := (List.Nodup.mem_erase_iff D.nd).mp hk
  rw [decide_eq_true_iff, decide_eq_true_iff]
  unfold outK
  rw [List.mem_map]
  constructor
  · rintro ⟨y, hy, hyb⟩
    unfold subN at hyb
    by_cases z : y = t
    · rw [← z]
      exact hy
    · rw [if_neg z] at hyb
      rw [hyb] at hy
      exact absurd hy (hbo k hk2.2 hk2.1)
  · intro h
    refine ⟨t, h, ?_⟩
    unfold subN
    rw [if_pos rfl]
include h1
theorem Dg.out : Dg L (ks.erase t) (outK K t b) := by
  obtain ⟨hb1, hbs, hbt, hbo⟩ := D.out_b ht hL hb
  have hme : ∀ {k}, k ∈ ks.erase t ↔ k ≠ t ∧ k ∈ ks := List.Nodup.mem_erase_iff D.nd
  have hpb := D.pc_out_b ht hL hb
  have hpn : ∀ {x}, x ≠ b → x ≠ t → pcK (ks.erase t) (outK K t b) x = pcK ks K x := fun h1 h2 => D.pc_out_ne ht hL hb h1 h2
  have hsub : ∀ {k x}, x ∈ outK K t b k → ∃ y ∈ K k, subN t b y = x := fun h => List.mem_map.mp h
  have hnd : ∀ k ∈ ks, k ≠ t → (outK K t b k).Nodup := fun k hk hkt => by
    refine List.pairwise_map.mpr ((D.knd k hk).imp_of_mem fun {x y} hx hy hne z => ?_)
    unfold subN at z
    by_cases z1 : x = t
    · rw [if_pos z1] at z
      by_cases z2 : y = t
      · exact hne (z1.trans z2.symm)
      · rw [if_neg z2] at z
        rw [← z] at hy
        exact hbo k hk hkt hy
    · rw [if_neg z1] at z
      by_cases z2 : y = t
      · rw [if_pos z2] at z
        rw [z] at hx
        exact hbo k hk hkt hx
      · rw [if_neg z2] at z
        exact hne z
  have hbL : b < L → pcK ks K t ≤ 1 := fun _ => h1
  refine ⟨D.nd.erase _, D.l1, D.l8, ?_, fun i hi => ?_, fun k hk x hx => ?_, fun k hk => ?_, fun k hk => ?_, ?_, fun k hk => ?_, fun k hk hLk => ?_, fun k hk h => ?_, ?_⟩
  · have := List.length_erase_of_mem ht
    have := D.n20
    omega
  · have hs := D.split
    have hnt : t ∉ List.range L := fun z => by
      have := List.mem_range.mp z
      omega
    rw [hs, List.erase_append_right _ hnt, List.getElem?_append_left (by rw [List.length_range]; exact hi), List.getElem?_range hi]
  · obtain ⟨hkt, hks⟩ := hme.mp hk
    obtain ⟨y, hy, rfl⟩ := hsub hx
    unfold subN
    by_cases z : y = t
    · rw [if_pos z]
      exact hme.mpr ⟨hbt, hbs⟩
    · rw [if_neg z]
      exact hme.mpr ⟨z, D.cl k hks y hy⟩
  · unfold outK
    rw [D.leaf k hk]
    rfl
  · obtain ⟨hkt, hks⟩ := hme.mp hk
    exact hnd k hks hkt
  · obtain ⟨r, hr⟩ := D.rk
    refine ⟨r, fun k hk x hx => ?_⟩
    obtain ⟨hkt, hks⟩ := hme.mp hk
    obtain ⟨y, hy, rfl⟩ := hsub hx
    have h2 := hr k hks y hy
    unfold subN
    by_cases z : y = t
    · rw [if_pos z]
      have h3 := hr t ht b (by rw [hb]; exact List.mem_singleton.mpr rfl)
      rw [z] at h2
      omega
    · rw [if_neg z]
      exact h2
  · by_cases z : k = b
    · rw [z, hpb]
      exact h1
    · rw [hpn z (by omega)]
      exact D.lf1 k hk
  · obtain ⟨hkt, hks⟩ := hme.mp hk
    obtain ⟨a, ha, ha1⟩ := D.bare k hks hLk
    refine ⟨subN t b a, List.mem_map.mpr ⟨a, ha, rfl⟩, ?_⟩
    unfold subN
    by_cases z : a = t
    · rw [if_pos z, hpb]
      exact h1
    · rw [if_neg z]
      by_cases y : a = b
      · rw [y, hpb]
        exact h1
      · rw [hpn y z]
        exact ha1
  · obtain ⟨hkt, hks⟩ := hme.mp hk
    have hkb : k ≠ b := fun z => by
      rw [z, hpb] at h
      omega
    rw [hpn hkb hkt] at h
    unfold outK
    rw [List.length_map]
    exact D.mix k hks h
  · obtain ⟨r, hr, hroot⟩ := D.root
    have hpb1 : 1 ≤ pcK ks K b := pcK_pos ht (by rw [hb]; exact List.mem_singleton.mpr rfl)
    have hrb : r ≠ b := fun z => by
      have := (hroot r hr).mpr rfl
      rw [z] at this
      omega
    by_cases z : r = t
    · refine ⟨b, hme.mpr ⟨hbt, hbs⟩, fun k hk => ?_⟩
      obtain ⟨hkt, hks⟩ := hme.mp hk
      by_cases y : k = b
      · rw [y, hpb]
        have := (hroot t ht).mpr z.symm
        exact ⟨fun _ => rfl, fun _ => this⟩
      · rw [hpn y hkt, hroot k hks, z]
        exact ⟨fun a => absurd a hkt, fun a => absurd a y⟩
    · refine ⟨r, hme.mpr ⟨z, hr⟩, fun k hk => ?_⟩
      obtain ⟨hkt, hks⟩ := hme.mp hk
      by_cases y : k = b
      · rw [y, hpb, hroot t ht]
        exact ⟨fun a => absurd a.symm z, fun a => absurd a.symm hrb⟩
      · rw [hpn y hkt, hroot k hks]
end
end WR
set_option Elab.async false
set_option linter.all false
set_option maxRecDepth 100000
set_option maxHeartbeats 2000000
namespace WR
open PySem PySem.Spec PyProof.Rows L2 Evl

/-! ### comprehensions with two walks over what stands in the base -/
/-- n values, the i-th one told by Y, out of what stands in H -/
def SrcV (wi : TI) (σ : L2.St) (H : Hp) (n : Nat) (Y : Nat → V → Prop) : Prop :=
  ∀ H1, Ex H H1 → ∀ R : It → Hp → Prop, (∀ J H2 (G : Hp → Prop), Ex H1 H2 → (∀ H', Ex H H' → G H') → Walk J n G (fun i Hc x H' => H' = Hc ∧ Y i x) → R J H2) → wi σ H1 R
section
variable {K : PySem.W.Frag} {σ : L2.St} {H H' : Hp} {te tl : TE} {wi wi1 : TI}
theorem SrcS.v {ds : List PyData} (h : SrcS K wi σ H ds) : SrcV wi σ H ds.length (fun i x => ∃ d, ds[i]? = some d ∧ Dp K H x d) := h
theorem srcV_L {p : Addr} {xs : List V} (h : Ev tl σ H (.ref p)) (hp : H p = some (.lst xs)) : SrcV (iList K tl) σ H xs.length (fun i x => xs[i]? = some x) := fun H1 e R k => h H1 e _ fun H2 e2 =>
  ⟨p, rfl, ⟨xs, sq_of ((e.trans e2) _ _ hp)⟩, k _ H2 _ e2 (fun H' e3 => sq_of (e3 _ _ hp)) ((walk_list (K := K) (a := p) (xs := xs)).mono (fun H h => h) fun i H x H' hi hg hy => hy)⟩
theorem fm_snoc {α : Type} (f : Nat → List α) (n : Nat) : (List.range (n + 1)).flatMap f = (List.range n).flatMap f ++ f n := by
  rw [List.range_succ, List.flatMap_append]
  simp
theorem fm_len {α : Type} (f : Nat → List α) : ∀ {n i : Nat}, i ≤ n → ((List.range i).flatMap f).length ≤ ((List.range n).flatMap f).length
  | 0, i, h => by
    rw [Nat.le_zero.mp h]
    exact Nat.le_refl _
  | n + 1, i, h => by
    by_cases z : i = n + 1
    · rw [z]
      exact Nat.le_refl _
    · have := fm_len f (n := n) (i := i) (by omega)
      rw [fm_snoc, List.length_append]
      omega
theorem en_flatV {a b : Nat} {vs vs1 : List Nat} {n : Nat} {m : Nat → Nat} {Y : Nat → V → Prop} {Z : Nat → V → Nat → V → Prop} (g : Nat → Nat → PyData) (h : SrcV wi σ H n Y)
    (hz : ((List.range n).flatMap fun i => (List.range (m i)).map (g i)).length ≤ 100000)
    (hw : ∀ x, wipe ((wipe σ vs).set a (some x)) vs = wipe σ vs) (hw1 : ∀ x y, wipe ((wipe ((wipe σ vs).set a (some x)) vs1).set b (some y)) vs1 = wipe ((wipe σ vs).set a (some x)) vs1)
    (hi : ∀ i x, i < n → Y i x → SrcV wi1 ((wipe σ vs).set a (some x)) H (m i) (Z i x))
    (hv : ∀ i x j y H1, Ex H H1 → i < n → j < m i → Y i x → Z i x j y → EvD K te ((wipe ((wipe σ vs).set a (some x)) vs1).set b (some y)) H1 (g i j)) (hn : ∀ i j, i < n → j < m i → nl (g i j) = true) :
    EvN K (tLc2 wi (gName a) tYes wi1 (gName b) tYes te vs vs1) σ H ((List.range n).flatMap fun i => (List.range (m i)).map (g i)) := fun H1 e Q q => h H1 e _ fun J H2 G e2 hg w Dl hD => by
  have nlA : ∀ i j, i < n → j ≤ m i → nlAll (((List.range i).flatMap fun i => (List.range (m i)).map (g i)) ++ (List.range j).map (g i)) = true := fun i j hi hj => nlAll_mem fun d hd => by
    rcases List.mem_append.mp hd with hd | hd
    · obtain ⟨i', h1, h2⟩ := List.mem_flatMap.mp hd
      obtain ⟨j', h3, rfl⟩ := List.mem_map.mp h2
      exact hn i' j' (by have := List.mem_range.mp h1; omega) (List.mem_range.mp h3)
    · obtain ⟨j', h3, rfl⟩ := List.mem_map.mp hd
      exact hn i j' hi (by have := List.mem_range.mp h3; omega)
  let P (i : Nat) (H' : Hp) : Prop := Ex H2 H' ∧ ∃ acc, H' Dl = some (.lst acc) ∧ DpAll K H' acc ((List.range i).flatMap fun i => (List.range (m i)).map (g i))
  refine ⟨fun i k H' => k = n - i ∧ i ≤ n ∧ P i H', ⟨n, rfl, Nat.zero_le _, Ex.new hD, [], upd_same, .nil⟩, ?_⟩
  rintro i k H' ⟨rfl, hin, e1, acc, ha, hc⟩
  by_cases hlt : i < n
  · refine .inr ⟨w.goes i H' hlt (hg H' ((e.trans e2).trans e1)), P (i + 1), fun H'' p => ⟨n - (i + 1), by omega, rfl, hlt, p⟩, fun x H'' y => ?_⟩
    obtain ⟨rfl, hY⟩ := w.yields i H' x H'' hlt (hg H' ((e.trans e2).trans e1)) y
    refine ⟨hw x, yes_ ?_⟩
    refine hi i x hlt hY _ ((e.trans e2).trans e1) _ fun J1 H4 G1 e4 hg1 w1 => ?_
    have e14 := e1.trans e4
    refine ⟨fun j k H' => k = m i - j ∧ j ≤ m i ∧ Ex H2 H' ∧ ∃ acc, H' Dl = some (.lst acc) ∧ DpAll K H' acc (((List.range i).flatMap fun i => (List.range (m i)).map (g i)) ++ (List.range j).map (g i)),
      ⟨m i, rfl, Nat.zero_le _, e14, acc, e4 _ _ ha, by simpa using dpAll_ex e4 _ hc⟩, ?_⟩
    rintro j k5 H5 ⟨rfl, hj, e5, acc5, ha5, hc5⟩
    by_cases hjl : j < m i
    · refine .inr ⟨w1.goes j H5 hjl (hg1 H5 ((e.trans e2).trans e5)), fun H6 => Ex H2 H6 ∧ ∃ acc, H6 Dl = some (.lst acc) ∧ DpAll K H6 acc (((List.range i).flatMap fun i => (List.range (m i)).map (g i)) ++ (List.range (j + 1)).map (g i)), fun H6 p => ⟨m i - (j + 1), by omega, rfl, hjl, p⟩, fun z H6 y2 => ?_⟩
      obtain ⟨rfl, hZ⟩ := w1.yields j H5 z H6 hjl (hg1 H5 ((e.trans e2).trans e5)) y2
      refine ⟨hw1 x z, yes_ ?_⟩
      refine hv i x j z _ ((e.trans e2).trans e5) hlt hjl hY hZ _ (Ex.refl _) _ fun u H7 e7 hu => ?_
      have ha7 := e7 _ _ ha5
      have hl7 := dpAll_len hc5
      rw [List.length_append, List.length_map, List.length_range] at hl7
      have hle : ((List.range (i + 1)).flatMap fun i => (List.range (m i)).map (g i)).length ≤ 100000 := Nat.le_trans (fm_len _ hlt) hz
      rw [fm_snoc, List.length_append, List.length_map, List.length_range] at hle
      refine ⟨acc5, ha7, sz_lt (by omega), Ex.mut (e5.trans e7) hD, _, upd_same, ?_⟩
      rw [List.range_succ, List.map_append, ← List.append_assoc]
      exact dpAll_snoc (dpAll_updL ha7 _ (nlA i j hlt hj) (dpAll_ex e7 _ hc5)) (dp_updL ha7 _ (hn i j hlt hjl) hu)
    · have hje : j = m i := by omega
      subst hje
      refine .inl ⟨w1.stops H5 (hg1 H5 ((e.trans e2).trans e5)), e5, acc5, ha5, ?_⟩
      rw [fm_snoc]
      exact hc5
  · have hie : i = n := by omega
    subst hie
    exact .inl ⟨w.stops H' (hg H' ((e.trans e2).trans e1)), q Dl acc H' (fresh_back e2 hD) (e2.trans e1) ha hc⟩
/-- one walk -/
theorem en_mapV {j : Nat} {vs : List Nat} {n : Nat} {Y : Nat → V → Prop} (g : Nat → PyData) (h : SrcV wi σ H n Y) (hl : n ≤ 40000) (hw : ∀ x, wipe ((wipe σ vs).set j (some x)) vs = wipe σ vs)
    (hv : ∀ i x H1, Ex H H1 → i < n → Y i x → EvD K te ((wipe σ vs).set j (some x)) H1 (g i)) (hn : ∀ i, i < n → nl (g i) = true) :
    EvN K (tLc wi (gName j) tYes te vs) σ H ((List.range n).map g) := fun H1 e Q q => h H1 e _ fun J H2 G e2 hg w Dl hD => by
  refine lc_it w (fun m H' => Ex H2 H' ∧ m ≤ n ∧ ∃ acc, H' Dl = some (.lst acc) ∧ DpAll K H' acc ((List.range m).map g)) ⟨Ex.new hD, Nat.zero_le _, [], upd_same, .nil⟩ (fun m H' _ p => hg H' ((e.trans e2).trans p.1)) (fun m x H' H'' hm p hy => ?_) (fun H' p => ?_)
  · obtain ⟨rfl, hY⟩ := hy
    obtain ⟨p1, _, acc, p2, p3⟩ := p
    refine ⟨hw _, yes_ ?_⟩
    refine hv m x _ ((e.trans e2).trans p1) hm hY _ (Ex.refl _) _ fun y H4 e4 hyr => ⟨acc, e4 _ _ p2, sz_lt ?_, Ex.mut (p1.trans e4) hD, hm, _, upd_same, ?_⟩
    · rw [dpAll_len p3, List.length_map, List.length_range]
      omega
    · rw [List.range_succ, List.map_append]
      have hall : nlAll ((List.range m).map g) = true := nlAll_mem fun r' hr' => by
        obtain ⟨c, h1, rfl⟩ := List.mem_map.mp hr'
        exact hn c (by have := List.mem_range.mp h1; omega)
      exact dpAll_snoc (dpAll_updL (e4 _ _ p2) _ hall (dpAll_ex e4 _ p3)) (dp_updL (e4 _ _ p2) _ (hn m hm) hyr)
  · obtain ⟨p1, _, acc, p2, p3⟩ := p
    exact q Dl acc H' (fresh_back e2 hD) (e2.trans p1) p2 p3
/-- one walk, with a test -/
theorem en_filV {j : Nat} {vs : List Nat} {n : Nat} {tt : TT} {Y : Nat → V → Prop} (b : Nat → Bool) (g : Nat → PyData) (h : SrcV wi σ H n Y) (hl : n ≤ 40000) (hw : ∀ x, wipe ((wipe σ vs).set j (some x)) vs = wipe σ vs)
    (hv : ∀ i x H1, Ex H H1 → i < n → Y i x → EvT tt ((wipe σ vs).set j (some x)) H1 (b i) ∧ (b i = true → EvD K te ((wipe σ vs).set j (some x)) H1 (g i))) (hn : ∀ i, i < n → nl (g i) = true) :
    EvN K (tLc wi (gName j) tt te vs) σ H (((List.range n).filter b).map g) := fun H1 e Q q => h H1 e _ fun J H2 G e2 hg w Dl hD => by
  refine lc_it w (fun m H' => Ex H2 H' ∧ m ≤ n ∧ ∃ acc, H' Dl = some (.lst acc) ∧ DpAll K H' acc (((List.range m).filter b).map g)) ⟨Ex.new hD, Nat.zero_le _, [], upd_same, .nil⟩ (fun m H' _ p => hg H' ((e.trans e2).trans p.1)) (fun m x H' H'' hm p hy => ?_) (fun H' p => ?_)
  · obtain ⟨rfl, hY⟩ := hy
    obtain ⟨p1, _, acc, p2, p3⟩ := p
    obtain ⟨h1, h2⟩ := hv m x _ ((e.trans e2).trans p1) hm hY
    refine ⟨hw _, h1 _ (Ex.refl _) _ fun H3 e3 => ?_⟩
    have hle : acc.length ≤ n := by
      rw [dpAll_len p3, List.length_map]
      refine Nat.le_trans (List.length_filter_le _ _) ?_
      rw [List.length_range]
      omega
    cases hb : b m with
    | false =>
      refine ⟨p1.trans e3, hm, acc, e3 _ _ p2, ?_⟩
      rw [List.range_succ, List.filter_append, List.filter_cons, hb]
      simpa using dpAll_ex e3 _ p3
    | true =>
      refine h2 hb H3 e3 _ fun y H4 e4 hyr => ⟨acc, e4 _ _ (e3 _ _ p2), sz_lt (by omega), Ex.mut ((p1.trans e3).trans e4) hD, hm, _, upd_same, ?_⟩
      have e5 : ((List.range (m + 1)).filter b).map g = ((List.range m).filter b).map g ++ [g m] := by
        rw [List.range_succ, List.filter_append, List.filter_cons, hb, List.map_append]
        rfl
      rw [e5]
      have hall : nlAll (((List.range m).filter b).map g) = true := nlAll_mem fun r' hr' => by
        obtain ⟨c, h1, rfl⟩ := List.mem_map.mp hr'
        exact hn c (by have := List.mem_range.mp (List.mem_filter.mp h1).1; omega)
      exact dpAll_snoc (dpAll_updL (e4 _ _ (e3 _ _ p2)) _ hall (dpAll_ex (e3.trans e4) _ p3)) (dp_updL (e4 _ _ (e3 _ _ p2)) _ (hn m hm) hyr)
  · obtain ⟨p1, _, acc, p2, p3⟩ := p
    exact q Dl acc H' (fresh_back e2 hD) (e2.trans p1) p2 p3
/-- for x in a new list of data, while the list at pf changes -/
theorem q_forBut {j : Nat} {pf : Addr} {ys0 : List V} {ds : List PyData} {D : Ends} {tu tz : TS} (h : EvN K te σ H ds) (hn : nlAll ds = true) (hpf : H pf = some (.lst ys0))
    (k : ∀ H2, Ex H H2 → ∃ Pv : Nat → L2.St → Hp → Prop, Pv 0 σ H2 ∧ (∀ i σ' H', Pv i σ' H' → Ex (rem H2 pf) H') ∧
      (∀ i d x σ' H', ds[i]? = some d → Dp K (rem H2 pf) x d → Pv i σ' H' → tu { D with nx := Pv (i + 1), ct := Pv (i + 1), bk := tz D } (σ'.set j (some x)) H') ∧ ∀ σ' H', Pv ds.length σ' H' → tz D σ' H') :
    tSeq (tFor (iList K te) (gName j) tu) tz D σ H := h H (Ex.refl H) _ fun p xs H2 hp e2 hx hd => by
  obtain ⟨Pv, h0, hG, hs, hdn⟩ := k H2 e2
  have hne : p ≠ pf := fun z => by
    rw [z, hpf] at hp
    cases hp
  have hpf2 := e2 _ _ hpf
  have hxr : (rem H2 pf) p = some (.lst xs) := by rw [rem_ne hne]; exact hx
  have hdr := dpAll_rem hpf2 _ hn hd
  have hl := dpAll_len hd
  refine ⟨p, rfl, ⟨xs, sq_of hx⟩, for_it (walk_list (K := K) (a := p) (xs := xs)) (D := { D with nx := tz D }) Pv h0 (fun i σ' H' _ q => sq_of (hG i σ' H' q _ _ hxr)) (fun i x σ' Hc H' hi q hy => ?_) fun σ' H' q => hdn σ' H' (by rw [← hl]; exact q)⟩
  obtain ⟨rfl, hy⟩ := hy
  obtain ⟨d, hdi, hdx⟩ := dpAll_at hdr hy
  exact hs i d x σ' _ hdi hdx q
end
end WR
set_option Elab.async false
set_option linter.all false
set_option maxRecDepth 100000
set_option maxHeartbeats 2000000
namespace WR
open PySem PySem.Spec PyProof.Rows L2 Evl

/-! ### draft_of -/
def spDof (K : PySem.W.Frag) : Sp := fun vs H Q _ => ∃ v l inner, vs = [v] ∧ Dp K H v (webD l inner) ∧ Raw l inner ∧
  ∀ d es H', H d = none → (∀ e ∈ es, H e.2.1 = none) → Ex H H' → DrA H' d es → gr es = grK (List.range (l + inner.length)) (kidsAt l inner) → Q (.ref d) H'
theorem en_listDf {K : PySem.W.Frag} {σ : L2.St} {H : Hp} {te : TE} {ds : List PyData} (h : EvD K te σ H (.tuple ds)) : EvN K (tCB (fun xs H Q => ∃ p ys, xs = [.ref p] ∧ (SqL K H p ys ∨ SqT K H p ys) ∧ ∀ l, H l = none → Q (.ref l) (upd H l (.lst ys))) (tCons te tNil)) σ H ds := fun H1 e Q q =>
  h H1 e _ fun v H2 e2 hv => by
    obtain ⟨a, xs, rfl, hs, hd⟩ := dp_tup hv
    exact ⟨a, xs, rfl, .inr hs, fun l hl => q l xs _ (fresh_back e2 hl) (e2.trans (Ex.new hl)) upd_same (dpAll_ex (Ex.new hl) _ hd)⟩
theorem scDof : FnScope ["web", "kind"] ["web"] (defScope s_draft_of) := ⟨rfl, rfl, rfl, by decide +kernel, rfl, by decide +kernel, by decide +kernel⟩
section
variable {P : Program} {w : World} {K : PySem.W.Frag} {mg : Str → Option Value} {base : Heap}
theorem ok_draftof {f fR fC : Addr} {fd fdR fdC : FuncData} (F : Fun K "draft_of" "draft_of" s_draft_of f fd)
    (FR : Fun K "root" "root" sRoot fR fdR) (bR : Binds K fdR ["web"] []) (gR : mg "root" = some (.ref fR))
    (FC : Fun K "children" "children" sKids fC fdC) (bC : Binds K fdC ["web", "kind"] []) (gC : mg "children" = some (.ref fC))
    (m1 : mg "range" = none) (m2 : mg "list" = none)
    (GR : FnOk P w K mg base CX0 1 fR fdR ["web"] (spW K fun l inner => natD (topN l inner)))
    (GC : FnOk P w K mg base CX0 1 fC fdC ["web", "kind"] (spWK K fun l inner k => kidsD (kidsAt l inner k))) :
    FnOk P w K mg base CX0 2 f fd ["web"] (spDof K) := by
  refine F.ok scDof (fun vs H Q E h => ?_) (fun cdv A outer s H vs Q E hr h => ?_)
  · obtain ⟨v, l, inner, rfl, _⟩ := h
    rfl
  obtain ⟨v, l, inner, rfl, hv, hw, q⟩ := h
  refine ⟨_, pss_one (ps_ret (pe_dc (own := [("kind", 1)]) (g := gName 1) (tt := tYes) (tk := tVar 1) (tv := tCB (fun xs H Q => ∃ p ys, xs = [.ref p] ∧ (SqL K H p ys ∨ SqT K H p ys) ∧ ∀ l, H l = none → Q (.ref l) (upd H l (.lst ys))) (tCons (tCall (spWK K fun l inner k => kidsD (kidsAt l inner k)) [] E0 (tCons (tVar 0) (tCons (tVar 1) tNil))) tNil)) rfl scDof.nd
    (pi_range1 (by rfl) m1 (pa_cons (pe_op op_add (pe_call GR hr (by rfl) gR FR.kp bR .nil pass0 (pa_cons (pv 0) pa_nil)) pe_int) pa_nil)) (blkOk_by (N := ["web", "kind"]) (sc := defScope s_draft_of) (by decide +kernel))
    (fun _ _ _ _ _ => pg_name (i := 1) scDof.nd rfl (Or.inl rfl)) (fun _ _ _ _ _ => pts_nil) (fun _ _ _ _ _ => pv 1)
    (fun _ _ _ _ _ => pe_callTy call_list_of (by rfl) m2 (by decide +kernel) (pa_cons (pe_call GC hr (by rfl) gC FC.kp bC .nil pass0 (pa_cons (pv 0) (pa_cons (pv 1) pa_nil))) pa_nil)))), ?_⟩
  have h1 := hw.l1
  have h8 := hw.l8
  have h20 := hw.n20
  have hsrc : Src K (iRng1 (tCons (tOp (rI0 fun i j => V.int (i + j)) (tCall (spW K fun l inner => natD (topN l inner)) [] E0 (tCons (tVar 0) tNil)) (tC (.int 1))) tNil)) [some v, none] H ((kI (List.range (l + inner.length))).map PyData.int) := by
    rw [kI_nat]
    refine src_rng (ea_cons (ev_is (ev_op (x := nV (topN l inner)) (y := .int 1) (ev_i (K := K) (ed_callW (g := fun l inner => natD (topN l inner)) (ed_var rfl hv) hw)) ev_c rv_I0) ?_) ea_nil) (by omega)
    show V.int (((topN l inner : Nat) : Int) + 1) = V.int _
    congr 1
    unfold topN
    omega
  have hnd : (kI (List.range (l + inner.length))).Nodup := kI_nd List.nodup_range
  have hdr := edr_dc (K := K) (j := 1) (vs := [1]) (te := tCB (fun xs H Q => ∃ p ys, xs = [.ref p] ∧ (SqL K H p ys ∨ SqT K H p ys) ∧ ∀ l, H l = none → Q (.ref l) (upd H l (.lst ys))) (tCons (tCall (spWK K fun l inner k => kidsD (kidsAt l inner k)) [] E0 (tCons (tVar 0) (tCons (tVar 1) tNil))) tNil)) (fun i => (kidsAt l inner i.toNat).map fun (c : Nat) => (c : Int)) hsrc hnd (by rw [kI_len, List.length_range]; omega) (fun _ => rfl) (fun _ => rfl) (fun i H1 e1 hi => by
    obtain ⟨k, hk, rfl⟩ := List.mem_map.mp hi
    have hk := List.mem_range.mp hk
    rw [Int.toNat_natCast]
    have hL := en_listDf (K := K) (σ := [some v, some (nV k)]) (H := H1) (ed_callWK (g := fun l inner k => kidsD (kidsAt l inner k)) (E := E0) (te := tVar 0) (tx := tVar 1) (ed_var rfl (dp_ex e1 _ hv)) (ed_i (ev_var rfl)) hw hk)
    have e : ((kidsAt l inner k).map fun (c : Nat) => (c : Int)).map PyData.int = (kidsAt l inner k).map natD := by
      rw [List.map_map]
      rfl
    rw [e]
    exact hL)
  refine hdr H (Ex.refl _) _ fun d es H1 hd hes e1 hD hg => q d es H1 hd hes e1 hD ?_
  rw [hg]
  unfold kI grK
  rw [List.map_map]
  exact List.map_congr_left fun k _ => by
    show ((k : Int), (kidsAt l inner (Int.toNat (k : Int))).map fun (c : Nat) => (c : Int)) = _
    rw [Int.toNat_natCast]
end
/-! ### thin_kind -/
def thinB (ks : List Nat) (K : Nat → List Nat) (k : Nat) : Bool := decide ((K k).length = 1) && decide (pcK ks K k < 2)
theorem cnt_flat {K : Nat → List Nat} {k : Nat} : ∀ {ks : List Nat}, (∀ u ∈ ks, (K u).Nodup) → (ks.flatMap K).count k = pcK ks K k
  | [], _ => rfl
  | u :: r, h => by
    have ih := cnt_flat (K := K) (k := k) (ks := r) fun x hx => h x (List.mem_cons_of_mem _ hx)
    unfold pcK at ih ⊢
    rw [List.flatMap_cons, List.count_append, ih, List.countP_cons]
    have hn := h u List.mem_cons_self
    by_cases z : k ∈ K u
    · rw [decide_eq_true z, List.Nodup.count hn, if_pos z]
      show 1 + _ = _ + 1
      omega
    · rw [decide_eq_false z, List.count_eq_zero.mpr z]
      show 0 + _ = _ + 0
      omega
theorem cnt_castI (k : Nat) : ∀ l : List Nat, (l.map fun (c : Nat) => (c : Int)).count (k : Int) = l.count k
  | [] => rfl
  | x :: r => by
    rw [List.map_cons, List.count_cons, List.count_cons, cnt_castI k r]
    by_cases z : x = k
    · rw [z]
      simp
    · have z2 : ¬ ((x : Int) = (k : Int)) := by omega
      simp [z, z2]
theorem ev_cntN {K : PySem.W.Frag} {σ : L2.St} {H : Hp} {ta tb : TE} {p : Addr} {l : List Nat} {k : Nat} (ha : Ev ta σ H (.ref p)) (hp : H p = some (.lst (nVs l))) (hb : Ev tb σ H (nV k)) : Ev (tBM K "list" (rCntI K) ta (tCons tb tNil)) σ H (nV (l.count k)) := fun H1 e Q q =>
  ha H1 e _ fun H2 e2 => ⟨.inl ⟨rfl, _, sq_of ((e.trans e2) _ _ hp)⟩, hb H2 (e.trans e2) _ fun H3 e3 => ⟨p, l.map fun (c : Nat) => (c : Int), (k : Int), rfl, rfl, by rw [nvs_map]; exact sq_of (((e.trans e2).trans e3) _ _ hp), by
    rw [cnt_castI]
    exact q H3 (e2.trans e3)⟩⟩
theorem all_get (l : List Nat) : (List.range l.length).map (fun j => l.getD j 0) = l := by
  refine List.ext_getElem? fun j => ?_
  rw [List.getElem?_map]
  by_cases z : j < l.length
  · rw [List.getElem?_range z, List.getElem?_eq_getElem z, Option.map_some, List.getD_eq_getElem?_getD, List.getElem?_eq_getElem z]
    rfl
  · rw [List.getElem?_eq_none (by rw [List.length_range]; omega), List.getElem?_eq_none (by omega)]
    rfl
theorem flat_get (ks : List Nat) (K : Nat → List Nat) : ((List.range ks.length).flatMap fun i => (List.range (K (ks.getD i 0)).length).map fun j => natD ((K (ks.getD i 0)).getD j 0)) = natDs (ks.flatMap K) := by
  have e1 : ∀ i, ((List.range (K (ks.getD i 0)).length).map fun j => natD ((K (ks.getD i 0)).getD j 0)) = (K (ks.getD i 0)).map natD := fun i => by
    conv => rhs; rw [← all_get (K (ks.getD i 0))]
    rw [List.map_map]
    rfl
  simp only [e1]
  unfold natDs
  rw [List.map_flatMap]
  conv => rhs; rw [← all_get ks]
  rw [List.flatMap_map]
theorem find_atD {p : Nat → Bool} {xs : List Nat} {n x : Nat} (hx : xs[n]? = some x) (hp : p x = true) (hb : ∀ y ∈ xs.take n, p y = false) : xs.find? p = some x := by
  induction xs generalizing n with
  | nil => cases hx
  | cons a xs ih =>
    cases n with
    | zero =>
      cases hx
      rw [List.find?_cons, hp]
    | succ n =>
      rw [List.take_succ_cons] at hb
      have ha : p a = false := hb a List.mem_cons_self
      rw [List.find?_cons, ha]
      exact ih hx fun y hy => hb y (List.mem_cons_of_mem _ hy)
def spThin (K : PySem.W.Frag) : Sp := fun vs H Q _ => ∃ (d : Addr) (es : List Ent) (ks : List Nat) (kd : Nat → List Nat), vs = [.ref d] ∧ DrA H d es ∧ gr es = grK ks kd ∧ ks.length ≤ 40 ∧ (∀ k ∈ ks, (kd k).Nodup ∧ (kd k).length ≤ 40) ∧ (ks.flatMap kd).length ≤ 10000 ∧
  (∀ H', Ex H H' → ks.find? (thinB ks kd) = none → Q .non H') ∧ ∀ H' t, Ex H H' → ks.find? (thinB ks kd) = some t → Q (nV t) H'
abbrev nThin : List Str := ["draft", "found", "kind", "child"]
theorem scThin : FnScope nThin ["draft"] (defScope s_thin_kind) := ⟨rfl, rfl, rfl, by decide +kernel, rfl, by decide +kernel, by decide +kernel⟩
section
variable {P : Program} {w : World} {K : PySem.W.Frag} {mg : Str → Option Value} {base : Heap}
theorem ok_thin {f : Addr} {fd : FuncData} (F : Fun K "thin_kind" "thin_kind" s_thin_kind f fd) (m1 : mg "len" = none) :
    FnOk P w K mg base CX0 1 f fd ["draft"] (spThin K) := by
  refine F.ok scThin (fun vs H Q E h => ?_) (fun cdv A outer s H vs Q E hr h => ?_)
  · obtain ⟨d, es, ks, kd, rfl, _⟩ := h
    rfl
  obtain ⟨d, es, ks, kd, rfl, hd, hg, hkl, hkn, hfl, qn, qt⟩ := h
  have hu0 := hu_of hr
  refine ⟨_, pss_cons (ps_lock (ps_setLc2 (i := 1) (own := [("kind", 2), ("child", 3)]) (vs1 := [3]) (g := gName 2) (g1 := gName 3) (tt := tYes) (tt1 := tYes) (wi1 := iList K (tDGet (tVar 0) (tVar 2))) (te := tVar 3) rfl scThin.nd rfl rfl (sw_true rfl rfl rfl (by decide +kernel)) (pi_keys (pv 0)) (blkOk_by (N := nThin) (sc := defScope s_thin_kind) (by decide +kernel)) (by decide)
      (fun _ _ _ _ _ => pg_name (i := 2) scThin.nd rfl (Or.inl rfl)) (fun _ _ _ _ _ => pts_nil)
      (fun _ _ _ _ _ => pi_list (pe_dget hu0 (pv 0) (pv 2) (fun _ _ => rfl))) (fun _ _ _ _ _ => pg_name (i := 3) scThin.nd rfl (Or.inl rfl)) (fun _ _ _ _ _ => pts_nil) (fun _ _ _ _ _ => pv 3)))
    (pss_cons (ps_lock (ps_for PassesOwn.never rfl (pi_keys (pv 0)) (pg_name (i := 2) scThin.nd rfl (.inl rfl))
      (pss_one (ps_if (pw_and (pt_cmpR op_eq (pe_callB (r := rLenS K) call_len_seq (by rfl) m1 PySem.boot_len (pa_cons (pe_dget hu0 (pv 0) (pv 2) (fun _ _ => rfl)) pa_nil)) pe_int (nomark _))
        (pw_and1 (pt_cmpR op_lt (pe_bm PySem.F.plainAttrs_list PySem.F.slot_list_count PySem.F.type_list_count mt_lcount (pv 1) (pa_cons (pv 2) pa_nil)) pe_int (nomark _)))).pt (pss_one (ps_ret (pv 2))) pss_nil))))
    (pss_one (ps_ret pe_non))), ?_⟩
  let S (x1 x2 : Option V) : L2.St := [some (.ref d), x1, x2, none]
  have hkey := gr_keys hg
  refine ⟨d, _, hd.dict, trivial, fun od => ?_⟩
  have hsrc : ∀ σ : L2.St, σ[0]? = some (some (.ref d)) → ∀ od, SrcS K (iKeys (tVar 0)) σ (upd H d (.frz od (.dK (DrK es)))) (natDs ks) := fun σ h0 od => by
    have h := srcS_keysI (K := K) (σ := σ) (td := tVar 0) (od := od) (H := upd H d (.frz od (.dK (DrK es)))) (es := es) (ev_var h0) upd_same
    rw [hkey, kI_nat] at h
    exact h
  have hit : ∀ {i : Nat} {x : V} {H0 : Hp}, (∃ y, (natDs ks)[i]? = some y ∧ Dp K H0 x y) → ∃ k, ks[i]? = some k ∧ x = nV k ∧ ks.getD i 0 = k := fun {i x H0} h => by
    obtain ⟨y, hy, hx⟩ := h
    unfold natDs at hy
    rw [List.getElem?_map] at hy
    obtain ⟨k, hk, rfl⟩ := Option.map_eq_some_iff.mp hy
    cases dp_int hx
    exact ⟨k, hk, rfl, by rw [List.getD_eq_getElem?_getD, hk]; rfl⟩
  have hlen : (natDs ks).length = ks.length := by unfold natDs; rw [List.length_map]
  have hflat := en_flatV (K := K) (σ := S none none) (te := tVar 3) (a := 2) (b := 3) (vs := [2, 3]) (vs1 := [3]) (wi := iKeys (tVar 0)) (wi1 := iList K (tDGet (tVar 0) (tVar 2))) (m := fun i => (kd (ks.getD i 0)).length)
    (Z := fun i x j y => (nVs (kd (ks.getD i 0)))[j]? = some y) (fun i j => natD ((kd (ks.getD i 0)).getD j 0)) (hsrc (S none none) rfl od).v (by rw [hlen, flat_get]; unfold natDs; rw [List.length_map]; omega) (fun _ => rfl) (fun _ _ => rfl) (fun i x hi hx => by
      obtain ⟨k, hk, rfl, hk2⟩ := hit hx
      obtain ⟨a, ha, ha1, ha2⟩ := dr_lk hd hg (List.mem_of_getElem? hk) (Ex.refl (upd H d (.frz od (.dK (DrK es)))))
      have h1 := srcV_L (K := K) (σ := (wipe (S none none) [2, 3]).set 2 (some (nV k))) (tl := tDGet (tVar 0) (tVar 2)) (ev_dr (ev_var rfl) (ev_var rfl) (.inr ⟨od, upd_same⟩) hd.b.kn ha ha1) ha2
      have e : (nVs (kd k)).length = (kd (ks.getD i 0)).length := by
        unfold nVs
        rw [List.length_map, hk2]
      rw [e] at h1
      rw [hk2]
      rw [hk2] at h1
      exact h1) (fun i x j y H1 e1 hi hj hx hy => by
      unfold nVs at hy
      rw [List.getElem?_map] at hy
      obtain ⟨c, hc, rfl⟩ := Option.map_eq_some_iff.mp hy
      have e : (kd (ks.getD i 0)).getD j 0 = c := by
        rw [List.getD_eq_getElem?_getD, hc]
        rfl
      rw [e]
      exact ed_i (ev_var rfl)) (fun _ _ _ _ => rfl)
  rw [hlen, flat_get] at hflat
  refine hflat _ (Ex.refl _) _ fun p xs H1 hp e1 hx hdx => ⟨e1 _ _ upd_same, ?_⟩
  have hxs := nats_of (K := K) hdx
  subst hxs
  have hpd : p ≠ d := fun z => by
    rw [z, upd_same] at hp
    cases hp
  have e2 := ex_unlock hd.dict e1
  have hd2 := hd.ex e2
  have hp2 : upd H1 d (.dK (DrK es)) p = some (.lst (nVs (ks.flatMap kd))) := by
    rw [upd_ne hpd]
    exact hx
  generalize upd H1 d (.dK (DrK es)) = H2 at e2 hd2 hp2 ⊢
  refine ⟨d, _, hd2.dict, trivial, fun od2 => ?_⟩
  have eL : Ex (upd H d (.frz od2 (.dK (DrK es)))) (upd H2 d (.frz od2 (.dK (DrK es)))) := fun a o ha => by
    by_cases z : a = d
    · rw [z, upd_same] at ha ⊢
      exact ha
    · rw [upd_ne z] at ha ⊢
      exact e2 _ _ ha
  have hp3 : upd H2 d (.frz od2 (.dK (DrK es))) p = some (.lst (nVs (ks.flatMap kd))) := by
    rw [upd_ne hpd]
    exact hp2
  refine s_forS (K := K) (j := 2) eL (hsrc (S (some (.ref p)) none) rfl od2) (fun i σ' H' => ∃ x2, σ' = S (some (.ref p)) x2 ∧ Ex (upd H d (.frz od2 (.dK (DrK es)))) H' ∧ H' p = some (.lst (nVs (ks.flatMap kd))) ∧ ∀ k ∈ ks.take i, thinB ks kd k = false)
    (fun H3 e3 => ⟨none, rfl, eL.trans e3, e3 _ _ hp3, fun k hk => by rw [List.take_zero] at hk; cases hk⟩) (fun i σ' H' q => q.choose_spec.2.1) (fun i y x σ' H' hy hx q => ?_) fun σ' H' q => ?_
  · obtain ⟨x2, rfl, q1, q2, q3⟩ := q
    obtain ⟨k, hk, rfl, hk2⟩ := hit ⟨y, hy, hx⟩
    have hks := List.mem_of_getElem? hk
    obtain ⟨a, ha, ha1, ha2⟩ := dr_lk hd hg hks q1
    have hfz := q1 _ _ upd_same
    show tIfS _ _ _ _ (S (some (.ref p)) (some (nV k))) H'
    refine s_if (b := thinB ks kd k) ?_ (fun hb H4 e4 => ?_) fun hb H4 e4 => ?_
    · refine et_and (et_test (ev_is (ev_op (x := .int ((nVs (kd k)).length : Int)) (y := .int 1) (ev_len (K := K) (ev_dr (ev_var rfl) (ev_var rfl) (.inr ⟨od2, hfz⟩) hd.b.kn ha ha1) (sq_of ha2)) ev_c (rv_eq rfl)) ?_)) fun _ => et_test (ev_is (ev_op (x := .int ((pcK ks kd k : Nat) : Int)) (y := .int 2) ?_ ev_c rv_I0) ?_)
      · show V.bl (decide (V.int ((nVs (kd k)).length : Int) = V.int 1)) = V.bl (decide ((kd k).length = 1))
        congr 1
        unfold nVs
        rw [List.length_map]
        exact decide_eq_decide.mpr ⟨fun z => by have := V.int.inj z; omega, fun z => by rw [z]; rfl⟩
      · have h := ev_cntN (K := K) (σ := S (some (.ref p)) (some (nV k))) (ta := tVar 1) (tb := tVar 2) (k := k) (ev_var rfl) q2 (ev_var rfl)
        rw [cnt_flat fun u hu => (hkn u hu).1] at h
        exact h
      · show V.bl (decide (((pcK ks kd k : Nat) : Int) < 2)) = V.bl (decide (pcK ks kd k < 2))
        congr 1
        exact decide_eq_decide.mpr (by omega)
    · refine s_ret (ev_var rfl) fun H5 e5 => ?_
      refine ⟨e5 _ _ (e4 _ _ hfz), qt _ k (ex_unlock hd.dict ((q1.trans e4).trans e5)) ?_⟩
      exact find_atD hk hb q3
    · refine ⟨some (nV k), rfl, q1.trans e4, e4 _ _ q2, fun c hc => ?_⟩
      rw [List.take_add_one, hk] at hc
      rcases List.mem_append.mp hc with hc | hc
      · exact q3 c hc
      · rw [Option.toList_some, List.mem_singleton] at hc
        rw [hc]
        exact hb
  · obtain ⟨x2, rfl, q1, q2, q3⟩ := q
    rw [hlen, List.take_length] at q3
    refine ⟨q1 _ _ upd_same, ?_⟩
    dsimp only
    refine s_ret (v := .non) ev_c fun H5 e5 => ?_
    refine qn H5 ((ex_unlock hd.dict q1).trans e5) (List.find?_eq_none.mpr fun k hk => ?_)
    rw [q3 k hk]
    decide
end
end WR
set_option Elab.async false
set_option linter.all false
set_option maxRecDepth 100000
set_option maxHeartbeats 1000000
namespace WR
open PySem PySem.Spec PyProof.Rows L2 Evl
/-! ### the text -/
theorem scIsInt : FnScope ["value"] ["value"] (defScope sIsInt) := ⟨rfl, rfl, rfl, by decide +kernel, rfl, by decide +kernel, by decide +kernel⟩
theorem scBetw : FnScope ["value", "low", "high"] ["value", "low", "high"] (defScope sBetw) := ⟨rfl, rfl, rfl, by decide +kernel, rfl, by decide +kernel, by decide +kernel⟩

section
variable {P : Program} {w : World} {K : PySem.W.Frag} {mg : Str → Option Value} {base : Heap}
theorem ok_isInt {f : Addr} {fd : FuncData} (F : Fun K "is_integer" "is_integer" sIsInt f fd) (m1 : mg "isinstance" = none) (m2 : mg "int" = none) (m3 : mg "bool" = none) :
    FnOk P w K mg base CX0 1 f fd ["value"] (spD K (f1 fun d => some (.bool (isInt d)))) := by
  refine F.ok scIsInt (fun vs H Q E h => spD_len f1_len h) (fun cdv A outer s H vs Q E hr h => ?_)
  obtain ⟨v, d, r, rfl, hv, hf, q⟩ := sp1 h
  cases hf
  refine ⟨_, pss_one (ps_ret (pe_and
    (pe_callB call_isi (by rfl) m1 (by decide +kernel) (pa_cons (pv 0) (pa_cons (pe_bltn (by rfl) m2 (by decide +kernel) (v := .ty "int") rfl) pa_nil)))
    (pe_one (pe_not (pe_callB call_isi (by rfl) m1 (by decide +kernel) (pa_cons (pv 0) (pa_cons (pe_bltn (by rfl) m3 (by decide +kernel) (v := .ty "bool") rfl) pa_nil))))))), ?_⟩
  refine s_ret (v := .bl (isInt d)) (ev_is (ev_andV (ev_isi (ed_var rfl hv) (kit_int d)) fun _ => ev_notV (ev_isi (ed_var rfl hv) (kit_bool d))) ?_) fun H1 e => q _ _ e (.bl _)
  cases d <;> rfl

def betw : PyData → Int → Int → Bool
  | .int i, a, b => decide (a ≤ i) && decide (i ≤ b)
  | _, _, _ => false
def gBetw (d lo hi : PyData) : Option PyData := match lo, hi with
  | .int a, .int b => some (.bool (betw d a b))
  | _, _ => none
theorem ok_betw {f fI : Addr} {fd fdI : FuncData} (F : Fun K "is_between" "is_between" sBetw f fd) (FI : Fun K "is_integer" "is_integer" sIsInt fI fdI) (bI : Binds K fdI ["value"] []) (gI : mg "is_integer" = some (.ref fI))
    (G : FnOk P w K mg base CX0 1 fI fdI ["value"] (spD K (f1 fun d => some (.bool (isInt d))))) :
    FnOk P w K mg base CX0 2 f fd ["value", "low", "high"] (spD K (f3 gBetw)) := by
  refine F.ok scBetw (fun vs H Q E h => spD_len f3_len h) (fun cdv A outer s H vs Q E hr h => ?_)
  obtain ⟨v, x, y, d, lo, hi, r, rfl, hv, hx, hy, hf, q⟩ := sp3 h
  match lo, hi, hf, hx, hy with
  | .int a, .int b, hf, hx, hy =>
    cases hf
    refine ⟨_, pss_one (ps_ret (pe_and
      (pe_call G hr (by rfl) gI FI.kp bI .nil pass0 (pa_cons (pv 0) pa_nil))
      (pe_one (pe_chain op_le op_le (pv 1) (pv 0) (pv 2))))), ?_⟩
    have e1 : Ev (tCall (spD K (f1 fun d => some (.bool (isInt d)))) [] E0 (tCons (tVar 0) tNil)) (start ["value", "low", "high"] [v, x, y]) H (.bl (isInt d)) :=
      ev_b (ed_call (eda_cons (ed_var rfl hv) eda_nil) rfl)
    cases hd : isInt d with
    | false =>
      have hb : betw d a b = false := by cases d <;> first | rfl | cases hd
      rw [hb] at q
      rw [hd] at e1
      exact s_ret (ev_andV (b := false) e1 (fun z => by cases z)) fun H1 e => q _ _ e (.bl _)
    | true =>
      cases d with
      | int i =>
        rw [hd] at e1
        exact s_ret (ev_andV e1 fun _ => ev_chain (K := K) (ed_var rfl hx) (ed_var rfl hv) (ed_var rfl hy)) fun H1 e => q _ _ e (.bl _)
      | _ => cases hd

end
end WR
set_option Elab.async false
set_option linter.all false
set_option maxRecDepth 100000
set_option maxHeartbeats 1000000
namespace WR
open PySem PySem.Spec PyProof.Rows L2 Evl
abbrev nPar : List Str := ["web", "kind", "upper"]
theorem scPar : FnScope nPar ["web", "kind"] (defScope sPar) := ⟨rfl, rfl, rfl, by decide +kernel, rfl, by decide +kernel, by decide +kernel⟩
theorem scIsMix : FnScope ["web", "kind"] ["web", "kind"] (defScope sIsMix) := ⟨rfl, rfl, rfl, by decide +kernel, rfl, by decide +kernel, by decide +kernel⟩
section
variable {P : Program} {w : World} {K : PySem.W.Frag} {mg : Str → Option Value} {base : Heap}
theorem ok_par {f fR fK : Addr} {fd fdR fdK : FuncData} (F : Fun K "parents" "parents" sPar f fd)
    (FR : Fun K "root" "root" sRoot fR fdR) (bR : Binds K fdR ["web"] []) (gR : mg "root" = some (.ref fR))
    (FK : Fun K "children" "children" sKids fK fdK) (bK : Binds K fdK ["web", "kind"] []) (gK : mg "children" = some (.ref fK))
    (m4 : mg "range" = none) (m6 : mg "tuple" = none)
    (G : FnOk P w K mg base CX0 1 fR fdR ["web"] (spW K fun l inner => natD (topN l inner)))
    (GK : FnOk P w K mg base CX0 1 fK fdK ["web", "kind"] (spWK K fun l inner k => kidsD (kidsAt l inner k))) :
    FnOk P w K mg base CX0 2 f fd ["web", "kind"] (spWK K fun l inner k => kidsD (parsAt l inner k)) := by
  refine F.ok scPar (fun vs H Q E h => spWK_len h) (fun cdv A outer s H vs Q E hr h => ?_)
  obtain ⟨v, l, inner, k, rfl, hv, hw, hlt, q⟩ := h
  refine ⟨_, pss_one (ps_ret (pe_callTy call_tuple_of (by rfl) m6 (by decide +kernel) (pa_cons (pe_lc (own := [("upper", 2)]) (g := gName 2) (tt := tTest (tOp (rIn K false) (tVar 1) (tCall (spWK K fun l inner k => kidsD (kidsAt l inner k)) [] E0 (tCons (tVar 0) (tCons (tVar 2) tNil))))) (te := tVar 2) rfl scPar.nd
      (pi_range1 (by rfl) m4 (pa_cons (pe_op op_add (pe_call G hr (by rfl) gR FR.kp bR .nil pass0 (pa_cons (pv 0) pa_nil)) pe_int) pa_nil)) (blkOk_by (N := nPar) (sc := defScope sPar) (by decide +kernel))
      (fun _ _ _ _ _ => pg_name (i := 2) scPar.nd rfl (Or.inl rfl)) (fun _ _ _ _ _ => pts_one (pt_cmpR op_in_seq (pv 1) (pe_call GK hr (by rfl) gK FK.kp bK .nil pass0 (pa_cons (pv 0) (pa_cons (pv 2) pa_nil))) rfl)) (fun _ _ _ _ _ => pv 2)) pa_nil))), ?_⟩
  have h1 := hw.l1
  have h8 := hw.l8
  have h20 := hw.n20
  have hN : ((topN l inner : Nat) : Int) + 1 = ((l + inner.length : Nat) : Int) := by unfold topN; omega
  have hS := srcS_R1 (K := K) (σ := start nPar [v, .int (k : Int)]) (H := H) (n := ((l + inner.length : Nat) : Int)) (ta := tCons (tOp (rI0 fun i j => .int (i + j)) (tCall (spW K fun l inner => natD (topN l inner)) [] E0 (tCons (tVar 0) tNil)) (tC (.int 1))) tNil)
    (ea_cons (ev_is (ev_op (ev_i (K := K) (ed_callW (ed_var rfl hv) hw)) ev_c rv_I0) (by rw [hN])) ea_nil) (by omega)
  rw [Int.toNat_natCast] at hS
  refine s_retD (d := kidsD (parsAt l inner k)) (ed_tupL (ed_n (en_pick (K := K) (j := 2) (vs := [2]) (fun u => decide (k ∈ kidsAt l inner u)) hS (by omega) (fun _ => rfl) (by show 2 < 3; decide) fun u H1 e1 hu => ?_))) fun r H2 e2 hr2 => q r H2 e2 hr2
  exact et_inK (K := K) (ev_var rfl) (ed_callWK (k := u) (ed_var rfl (dp_ex e1 _ hv)) (ed_i (ev_var rfl)) hw hu)
theorem ok_ismix {f fP : Addr} {fd fdP : FuncData} (F : Fun K "is_mixing" "is_mixing" sIsMix f fd)
    (FP : Fun K "parents" "parents" sPar fP fdP) (bP : Binds K fdP ["web", "kind"] []) (gP : mg "parents" = some (.ref fP)) (m5 : mg "len" = none)
    (G : FnOk P w K mg base CX0 2 fP fdP ["web", "kind"] (spWK K fun l inner k => kidsD (parsAt l inner k))) :
    FnOk P w K mg base CX0 3 f fd ["web", "kind"] (spWK K fun l inner k => .bool (decide ((1 : Int) < ((parsAt l inner k).length : Int)))) := by
  refine F.ok scIsMix (fun vs H Q E h => spWK_len h) (fun cdv A outer s H vs Q E hr h => ?_)
  obtain ⟨v, l, inner, k, rfl, hv, hw, hlt, q⟩ := h
  refine ⟨_, pss_one (ps_ret (pe_cmpR op_gt (pe_callB call_len_seq (by rfl) m5 PySem.boot_len (pa_cons (pe_call G hr (by rfl) gP FP.kp bP .nil pass0 (pa_cons (pv 0) (pa_cons (pv 1) pa_nil))) pa_nil)) pe_int (nomark _))), ?_⟩
  refine s_retD (d := .bool (decide ((1 : Int) < ((parsAt l inner k).length : Int)))) (ed_b (ev_is (ev_op (ed_lenT (K := K) (ds := (parsAt l inner k).map natD) (ed_callWK (k := k) (ed_var rfl hv) (ed_i (ev_var rfl)) hw hlt)) ev_c rv_I0) (by rw [List.length_map]))) fun r H2 e2 hr2 => q r H2 e2 hr2
end
end WR
set_option Elab.async false
set_option linter.all false
set_option maxRecDepth 100000
set_option maxHeartbeats 2000000
namespace WR
open PySem PySem.Spec PyProof.Rows L2 Evl

/-! ### put_for_child -/
theorem ev_inKd {K : PySem.W.Frag} {σ : L2.St} {H : Hp} {ta te : TE} {k : Nat} {ks : List Nat} (hk : EvD K ta σ H (natD k)) (h : EvD K te σ H (kidsD ks)) : Ev (tOp (rIn K false) ta te) σ H (.bl (decide (k ∈ ks))) := fun H1 e Q q =>
  hk H1 e _ fun x H2 e2 hx => h H2 (e.trans e2) _ fun v H3 e3 hv => by
  cases dp_int hx
  obtain ⟨a, xs, rfl, hs, hd⟩ := dp_tup hv
  have hd : DpAll K H3 xs (natDs ks) := hd
  rw [nats_of hd] at hs
  refine rv_isT (K := K) (x := nV k) hs rfl (flat_nVs ks) H3 (Ex.refl H3) Q fun H4 e4 => ?_
  rw [inV_nat]
  exact q H4 ((e2.trans e3).trans e4)
def setE (es : List Ent) (k : Int) (p : Addr) (xs : List Int) : List Ent := es.map fun x => if x.1 = k then (x.1, p, xs) else x
theorem setE_put {es : List Ent} {k : Int} {p : Addr} {xs : List Int} (h : ∃ x ∈ es, x.1 = k) : putK (DrK es) (Sum.inl k) (V.ref p) = DrK (setE es k p xs) := by
  obtain ⟨x, hx, hk⟩ := h
  unfold putK
  have ha : ((DrK es).any fun kv => decide (kv.1 = Sum.inl k)) = true := List.any_eq_true.mpr ⟨(Sum.inl x.1, V.ref x.2.1), List.mem_map.mpr ⟨x, hx, rfl⟩, decide_eq_true (by rw [hk])⟩
  rw [if_pos ha]
  unfold DrK setE
  rw [List.map_map, List.map_map]
  refine List.map_congr_left fun y _ => ?_
  show (if (Sum.inl y.1 : L2.Key) = Sum.inl k then ((Sum.inl y.1 : L2.Key), V.ref p) else (Sum.inl y.1, V.ref y.2.1)) = (Sum.inl (if y.1 = k then (y.1, p, xs) else y).1, V.ref (if y.1 = k then (y.1, p, xs) else y).2.1)
  by_cases z : y.1 = k
  · rw [if_pos (by rw [z]), if_pos z]
  · rw [if_neg (fun t => z (Sum.inl.inj t)), if_neg z]
theorem setE_keys {es : List Ent} {k : Int} {p : Addr} {xs : List Int} : ((setE es k p xs).map fun e => e.1) = es.map fun e => e.1 := by
  unfold setE
  rw [List.map_map]
  refine List.map_congr_left fun x _ => ?_
  show (if x.1 = k then (x.1, p, xs) else x).1 = _
  split <;> rfl
theorem setE_gr {es : List Ent} {ks : List Nat} {F : Nat → List Nat} {k : Nat} {p : Addr} {G : List Nat} (h : gr es = grK ks F) : gr (setE es (k : Int) p (G.map fun (c : Nat) => (c : Int))) = grK ks fun c => if c = k then G else F c := by
  have e1 : gr (setE es (k : Int) p (G.map fun (c : Nat) => (c : Int))) = (gr es).map fun q => if q.1 = (k : Int) then (q.1, G.map fun (c : Nat) => (c : Int)) else q := by
    unfold setE gr
    rw [List.map_map, List.map_map]
    refine List.map_congr_left fun x _ => ?_
    show ((if x.1 = (k : Int) then (x.1, p, G.map fun (c : Nat) => (c : Int)) else x).1, (if x.1 = (k : Int) then (x.1, p, G.map fun (c : Nat) => (c : Int)) else x).2.2) = if x.1 = (k : Int) then (x.1, G.map fun (c : Nat) => (c : Int)) else (x.1, x.2.2)
    split <;> rfl
  rw [e1, h]
  unfold grK
  rw [List.map_map]
  refine List.map_congr_left fun c _ => ?_
  show (if (c : Int) = (k : Int) then ((c : Int), G.map fun (c : Nat) => (c : Int)) else ((c : Int), (F c).map fun (c : Nat) => (c : Int))) = ((c : Int), (if c = k then G else F c).map fun (c : Nat) => (c : Int))
  by_cases z : c = k
  · rw [if_pos (by rw [z]), if_pos z]
  · rw [if_neg (by omega), if_neg z]
theorem DrA.setE {H H3 : Hp} {d p : Addr} {es : List Ent} {k : Int} {xs : List Int} (h : DrA H d es) (e : Ex H H3) (hp : H p = none) (hx : H3 p = some (.lst (xs.map V.int))) : DrA (L2.upd H3 d (.dK (DrK (WR.setE es k p xs)))) d (WR.setE es k p xs) := by
  have hpd : p ≠ d := fun z => by
    rw [z, h.dict] at hp
    cases hp
  have hold : ∀ x ∈ es, x.2.1 ≠ p := fun x hx z => by
    have := h.b.at_ x hx
    rw [z, hp] at this
    cases this
  refine ⟨upd_same, fun y hy => ?_, ?_, by rw [setE_keys]; exact h.b.kn⟩
  · unfold WR.setE at hy
    obtain ⟨x, hx0, rfl⟩ := List.mem_map.mp hy
    by_cases z : x.1 = k
    · rw [if_pos z]
      show L2.upd H3 d _ p = _
      rw [upd_ne hpd]
      exact hx
    · rw [if_neg z, upd_ne fun t => ?_]
      · exact e _ _ (h.b.at_ x hx0)
      · have := h.b.at_ x hx0
        rw [t, h.dict] at this
        cases this
  · have h1 := List.pairwise_map.mp h.b.rn
    have h2 := List.pairwise_map.mp h.b.kn
    unfold WR.setE
    rw [List.map_map]
    refine List.pairwise_map.mpr ((h1.and h2).imp_of_mem fun {a b} ha hb hab z => ?_)
    have z : (if a.1 = k then (a.1, p, xs) else a).2.1 = (if b.1 = k then (b.1, p, xs) else b).2.1 := z
    by_cases z1 : a.1 = k
    · rw [if_pos z1] at z
      by_cases z2 : b.1 = k
      · exact hab.2 (z1.trans z2.symm)
      · rw [if_neg z2] at z
        exact hold b hb z.symm
    · rw [if_neg z1] at z
      by_cases z2 : b.1 = k
      · rw [if_pos z2] at z
        exact hold a ha z
      · rw [if_neg z2] at z
        exact hab.1 z
theorem setE_ad {es : List Ent} {k : Int} {p : Addr} {xs : List Int} {B : Hp} (h : ∀ e ∈ es, B e.2.1 = none) (hp : B p = none) : ∀ e ∈ setE es k p xs, B e.2.1 = none := fun e he => by
  unfold setE at he
  obtain ⟨x, hx, rfl⟩ := List.mem_map.mp he
  by_cases z : x.1 = k
  · rw [if_pos z]
    exact hp
  · rw [if_neg z]
    exact h x hx
def spPfc (K : PySem.W.Frag) : Sp := fun vs H Q _ => ∃ (d : Addr) (es : List Ent) (ks : List Nat) (kd : Nat → List Nat) (k c o : Nat), vs = [.ref d, nV k, nV c, nV o] ∧ DrA H d es ∧ gr es = grK ks kd ∧ k ∈ ks ∧ (kd k).length ≤ 1000 ∧ ks.length ≤ 1000 ∧
  ∀ H3 p, Ex H H3 → H p = none → DrA (upd H3 d (.dK (DrK (setE es (k : Int) p (((kd k).map (subN c o)).map fun (c : Nat) => (c : Int)))))) d (setE es (k : Int) p (((kd k).map (subN c o)).map fun (c : Nat) => (c : Int))) → Q .non (upd H3 d (.dK (DrK (setE es (k : Int) p (((kd k).map (subN c o)).map fun (c : Nat) => (c : Int))))))
abbrev nPfc : List Str := ["draft", "kind", "child", "other", "lower"]
theorem scPfc : FnScope nPfc ["draft", "kind", "child", "other"] (defScope s_put_for_child) := ⟨rfl, rfl, rfl, by decide +kernel, rfl, by decide +kernel, by decide +kernel⟩
def spIlk (K : PySem.W.Frag) : Sp := fun vs H Q _ => ∃ v l inner u c, vs = [v, nV u, nV c] ∧ Dp K H v (webD l inner) ∧ Raw l inner ∧ u < l + inner.length ∧ c < l + inner.length ∧ ∀ H', Ex H H' → Q (.bl (decide (c ∈ kidsAt l inner u))) H'
theorem scIlk : FnScope ["web", "parent", "child"] ["web", "parent", "child"] (defScope s_is_link) := ⟨rfl, rfl, rfl, by decide +kernel, rfl, by decide +kernel, by decide +kernel⟩
section
variable {P : Program} {w : World} {K : PySem.W.Frag} {mg : Str → Option Value} {base : Heap}
theorem ok_pfc {f : Addr} {fd : FuncData} (F : Fun K "put_for_child" "put_for_child" s_put_for_child f fd) :
    FnOk P w K mg base CX0 1 f fd ["draft", "kind", "child", "other"] (spPfc K) := by
  refine F.ok scPfc (fun vs H Q E h => ?_) (fun cdv A outer s H vs Q E hr h => ?_)
  · obtain ⟨d, es, ks, kd, k, c, o, rfl, _⟩ := h
    rfl
  obtain ⟨d, es, ks, kd, k, c, o, rfl, hd, hg, hk, hl, hkl, q⟩ := h
  have hu0 := hu_of hr
  refine ⟨_, pss_one (ps_dput hu0 (pv 0) (pv 1) (pe_lc (own := [("lower", 4)]) (g := gName 4) (tt := tYes) (te := tIf (tTest (tOp rEq (tVar 4) (tVar 2))) (tVar 3) (tVar 4)) rfl scPfc.nd (pi_list (pe_dget hu0 (pv 0) (pv 1) (fun _ _ => rfl))) (blkOk_by (N := nPfc) (sc := defScope s_put_for_child) (by decide +kernel))
    (fun _ _ _ _ _ => pg_name (i := 4) scPfc.nd rfl (Or.inl rfl)) (fun _ _ _ _ _ => pts_nil) (fun _ _ _ _ _ => pe_ifExp (pt_cmpR op_eq (pv 4) (pv 2) (nomark _)) (pv 3) (pv 4))) rfl), ?_⟩
  obtain ⟨x, hx, hx1, hx2, hx3⟩ := dr_un hd.b hg hk
  have hL := en_natMap (K := K) (σ := [some (.ref d), some (nV k), some (nV c), some (nV o), none]) (j := 4) (vs := [4]) (te := tIf (tTest (tOp rEq (tVar 4) (tVar 2))) (tVar 3) (tVar 4)) (wi := iList K (tDGet (tVar 0) (tVar 1))) (ks := kd k) (fun y => natD (subN c o y)) (src_L (fun H8 e8 Q q => (ev_dr (ev_var rfl) (ev_var rfl) (.inl hd.dict) hd.b.kn hx hx1) H8 e8 Q fun H9 e9 => q _ H9 e9 (.lst (sq_of (e9 _ _ (e8 _ _ hx3))) (dpAll_nat _)))) (by omega) (fun _ => rfl) (fun y H1 e1 hy => by
    refine ed_if (b := decide (y = c)) (et_test (ev_is (ev_op (x := nV y) (y := nV c) (ev_var rfl) (ev_var rfl) (rv_eq rfl)) ?_)) (fun hb => ?_) fun hb => ?_
    · show V.bl (decide (V.int (y : Int) = V.int (c : Int))) = V.bl (decide (y = c))
      congr 1
      exact decide_eq_decide.mpr ⟨fun z => by have := V.int.inj z; omega, fun z => by rw [z]⟩
    · have := of_decide_eq_true hb
      unfold subN
      rw [if_pos this]
      exact ed_i (ev_var rfl)
    · have := of_decide_eq_false hb
      unfold subN
      rw [if_neg this]
      exact ed_i (ev_var rfl)) (fun _ _ => rfl)
  refine hL H (Ex.refl H) _ fun p xs H1 hp e1 hxs hdx => ?_
  have exs : xs = nVs ((kd k).map (subN c o)) := nats_of (K := K) (by
    unfold natDs
    rw [List.map_map]
    exact hdx)
  subst exs
  refine (ev_var rfl : Ev (tVar 0) _ H1 (.ref d)) H1 (Ex.refl _) _ fun H2 e2 => (ev_var rfl : Ev (tVar 1) _ H1 (nV k)) H2 e2 _ fun H3 e3 => ?_
  have e13 := (e1.trans e2).trans e3
  refine ⟨d, _, rfl, DPut.k (k := Sum.inl (k : Int)) (e13 _ _ hd.dict) (sz_lt (by rw [List.length_map]; have := gr_len hg; omega)), ?_⟩
  have hA := hd.setE (k := (k : Int)) (p := p) (xs := ((kd k).map (subN c o)).map fun (c : Nat) => (c : Int)) e13 hp (by rw [nvs_map]; exact e3 _ _ (e2 _ _ hxs))
  rw [setE_put (xs := ((kd k).map (subN c o)).map fun (c : Nat) => (c : Int)) ⟨x, hx, hx1⟩]
  exact q H3 p e13 hp hA
theorem ok_islink {f fB fR fC : Addr} {fd fdB fdR fdC : FuncData} (F : Fun K "is_link" "is_link" s_is_link f fd)
    (FB : Fun K "is_between" "is_between" sBetw fB fdB) (bB : Binds K fdB ["value", "low", "high"] []) (gB : mg "is_between" = some (.ref fB))
    (FR : Fun K "root" "root" sRoot fR fdR) (bR : Binds K fdR ["web"] []) (gR : mg "root" = some (.ref fR))
    (FC : Fun K "children" "children" sKids fC fdC) (bC : Binds K fdC ["web", "kind"] []) (gC : mg "children" = some (.ref fC))
    (GB : FnOk P w K mg base CX0 2 fB fdB ["value", "low", "high"] (spD K (f3 gBetw)))
    (GR : FnOk P w K mg base CX0 1 fR fdR ["web"] (spW K fun l inner => natD (topN l inner)))
    (GC : FnOk P w K mg base CX0 1 fC fdC ["web", "kind"] (spWK K fun l inner k => kidsD (kidsAt l inner k))) :
    FnOk P w K mg base CX0 3 f fd ["web", "parent", "child"] (spIlk K) := by
  refine F.ok scIlk (fun vs H Q E h => ?_) (fun cdv A outer s H vs Q E hr h => ?_)
  · obtain ⟨v, l, inner, u, c, rfl, _⟩ := h
    rfl
  obtain ⟨v, l, inner, u, c, rfl, hv, hw, hu, hc, q⟩ := h
  have r1 := hr.mono (show 1 ≤ 2 by decide)
  refine ⟨_, pss_cons (ps_if (pw_or (pt_not (pt_val (pe_call GB hr (by rfl) gB FB.kp bB .nil pass0 (pa_cons (pv 1) (pa_cons pe_int (pa_cons (pe_call GR r1 (by rfl) gR FR.kp bR .nil pass0 (pa_cons (pv 0) pa_nil)) pa_nil))))))
      (pw_or1 (pt_not (pt_val (pe_call GB hr (by rfl) gB FB.kp bB .nil pass0 (pa_cons (pv 2) (pa_cons pe_int (pa_cons (pe_call GR r1 (by rfl) gR FR.kp bR .nil pass0 (pa_cons (pv 0) pa_nil)) pa_nil)))))))).pt (pss_one (ps_ret pe_bl)) pss_nil)
    (pss_one (ps_ret (pe_cmpR (r := rIn K false) op_in_seq (pv 2) (pe_call GC r1 (by rfl) gC FC.kp bC .nil pass0 (pa_cons (pv 0) (pa_cons (pv 1) pa_nil))) rfl))), ?_⟩
  have hb : ∀ (i k : Nat) (H1 : Hp), ([some v, some (nV u), some (nV c)] : L2.St)[i]? = some (some (nV k)) → k < l + inner.length → Ex H H1 → EvT (tNot (tB (tCall (spD K (f3 gBetw)) [] E0 (tCons (tVar i) (tCons (tC (.int 0)) (tCons (tCall (spW K fun l inner => natD (topN l inner)) [] E0 (tCons (tVar 0) tNil)) tNil)))))) [some v, some (nV u), some (nV c)] H1 false := fun i k H1 hi hk e1 => by
    have hR : EvD K (tCall (spW K fun l inner => natD (topN l inner)) [] E0 (tCons (tVar 0) tNil)) [some v, some (nV u), some (nV c)] H1 (natD (topN l inner)) := ed_callW (g := fun l inner => natD (topN l inner)) (ed_var rfl (dp_ex e1 _ hv)) hw
    have hx : EvD K (tVar i) [some v, some (nV u), some (nV c)] H1 (natD k) := ed_i (ev_var hi)
    refine et_is (et_not (a := true) (et_B (ev_b (K := K) (ed_call (ds := [natD k, .int 0, natD (topN l inner)]) (eda_cons hx (eda_cons (ed_i ev_c) (eda_cons hR eda_nil))) ?_)))) rfl
    show some (PyData.bool (decide ((0 : Int) ≤ (k : Int)) && decide ((k : Int) ≤ ((topN l inner : Nat) : Int)))) = some (.bool true)
    rw [decide_eq_true (by omega), decide_eq_true (by unfold topN; omega)]
    rfl
  refine q_when (b := false) (et_is (et_or (b := false) (hb 1 u H rfl hu (Ex.refl H)) fun _ => hb 2 c H rfl hc (Ex.refl H)) rfl) (fun z => by cases z) fun _ H1 e1 => ?_
  refine s_ret (v := .bl (decide (c ∈ kidsAt l inner u))) ?_ fun H2 e2 => q H2 (e1.trans e2)
  refine ev_is (ev_inKd (K := K) (ed_i (ev_var rfl)) (ed_callWK (g := fun l inner k => kidsD (kidsAt l inner k)) (ed_var rfl (dp_ex e1 _ hv)) (ed_i (ev_var rfl)) hw hu)) rfl
end
end WR
set_option Elab.async false
set_option linter.all false
set_option maxRecDepth 100000
set_option maxHeartbeats 1000000
namespace WR
open PySem PySem.Spec PyProof.Rows L2 Evl

/-! ### NoLink(word, number) -/
def initOfK : Stmt → Stmt
  | .ClassDef _ _ _ (b :: _) _ _ _ _ _ _ _ => b
  | s => s
abbrev sKinit : Stmt := initOfK s_NoLink
def spKinit (K : PySem.W.Frag) (C : Addr) : Sp := fun vs H Q _ => ∃ a x y, vs = [.ref a, x, y] ∧ H a = some (exo a C none) ∧ ∀ d, H d = none → d ≠ a → Q .non (upd (upd (upd H d (exd d [("parent", x)])) a (exo a C (some d))) d (exd d [("child", y), ("parent", x)]))
theorem scKinit : FnScope ["self", "parent", "child"] ["self", "parent", "child"] (defScope sKinit) := ⟨rfl, rfl, rfl, by decide +kernel, rfl, by decide +kernel, by decide +kernel⟩
section
variable {P : Program} {w : World} {K : PySem.W.Frag} {mg : Str → Option Value} {base : Heap}
theorem ok_kinit {f C : Addr} {fd : FuncData} (F : Fun K "__init__" "NoLink.__init__" sKinit f fd) (T : OexC K C) (n1 : PySem.W.findIn K (.ref C) "parent" = some none) (n2 : PySem.W.findIn K (.ref C) "child" = some none) :
    FnOk P w K mg base CX0 1 f fd ["self", "parent", "child"] (spKinit K C) := by
  refine F.ok scKinit (fun vs H Q E h => ?_) (fun cdv A outer s H vs Q E hr h => ?_)
  · obtain ⟨a, x, y, rfl, _⟩ := h
    rfl
  obtain ⟨a, x, y, rfl, ha, q⟩ := h
  refine ⟨_, pss_cons (ps_ost (f := "parent") (pv 0) (pv 1)) (pss_one (ps_ost (f := "child") (pv 0) (pv 2))), ?_⟩
  refine ⟨x, rfl, .ref a, rfl, a, C, rfl, T, n1, Or.inl ⟨ha, fun d hd hne => ?_⟩⟩
  refine ⟨y, rfl, .ref a, rfl, a, C, rfl, T, n2, Or.inr ⟨d, [("parent", x)], upd_same, ?_, by show 1 ≤ 900; decide, q d hd hne⟩⟩
  rw [upd_ne hne]
  exact upd_same
end
/-- raise NoLink(..): what it wants -/
theorem ra_lk {K : PySem.W.Frag} {C : Addr} {ta : TA} {σ : L2.St} {H : Hp} {Q : XK} {x y : V} (ha : EvA ta σ H [x, y]) (k : ∀ d H', Ex H H' → H' d = some (.xd [("child", y), ("parent", x)]) → Q (.ref C) (some d) H') : tMkO C (spKinit K C) [] ta σ H Q :=
  ha H (Ex.refl H) _ fun H1 e1 => ⟨by show 2 ≤ 1000; decide, fun a hna => ⟨a, x, y, rfl, upd_same, fun d hd hne => ⟨rfl, d, [("child", y), ("parent", x)], by rw [upd_ne (Ne.symm hne)]; exact upd_same, upd_same, by rw [upd_ne hne] at hd; exact hd, k d _ (fun b o hb => by
    have hb1 := e1 b o hb
    have hba : b ≠ a := fun z => by rw [z, hna] at hb1; cases hb1
    have hbd : b ≠ d := fun z => by rw [z] at hb1; rw [upd_ne hne] at hd; rw [hd] at hb1; cases hb1
    rw [upd_ne hbd, del_ne hba, upd_ne hbd, upd_ne hba, upd_ne hbd, upd_ne hba]
    exact hb1) upd_same⟩⟩⟩
section
variable {X : Cx} {C fI : Addr} {fd : FuncData} {k : Nat} {W : WX}
theorem ps_raiseLk {a b : Expr} {ta : TA} {p pos pos2 : Pos} (hc : X.calm = true) (T : OexC X.K C) (iC : PySem.W.findIn X.K (.ref C) "__init__" = some (some (.ref fI))) (tI : PySem.W.typeIn X.K (.ref fI) = some (.type "function"))
    (F1 : FnOk X.prog X.w X.K X.mg X.base CX0 1 fI fd ["self", "parent", "child"] (spKinit X.K C)) (bI : Binds X.K fd ["self", "parent", "child"] []) (hm : X.mg "NoLink" = some (.ref C)) (hr : Room k X.A) (hk : 2 ≤ k) (tk : Takes X W) (ha : PA X [a, b] ta) (hg : Gl X "NoLink" := by rfl)
    (he : starEach (a :: [b]) X.env = (false, eval a X.env) :: starEach [b] X.env := by rfl) (hpl : (backTo pos (starEach [b] X.env)).any (·.1) = false := by rfl) :
    PS X (.Raise (some (.Call (.Name "NoLink" p) [a, b] [] pos)) none pos2) (fun _ σ H => tMkO C (spKinit X.K C) [] ta σ H fun cls d H' => W cls d σ H') :=
  ps_raise hc tk (pmk_oex T iC tI F1 (hr.mono hk) bI .nil pass0 hg hm ha (by decide) he hpl)
end
end WR
set_option Elab.async false
set_option linter.all false
set_option maxRecDepth 100000
set_option maxHeartbeats 1000000
namespace WR
open PySem PySem.Spec PyProof.Rows L2 Evl

/-! ### webs with equal rows have a match -/
section
variable {l : Nat} {A : List (List Nat)} (W : WebP l A)
include W
theorem cod1_rch {k t : Nat} (h : Rch (kkOf l A) k t) : t = k ∨ HT.lexLt (cod1 l A t) (cod1 l A k) = true :=
  h (fun y => y = k ∨ HT.lexLt (cod1 l A y) (cod1 l A k) = true) (.inl rfl) fun u c hu hc => by
    rw [rowAt_kk] at hc
    have h1 := cod1_kid W hc
    rcases hu with rfl | hu
    · exact .inr h1
    · exact .inr (lex_trans h1 hu)
/-- the ways to k's leaf go by k -/
theorem way_leafof {k : Nat} (hk : k < l + A.length) : ∀ {u : Nat}, u < l + A.length → u ∉ roadN l A k → way (avoid (kidsAt l A) k) ((roadN l A k).getLastD 0) u = 0 := fun {u} => by
  induction u using Nat.strongRecOn with
  | _ u ih =>
    intro hu hn
    have hx := (leafof W hk).2.1
    rw [way_rec (fun c hc => avoid_lt (hdN W) k u c hc), if_neg fun z => hn (by rw [z]; exact hx), Int.add_zero]
    refine Int.le_antisymm ?_ (sum_nn fun n hn' => ?_)
    · have hz : ∀ n ∈ (avoid (kidsAt l A) k u).map (way (avoid (kidsAt l A) k) ((roadN l A k).getLastD 0)), n ≤ 0 := fun n hn' => by
        obtain ⟨c, hc, rfl⟩ := List.mem_map.mp hn'
        have hc' := List.mem_filter.mp hc
        have hck := of_decide_eq_true hc'.2
        have hcu := (kidsAt_lt W.raw hc'.1).2
        refine Int.le_of_eq (ih c hcu (by omega) fun hcr => ?_)
        obtain ⟨p, hp, hpc, hp1⟩ := roadL_par (b := k) (q := fun p x => x ∈ kidsAt l A p ∧ (parsAt l A x).length ≤ 1) (fun u a b => nxt_lt W a (by omega)) (fun u a b => nxt_ok W a (by omega)) (Nat.le_refl k) c hcr hck
        have hpl := roadN_le W hk p hp
        have e1 : u ∈ parsAt l A c := mem_pars.mpr ⟨hu, hc'.1⟩
        have e2 : p ∈ parsAt l A c := mem_pars.mpr ⟨by omega, hpc⟩
        have : u = p := by
          cases e : parsAt l A c with
          | nil =>
            rw [e] at e1
            cases e1
          | cons a r =>
            rw [e] at hp1 e1 e2
            have hr : r = [] := List.length_eq_zero_iff.mp (by rw [List.length_cons] at hp1; omega)
            subst hr
            rw [List.mem_singleton.mp e1, List.mem_singleton.mp e2]
        exact hn (this ▸ hp)
      have := sum_le_mul (B := 0) hz
      omega
    · obtain ⟨c, _, rfl⟩ := List.mem_map.mp hn'
      exact way_nn (avoid_lt (hdN W) k) _
end
/-- kinds put upon kinds: rows and their order stay -/
structure Mt (l : Nat) (A B : List (List Nat)) (m m' : Nat → Nat) : Prop where
  to : ∀ k, k < l + A.length → m k < l + B.length ∧ m' (m k) = k
  back : ∀ k, k < l + B.length → m' k < l + A.length ∧ m (m' k) = k
  row : ∀ k, k < l + A.length → rowI l B (m k) = rowI l A k
  ord : ∀ a b, a < l + A.length → b < l + A.length → HT.lexLt (cod1 l A a) (cod1 l A b) = HT.lexLt (cod1 l B (m a)) (cod1 l B (m b))
theorem Mt.flip {l : Nat} {A B : List (List Nat)} {m m' : Nat → Nat} (h : Mt l A B m m') : Mt l B A m' m :=
  ⟨h.back, h.to, fun k hk => by
    obtain ⟨a, b⟩ := h.back k hk
    rw [← h.row _ a, b], fun a b ha hb => by
    obtain ⟨a1, a2⟩ := h.back a ha
    obtain ⟨b1, b2⟩ := h.back b hb
    rw [h.ord _ _ a1 b1, a2, b2]⟩
theorem row_way {l k x : Nat} {A : List (List Nat)} (h : x < l) : (rowI l A k)[x]? = some (way (kidsAt l A) x k) := by
  unfold rowI
  rw [List.getElem?_map, List.getElem?_range h]
  rfl
theorem row_ways {l a b x : Nat} {A B : List (List Nat)} (e : rowI l B b = rowI l A a) (h : x < l) : way (kidsAt l B) x b = way (kidsAt l A) x a := by
  have h1 := row_way (A := B) (k := b) h
  rw [e, row_way h] at h1
  exact (Option.some.inj h1).symm
section
variable {l : Nat} {A B : List (List Nat)} {m m' : Nat → Nat} (W : WebP l A) (V' : WebP l B) (M : Mt l A B m m')
include W V' M
theorem way_mt_le {u k : Nat} (hu : u < l + A.length) (hk : k < l + A.length) : way (kidsAt l B) (m k) (m u) ≤ way (kidsAt l A) k u := by
  by_cases e : u = k
  · subst e
    rw [way_one (hdN W), way_one (hdN V')]
    exact Int.le_refl _
  have hne : m u ≠ m k := fun z => e (by
    have := congrArg m' z
    rw [(M.to u hu).2, (M.to k hk).2] at this
    exact this)
  have hmu := (M.to u hu).1
  have hmk := (M.to k hk).1
  by_cases hr : u ∈ roadN l A k
  · have h1 := road_rch W hk hr
    have h2 := cod1_rch W h1
    rcases h2 with h2 | h2
    · exact absurd h2 e
    · rw [M.ord u k hu hk] at h2
      by_cases z : 0 < way (kidsAt l B) (m k) (m u)
      · have h3 := cod1_rch V' ((way_pos V').mp z)
        rcases h3 with h3 | h3
        · exact absurd h3.symm hne
        · rw [lex_asymm h2] at h3
          cases h3
      · have := way_nn (kf := kidsAt l A) (to := k) (hdN W) u
        omega
  · obtain ⟨hx, hxr, hx1⟩ := leafof W hk
    generalize hxe : (roadN l A k).getLastD 0 = x at hx hxr hx1
    have s1 := way_split (hdN W) (g := k) (to := x) e
    rw [← hxe, way_leafof W hk hu hr, Int.add_zero, hxe] at s1
    have s2 := way_split (hdN V') (g := m k) (to := x) hne
    rw [row_ways (M.row u hu) hx, row_ways (M.row k hk) hx] at s2
    have hnn := way_nn (kf := avoid (kidsAt l B) (m k)) (to := x) (avoid_lt (hdN V') (m k)) (m u)
    have hle : way (kidsAt l B) (m k) (m u) * way (kidsAt l A) x k ≤ way (kidsAt l A) k u * way (kidsAt l A) x k := by omega
    exact Int.le_of_mul_le_mul_right hle (by omega)
end
section
variable {l : Nat} {A B : List (List Nat)} {m m' : Nat → Nat} (W : WebP l A) (V' : WebP l B) (M : Mt l A B m m')
include W V' M
theorem way_mt {u k : Nat} (hu : u < l + A.length) (hk : k < l + A.length) : way (kidsAt l B) (m k) (m u) = way (kidsAt l A) k u := by
  refine Int.le_antisymm (way_mt_le W V' M hu hk) ?_
  have h := way_mt_le V' W M.flip (M.to u hu).1 (M.to k hk).1
  rw [(M.to u hu).2, (M.to k hk).2] at h
  exact h
end
/-! sums over kinds -/
def ind (ks : List Nat) (d : Nat) : Int := if d ∈ ks then 1 else 0
theorem sum_map_add {α : Type} {f g : α → Int} : ∀ {xs : List α}, (xs.map fun x => f x + g x).sum = (xs.map f).sum + (xs.map g).sum
  | [] => rfl
  | x :: r => by
    simp only [List.map_cons, List.sum_cons, sum_map_add (xs := r)]
    omega
theorem sum_zero {α : Type} {f : α → Int} : ∀ {xs : List α}, (∀ x ∈ xs, f x = 0) → (xs.map f).sum = 0
  | [], _ => rfl
  | x :: r, h => by
    rw [List.map_cons, List.sum_cons, h x (List.mem_cons_self ..), sum_zero fun y hy => h y (List.mem_cons_of_mem _ hy)]
    rfl
theorem sum_single {f : Nat → Int} {c : Nat} : ∀ {xs : List Nat}, xs.Nodup → c ∈ xs → (∀ x ∈ xs, x ≠ c → f x = 0) → (xs.map f).sum = f c
  | x :: r, hn, hc, h => by
    rw [List.nodup_cons] at hn
    rw [List.map_cons, List.sum_cons]
    by_cases z : x = c
    · subst z
      rw [sum_zero fun y hy => h y (List.mem_cons_of_mem _ hy) fun w => hn.1 (w ▸ hy), Int.add_zero]
    · rw [h x (List.mem_cons_self ..) z, Int.zero_add]
      exact sum_single hn.2 (by
        rcases List.mem_cons.mp hc with y | y
        · exact absurd y.symm z
        · exact y) fun y hy => h y (List.mem_cons_of_mem _ hy)
theorem sum_ind {f : Nat → Int} {xs : List Nat} (hx : xs.Nodup) : ∀ {ks : List Nat}, ks.Nodup → (∀ c ∈ ks, c ∈ xs) → (ks.map f).sum = (xs.map fun d => ind ks d * f d).sum
  | [], _, _ => by
    rw [sum_zero (xs := xs) fun d _ => ?_]
    · rfl
    · unfold ind
      rw [if_neg (by simp), Int.zero_mul]
  | c :: r, hn, hc => by
    rw [List.nodup_cons] at hn
    rw [List.map_cons, List.sum_cons, sum_ind hx hn.2 fun d hd => hc d (List.mem_cons_of_mem _ hd)]
    have h1 : (xs.map fun d => (if d = c then 1 else 0) * f d).sum = f c := by
      rw [sum_single hx (hc c (List.mem_cons_self ..)) fun d _ hd => by rw [if_neg hd, Int.zero_mul], if_pos rfl, Int.one_mul]
    rw [← h1, ← sum_map_add]
    congr 1
    refine List.map_congr_left fun d _ => ?_
    unfold ind
    by_cases z : d = c
    · rw [if_pos z, if_neg (fun y => hn.1 (z ▸ y)), if_pos (List.mem_cons.mpr (.inl z)), Int.zero_mul, Int.add_zero]
    · rw [if_neg z, Int.zero_mul, Int.zero_add]
      by_cases y : d ∈ r
      · rw [if_pos y, if_pos (List.mem_cons_of_mem _ y)]
      · rw [if_neg y, if_neg (fun w => by
          rcases List.mem_cons.mp w with w | w
          · exact z w
          · exact y w)]
theorem sum_permI {xs ys : List Int} (h : xs.Perm ys) : xs.sum = ys.sum := by
  induction h with
  | nil => rfl
  | cons x _ ih => rw [List.sum_cons, List.sum_cons, ih]
  | swap x y l => simp only [List.sum_cons]; omega
  | trans _ _ ih1 ih2 => exact ih1.trans ih2
theorem kids_nodup {l u : Nat} {A : List (List Nat)} (W : WebP l A) : (kidsAt l A u).Nodup := by
  have := W.gen.nd u
  rw [rowAt_kk] at this
  exact this
section
variable {l : Nat} {A B : List (List Nat)} {m m' : Nat → Nat} (W : WebP l A) (V' : WebP l B) (M : Mt l A B m m')
include W V' M
theorem Mt.same : A.length = B.length := by
  have h1 : ((List.range (l + A.length)).map m).length ≤ l + B.length := nodup_len _ _ (by
    refine List.pairwise_map.mpr ((List.nodup_range (n := l + A.length)).imp_of_mem fun {a b} ha hb hab z => hab ?_)
    have := congrArg m' z
    rw [(M.to a (List.mem_range.mp ha)).2, (M.to b (List.mem_range.mp hb)).2] at this
    exact this) (fun c hc => by
    obtain ⟨k, hk, rfl⟩ := List.mem_map.mp hc
    exact (M.to k (List.mem_range.mp hk)).1)
  have h2 : ((List.range (l + B.length)).map m').length ≤ l + A.length := nodup_len _ _ (by
    refine List.pairwise_map.mpr ((List.nodup_range (n := l + B.length)).imp_of_mem fun {a b} ha hb hab z => hab ?_)
    have := congrArg m z
    rw [(M.back a (List.mem_range.mp ha)).2, (M.back b (List.mem_range.mp hb)).2] at this
    exact this) (fun c hc => by
    obtain ⟨k, hk, rfl⟩ := List.mem_map.mp hc
    exact (M.back k (List.mem_range.mp hk)).1)
  rw [List.length_map, List.length_range] at h1 h2
  omega
theorem Mt.perm : ((List.range (l + A.length)).map m).Perm (List.range (l + B.length)) := by
  refine (List.perm_ext_iff_of_nodup ?_ List.nodup_range).mpr fun c => ?_
  · refine List.pairwise_map.mpr ((List.nodup_range (n := l + A.length)).imp_of_mem fun {a b} ha hb hab z => hab ?_)
    have := congrArg m' z
    rw [(M.to a (List.mem_range.mp ha)).2, (M.to b (List.mem_range.mp hb)).2] at this
    exact this
  · rw [List.mem_range]
    constructor
    · intro h
      obtain ⟨k, hk, rfl⟩ := List.mem_map.mp h
      exact (M.to k (List.mem_range.mp hk)).1
    · intro h
      obtain ⟨a, b⟩ := M.back c h
      exact List.mem_map.mpr ⟨_, List.mem_range.mpr a, b⟩
/-- children go to children -/
theorem kid_mt {u : Nat} (hu : u < l + A.length) : ∀ {c : Nat}, c < l + A.length → ind (kidsAt l A u) c = ind (kidsAt l B (m u)) (m c) := fun {c} => by
  have key : ∀ j c, c < l + A.length → l + A.length - c = j → ind (kidsAt l A u) c = ind (kidsAt l B (m u)) (m c) := fun j => by
    induction j using Nat.strongRecOn with
    | _ j ih =>
      intro c hc hj
      have hmu := (M.to u hu).1
      have hmc := (M.to c hc).1
      by_cases e : u = c
      · subst e
        have h1 : u ∉ kidsAt l A u := fun z => by have := (kidsAt_lt W.raw z).2; omega
        have h2 : m u ∉ kidsAt l B (m u) := fun z => by have := (kidsAt_lt V'.raw z).2; omega
        unfold ind
        rw [if_neg h1, if_neg h2]
      have hne : m u ≠ m c := fun z => e (by
        have := congrArg m' z
        rw [(M.to u hu).2, (M.to c hc).2] at this
        exact this)
      have a1 := way_rec (to := c) (hdN W u)
      rw [if_neg e, Int.add_zero, sum_ind (f := way (kidsAt l A) c) (xs := List.range (l + A.length)) List.nodup_range (kids_nodup W) fun d hd => List.mem_range.mpr (by have := (kidsAt_lt W.raw hd).2; omega)] at a1
      have b1 := way_rec (to := m c) (hdN V' (m u))
      rw [if_neg hne, Int.add_zero, sum_ind (f := way (kidsAt l B) (m c)) (xs := List.range (l + B.length)) List.nodup_range (kids_nodup V') fun d hd => List.mem_range.mpr (by have := (kidsAt_lt V'.raw hd).2; omega)] at b1
      rw [← sum_permI ((Mt.perm W V' M).map _), List.map_map, way_mt W V' M hu hc, a1] at b1
      have b2 : ((List.range (l + A.length)).map fun d => ind (kidsAt l A u) d * way (kidsAt l A) c d + -(ind (kidsAt l B (m u)) (m d) * way (kidsAt l B) (m c) (m d))).sum = 0 := by
        rw [sum_map_add]
        have hneg : ∀ xs : List Nat, (xs.map fun d => -(ind (kidsAt l B (m u)) (m d) * way (kidsAt l B) (m c) (m d))).sum = -(xs.map ((fun d => ind (kidsAt l B (m u)) d * way (kidsAt l B) (m c) d) ∘ m)).sum := fun xs => by
          induction xs with
          | nil => rfl
          | cons x r ih =>
            rw [List.map_cons, List.map_cons, List.sum_cons, List.sum_cons, ih]
            show -(ind (kidsAt l B (m u)) (m x) * way (kidsAt l B) (m c) (m x)) + _ = -(ind (kidsAt l B (m u)) (m x) * way (kidsAt l B) (m c) (m x) + _)
            omega
        rw [hneg, ← b1]
        omega
      rw [sum_single (c := c) List.nodup_range (List.mem_range.mpr hc) fun d hd hdc => ?_] at b2
      · rw [way_one (hdN W), way_one (hdN V')] at b2
        omega
      · have hd := List.mem_range.mp hd
        rw [way_mt W V' M hd hc]
        by_cases z : d < c
        · rw [way_up (hdN W) z, Int.mul_zero, Int.mul_zero]
          rfl
        · rw [ih (l + A.length - d) (by omega) d hd rfl]
          omega
  exact fun h => key _ c h rfl
end
end WR
set_option Elab.async false
set_option linter.all false
set_option maxRecDepth 100000
set_option maxHeartbeats 2000000
namespace WR
open PySem PySem.Spec PyProof.Rows L2 Evl

/-! ### struck -/
/-- thin kinds taken out, one by one -/
inductive Outs (L : Nat) (ks : List Nat) (K : Nat → List Nat) : List Nat → (Nat → List Nat) → Prop
  | refl : Outs L ks K ks K
  | step {ks1 : List Nat} {K1 : Nat → List Nat} {t b : Nat} : Outs L ks K ks1 K1 → t ∈ ks1 → L ≤ t → K1 t = [b] → pcK ks1 K1 t ≤ 1 → Outs L ks K (ks1.erase t) (outK K1 t b)
theorem Outs.dg {L : Nat} {ks : List Nat} {K : Nat → List Nat} {ks1 : List Nat} {K1 : Nat → List Nat} (h : Outs L ks K ks1 K1) (D : Dg L ks K) : Dg L ks1 K1 := by
  induction h with
  | refl => exact D
  | step _ h1 h2 h3 h4 ih => exact ih.out h1 h2 h3 h4
/-- what struck's web is -/
def StrOut (l : Nat) (W : List (List Nat)) (u c : Nat) (X : List (List Nat)) : Prop := ∃ ks K, Outs l (List.range (l + W.length)) (cutK (kidsAt l W) u c) ks K ∧ Dg l ks K ∧ ks.find? (thinB ks K) = none ∧ NumD (kkD ks K) l X
theorem pc_web {l : Nat} {W : List (List Nat)} {c : Nat} : pcK (List.range (l + W.length)) (kidsAt l W) c = (parsAt l W c).length := by
  unfold pcK parsAt
  rw [List.countP_eq_length_filter]
theorem dg_web {l : Nat} {W : List (List Nat)} (w : WebP l W) : Dg l (List.range (l + W.length)) (kidsAt l W) := by
  have h1 := w.raw.l1
  have h8 := w.raw.l8
  have h20 := w.raw.n20
  refine ⟨List.nodup_range, h1, h8, by rw [List.length_range]; omega, fun i hi => List.getElem?_range (by omega), fun k hk c hc => List.mem_range.mpr (kidsAt_lt w.raw hc).1, fun k hk => kidsAt_leaf hk, fun k hk => kids_nodup w, ⟨id, fun u hu c hc => (kidsAt_lt w.raw hc).2⟩, fun k hk => by rw [pc_web]; exact w.lf1 k hk, fun u hu hL => ?_, fun u hu h => ?_, ⟨topN l W, List.mem_range.mpr (by unfold topN; omega), fun k hk => ?_⟩⟩
  · obtain ⟨c, hc, hc1⟩ := w.bare u hL (List.mem_range.mp hu)
    exact ⟨c, hc, by rw [pc_web]; exact hc1⟩
  · rw [pc_web] at h
    exact w.mix u (List.mem_range.mp hu) h
  · rw [pc_web, List.length_eq_zero_iff, w.root k (List.mem_range.mp hk)]
    unfold topN
    omega
theorem Dg.small {L : Nat} {ks : List Nat} {K : Nat → List Nat} (D : Dg L ks K) {k : Nat} (hk : k ∈ ks) : (K k).length ≤ 28 := by
  have h1 := nodup_len ks.length ((K k).map fun c => plc c ks) (List.pairwise_map.mpr ((D.knd k hk).imp_of_mem fun {a b} ha hb h z => h (plc_inj (D.cl k hk a ha) (D.cl k hk b hb) z))) fun c hc => by
    obtain ⟨y, hy, rfl⟩ := List.mem_map.mp hc
    exact plc_lt (D.cl k hk y hy)
  rw [List.length_map] at h1
  have := D.n20
  have := D.l8
  omega
theorem flat_small {K : Nat → List Nat} : ∀ {ks : List Nat}, (∀ k ∈ ks, (K k).length ≤ 28) → (ks.flatMap K).length ≤ 28 * ks.length
  | [], _ => Nat.zero_le _
  | k :: r, h => by
    have h1 := h k List.mem_cons_self
    have h2 := flat_small (ks := r) fun x hx => h x (List.mem_cons_of_mem _ hx)
    rw [List.flatMap_cons, List.length_append, List.length_cons]
    omega
theorem thin_at {ks : List Nat} {K : Nat → List Nat} {t : Nat} (h : ks.find? (thinB ks K) = some t) : t ∈ ks ∧ (∃ b, K t = [b]) ∧ pcK ks K t ≤ 1 := by
  have h1 := List.find?_some h
  unfold thinB at h1
  rw [Bool.and_eq_true, decide_eq_true_iff, decide_eq_true_iff] at h1
  exact ⟨List.mem_of_find?_eq_some h, List.length_eq_one_iff.mp h1.1, by omega⟩
theorem Dg.gdN {L : Nat} {ks : List Nat} {K : Nat → List Nat} (D : Dg L ks K) (h : ks.find? (thinB ks K) = none) : Gd L ks K := D.gd fun u hu h1 => by
  have := List.find?_eq_none.mp h u hu
  unfold thinB at this
  rw [Bool.and_eq_true, decide_eq_true_iff, decide_eq_true_iff] at this
  refine Classical.byContradiction fun z => this ⟨h1, by omega⟩
/-- another list in the place of one -/
def chgE (es : List Ent) (k : Int) (xs : List Int) : List Ent := es.map fun x => if x.1 = k then (x.1, x.2.1, xs) else x
theorem chgE_dr {es : List Ent} {k : Int} {xs : List Int} : DrK (chgE es k xs) = DrK es := by
  unfold chgE DrK
  rw [List.map_map]
  refine List.map_congr_left fun x _ => ?_
  show (Sum.inl (if x.1 = k then (x.1, x.2.1, xs) else x).1, V.ref (if x.1 = k then (x.1, x.2.1, xs) else x).2.1) = _
  split <;> rfl
theorem chgE_ad {es : List Ent} {k : Int} {xs : List Int} : ((chgE es k xs).map fun e => e.2.1) = es.map fun e => e.2.1 := by
  unfold chgE
  rw [List.map_map]
  refine List.map_congr_left fun x _ => ?_
  show (if x.1 = k then (x.1, x.2.1, xs) else x).2.1 = _
  split <;> rfl
theorem chgE_keys {es : List Ent} {k : Int} {xs : List Int} : ((chgE es k xs).map fun e => e.1) = es.map fun e => e.1 := by
  unfold chgE
  rw [List.map_map]
  refine List.map_congr_left fun x _ => ?_
  show (if x.1 = k then (x.1, x.2.1, xs) else x).1 = _
  split <;> rfl
theorem chgE_gr {es : List Ent} {ks : List Nat} {F : Nat → List Nat} {k : Nat} {G : List Nat} (h : gr es = grK ks F) : gr (chgE es (k : Int) (G.map fun (c : Nat) => (c : Int))) = grK ks fun c => if c = k then G else F c := by
  have e1 : gr (chgE es (k : Int) (G.map fun (c : Nat) => (c : Int))) = (gr es).map fun q => if q.1 = (k : Int) then (q.1, G.map fun (c : Nat) => (c : Int)) else q := by
    unfold chgE gr
    rw [List.map_map, List.map_map]
    refine List.map_congr_left fun x _ => ?_
    show ((if x.1 = (k : Int) then (x.1, x.2.1, G.map fun (c : Nat) => (c : Int)) else x).1, (if x.1 = (k : Int) then (x.1, x.2.1, G.map fun (c : Nat) => (c : Int)) else x).2.2) = if x.1 = (k : Int) then (x.1, G.map fun (c : Nat) => (c : Int)) else (x.1, x.2.2)
    split <;> rfl
  rw [e1, h]
  unfold grK
  rw [List.map_map]
  refine List.map_congr_left fun c _ => ?_
  show (if (c : Int) = (k : Int) then ((c : Int), G.map fun (c : Nat) => (c : Int)) else ((c : Int), (F c).map fun (c : Nat) => (c : Int))) = ((c : Int), (if c = k then G else F c).map fun (c : Nat) => (c : Int))
  by_cases z : c = k
  · rw [if_pos (by rw [z]), if_pos z]
  · rw [if_neg (by omega), if_neg z]
theorem DrA.chg {H : Hp} {d : Addr} {es : List Ent} {xs : List Int} (h : DrA H d es) {e : Ent} (he : e ∈ es) : DrA (L2.upd H e.2.1 (.lst (xs.map V.int))) d (chgE es e.1 xs) := by
  have hne : d ≠ e.2.1 := fun z => by
    have := h.b.at_ e he
    rw [← z, h.dict] at this
    cases this
  refine ⟨by rw [upd_ne hne, chgE_dr]; exact h.dict, fun y hy => ?_, by rw [chgE_ad]; exact h.b.rn, by rw [chgE_keys]; exact h.b.kn⟩
  unfold chgE at hy
  obtain ⟨x, hx, rfl⟩ := List.mem_map.mp hy
  by_cases z : x.1 = e.1
  · rw [if_pos z]
    have := nd_injD h.b.kn hx he z
    subst this
    exact upd_same
  · rw [if_neg z, upd_ne fun y => z (by rw [nd_injD h.b.rn hx he y])]
    exact h.b.at_ x hx
theorem plc_min {c : Nat} : ∀ {ks : List Nat} {m : Nat}, ks[m]? = some c → plc c ks ≤ m
  | [], m, h => by cases h
  | x :: r, 0, h => by
    cases h
    show (if c = c then 0 else _) ≤ 0
    rw [if_pos rfl]
    exact Nat.le_refl _
  | x :: r, m + 1, h => by
    show (if x = c then 0 else plc c r + 1) ≤ m + 1
    split
    · exact Nat.zero_le _
    · have := plc_min (ks := r) (m := m) h
      omega
theorem erase_plc {c : Nat} : ∀ {ks : List Nat}, c ∈ ks → ks.eraseIdx (plc c ks) = ks.erase c
  | x :: r, h => by
    show (x :: r).eraseIdx (if x = c then 0 else plc c r + 1) = (x :: r).erase c
    by_cases z : x = c
    · rw [if_pos z, z, List.erase_cons_head]
      rfl
    · rw [if_neg z, List.erase_cons_tail (by simpa using z), List.eraseIdx_cons_succ, erase_plc (ks := r) (by
        rcases List.mem_cons.mp h with y | y
        · exact absurd y.symm z
        · exact y)]
theorem q_rem {K : PySem.W.Frag} {σ : L2.St} {H : Hp} {ta tb : TE} {D : Ends} {tz : TS} {l : Addr} {ks : List Nat} {c : Nat} (ha : Ev ta σ H (.ref l)) (hl : H l = some (.lst (nVs ks))) (hb : Ev tb σ H (nV c)) (hc : c ∈ ks)
    (k : ∀ H1, Ex H H1 → tz D σ (upd H1 l (.lst (nVs (ks.erase c))))) : tSeq (tDrop (tBM K "list" rRemI ta (tCons tb tNil))) tz D σ H :=
  ha H (Ex.refl H) _ fun H1 e1 => ⟨.inl ⟨rfl, _, sq_of (e1 _ _ hl)⟩, hb H1 e1 _ fun H2 e2 => ⟨l, ks.map fun (c : Nat) => (c : Int), (c : Int), plc c ks, rfl, rfl, by rw [nvs_map]; exact (e1.trans e2) _ _ hl, by
    rw [List.getElem?_map, plc_get hc]
    rfl, fun m hm z => by
    rw [List.getElem?_map] at z
    obtain ⟨y, hy, hyc⟩ := Option.map_eq_some_iff.mp z
    have hyc : y = c := by omega
    subst hyc
    have := plc_min hy
    omega, by
    rw [ints_erase, erase_plc hc]
    exact k H2 (e1.trans e2)⟩⟩
def thV : Option Nat → V
  | none => .non
  | some t => nV t
def spThin2 (K : PySem.W.Frag) : Sp := fun vs H Q _ => ∃ (d : Addr) (es : List Ent) (ks : List Nat) (kd : Nat → List Nat), vs = [.ref d] ∧ DrA H d es ∧ gr es = grK ks kd ∧ ks.length ≤ 40 ∧ (∀ k ∈ ks, (kd k).Nodup ∧ (kd k).length ≤ 40) ∧ (ks.flatMap kd).length ≤ 10000 ∧
  ∀ H', Ex H H' → Q (thV (ks.find? (thinB ks kd))) H'
theorem thin2_of {K : PySem.W.Frag} : ∀ vs H (Q : VK) (E : XK), spThin2 K vs H Q E → spThin K vs H Q E := fun vs H Q E h => by
  obtain ⟨d, es, ks, kd, h1, h2, h3, h4, h5, h6, q⟩ := h
  exact ⟨d, es, ks, kd, h1, h2, h3, h4, h5, h6, fun H' e hn => by
    have := q H' e
    rw [hn] at this
    exact this, fun H' t e ht => by
    have := q H' e
    rw [ht] at this
    exact this⟩
theorem ev_notTh {σ : L2.St} {H : Hp} {te : TE} {o : Option Nat} (h : Ev te σ H (thV o)) : Ev (tNotN te) σ H (.bl o.isSome) := fun H1 e Q q => h H1 e _ fun H2 e2 => by
  have : (!decide (thV o = V.non)) = o.isSome := by
    cases o with
    | none => rfl
    | some t =>
      have : ¬ (thV (some t) = V.non) := fun z => by cases z
      rw [decide_eq_false this]
      rfl
  rw [this]
  exact q H2 e2
def dropE (es : List Ent) (t : Int) : List Ent := es.filter fun x => decide (x.1 ≠ t)
theorem dropE_dr {es : List Ent} {t : Int} : dropK (DrK es) (Sum.inl t) = DrK (dropE es t) := by
  unfold dropK dropE DrK
  rw [List.filter_map]
  congr 1
  refine List.filter_congr fun x _ => ?_
  show decide ((Sum.inl x.1 : L2.Key) ≠ Sum.inl t) = decide (x.1 ≠ t)
  exact decide_eq_decide.mpr ⟨fun h z => h (by rw [z]), fun h z => h (Sum.inl.inj z)⟩
theorem dropE_gr {es : List Ent} {ks : List Nat} {F : Nat → List Nat} {t : Nat} (h : gr es = grK ks F) (hn : ks.Nodup) : gr (dropE es (t : Int)) = grK (ks.erase t) F := by
  have e1 : gr (dropE es (t : Int)) = (gr es).filter fun p => decide (p.1 ≠ (t : Int)) := by
    unfold dropE gr
    rw [List.filter_map]
    rfl
  rw [e1, h, hn.erase_eq_filter]
  unfold grK
  rw [List.filter_map]
  congr 1
  refine List.filter_congr fun c _ => ?_
  show decide ((c : Int) ≠ (t : Int)) = (c != t)
  by_cases z : c = t
  · rw [z]
    simp
  · rw [decide_eq_true (by omega)]
    exact (bne_iff_ne.mpr z).symm
theorem DrB.drop {H : Hp} {es : List Ent} {t : Int} (h : DrB H es) : DrB H (dropE es t) :=
  ⟨fun x hx => h.at_ x (List.mem_filter.mp hx).1, h.rn.sublist ((List.filter_sublist).map _), h.kn.sublist ((List.filter_sublist).map _)⟩
theorem DrA.drop {H : Hp} {d : Addr} {es : List Ent} {t : Int} (h : DrA H d es) : DrA (L2.upd H d (.dK (DrK (dropE es t)))) d (dropE es t) :=
  ⟨upd_same, (h.b.drop (t := t)).updO h.dict fun xs z => by cases z⟩
theorem el_listD {σ : L2.St} {H : Hp} {td : TE} {d : Addr} {es : List Ent} {ks : List Nat} (hd : Ev td σ H (.ref d)) (h : H d = some (.dK (DrK es))) (hk : (es.map fun e => e.1) = kI ks) : EvL (tCB (fun xs H Q => ∃ (a : Addr) (kvs : List (Key × V)), xs = [.ref a] ∧ Rd H a (.dK kvs) ∧ ∀ p, H p = none → Q (.ref p) (L2.upd H p (.lst (kvs.map fun kv => kV kv.1)))) (tCons td tNil)) σ H (nVs ks) := fun H1 e Q q =>
  hd H1 e _ fun H2 e2 => ⟨d, DrK es, rfl, .inl ((e.trans e2) _ _ h), fun p hp => by
    have e3 : (DrK es).map (fun kv => kV kv.1) = nVs ks := by
      have h1 : (DrK es).map (fun kv => kV kv.1) = (es.map fun e => e.1).map V.int := by
        unfold DrK
        rw [List.map_map, List.map_map]
        rfl
      rw [h1, hk]
      exact nvs_map ks
    rw [e3]
    exact q p _ (fresh_back e2 hp) (e2.trans (Ex.new hp)) upd_same⟩
def spStrX (K : PySem.W.Frag) (C : Addr) : Sp := fun vs H Q E => ∃ v l inner u c, vs = [v, nV u, nV c] ∧ Dp K H v (webD l inner) ∧ WebP l inner ∧ u < l + inner.length ∧ c < l + inner.length ∧
  ((c ∈ kidsAt l inner u ∧ 2 ≤ (parsAt l inner c).length) → ∀ r X H', Ex H H' → Dp K H' r (webD l (formI l X)) → StrOut l inner u c X → Q r H') ∧
  (¬ (c ∈ kidsAt l inner u ∧ 2 ≤ (parsAt l inner c).length) → ∀ d H', Ex H H' → H' d = some (.xd [("child", nV c), ("parent", nV u)]) → E (.ref C) (some d) H')
abbrev nStr : List Str := ["web", "parent", "child", "draft", "thin", "below", "kind"]
theorem scStr : FnScope nStr ["web", "parent", "child"] (defScope s_struck) := ⟨rfl, rfl, rfl, by decide +kernel, rfl, by decide +kernel, by decide +kernel⟩
section
variable {P : Program} {w : World} {K : PySem.W.Frag} {mg : Str → Option Value} {base : Heap}
theorem ok_struck {C f fI fL fM fD fT fP fW : Addr} {fd fdI fdL fdM fdD fdT fdP fdW : FuncData} (F : Fun K "struck" "struck" s_struck f fd)
    (FL : Fun K "is_link" "is_link" s_is_link fL fdL) (bL : Binds K fdL ["web", "parent", "child"] []) (gL : mg "is_link" = some (.ref fL))
    (FM : Fun K "is_mixing" "is_mixing" sIsMix fM fdM) (bM : Binds K fdM ["web", "kind"] []) (gM : mg "is_mixing" = some (.ref fM))
    (FD : Fun K "draft_of" "draft_of" s_draft_of fD fdD) (bD : Binds K fdD ["web"] []) (gD : mg "draft_of" = some (.ref fD))
    (FT : Fun K "thin_kind" "thin_kind" s_thin_kind fT fdT) (bT : Binds K fdT ["draft"] []) (gT : mg "thin_kind" = some (.ref fT))
    (FP : Fun K "put_for_child" "put_for_child" s_put_for_child fP fdP) (bP : Binds K fdP ["draft", "kind", "child", "other"] []) (gP : mg "put_for_child" = some (.ref fP))
    (FW : Fun K "web_of_draft" "web_of_draft" s_web_of_draft fW fdW) (bW : Binds K fdW ["draft"] []) (gW : mg "web_of_draft" = some (.ref fW))
    (T : OexC K C) (iC : PySem.W.findIn K (.ref C) "__init__" = some (some (.ref fI))) (tI : PySem.W.typeIn K (.ref fI) = some (.type "function")) (bI : Binds K fdI ["self", "parent", "child"] []) (gC : mg "NoLink" = some (.ref C))
    (m1 : mg "list" = none)
    (GI : FnOk P w K mg base CX0 1 fI fdI ["self", "parent", "child"] (spKinit K C))
    (GL : FnOk P w K mg base CX0 3 fL fdL ["web", "parent", "child"] (spIlk K))
    (GM : FnOk P w K mg base CX0 3 fM fdM ["web", "kind"] (spWK K fun l inner k => .bool (decide ((1 : Int) < ((parsAt l inner k).length : Int)))))
    (GD : FnOk P w K mg base CX0 2 fD fdD ["web"] (spDof K))
    (GT : FnOk P w K mg base CX0 1 fT fdT ["draft"] (spThin K))
    (GP : FnOk P w K mg base CX0 1 fP fdP ["draft", "kind", "child", "other"] (spPfc K))
    (GW : FnOk P w K mg base CX0 5 fW fdW ["draft"] (spWod K)) :
    FnOk P w K mg base (L2.CX P w) 6 f fd ["web", "parent", "child"] (spStrX K C) := by
  refine F.okX scStr (fun vs H Q E h => ?_) (fun cdv A outer s H vs Q E hr h => ?_)
  · obtain ⟨v, l, inner, u, c, rfl, _⟩ := h
    rfl
  obtain ⟨v, l, inner, u, c, rfl, hv, hW, hu, hc, hq, hE⟩ := h
  have r1 := hr.mono (show 1 ≤ 5 by decide)
  have r2 := hr.mono (show 2 ≤ 5 by decide)
  have r3 := hr.mono (show 3 ≤ 5 by decide)
  have hu0 := hu_of r1
  apply Exists.intro
  apply And.intro
  case left =>
    refine' pss_cons (ps_if (pw_or (pt_not (pt_val (pe_call GL r3 (by rfl) gL FL.kp bL .nil pass0 (pa_cons (pv 0) (pa_cons (pv 1) (pa_cons (pv 2) pa_nil))))))
      (pw_or1 (pt_not (pt_val (pe_call GM r3 (by rfl) gM FM.kp bM .nil pass0 (pa_cons (pv 0) (pa_cons (pv 2) pa_nil))))))).pt
      (pss_one (ps_raiseLk rfl T iC tI GI bI gC hr (by decide) (takes_of rfl rfl rfl rfl) (pa_cons (pv 1) (pa_cons (pv 2) pa_nil)))) pss_nil) ?r0
    case' r0 => skip
    refine' pss_cons (ps_set (i := 3) scStr.nd rfl (.inl rfl) (pe_call GD r2 (by rfl) gD FD.kp bD .nil pass0 (pa_cons (pv 0) pa_nil))) ?r1
    case' r1 => skip
    refine' pss_cons (ps_expr (pe_bm PySem.F.plainAttrs_list PySem.F.slot_list_remove PySem.F.type_list_remove mt_remove (pe_dget hu0 (pv 3) (pv 1) (fun _ _ => rfl)) (pa_cons (pv 2) pa_nil))) ?r2
    case' r2 => skip
    refine' pss_cons (ps_set (i := 4) scStr.nd rfl (.inl rfl) (pe_call (GT.imp thin2_of) r1 (by rfl) gT FT.kp bT .nil pass0 (pa_cons (pv 3) pa_nil))) ?r3
    case' r3 => skip
    refine' pss_cons (ps_while (passes_of rfl) (pt_cmp (pc_notN (pv 4))) ?wb) ?r4
    case' wb =>
      refine' pss_cons (ps_set (i := 5) scStr.nd rfl (.inl rfl) (pe_ix (r := rIxL K) ix_list (pe_dpop1 (pv 3) (pv 4) ⟨rfl, rfl, rfl, rfl⟩) pe_int (fun _ _ => rfl))) ?w0
      case' w0 => skip
      refine' pss_cons (ps_for (passes_of rfl) rfl (pi_list (pe_callTy (call_listD rfl) (by rfl) m1 (by decide +kernel) (pa_cons (pv 3) pa_nil))) (pg_name (i := 6) scStr.nd rfl (.inl rfl))
        (pss_one (ps_expr (pe_call GP r1 (by rfl) gP FP.kp bP .nil pass0 (pa_cons (pv 3) (pa_cons (pv 6) (pa_cons (pv 4) (pa_cons (pv 5) pa_nil)))))))) ?w1
      case' w1 => skip
      exact pss_one (ps_set (i := 4) scStr.nd rfl (.inl rfl) (pe_call (GT.imp thin2_of) r1 (by rfl) gT FT.kp bT .nil pass0 (pa_cons (pv 3) pa_nil)))
    case' r4 => skip
    exact pss_one (ps_ret (pe_call GW hr (by rfl) gW FW.kp bW .nil pass0 (pa_cons (pv 3) pa_nil)))
  case right =>
    let S (x3 x4 x5 x6 : Option V) : L2.St := [some v, some (nV u), some (nV c), x3, x4, x5, x6]
    have hw := hW.raw
    have h8 := hw.l8
    have h20 := hw.n20
    have hl : EvT (tNot (tB (tCall (spIlk K) [] E0 (tCons (tVar 0) (tCons (tVar 1) (tCons (tVar 2) tNil)))))) (S none none none none) H (!decide (c ∈ kidsAt l inner u)) := et_not (et_B fun H4 e4 Q4 q4 => ⟨v, rfl, nV u, rfl, nV c, rfl, v, l, inner, u, c, rfl, dp_ex e4 _ hv, hw, hu, hc, fun H5 e5 => q4 H5 e5⟩)
    have hm : EvT (tNot (tB (tCall (spWK K fun l inner k => .bool (decide ((1 : Int) < ((parsAt l inner k).length : Int)))) [] E0 (tCons (tVar 0) (tCons (tVar 2) tNil))))) (S none none none none) H (!decide ((1 : Int) < ((parsAt l inner c).length : Int))) :=
      et_not (et_B (ev_b (K := K) (ed_callWK (g := fun l inner k => .bool (decide ((1 : Int) < ((parsAt l inner k).length : Int)))) (ed_var rfl hv) (ed_i (ev_var rfl)) hw hc)))
    refine q_when (b := !decide (c ∈ kidsAt l inner u) || !decide ((1 : Int) < ((parsAt l inner c).length : Int))) (et_or hl fun _ => hm) (fun hb H1 e1 => ?_) fun hb H1 e1 => ?_
    · refine ra_lk (K := K) (ea_cons (ev_var rfl) (ea_cons (ev_var rfl) ea_nil)) fun d H5 e5 hd => hE (fun hg => ?_) d H5 (e1.trans e5) hd
      rw [decide_eq_true hg.1, decide_eq_true (show (1 : Int) < ((parsAt l inner c).length : Int) by have := hg.2; omega)] at hb
      cases hb
    have hgood : c ∈ kidsAt l inner u ∧ 2 ≤ (parsAt l inner c).length := by
      rw [Bool.or_eq_false_iff] at hb
      have z1 : decide (c ∈ kidsAt l inner u) = true := by simpa using hb.1
      have z2 : decide ((1 : Int) < ((parsAt l inner c).length : Int)) = true := by simpa using hb.2
      have z3 := of_decide_eq_true z2
      exact ⟨of_decide_eq_true z1, by omega⟩
    have q := hq hgood
    refine ⟨v, rfl, v, l, inner, rfl, dp_ex e1 _ hv, hw, fun d es H2 hd hes e2 hD hg => ?_⟩
    have hdH : H d = none := fresh_back e1 hd
    have hesH : ∀ e ∈ es, H e.2.1 = none := fun e he => fresh_back e1 (hes e he)
    have e02 := e1.trans e2
    dsimp only [gName]
    show tSeq (tDrop _) _ _ (S (some (.ref d)) none none none) H2
    have huR : u ∈ List.range (l + inner.length) := List.mem_range.mpr hu
    obtain ⟨x, hx, hx1, hx2, hx3⟩ := dr_un hD.b hg huR
    refine q_rem (K := K) (l := x.2.1) (ks := kidsAt l inner u) (c := c) (ev_dr (ev_var rfl) (ev_var rfl) (.inl hD.dict) hD.b.kn hx hx1) hx3 (ev_var rfl) hgood.1 fun H3 e3 => ?_
    have hD3 := (hD.ex e3).chg (xs := ((kidsAt l inner u).erase c).map fun (c : Nat) => (c : Int)) hx
    have hg3 : gr (chgE es x.1 (((kidsAt l inner u).erase c).map fun (c : Nat) => (c : Int))) = grK (List.range (l + inner.length)) (cutK (kidsAt l inner) u c) := by
      rw [hx1, chgE_gr hg]
      rfl
    have hes3 : ∀ e ∈ chgE es x.1 (((kidsAt l inner u).erase c).map fun (c : Nat) => (c : Int)), H e.2.1 = none := fun e he => by
      have h1 : e.2.1 ∈ (chgE es x.1 (((kidsAt l inner u).erase c).map fun (c : Nat) => (c : Int))).map fun e => e.2.1 := List.mem_map.mpr ⟨e, he, rfl⟩
      rw [chgE_ad] at h1
      obtain ⟨y, hy, hye⟩ := List.mem_map.mp h1
      rw [← hye]
      exact hesH y hy
    have e03 : Ex H (upd H3 x.2.1 (.lst (nVs ((kidsAt l inner u).erase c)))) := Ex.mut (e02.trans e3) (hesH x hx)
    rw [nvs_map] at hD3
    generalize upd H3 x.2.1 (.lst (nVs ((kidsAt l inner u).erase c))) = H4 at hD3 e03 ⊢
    generalize chgE es x.1 (((kidsAt l inner u).erase c).map fun (c : Nat) => (c : Int)) = es4 at hD3 hg3 hes3
    clear hx hx1 hx2 hx3 hD hg hes hesH e3 e2 hd
    have D0 : Dg l (List.range (l + inner.length)) (cutK (kidsAt l inner) u c) := (dg_web hW).cut huR hgood.1 (by rw [pc_web]; exact hgood.2)
    have GT2 := GT.imp thin2_of
    have hthin : ∀ {ks : List Nat} {kd : Nat → List Nat}, Dg l ks kd → ks.length ≤ 40 ∧ (∀ k ∈ ks, (kd k).Nodup ∧ (kd k).length ≤ 40) ∧ (ks.flatMap kd).length ≤ 10000 := fun {ks kd} D => by
      have hn := D.n20
      have hs : ∀ k ∈ ks, (kd k).length ≤ 28 := fun k hk => D.small hk
      have hf := flat_small hs
      exact ⟨by omega, fun k hk => ⟨D.knd k hk, by have := hs k hk; omega⟩, by omega⟩
    obtain ⟨t1, t2, t3⟩ := hthin D0
    refine ⟨.ref d, rfl, d, es4, _, _, rfl, hD3, hg3, t1, t2, t3, fun H5 e5 => ?_⟩
    clear t1 t2 t3
    dsimp only [gName]
    show tSeq (tWhile _ _) _ _ (S (some (.ref d)) (some (thV ((List.range (l + inner.length)).find? (thinB (List.range (l + inner.length)) (cutK (kidsAt l inner) u c))))) none none) H5
    refine q_while (fun m σ' H' => ∃ es ks kd x5 x6, σ' = S (some (.ref d)) (some (thV (ks.find? (thinB ks kd)))) x5 x6 ∧ Ex H H' ∧ DrA H' d es ∧ gr es = grK ks kd ∧ (∀ e ∈ es, H e.2.1 = none) ∧ Outs l (List.range (l + inner.length)) (cutK (kidsAt l inner) u c) ks kd ∧ m = ks.length)
      (l + inner.length) ⟨es4, _, _, none, none, rfl, e03.trans e5, hD3.ex e5, hg3, hes3, .refl, by rw [List.length_range]⟩ fun m σ' H' hI => ?_
    obtain ⟨es, ks, kd, x5, x6, rfl, i1, i2, i3, i4, i5, rfl⟩ := hI
    have D := i5.dg D0
    refine ⟨(ks.find? (thinB ks kd)).isSome, et_B (ev_notTh (ev_var rfl)), fun hb H6 e6 => ?_, fun hb H6 e6 => ?_⟩
    rotate_left
    · have hnone : ks.find? (thinB ks kd) = none := by
        cases e : ks.find? (thinB ks kd) with
        | none => rfl
        | some t =>
          rw [e] at hb
          cases hb
      exact ⟨.ref d, rfl, d, es, l, ks, kd, rfl, i2.ex e6, i3, D.gdN hnone, fun r X H7 e7 hr hX => q r X H7 ((i1.trans e6).trans e7) hr ⟨ks, kd, i5, D, hnone, hX⟩⟩
    obtain ⟨t, hft⟩ : ∃ t, ks.find? (thinB ks kd) = some t := Option.isSome_iff_exists.mp hb
    obtain ⟨ht, ⟨b, hKt⟩, hpc⟩ := thin_at hft
    have hLt : l ≤ t := Classical.byContradiction fun z => by
      have := D.leaf t (by omega)
      rw [this] at hKt
      cases hKt
    have hth : thV (ks.find? (thinB ks kd)) = nV t := by
      rw [hft]
      rfl
    refine ⟨fun σ2 H2 => ∃ m', m' < ks.length ∧ ∃ es ks kd x5 x6, σ2 = S (some (.ref d)) (some (thV (ks.find? (thinB ks kd)))) x5 x6 ∧ Ex H H2 ∧ DrA H2 d es ∧ gr es = grK ks kd ∧ (∀ e ∈ es, H e.2.1 = none) ∧ Outs l (List.range (l + inner.length)) (cutK (kidsAt l inner) u c) ks kd ∧ m' = ks.length, fun σ2 H2 h => h, ?_⟩
    rw [hth]
    have j2 := i2.ex e6
    obtain ⟨x, hx, hx1, hx2, hx3⟩ := dr_un j2.b i3 ht
    refine ⟨.ref d, rfl, d, rfl, .inl ⟨_, .inl j2.dict⟩, nV t, rfl, DrK es, Sum.inl (t : Int), .ref x.2.1, j2.dict, rfl, val_dr j2.b.kn hx hx1, ?_⟩
    rw [dropE_dr]
    have hD7 := j2.drop (t := (t : Int))
    have hg7 := dropE_gr i3 D.nd (t := t)
    have hes7 : ∀ e ∈ dropE es (t : Int), H e.2.1 = none := fun e he => i4 e (List.mem_filter.mp he).1
    have e07 : Ex H (upd H6 d (.dK (DrK (dropE es (t : Int))))) := Ex.mut (i1.trans e6) hdH
    have hx7 : upd H6 d (.dK (DrK (dropE es (t : Int)))) x.2.1 = some (.lst (nVs [b])) := by
      rw [upd_ne fun z => ?_, hx3, hKt]
      rw [z, j2.dict] at hx3
      cases hx3
    generalize upd H6 d (.dK (DrK (dropE es (t : Int)))) = H7 at hD7 e07 hx7 ⊢
    generalize dropE es (t : Int) = es7 at hD7 hg7 hes7
    refine rv_ixL (K := K) (v := nV b) (sq_of hx7) (atI_nat (j := 0) (xs := nVs [b]) (v := nV b) rfl) H7 (Ex.refl H7) _ fun H8 e8 => ?_
    have hD8 := hD7.ex e8
    have e08 := e07.trans e8
    dsimp only [gName]
    show tSeq (tFor _ _ _) _ _ (S (some (.ref d)) (some (nV t)) (some (nV b)) x6) H8
    have hke := gr_keys hg7
    have hne : (ks.erase t).Nodup := D.nd.erase _
    let FF (i : Nat) (y : Nat) : List Nat := if y ∈ (ks.erase t).take i then (kd y).map (subN t b) else kd y
    have hksl : (ks.erase t).length < ks.length := by
      have h1 := List.length_erase_of_mem ht
      have h2 := List.length_pos_of_mem ht
      omega
    have Dn := D.out ht hLt hKt hpc
    have hk28 : ks.length ≤ 28 := by
      have := D.n20
      omega
    refine q_forNLn (K := K) (j := 6) (el_listD (ev_var rfl) hD8.dict hke) (fun p i σ' H' => ∃ es x6, σ' = S (some (.ref d)) (some (nV t)) (some (nV b)) x6 ∧ Ex H H' ∧ DrA H' d es ∧ gr es = grK (ks.erase t) (FF i) ∧ (∀ e ∈ es, H e.2.1 = none) ∧ H' p = some (.lst (nVs (ks.erase t))))
      (fun p H9 hp e9 hx9 => ⟨es7, x6, rfl, e08.trans e9, hD8.ex e9, ?_, hes7, hx9⟩) (fun p i σ' H' _ h => ?_) (fun p i y σ' H' hy h => ?_) fun p σ' H' h => ?_
    · rw [hg7]
      refine grK_congr fun y _ => ?_
      show kd y = if y ∈ (ks.erase t).take 0 then _ else kd y
      rw [List.take_zero, if_neg List.not_mem_nil]
    · obtain ⟨_, _, _, _, _, _, _, h6⟩ := h
      exact sq_of h6
    · obtain ⟨es9, x6', rfl, p1, p2, p3, p4, p5⟩ := h
      unfold nVs at hy
      rw [List.getElem?_map] at hy
      obtain ⟨k, hk, rfl⟩ := Option.map_eq_some_iff.mp hy
      have hkm := List.mem_of_getElem? hk
      have hkn : k ∉ (ks.erase t).take i := fun hm => by
        obtain ⟨hil, hik⟩ := List.getElem?_eq_some_iff.mp hk
        have nd2 := hne
        rw [← List.take_append_drop i (ks.erase t)] at nd2
        refine (List.nodup_append.mp nd2).2.2 _ hm _ ?_ rfl
        rw [List.drop_eq_getElem_cons hil, hik]
        exact List.mem_cons_self
      have hFk : FF i k = kd k := by
        show (if k ∈ (ks.erase t).take i then _ else kd k) = kd k
        rw [if_neg hkn]
      have hks0 : k ∈ ks := List.mem_of_mem_erase hkm
      refine ⟨.ref d, rfl, nV k, rfl, nV t, rfl, nV b, rfl, d, es9, ks.erase t, FF i, k, t, b, rfl, p2, p3, hkm, by rw [hFk]; have := D.small hks0; omega, by omega, fun H3 p' e3 hp' hA => ?_⟩
      have hpd : p ≠ d := fun z => by
        have := p2.dict
        rw [← z, p5] at this
        cases this
      refine ⟨_, some (nV k), rfl, Ex.mut (p1.trans e3) hdH, hA, ?_, setE_ad p4 (fresh_back p1 hp'), ?_⟩
      · rw [setE_gr p3]
        refine grK_congr fun y _ => ?_
        rw [hFk]
        show (if y = k then (kd k).map (subN t b) else if y ∈ (ks.erase t).take i then (kd y).map (subN t b) else kd y) = if y ∈ (ks.erase t).take (i + 1) then (kd y).map (subN t b) else kd y
        rw [List.take_add_one, hk]
        by_cases z : y = k
        · rw [if_pos z, if_pos (by rw [z]; simp), z]
        · rw [if_neg z]
          by_cases z2 : y ∈ (ks.erase t).take i
          · rw [if_pos z2, if_pos (List.mem_append_left _ z2)]
          · rw [if_neg z2, if_neg (by rw [List.mem_append, Option.toList_some, List.mem_singleton]; exact fun t => t.elim z2 z)]
      · rw [upd_ne hpd]
        exact e3 _ _ p5
    · obtain ⟨es9, x6', rfl, p1, p2, p3, p4, p5⟩ := h
      have hg9 : gr es9 = grK (ks.erase t) (outK kd t b) := by
        rw [p3]
        refine grK_congr fun y hy => ?_
        show (if y ∈ (ks.erase t).take (nVs (ks.erase t)).length then (kd y).map (subN t b) else kd y) = (kd y).map (subN t b)
        have e : (nVs (ks.erase t)).length = (ks.erase t).length := by
          unfold nVs
          rw [List.length_map]
        rw [e, List.take_length, if_pos hy]
      obtain ⟨t1, t2, t3⟩ := hthin Dn
      exact ⟨.ref d, rfl, d, es9, _, _, rfl, p2, hg9, t1, t2, t3, fun H10 e10 => ⟨_, hksl, es9, _, _, some (nV b), x6', rfl, p1.trans e10, p2.ex e10, hg9, p4, .step i5 ht hLt hKt hpc, rfl⟩⟩
end
end WR
set_option Elab.async false
set_option linter.all false
set_option maxRecDepth 100000
set_option maxHeartbeats 1000000
namespace WR
open PySem PySem.Spec PyProof.Rows L2 Evl

/-! ### the match by the order of rows -/
noncomputable def mtN (l : Nat) (A B : List (List Nat)) (k : Nat) : Nat := (orderL l B).getD (plc k (orderL l A)) 0
def SameL (l : Nat) (A B : List (List Nat)) : Prop := (rowsI l A).Perm (rowsI l B)
theorem order_rows {l : Nat} {A : List (List Nat)} : ((orderL l A).map (rowI l A)).Perm (rowsI l A) := orderL_perm.map _
theorem order_sorted {l : Nat} {A : List (List Nat)} : ((orderL l A).map (rowI l A)).Pairwise fun a b => HT.lexLt b a = false := by
  refine List.pairwise_map.mpr (orderL_lt.imp fun {a b} h => ?_)
  unfold cod1 at h
  rw [lex_snoc (by rw [rowI_len, rowI_len])] at h
  by_cases z : rowI l A a = rowI l A b
  · rw [z]
    exact lex_self _
  · rw [if_neg z] at h
    exact lex_asymm h
theorem order_same {l : Nat} {A B : List (List Nat)} (h : SameL l A B) : (orderL l A).map (rowI l A) = (orderL l B).map (rowI l B) :=
  List.Perm.eq_of_pairwise (fun a b _ _ h1 h2 => lex_total h2 h1) order_sorted order_sorted ((order_rows.trans h).trans order_rows.symm)
theorem order_len {l : Nat} {A : List (List Nat)} : (orderL l A).length = l + A.length := by rw [orderL_perm.length_eq, List.length_range]
theorem mem_order {l k : Nat} {A : List (List Nat)} : k ∈ orderL l A ↔ k < l + A.length := by rw [orderL_perm.mem_iff, List.mem_range]
theorem same_len {l : Nat} {A B : List (List Nat)} (h : SameL l A B) : A.length = B.length := by
  have := h.length_eq
  unfold rowsI at this
  rw [List.length_map, List.length_map, List.length_range, List.length_range] at this
  omega
theorem mtN_at {l k : Nat} {A B : List (List Nat)} (hl : A.length = B.length) (hk : k < l + A.length) : (orderL l B)[plc k (orderL l A)]? = some (mtN l A B k) := by
  have h1 := plc_lt (mem_order.mpr hk)
  rw [order_len] at h1
  unfold mtN
  rw [List.getD_eq_getElem?_getD, List.getElem?_eq_getElem (by rw [order_len]; omega)]
  rfl
theorem mtN_plc {l k : Nat} {A B : List (List Nat)} (hl : A.length = B.length) (hk : k < l + A.length) : plc (mtN l A B k) (orderL l B) = plc k (orderL l A) := plc_at orderL_nd (mtN_at hl hk)
theorem mtN_lt {l k : Nat} {A B : List (List Nat)} (hl : A.length = B.length) (hk : k < l + A.length) : mtN l A B k < l + B.length := mem_order.mp (List.mem_of_getElem? (mtN_at hl hk))
theorem mtN_inv {l k : Nat} {A B : List (List Nat)} (hl : A.length = B.length) (hk : k < l + A.length) : mtN l B A (mtN l A B k) = k := by
  have h1 := mtN_at (A := B) (B := A) hl.symm (mtN_lt hl hk)
  rw [mtN_plc hl hk, plc_get (mem_order.mpr hk)] at h1
  exact (Option.some.inj h1).symm
theorem mtN_row {l k : Nat} {A B : List (List Nat)} (h : SameL l A B) (hk : k < l + A.length) : rowI l B (mtN l A B k) = rowI l A k := by
  have h1 := congrArg (fun x => x[plc k (orderL l A)]?) (order_same h)
  simp only [List.getElem?_map] at h1
  rw [mtN_at (same_len h) hk, plc_get (mem_order.mpr hk)] at h1
  exact (Option.some.inj h1).symm
theorem code_before {l a b : Nat} {A : List (List Nat)} (ha : a < l + A.length) (hb : b < l + A.length) : HT.lexLt (cod1 l A a) (cod1 l A b) = decide (plc a (orderL l A) < plc b (orderL l A)) := by
  by_cases e : a = b
  · subst e
    rw [lex_self, decide_eq_false (Nat.lt_irrefl _)]
  · cases h : HT.lexLt (cod1 l A a) (cod1 l A b) with
    | true =>
      have := plc_before (R := fun a b => HT.lexLt (cod1 l A a) (cod1 l A b) = true) (fun a b h h2 => by rw [lex_asymm h] at h2; cases h2) orderL_lt (mem_order.mpr ha) (mem_order.mpr hb) h
      rw [decide_eq_true this]
    | false =>
      cases h2 : HT.lexLt (cod1 l A b) (cod1 l A a) with
      | true =>
        have := plc_before (R := fun a b => HT.lexLt (cod1 l A a) (cod1 l A b) = true) (fun a b h h2 => by rw [lex_asymm h] at h2; cases h2) orderL_lt (mem_order.mpr hb) (mem_order.mpr ha) h2
        rw [decide_eq_false (by omega)]
      | false => exact absurd (cod1_inj (lex_total h h2)) e
theorem mt_of {l : Nat} {A B : List (List Nat)} (h : SameL l A B) : Mt l A B (mtN l A B) (mtN l B A) := by
  have hl := same_len h
  exact ⟨fun k hk => ⟨mtN_lt hl hk, mtN_inv hl hk⟩, fun k hk => ⟨mtN_lt hl.symm hk, mtN_inv hl.symm hk⟩, fun k hk => mtN_row h hk, fun a b ha hb => by
    rw [code_before ha hb, code_before (mtN_lt hl ha) (mtN_lt hl hb), mtN_plc hl ha, mtN_plc hl hb]⟩
/-! ### the image, kind by kind -/
/-- what is found so far: kinds for the first j kinds -/
structure Img (l : Nat) (A B : List (List Nat)) (j : Nat) (F : List Nat) : Prop where
  len : F.length = l + j
  leaf : ∀ k, k < l → F[k]? = some k
  lt : ∀ c ∈ F, c < l + B.length
  nd : F.Nodup
  inn : ∀ k g, l ≤ k → F[k]? = some g → l ≤ g
  hom : ∀ k g, F[k]? = some g → (kidsAt l B g).Perm ((kidsAt l A k).map fun c => F.getD c 0)
theorem img_row {l j : Nat} {A B : List (List Nat)} {F : List Nat} (W : WebP l A) (V' : WebP l B) (I : Img l A B j F) : ∀ {k g : Nat}, F[k]? = some g → rowI l B g = rowI l A k := fun {k} => by
  induction k using Nat.strongRecOn with
  | _ k ih =>
    intro g hg
    unfold rowI
    refine List.map_congr_left fun x hx => ?_
    have hx := List.mem_range.mp hx
    rw [way_rec (hdN V' g), way_rec (hdN W k), sum_permI ((I.hom k g hg).map _), List.map_map]
    congr 1
    · congr 1
      refine List.map_congr_left fun c hc => ?_
      have hck := hdN W k c hc
      have hkl := (List.getElem?_eq_some_iff.mp hg).1
      have hcg : F[c]? = some (F.getD c 0) := by
        rw [List.getD_eq_getElem?_getD, List.getElem?_eq_getElem (by omega)]
        rfl
      have := ih c hck hcg
      exact row_ways this hx
    · by_cases z : k < l
      · have := I.leaf k z
        rw [hg] at this
        rw [Option.some.inj this]
      · have hgl := I.inn k g (by omega) hg
        rw [if_neg (by omega), if_neg (by omega)]
theorem img_same {l : Nat} {A B : List (List Nat)} {F : List Nat} (W : WebP l A) (V' : WebP l B) (hl : A.length = B.length) (I : Img l A B A.length F) : SameL l A B := by
  have hp : F.Perm (List.range (l + B.length)) := by
    refine (List.perm_ext_iff_of_nodup I.nd List.nodup_range).mpr fun c => ⟨fun hc => List.mem_range.mpr (I.lt c hc), fun hc => ?_⟩
    refine Classical.byContradiction fun z => ?_
    have h1 := nodup_len (l + B.length) (c :: F) (List.nodup_cons.mpr ⟨z, I.nd⟩) (fun d hd => by
      rcases List.mem_cons.mp hd with rfl | hd
      · exact List.mem_range.mp hc
      · exact I.lt d hd)
    rw [List.length_cons, I.len] at h1
    omega
  have e : rowsI l A = F.map (rowI l B) := by
    unfold rowsI
    refine List.ext_getElem? fun k => ?_
    rw [List.getElem?_map, List.getElem?_map]
    by_cases z : k < l + A.length
    · rw [List.getElem?_range z]
      obtain ⟨g, hg⟩ : ∃ g, F[k]? = some g := ⟨_, List.getElem?_eq_getElem (by rw [I.len]; exact z)⟩
      rw [hg, Option.map_some, Option.map_some, img_row W V' I hg]
    · rw [List.getElem?_eq_none (by rw [List.length_range]; omega), List.getElem?_eq_none (by rw [I.len]; omega)]
      rfl
  unfold SameL
  rw [e]
  exact hp.map _
end WR
set_option Elab.async false
set_option linter.all false
set_option maxRecDepth 100000
set_option maxHeartbeats 1000000
namespace WR
open PySem PySem.Spec PyProof.Rows L2 Evl

/-! ### the image's step -/
def srtN (ks : List Nat) : List Nat := (sortI (ks.map fun (c : Nat) => (c : Int))).map Int.toNat
theorem srtN_ints (ks : List Nat) : (srtN ks).map (fun (c : Nat) => (c : Int)) = sortI (ks.map fun (c : Nat) => (c : Int)) := by
  unfold srtN
  rw [List.map_map]
  refine (List.map_congr_left fun i hi => ?_).trans (List.map_id _)
  obtain ⟨c, _, rfl⟩ := List.mem_map.mp ((sortI_perm _).mem_iff.mp hi)
  show ((Int.toNat (c : Int) : Nat) : Int) = (c : Int)
  rw [Int.toNat_natCast]
theorem toNat_map (ks : List Nat) : (ks.map fun (c : Nat) => (c : Int)).map Int.toNat = ks := by
  rw [List.map_map]
  refine (List.map_congr_left fun i hi => ?_).trans (List.map_id _)
  exact Int.toNat_natCast i
theorem srtN_perm (ks : List Nat) : (srtN ks).Perm ks := by
  have h := (sortI_perm (ks.map fun (c : Nat) => (c : Int))).map Int.toNat
  rw [toNat_map] at h
  exact h
theorem srtN_eq {ks xs : List Nat} (h : ks.Pairwise (· ≤ ·)) : ks = srtN xs ↔ ks.Perm xs := by
  constructor
  · intro e
    rw [e]
    exact srtN_perm xs
  · intro hp
    have h1 : (ks.map fun (c : Nat) => (c : Int)).Perm (sortI (xs.map fun (c : Nat) => (c : Int))) := (hp.map _).trans (sortI_perm _).symm
    have h2 : (ks.map fun (c : Nat) => (c : Int)).Pairwise (· ≤ ·) := List.pairwise_map.mpr (h.imp fun {a b} h => by omega)
    have h3 := List.Perm.eq_of_pairwise (fun a b _ _ (x : a ≤ b) (y : b ≤ a) => Int.le_antisymm x y) h2 (sortI_sorted _) h1
    unfold srtN
    rw [← h3, toNat_map]
theorem kids_asc {l u : Nat} {A : List (List Nat)} (W : WebP l A) : (kidsAt l A u).Pairwise (· ≤ ·) := by
  by_cases z : u < l
  · rw [kidsAt_leaf z]
    exact List.Pairwise.nil
  · by_cases y : u < l + A.length
    · exact W.asc _ (kidsAt_inner (by omega) y)
    · have := W.gen.out u (by rw [kkOf_len]; omega)
      rw [rowAt_kk] at this
      rw [this]
      exact List.Pairwise.nil
theorem kids_ne {l u : Nat} {A : List (List Nat)} (W : WebP l A) (h1 : l ≤ u) (h2 : u < l + A.length) : kidsAt l A u ≠ [] := fun z => by
  obtain ⟨c, hc, _⟩ := W.bare u h1 h2
  rw [z] at hc
  cases hc
theorem kids_inj {l g h : Nat} {B : List (List Nat)} (V' : WebP l B) (g1 : l ≤ g) (g2 : g < l + B.length) (h1 : l ≤ h) (h2 : h < l + B.length) (hp : (kidsAt l B g).Perm (kidsAt l B h)) : g = h := by
  refine Classical.byContradiction fun hne => ?_
  have er : rowI l B h = rowI l B g := by
    unfold rowI
    refine List.map_congr_left fun x hx => ?_
    have hx := List.mem_range.mp hx
    rw [way_rec (hdN V' h), way_rec (hdN V' g), sum_permI (hp.map _), if_neg (by omega), if_neg (by omega)]
  have heq := equal_rows V' (k := g) (t := h) g2 h2 (Ne.symm hne)
  rw [decide_eq_true er] at heq
  have key : ∀ {a b : Nat}, mixB l B a b = true → (kidsAt l B a).Perm (kidsAt l B b) → False := fun {a b} hm hp => by
    obtain ⟨_, m2⟩ := mixB_iff.mp hm
    have hb : b ∈ kidsAt l B a := by rw [m2]; exact List.mem_singleton.mpr rfl
    have := (kidsAt_lt V'.raw (hp.mem_iff.mp hb)).2
    omega
  cases e : mixB l B g h with
  | true => exact key e hp
  | false =>
    rw [e, Bool.false_or] at heq
    exact key heq.symm hp.symm
section
variable {l : Nat} {A B : List (List Nat)} (W : WebP l A) (V' : WebP l B)
include W V'
theorem mt_kids (h : SameL l A B) {u : Nat} (hu : u < l + A.length) : (kidsAt l B (mtN l A B u)).Perm ((kidsAt l A u).map (mtN l A B)) := by
  have M := mt_of h
  have hmu := (M.to u hu).1
  refine (List.perm_ext_iff_of_nodup (kids_nodup V') ?_).mpr fun c => ?_
  · refine List.pairwise_map.mpr ((kids_nodup W).imp_of_mem fun {a b} ha hb hab z => hab ?_)
    have ha' := kidsAt_lt W.raw ha
    have hb' := kidsAt_lt W.raw hb
    have := congrArg (mtN l B A) z
    rw [(M.to a (by omega)).2, (M.to b (by omega)).2] at this
    exact this
  · have hk : ∀ {d : Nat}, d < l + A.length → (d ∈ kidsAt l A u ↔ mtN l A B d ∈ kidsAt l B (mtN l A B u)) := fun {d} hd => by
      have := kid_mt W V' M hu hd
      unfold ind at this
      by_cases z : d ∈ kidsAt l A u
      · rw [if_pos z] at this
        by_cases y : mtN l A B d ∈ kidsAt l B (mtN l A B u)
        · exact ⟨fun _ => y, fun _ => z⟩
        · rw [if_neg y] at this
          omega
      · rw [if_neg z] at this
        by_cases y : mtN l A B d ∈ kidsAt l B (mtN l A B u)
        · rw [if_pos y] at this
          omega
        · exact ⟨fun w => absurd w z, fun w => absurd w y⟩
    constructor
    · intro hc
      have hc' := kidsAt_lt V'.raw hc
      obtain ⟨b1, b2⟩ := M.back c (by omega)
      exact List.mem_map.mpr ⟨_, (hk b1).mpr (by rw [b2]; exact hc), b2⟩
    · intro hc
      obtain ⟨d, hd, rfl⟩ := List.mem_map.mp hc
      have hd' := kidsAt_lt W.raw hd
      exact (hk (by omega)).mp hd
theorem mt_inner (h : SameL l A B) {u : Nat} (h1 : l ≤ u) (hu : u < l + A.length) : l ≤ mtN l A B u := by
  refine Classical.byContradiction fun z => ?_
  have := mt_kids W V' h hu
  rw [kidsAt_leaf (show mtN l A B u < l by omega)] at this
  have h2 := this.symm.eq_nil
  rw [List.map_eq_nil_iff] at h2
  exact kids_ne W h1 hu h2
theorem img_mt (h : SameL l A B) {j : Nat} {F : List Nat} (I : Img l A B j F) (hj : j ≤ A.length) : ∀ {k g : Nat}, F[k]? = some g → g = mtN l A B k := fun {k} => by
  have M := mt_of h
  induction k using Nat.strongRecOn with
  | _ k ih =>
    intro g hg
    have hkl := (List.getElem?_eq_some_iff.mp hg).1
    rw [I.len] at hkl
    have hk : k < l + A.length := by omega
    by_cases z : k < l
    · have e := I.leaf k z
      rw [hg] at e
      have e := Option.some.inj e
      subst e
      -- a leaf's row is its own
      have hr := M.row g hk
      have hm := (M.to g hk).1
      refine Classical.byContradiction fun hne => ?_
      have heq := equal_rows V' (k := g) (t := mtN l A B g) (by omega) hm (Ne.symm hne)
      have e2 : rowI l B (mtN l A B g) = rowI l B g := by
        rw [hr]
        unfold rowI
        exact List.map_congr_left fun x hx => by rw [way_leaf z, way_leaf z]
      rw [decide_eq_true e2] at heq
      cases e : mixB l B g (mtN l A B g) with
      | true =>
        obtain ⟨_, m2⟩ := mixB_iff.mp e
        rw [kidsAt_leaf z] at m2
        cases m2
      | false =>
        rw [e, Bool.false_or] at heq
        obtain ⟨_, m2⟩ := mixB_iff.mp heq.symm
        have hp := mt_kids W V' h hk
        rw [m2, kidsAt_leaf z] at hp
        have := hp.length_eq
        rw [List.length_singleton] at this
        cases this
    · have hp := I.hom k g hg
      have hp2 := mt_kids W V' h hk
      have e : (kidsAt l A k).map (fun c => F.getD c 0) = (kidsAt l A k).map (mtN l A B) := List.map_congr_left fun c hc => by
        have hck := hdN W k c hc
        have hcg : F[c]? = some (F.getD c 0) := by
          rw [List.getD_eq_getElem?_getD, List.getElem?_eq_getElem (by rw [I.len]; omega)]
          rfl
        exact ih c hck hcg
      rw [e] at hp
      exact kids_inj V' (I.inn k g (by omega) hg) (I.lt g (List.mem_of_getElem? hg)) (mt_inner W V' h (by omega) hk) (M.to k hk).1 (hp.trans hp2.symm)
/-- the kinds that may be the next one's image -/
def spotsN (l : Nat) (A B : List (List Nat)) (F : List Nat) (u : Nat) : List Nat :=
  ((List.range B.length).map (l + ·)).filter fun k => decide (kidsAt l B k = srtN ((kidsAt l A u).map fun c => F.getD c 0))
omit W V' in
theorem mem_spots {F : List Nat} {u g : Nat} (V' : WebP l B) : g ∈ spotsN l A B F u ↔ (l ≤ g ∧ g < l + B.length) ∧ (kidsAt l B g).Perm ((kidsAt l A u).map fun c => F.getD c 0) := by
  unfold spotsN
  rw [List.mem_filter, decide_eq_true_eq, srtN_eq (kids_asc V')]
  refine and_congr_left fun _ => ?_
  constructor
  · intro h
    obtain ⟨i, hi, rfl⟩ := List.mem_map.mp h
    have := List.mem_range.mp hi
    omega
  · intro h
    exact List.mem_map.mpr ⟨g - l, List.mem_range.mpr (by omega), by omega⟩
theorem img_none (hl : A.length = B.length) {j : Nat} {F : List Nat} (I : Img l A B j F) (hj : j < A.length) (hs : spotsN l A B F (l + j) = [] ∨ ∃ g, (spotsN l A B F (l + j))[0]? = some g ∧ g ∈ F) : ¬ SameL l A B := fun h => by
  have M := mt_of h
  have hu : l + j < l + A.length := by omega
  have hF : ∀ {k : Nat}, k < l + j → F[k]? = some (mtN l A B k) := fun {k} hk => by
    obtain ⟨g, hg⟩ : ∃ g, F[k]? = some g := ⟨_, List.getElem?_eq_getElem (show k < F.length by rw [I.len]; exact hk)⟩
    rw [hg, img_mt W V' h I (by omega) hg]
  have hin : mtN l A B (l + j) ∈ spotsN l A B F (l + j) := by
    refine (mem_spots V').mpr ⟨⟨mt_inner W V' h (by omega) hu, (M.to _ hu).1⟩, ?_⟩
    have e : (kidsAt l A (l + j)).map (fun c => F.getD c 0) = (kidsAt l A (l + j)).map (mtN l A B) := List.map_congr_left fun c hc => by
      rw [List.getD_eq_getElem?_getD, hF (hdN W _ c hc)]
      rfl
    rw [e]
    exact mt_kids W V' h hu
  rcases hs with hs | ⟨g, hg, hgF⟩
  · rw [hs] at hin
    cases hin
  · have h1 := (mem_spots V').mp (List.mem_of_getElem? hg)
    have h2 := (mem_spots V').mp hin
    have e := kids_inj V' h1.1.1 h1.1.2 h2.1.1 h2.1.2 (h1.2.trans h2.2.symm)
    subst e
    obtain ⟨k, hk⟩ := List.mem_iff_getElem?.mp hgF
    have hkl := (List.getElem?_eq_some_iff.mp hk).1
    rw [I.len] at hkl
    rw [hF hkl] at hk
    have := congrArg (mtN l B A) (Option.some.inj hk)
    rw [(M.to k (by omega)).2, (M.to _ hu).2] at this
    omega
omit W in
theorem img_more {j : Nat} {F : List Nat} {g : Nat} (I : Img l A B j F) (hdA : ∀ u c, c ∈ kidsAt l A u → c < u) (hg : (spotsN l A B F (l + j))[0]? = some g) (hn : g ∉ F) : Img l A B (j + 1) (F ++ [g]) := by
  have hs := (mem_spots V').mp (List.mem_of_getElem? hg)
  have hold : ∀ {k : Nat}, k < l + j → (F ++ [g])[k]? = F[k]? := fun {k} hk => List.getElem?_append_left (by rw [I.len]; exact hk)
  have hnew : (F ++ [g])[l + j]? = some g := by
    rw [List.getElem?_append_right (by rw [I.len]; omega), I.len, Nat.sub_self]
    rfl
  have hcase : ∀ {k x : Nat}, (F ++ [g])[k]? = some x → (k < l + j ∧ F[k]? = some x) ∨ (k = l + j ∧ x = g) := fun {k x} h => by
    have hk := (List.getElem?_eq_some_iff.mp h).1
    rw [List.length_append, I.len, List.length_singleton] at hk
    by_cases z : k < l + j
    · rw [hold z] at h
      exact .inl ⟨z, h⟩
    · have : k = l + j := by omega
      subst this
      rw [hnew] at h
      exact .inr ⟨rfl, (Option.some.inj h).symm⟩
  have hgd : ∀ {u : Nat}, u ≤ l + j → (kidsAt l A u).map (fun c => (F ++ [g]).getD c 0) = (kidsAt l A u).map fun c => F.getD c 0 := fun {u} hu => List.map_congr_left fun c hc => by
    rw [List.getD_eq_getElem?_getD, List.getD_eq_getElem?_getD, hold (by have := hdA u c hc; omega)]
  refine ⟨by rw [List.length_append, I.len]; rfl, fun k hk => ?_, fun c hc => ?_, ?_, fun k x hk hx => ?_, fun k x hx => ?_⟩
  · rw [hold (by omega)]
    exact I.leaf k hk
  · rcases List.mem_append.mp hc with h | h
    · exact I.lt c h
    · rw [List.mem_singleton.mp h]
      exact hs.1.2
  · rw [List.nodup_append]
    exact ⟨I.nd, by simp, fun a ha b hb z => hn (by rw [List.mem_singleton.mp hb] at z; exact z ▸ ha)⟩
  · rcases hcase hx with h | h
    · exact I.inn k x hk h.2
    · rw [h.2]
      exact hs.1.1
  · rcases hcase hx with h | h
    · rw [hgd (by omega)]
      exact I.hom k x h.2
    · rw [h.1, h.2, hgd (Nat.le_refl _)]
      exact hs.2
end
theorem img_zero {l : Nat} {A B : List (List Nat)} : Img l A B 0 (List.range l) :=
  ⟨by rw [List.length_range]; rfl, fun k hk => List.getElem?_range hk, fun c hc => by have := List.mem_range.mp hc; omega, List.nodup_range, fun k g hk hg => by
    have := (List.getElem?_eq_some_iff.mp hg).1
    rw [List.length_range] at this
    omega, fun k g hg => by
    have hk := (List.getElem?_eq_some_iff.mp hg).1
    rw [List.length_range] at hk
    rw [List.getElem?_range hk] at hg
    rw [← Option.some.inj hg, kidsAt_leaf hk, kidsAt_leaf hk]
    exact .nil⟩
/-! the answers -/
def sameB (l : Nat) (A B : List (List Nat)) : Bool := decide (srtR (rowsI l A) = srtR (rowsI l B))
theorem sameB_iff {l : Nat} {A B : List (List Nat)} (w : Raw l B) : sameB l A B = true ↔ SameL l A B := by
  unfold sameB SameL
  rw [decide_eq_true_eq]
  constructor
  · intro e
    exact (srtR_perm _).symm.trans ((List.Perm.of_eq e).trans (srtR_perm _))
  · exact fun h => srtR_of_perm h (rowsI_ok w)
noncomputable def matchD (l : Nat) (A B : List (List Nat)) : PyData := if sameB l A B = true then .tuple (natDs ((List.range (l + A.length)).map (mtN l A B))) else .none
end WR
set_option Elab.async false
set_option linter.all false
set_option maxRecDepth 100000
set_option maxHeartbeats 1000000
namespace WR
open PySem PySem.Spec PyProof.Rows L2 Evl

/-! ### forms are equal just where the rows are -/
theorem rows_form {l : Nat} {A : List (List Nat)} (W : WebP l A) : SameL l (formI l A) A := by
  have hl : (formI l A).length = A.length := form_len W
  have hp : (odL l A).Perm (List.range (l + A.length)) := by
    refine (List.perm_ext_iff_of_nodup odL_nd List.nodup_range).mpr fun c => ?_
    unfold odL
    rw [List.mem_append, List.mem_range, List.mem_range, mem_ordI]
    omega
  unfold SameL
  have e : rowsI l (formI l A) = (odL l A).map (rowI l A) := by
    unfold rowsI
    rw [hl]
    refine List.ext_getElem? fun k => ?_
    rw [List.getElem?_map, List.getElem?_map]
    by_cases z : k < l + A.length
    · rw [List.getElem?_range z, List.getElem?_eq_getElem (by rw [odL_len]; exact z), Option.map_some, Option.map_some, form_row W z, List.getD_eq_getElem?_getD, List.getElem?_eq_getElem (by rw [odL_len]; exact z)]
      rfl
    · rw [List.getElem?_eq_none (by rw [List.length_range]; omega), List.getElem?_eq_none (by rw [odL_len]; omega)]
      rfl
  rw [e]
  exact hp.map _
section
variable {l : Nat} {A B : List (List Nat)} (W : WebP l A) (V' : WebP l B)
include W V'
theorem order_map (h : SameL l A B) : orderL l B = (orderL l A).map (mtN l A B) := by
  have hl := same_len h
  refine List.ext_getElem? fun i => ?_
  rw [List.getElem?_map]
  by_cases z : i < l + A.length
  · obtain ⟨k, hk⟩ : ∃ k, (orderL l A)[i]? = some k := ⟨_, List.getElem?_eq_getElem (by rw [order_len]; exact z)⟩
    have hkn := mem_order.mp (List.mem_of_getElem? hk)
    have h1 := mtN_at (A := A) (B := B) hl hkn
    rw [plc_at orderL_nd hk] at h1
    rw [hk, h1]
    rfl
  · rw [List.getElem?_eq_none (by rw [order_len]; omega), List.getElem?_eq_none (by rw [order_len]; omega)]
    rfl
theorem mt_leaf (h : SameL l A B) {k : Nat} (hk : k < l) : mtN l A B k = k := (img_mt W V' h (img_zero (A := A) (B := B)) (Nat.zero_le _) (List.getElem?_range hk)).symm
theorem mt_in_iff (h : SameL l A B) {k : Nat} (hk : k < l + A.length) : l ≤ mtN l A B k ↔ l ≤ k := by
  constructor
  · intro z
    refine Classical.byContradiction fun y => ?_
    rw [mt_leaf W V' h (by omega)] at z
    exact y z
  · exact fun z => mt_inner W V' h z hk
theorem ordI_map (h : SameL l A B) : ordI l B = (ordI l A).map (mtN l A B) := by
  unfold ordI
  rw [order_map W V' h, List.filter_map]
  congr 1
  refine List.filter_congr fun k hk => ?_
  exact decide_eq_decide.mpr (mt_in_iff W V' h (mem_order.mp hk))
theorem odL_map (h : SameL l A B) : odL l B = (odL l A).map (mtN l A B) := by
  unfold odL
  rw [List.map_append, ← ordI_map W V' h]
  congr 1
  refine ((List.map_congr_left fun k hk => ?_).trans (List.map_id _)).symm
  exact mt_leaf W V' h (List.mem_range.mp hk)
theorem form_same (h : SameL l A B) : formI l A = formI l B := by
  have M := mt_of h
  unfold formI
  rw [ordI_map W V' h, List.map_map]
  refine List.map_congr_left fun u hu => ?_
  have hun := (mem_ordI.mp hu).2
  show itemOf (kidsAt l A) (odL l A) u = itemOf (kidsAt l B) (odL l B) (mtN l A B u)
  unfold itemOf
  congr 1
  have hperm : ((kidsAt l A u).map fun c => ((plc c (odL l A) : Nat) : Int)).Perm ((kidsAt l B (mtN l A B u)).map fun c => ((plc c (odL l B) : Nat) : Int)) := by
    have h1 := ((mt_kids W V' h hun).map fun c => ((plc c (odL l B) : Nat) : Int)).symm
    rw [List.map_map] at h1
    refine (List.Perm.of_eq ?_).trans h1
    refine List.map_congr_left fun c hc => ?_
    show ((plc c (odL l A) : Nat) : Int) = ((plc (mtN l A B c) (odL l B) : Nat) : Int)
    have hcn : c < l + A.length := by have := (kidsAt_lt W.raw hc); omega
    have hmem : c ∈ odL l A := by
      unfold odL
      rw [List.mem_append, List.mem_range, mem_ordI]
      omega
    have h2 : (odL l B)[plc c (odL l A)]? = some (mtN l A B c) := by
      rw [odL_map W V' h, List.getElem?_map, plc_get hmem]
      rfl
    rw [plc_at odL_nd h2]
  exact List.Perm.eq_of_pairwise (fun a b _ _ (x : a ≤ b) (y : b ≤ a) => Int.le_antisymm x y) (sortI_sorted _) (sortI_sorted _) ((sortI_perm _).trans (hperm.trans (sortI_perm _).symm))
theorem form_iff : formI l A = formI l B ↔ SameL l A B := by
  constructor
  · intro e
    have h1 := rows_form W
    rw [e] at h1
    exact h1.symm.trans (rows_form V')
  · exact form_same W V'
end
end WR
set_option Elab.async false
set_option linter.all false
set_option maxRecDepth 100000
set_option maxHeartbeats 1000000
namespace WR
open PySem PySem.Spec PyProof.Rows L2 Evl

/-! ### in whatever order thin kinds are taken out, what is left is the same -/
theorem sub_filter {s l : List Nat} (h : s.Sublist l) (hn : l.Nodup) : s = l.filter fun k => decide (k ∈ s) := by
  induction h with
  | slnil => rfl
  | @cons s l a h ih =>
    obtain ⟨h1, h2⟩ := List.nodup_cons.mp hn
    have ha : a ∉ s := fun z => h1 (h.subset z)
    rw [List.filter_cons, if_neg (by rw [decide_eq_true_iff]; exact ha)]
    exact ih h2
  | @cons_cons s l a h ih =>
    obtain ⟨h1, h2⟩ := List.nodup_cons.mp hn
    rw [List.filter_cons, if_pos (decide_eq_true List.mem_cons_self)]
    congr 1
    refine (ih h2).trans (List.filter_congr fun k hk => ?_)
    refine decide_eq_decide.mpr ⟨fun z => List.mem_cons_of_mem _ z, fun z => ?_⟩
    rcases List.mem_cons.mp z with z | z
    · rw [z] at hk
      exact absurd hk h1
    · exact z
theorem thin_out {L : Nat} {ks : List Nat} {K : Nat → List Nat} {t b k : Nat} (D : Dg L ks K) (ht : t ∈ ks) (hL : L ≤ t) (hb : K t = [b]) (h1 : pcK ks K t ≤ 1) (hk : k ∈ ks.erase t) : thinB (ks.erase t) (outK K t b) k = thinB ks K k := by
  obtain ⟨hkt, hks⟩ := (List.Nodup.mem_erase_iff D.nd).mp hk
  unfold thinB
  have e1 : (outK K t b k).length = (K k).length := by
    unfold outK
    rw [List.length_map]
  rw [e1]
  congr 1
  by_cases z : k = b
  · have h2 := (D.out_b ht hL hb).1
    have h3 := D.pc_out_b ht hL hb
    rw [z, h3]
    rw [decide_eq_true (by omega), decide_eq_true (by omega)]
  · rw [D.pc_out_ne ht hL hb z hkt]
/-- down to what is left -/
inductive Dn (T : Nat → Prop) (K : Nat → List Nat) : Nat → Nat → Prop
  | stay {x : Nat} : ¬ T x → Dn T K x x
  | go {x b y : Nat} : T x → K x = [b] → Dn T K b y → Dn T K x y
theorem Dn.det {T : Nat → Prop} {K : Nat → List Nat} {x y z : Nat} (h : Dn T K x y) (h2 : Dn T K x z) : y = z := by
  induction h generalizing z with
  | stay hn =>
    cases h2 with
    | stay _ => rfl
    | go ht _ _ => exact absurd ht hn
  | go ht hb _ ih =>
    cases h2 with
    | stay hn => exact absurd ht hn
    | go _ hb2 h3 =>
      rw [hb] at hb2
      cases hb2
      exact ih h3
theorem Dn.low {T : Nat → Prop} {K : Nat → List Nat} {r : Nat → Nat} {t x y : Nat} (hr : ∀ x b, T x → K x = [b] → r b < r x) (h : Dn T K x y) (hx : r x < r t) : Dn (fun k => T k ∨ k = t) K x y := by
  induction h with
  | stay hn => exact .stay fun z => z.elim hn fun e => by rw [e] at hx; exact absurd hx (Nat.lt_irrefl _)
  | go ht hb _ ih => exact .go (.inl ht) hb (ih (Nat.lt_trans (hr _ _ ht hb) hx))
theorem Dn.more {T : Nat → Prop} {K : Nat → List Nat} {r : Nat → Nat} {t b0 b x y : Nat} (hr : ∀ x b, T x → K x = [b] → r b < r x) (hrt : r b0 < r t) (h0 : K t = [b0]) (h1 : Dn T K b0 b) (h : Dn T K x y) : Dn (fun k => T k ∨ k = t) K x (subN t b y) := by
  induction h with
  | @stay x hn =>
    unfold subN
    by_cases z : x = t
    · rw [if_pos z, z]
      exact .go (.inr rfl) h0 (h1.low hr hrt)
    · rw [if_neg z]
      exact .stay fun y => y.elim hn z
  | go ht hb _ ih => exact .go (.inl ht) hb ih
theorem Dn.congr {T T' : Nat → Prop} {K : Nat → List Nat} {x y : Nat} (h : Dn T K x y) (e : ∀ k, T k ↔ T' k) : Dn T' K x y := by
  induction h with
  | stay hn => exact .stay fun z => hn ((e _).mpr z)
  | go ht hb _ ih => exact .go ((e _).mp ht) hb ih
structure OutI (ks0 : List Nat) (K0 : Nat → List Nat) (ks : List Nat) (K : Nat → List Nat) : Prop where
  sub : ks.Sublist ks0
  same : ∀ k ∈ ks, thinB ks K k = thinB ks0 K0 k
  gone : ∀ k ∈ ks0, k ∉ ks → thinB ks0 K0 k = true
  map : ∃ f : Nat → Nat, (∀ k ∈ ks, K k = (K0 k).map f) ∧ ∀ x ∈ ks0, Dn (fun k => k ∈ ks0 ∧ k ∉ ks) K0 x (f x)
theorem Outs.inv {L : Nat} {ks0 : List Nat} {K0 : Nat → List Nat} {ks : List Nat} {K : Nat → List Nat} (D0 : Dg L ks0 K0) (h : Outs L ks0 K0 ks K) : OutI ks0 K0 ks K := by
  induction h with
  | refl => exact ⟨List.Sublist.refl _, fun _ _ => rfl, fun k h1 h2 => absurd h1 h2, id, fun k _ => (List.map_id _).symm, fun x hx => .stay fun z => z.2 hx⟩
  | @step ks1 K1 t b h ht hL hb hpc ih =>
    have D1 := h.dg D0
    have hme : ∀ {k}, k ∈ ks1.erase t ↔ k ≠ t ∧ k ∈ ks1 := List.Nodup.mem_erase_iff D1.nd
    have ht0 : t ∈ ks0 := ih.sub.subset ht
    obtain ⟨f, hf1, hf2⟩ := ih.map
    have hthin : thinB ks1 K1 t = true := by
      unfold thinB
      rw [hb, decide_eq_true (show ([b] : List Nat).length = 1 from rfl), decide_eq_true (show pcK ks1 K1 t < 2 by omega)]
      rfl
    obtain ⟨b0, hb0, hfb⟩ : ∃ b0, K0 t = [b0] ∧ f b0 = b := by
      have h1 := hf1 t ht
      rw [hb] at h1
      cases e : K0 t with
      | nil =>
        rw [e] at h1
        cases h1
      | cons x r =>
        rw [e] at h1
        cases r with
        | nil => exact ⟨x, rfl, by injection h1 with h1 _; exact h1.symm⟩
        | cons y r => 
          have := congrArg List.length h1
          simp at this
    obtain ⟨r, hr⟩ := D0.rk
    have hr1 : ∀ x b, (x ∈ ks0 ∧ x ∉ ks1) → K0 x = [b] → r b < r x := fun x b hx e => hr x hx.1 b (by rw [e]; exact List.mem_singleton.mpr rfl)
    have hb0s : b0 ∈ ks0 := D0.cl t ht0 b0 (by rw [hb0]; exact List.mem_singleton.mpr rfl)
    refine ⟨(List.erase_sublist).trans ih.sub, fun k hk => ?_, fun k h1 h2 => ?_, fun x => subN t b (f x), fun k hk => ?_, fun x hx => ?_⟩
    · rw [thin_out D1 ht hL hb hpc hk]
      exact ih.same k (hme.mp hk).2
    · by_cases z : k = t
      · rw [z, ← ih.same t ht]
        exact hthin
      · exact ih.gone k h1 fun y => h2 (hme.mpr ⟨z, y⟩)
    · unfold outK
      rw [hf1 k (hme.mp hk).2, List.map_map]
      rfl
    · have hbb : Dn (fun k => k ∈ ks0 ∧ k ∉ ks1) K0 b0 b := by
        have h4 := hf2 b0 hb0s
        rw [hfb] at h4
        exact h4
      have h3 := Dn.more (t := t) hr1 (hr t ht0 b0 (by rw [hb0]; exact List.mem_singleton.mpr rfl)) hb0 hbb (hf2 x hx)
      refine h3.congr fun k => ?_
      rw [hme]
      constructor
      · rintro (⟨a, c⟩ | rfl)
        · exact ⟨a, fun y => c y.2⟩
        · exact ⟨ht0, fun y => y.1 rfl⟩
      · rintro ⟨a, c⟩
        by_cases z : k = t
        · exact .inr z
        · exact .inl ⟨a, fun y => c ⟨z, y⟩⟩
/-- two ways to an end -/
theorem outs_same {L : Nat} {ks0 : List Nat} {K0 : Nat → List Nat} {ks1 ks2 : List Nat} {K1 K2 : Nat → List Nat} (D0 : Dg L ks0 K0) (h1 : Outs L ks0 K0 ks1 K1) (h2 : Outs L ks0 K0 ks2 K2)
    (n1 : ks1.find? (thinB ks1 K1) = none) (n2 : ks2.find? (thinB ks2 K2) = none) : ks1 = ks2 ∧ ∀ k ∈ ks1, K1 k = K2 k := by
  have i1 := h1.inv D0
  have i2 := h2.inv D0
  have hm : ∀ {ks : List Nat} {K : Nat → List Nat}, OutI ks0 K0 ks K → ks.find? (thinB ks K) = none → ks = ks0.filter fun k => !thinB ks0 K0 k := fun {ks K} i n => by
    rw [sub_filter i.sub D0.nd]
    refine List.filter_congr fun k hk => ?_
    by_cases z : k ∈ ks
    · have := List.find?_eq_none.mp n k z
      rw [i.same k z] at this
      rw [decide_eq_true z]
      cases e : thinB ks0 K0 k with
      | true => exact absurd e this
      | false => rfl
    · rw [decide_eq_false z, i.gone k hk z]
      rfl
  have e : ks1 = ks2 := (hm i1 n1).trans (hm i2 n2).symm
  subst e
  refine ⟨rfl, fun k hk => ?_⟩
  obtain ⟨f, f1, f2⟩ := i1.map
  obtain ⟨g, g1, g2⟩ := i2.map
  rw [f1 k hk, g1 k hk]
  exact List.map_congr_left fun x hx => (f2 x (D0.cl k (i1.sub.subset hk) x hx)).det (g2 x (D0.cl k (i1.sub.subset hk) x hx))
end WR
namespace WR
open PySem PySem.Spec PyProof.Rows L2 Evl
/-! two numberings of the same kinds have one form -/
theorem num_form {kk : List (List Nat)} {L : Nat} {X Y : List (List Nat)} (h1 : NumD kk L X) (h2 : NumD kk L Y) (l8 : L ≤ 8) : formI L X = formI L Y := by
  have l1 : 1 ≤ L := by
    obtain ⟨_, g, _⟩ := h1
    exact g.l1
  have W1 := h1.drawn.web l1 l8
  have W2 := h2.drawn.web l1 l8
  obtain ⟨o1, a1, _, b1, c1, e1⟩ := h1
  obtain ⟨o2, a2, _, b2, c2, e2⟩ := h2
  exact form_same W1 W2 (rows_perm ⟨a1, b1, c1, e1⟩ ⟨a2, b2, c2, e2⟩ W1.raw W2.raw)
theorem strOut_form {l u c : Nat} {W X Y : List (List Nat)} (w : WebP l W) (hu : u < l + W.length) (hc : c ∈ kidsAt l W u) (h2 : 2 ≤ (parsAt l W c).length) (hX : StrOut l W u c X) (hY : StrOut l W u c Y) : formI l X = formI l Y := by
  have D0 : Dg l (List.range (l + W.length)) (cutK (kidsAt l W) u c) := (dg_web w).cut (List.mem_range.mpr hu) hc (by rw [pc_web]; exact h2)
  obtain ⟨ks1, K1, o1, _, n1, m1⟩ := hX
  obtain ⟨ks2, K2, o2, _, n2, m2⟩ := hY
  obtain ⟨e1, e2⟩ := outs_same D0 o1 o2 n1 n2
  subst e1
  have e3 : kkD ks1 K1 = kkD ks1 K2 := List.map_congr_left fun k hk => by rw [e2 k hk]
  rw [e3] at m1
  exact num_form m1 m2 w.raw.l8
/-- kinds in ascending order, children lower: the order is right as it stands -/
theorem Gd.asc {L : Nat} {ks : List Nat} {K : Nat → List Nat} (G : Gd L ks K) (ha : ks.Pairwise (· < ·)) (hl : ∀ u ∈ ks, ∀ c ∈ K u, c < u) : UpE L ks K ks :=
  ⟨List.Perm.refl _, G.nd, fun u c hu hc => ⟨G.cl u hu c hc, plc_before (R := fun a b => a < b) (fun a b h1 h2 => by omega) ha (G.cl u hu c hc) hu (hl u hu c hc)⟩, G.lf⟩
theorem Outs.asc {L : Nat} {ks0 : List Nat} {K0 : Nat → List Nat} {ks : List Nat} {K : Nat → List Nat} (h : Outs L ks0 K0 ks K) (ha : ks0.Pairwise (· < ·)) (hl : ∀ u ∈ ks0, ∀ c ∈ K0 u, c < u) : ks.Pairwise (· < ·) ∧ ∀ u ∈ ks, ∀ c ∈ K u, c < u := by
  induction h with
  | refl => exact ⟨ha, hl⟩
  | @step ks1 K1 t b _ ht hL hb _ ih =>
    refine ⟨ih.1.sublist List.erase_sublist, fun u hu c hc => ?_⟩
    have hu1 := List.mem_of_mem_erase hu
    obtain ⟨y, hy, rfl⟩ := List.mem_map.mp hc
    have h1 := ih.2 u hu1 y hy
    unfold subN
    by_cases z : y = t
    · rw [if_pos z]
      have h2 := ih.2 t ht b (by rw [hb]; exact List.mem_singleton.mpr rfl)
      omega
    · rw [if_neg z]
      exact h1
end WR
set_option Elab.async false
set_option linter.all false
set_option maxRecDepth 100000
set_option maxHeartbeats 1000000
namespace WR
open PySem PySem.Spec PyProof.Rows L2 Evl
def spListsK (K : PySem.W.Frag) : Sp := fun vs H Q _ => ∃ v l inner, vs = [v] ∧ Dp K H v (webD l inner) ∧ Raw l inner ∧
  ∀ p rs H', Ex H H' → Kds H H' p rs (List.replicate l [] ++ inner) → Q (.ref p) H'
abbrev nLists : List Str := ["_law_web_here", "_law_leaf", "_law_some"]
theorem scLists : FnScope nLists ["_law_web_here"] (defScope sLists) := ⟨rfl, rfl, rfl, by decide +kernel, rfl, by decide +kernel, by decide +kernel⟩
section
variable {P : Program} {w : World} {K : PySem.W.Frag} {mg : Str → Option Value} {base : Heap}
theorem ok_listsK {f : Addr} {fd : FuncData} (F : Fun K "_law_lists" "_law_lists" sLists f fd) (m1 : mg "range" = none) (m2 : mg "list" = none) :
    FnOk P w K mg base CX0 1 f fd ["_law_web_here"] (spListsK K) := by
  refine F.ok scLists (fun vs H Q E h => ?_) (fun cdv A outer s H vs Q E hr h => ?_)
  · obtain ⟨v, l, inner, rfl, _⟩ := h
    rfl
  obtain ⟨v, l, inner, rfl, hv, hw, q⟩ := h
  refine ⟨_, pss_one (ps_ret (pe_op op_cat (pe_lc (own := [("_law_leaf", 1)]) (g := gName 1) (tt := tYes) (te := tLst tNil) rfl scLists.nd (pi_range1 (by rfl) m1 (pa_cons (pe_ix (r := rIxT K) ix_tup (pv 0) pe_int (fun _ _ => rfl)) pa_nil)) (blkOk_by (N := nLists) (sc := defScope sLists) (by decide +kernel))
      (fun _ _ _ _ _ => pg_name (i := 1) scLists.nd rfl (Or.inl rfl)) (fun _ _ _ _ _ => pts_nil) (fun _ _ _ _ _ => pe_lst pa_nil))
    (pe_lc (own := [("_law_some", 2)]) (g := gName 2) (tt := tYes) (te := tCB (fun xs H Q => ∃ p ys, xs = [.ref p] ∧ (SqL K H p ys ∨ SqT K H p ys) ∧ ∀ l, H l = none → Q (.ref l) (upd H l (.lst ys))) (tCons (tVar 2) tNil)) rfl scLists.nd (pi_tup (pe_ix (r := rIxT K) ix_tup (pv 0) pe_int (fun _ _ => rfl))) (blkOk_by (N := nLists) (sc := defScope sLists) (by decide +kernel))
      (fun _ _ _ _ _ => pg_name (i := 2) scLists.nd rfl (Or.inl rfl)) (fun _ _ _ _ _ => pts_nil) (fun _ _ _ _ _ => pe_callTy call_list_of (by rfl) m2 (by decide +kernel) (pa_cons (pv 2) pa_nil))))), ?_⟩
  have h1 := hw.l1
  have h8 := hw.l8
  have h20 := hw.n20
  have hA : EvA (tCons (tOp (rIxT K) (tVar 0) (tC (.int 0))) tNil) (start nLists [v]) H [.int (l : Int)] := ea_cons (ev_i (K := K) (ed_ixT (n := 0) (d := natD l) (ed_var rfl hv) (ed_i ev_c) rfl rfl)) ea_nil
  unfold tRet tOp tLc iRng1
  refine hA H (Ex.refl H) _ fun H1 e1 => ?_
  refine ⟨(l : Int), rfl, by omega, by omega, fun D hD => ?_⟩
  rw [Int.toNat_natCast]
  refine lc_range (fun i H' => ∃ rs, Ex H1 H' ∧ Kds H1 H' D rs (List.replicate i [])) ⟨[], Ex.new hD, ⟨upd_same, rfl, List.nodup_nil, List.not_mem_nil, fun i r ks h _ => by cases h⟩, hD, fun r h => by cases h⟩ (fun i H' hi hP => ?_) fun H2 hP => ?_
  · obtain ⟨rs, e, k⟩ := hP
    refine ⟨rfl, yes_ ?_⟩
    refine ⟨by show 0 ≤ sizeLine; decide, fun r hr => ?_⟩
    have k1 := k.ex (Ex.new (o := .lst []) hr)
    have hlr : rs.length = i := by rw [k.kd.len, List.length_replicate]
    refine ⟨rs.map V.ref, k1.kd.at_, sz_lt (by rw [List.length_map]; omega), rs ++ [r], Ex.mut (e.trans (Ex.new hr)) hD, ?_⟩
    rw [show rs.map V.ref ++ [V.ref r] = (rs ++ [r]).map V.ref by rw [List.map_append]; rfl, List.replicate_succ']
    exact k1.app upd_same (k.kd.fresh hr) (fresh_back e hr)
  obtain ⟨rs1, e2, k1⟩ := hP
  have hI : EvD K (tOp (rIxT K) (tVar 0) (tC (.int 1))) (start nLists [v]) H2 (.tuple (inner.map kidsD)) := ed_ixT (n := 1) (ed_var rfl (dp_ex (e1.trans e2) _ hv)) (ed_i ev_c) rfl rfl
  refine hI H2 (Ex.refl H2) _ fun w2 H3 e3 hw3 => ?_
  obtain ⟨a, xs, rfl, hs, hd⟩ := dp_tup hw3
  have hxl := dpAll_len hd
  rw [List.length_map] at hxl
  refine ⟨a, rfl, ⟨xs, hs⟩, fun D2 hD2 => ?_⟩
  refine lc_tup (K := K) (xs := xs) (fun i H' => ∃ rs, Ex H3 H' ∧ Kds H3 H' D2 rs (inner.take i)) ⟨[], Ex.new hD2, ⟨upd_same, by rw [List.take_zero]; rfl, List.nodup_nil, List.not_mem_nil, fun i r ks h _ => by cases h⟩, hD2, fun r h => by cases h⟩
    (fun i H' _ hP => by obtain ⟨rs, e, _⟩ := hP; exact ex_t e hs) (fun i x H' hx hP => ?_) fun H4 hP => ?_
  · obtain ⟨rs, e, k⟩ := hP
    obtain ⟨d, hdi, hdx⟩ := dpAll_at hd hx
    rw [List.getElem?_map] at hdi
    obtain ⟨ks, hks, rfl⟩ := Option.map_eq_some_iff.mp hdi
    obtain ⟨b, ys, rfl, hsb, hdb⟩ := dp_tup hdx
    have hdb : DpAll K H3 ys (natDs ks) := hdb
    rw [nats_of hdb] at hsb
    have hil := (List.getElem?_eq_some_iff.mp hks).1
    refine ⟨rfl, yes_ ?_⟩
    refine ⟨.ref b, rfl, b, nVs ks, rfl, .inr (ex_t e hsb), fun r hr => ?_⟩
    have k1 := k.ex (Ex.new (o := .lst (nVs ks)) hr)
    have hlr : rs.length = i := by rw [k.kd.len, List.length_take]; omega
    refine ⟨rs.map V.ref, k1.kd.at_, sz_lt (by rw [List.length_map]; omega), rs ++ [r], Ex.mut (e.trans (Ex.new hr)) hD2, ?_⟩
    rw [show rs.map V.ref ++ [V.ref r] = (rs ++ [r]).map V.ref by rw [List.map_append]; rfl, List.take_add_one, hks]
    exact k1.app upd_same (k.kd.fresh hr) (fresh_back e hr)
  obtain ⟨rs2, e4, k2⟩ := hP
  rw [hxl, List.take_length] at k2
  have hl1 := k1.kd.len
  have hl2 := k2.kd.len
  rw [List.length_replicate] at hl1
  have k13 := k1.kd.ex e3
  refine ⟨D, D2, rs1.map V.ref, rs2.map V.ref, rfl, rfl, (k13.ex e4).at_, k2.kd.at_, sz_of (by rw [List.length_map, List.length_map]; omega), fun p hp => ?_⟩
  refine q p (rs1 ++ rs2) _ ((((e1.trans e2).trans e3).trans e4).trans (Ex.new hp)) ⟨k13.cat e4 k2 hp, fresh_back (((e1.trans e2).trans e3).trans e4) hp, fun r hr => ?_⟩
  rcases List.mem_append.mp hr with z | z
  · exact fresh_back e1 (k1.br r z)
  · exact fresh_back ((e1.trans e2).trans e3) (k2.br r z)
end
end WR
set_option Elab.async false
set_option linter.all false
set_option maxRecDepth 100000
set_option maxHeartbeats 1000000
namespace WR
open PySem PySem.Spec PyProof.Rows L2 Evl

/-! ### _law_mixed: pairs of a mixing and the list of its parents -/
def prOf (kk : List (List Nat)) : List (Nat × List Nat) := ((List.range kk.length).map fun k => (k, upsL kk k)).filter fun q => decide ((1 : Int) < ((q.2.length : Nat) : Int))
def PrAt (H : Hp) (x : V) (q : Nat × List Nat) : Prop := ∃ t lu, x = .ref t ∧ H t = some (.tup [nV q.1, .ref lu]) ∧ H lu = some (.lst (nVs q.2))
theorem PrAt.ex {H H' : Hp} {x : V} {q : Nat × List Nat} (h : PrAt H x q) (e : Ex H H') : PrAt H' x q := by
  obtain ⟨t, lu, e1, e2, e3⟩ := h
  exact ⟨t, lu, e1, e _ _ e2, e _ _ e3⟩
structure PrL (H : Hp) (xs : List V) (ps : List (Nat × List Nat)) : Prop where
  len : xs.length = ps.length
  at_ : ∀ (i : Nat) (x : V) (q : Nat × List Nat), xs[i]? = some x → ps[i]? = some q → PrAt H x q
theorem PrL.ex {H H' : Hp} {xs : List V} {ps : List (Nat × List Nat)} (h : PrL H xs ps) (e : Ex H H') : PrL H' xs ps := ⟨h.len, fun i x q h1 h2 => (h.at_ i x q h1 h2).ex e⟩
theorem PrL.nil {H : Hp} : PrL H [] [] := ⟨rfl, fun i x q h _ => by simp at h⟩
theorem PrL.snoc {H : Hp} {xs : List V} {ps : List (Nat × List Nat)} {x : V} {q : Nat × List Nat} (h : PrL H xs ps) (hx : PrAt H x q) : PrL H (xs ++ [x]) (ps ++ [q]) := by
  refine ⟨by rw [List.length_append, List.length_append, h.len]; rfl, fun i y r h1 h2 => ?_⟩
  rw [List.getElem?_append] at h1 h2
  by_cases z : i < xs.length
  · rw [if_pos z] at h1
    rw [if_pos (by rw [← h.len]; exact z)] at h2
    exact h.at_ i y r h1 h2
  · rw [if_neg z] at h1
    rw [if_neg (by rw [← h.len]; exact z)] at h2
    rw [← h.len] at h2
    have hi : i - xs.length = 0 := by
      have := (List.getElem?_eq_some_iff.mp h1).1
      simp only [List.length_cons, List.length_nil] at this
      omega
    rw [hi] at h1 h2
    cases h1
    cases h2
    exact hx
theorem ex_rem {H H' : Hp} {r : Addr} (e : Ex H H') : Ex (rem H r) (rem H' r) := fun a o h => by
  by_cases z : a = r
  · rw [z, rem_self] at h
    cases h
  · rw [rem_ne z] at h ⊢
    exact e _ _ h
theorem rem_upd {H : Hp} {r : Addr} {o : HO} : Ex (rem H r) (rem (upd H r o) r) := fun a u h => by
  by_cases z : a = r
  · rw [z, rem_self] at h
    cases h
  · rw [rem_ne z] at h ⊢
    rw [upd_ne z]
    exact h
def spMixed (K : PySem.W.Frag) : Sp := fun vs H Q _ => ∃ v l inner, vs = [v] ∧ Dp K H v (webD l inner) ∧ Raw l inner ∧
  ∀ p xs H', Ex H H' → H p = none → H' p = some (.lst xs) → PrL (rem H' p) xs (prOf (List.replicate l [] ++ inner)) → Q (.ref p) H'
abbrev nMixed : List Str := ["_law_web_here", "_law_kids_here", "_law_found", "_law_kind", "_law_ups_here"]
theorem scMixed : FnScope nMixed ["_law_web_here"] (defScope s_law_mixed) := ⟨rfl, rfl, rfl, by decide +kernel, rfl, by decide +kernel, by decide +kernel⟩
section
variable {P : Program} {w : World} {K : PySem.W.Frag} {mg : Str → Option Value} {base : Heap}
theorem q_lstsK {E : XK} {i l : Nat} {D : Ends} {tz : TS} {σ : L2.St} {H : Hp} {tp : TE} {v : V} {inner : List (List Nat)} (hx : Ev tp σ H v) (hv : Dp K H v (webD l inner)) (hw : Raw l inner)
    (k : ∀ p rs H1, Ex H H1 → Kds H H1 p rs (List.replicate l [] ++ inner) → tz D (σ.set i (some (.ref p))) H1) : tSeq (tAsg (tCall (spListsK K) [] E (tCons tp tNil)) (gName i)) tz D σ H :=
  hx H (Ex.refl H) _ fun H1 e1 => ⟨v, l, inner, rfl, dp_ex e1 _ hv, hw, fun p rs H2 e2 hk => k p rs H2 (e1.trans e2) ⟨hk.kd, fresh_back e1 hk.bp, fun r hr => fresh_back e1 (hk.br r hr)⟩⟩
theorem q_asgX {te : TE} {i : Nat} {D : Ends} {tz : TS} {σ : L2.St} {H : Hp} (h : te σ H fun v H1 => tz D (σ.set i (some v)) H1) : tSeq (tAsg te (gName i)) tz D σ H := h
theorem ok_lmixed {f fL fU : Addr} {fd fdL fdU : FuncData} (F : Fun K "_law_mixed" "_law_mixed" s_law_mixed f fd)
    (FL : Fun K "_law_lists" "_law_lists" sLists fL fdL) (bL : Binds K fdL ["_law_web_here"] []) (gL : mg "_law_lists" = some (.ref fL))
    (FU : Fun K "_law_ups" "_law_ups" sUps fU fdU) (bU : Binds K fdU ["_law_kids_here", "_law_kind"] []) (gU : mg "_law_ups" = some (.ref fU))
    (m1 : mg "range" = none) (m3 : mg "len" = none)
    (GL : FnOk P w K mg base CX0 1 fL fdL ["_law_web_here"] (spListsK K))
    (GU : FnOk P w K mg base CX0 1 fU fdU ["_law_kids_here", "_law_kind"] (spUps K)) :
    FnOk P w K mg base CX0 2 f fd ["_law_web_here"] (spMixed K) := by
  refine F.ok scMixed (fun vs H Q E h => ?_) (fun cdv A outer s H vs Q E hr h => ?_)
  · obtain ⟨v, l, inner, rfl, _⟩ := h
    rfl
  obtain ⟨v, l, inner, rfl, hv, hw, q⟩ := h
  apply Exists.intro
  apply And.intro
  case left =>
    refine' pss_cons (ps_set (i := 1) scMixed.nd rfl (.inr rfl) (pe_call GL hr (by rfl) gL FL.kp bL .nil pass0 (pa_cons (pv 0) pa_nil))) ?r0
    case' r0 => skip
    refine' pss_cons (ps_setLc (i := 2) (own := [("_law_kind", 3)]) (g := gName 3) (tt := tYes) rfl scMixed.nd rfl rfl (sw_true rfl rfl rfl (by decide +kernel))
      (pi_range1 (by rfl) m1 (pa_cons (pe_callB (r := rLenS K) call_len_seq (by rfl) m3 PySem.boot_len (pa_cons (pv 1) pa_nil)) pa_nil)) (blkOk_by (N := nMixed) (sc := defScope s_law_mixed) (by decide +kernel))
      (fun _ _ _ _ _ => pg_name (i := 3) scMixed.nd rfl (Or.inl rfl)) (fun _ _ _ _ _ => pts_nil)
      (fun _ _ _ _ _ => pe_tup (pa_cons (pv 3) (pa_cons (pe_call GU hr (by rfl) gU FU.kp bU .nil pass0 (pa_cons (pv 1) (pa_cons (pv 3) pa_nil))) pa_nil)))) ?r1
    case' r1 => skip
    exact pss_one (ps_ret (pe_lc (own := [("_law_kind", 3), ("_law_ups_here", 4)]) (g := gTup K 2 (gCons (gName 3) (gCons (gName 4) gNil))) (tt := tTest (tOp (rI0 fun i j => V.bl (decide (j < i))) (tCB (rLenS K) (tCons (tVar 4) tNil)) (tC (.int 1)))) (te := tTup (tCons (tVar 3) (tCons (tVar 4) tNil))) rfl scMixed.nd (pi_list (pv 2)) (blkOk_by (N := nMixed) (sc := defScope s_law_mixed) (by decide +kernel))
      (fun _ _ _ _ _ => pg_tup rfl (pgs_cons (pg_name (i := 3) scMixed.nd rfl (Or.inl rfl)) (pgs_cons (pg_name (i := 4) scMixed.nd rfl (Or.inl rfl)) pgs_nil)))
      (fun _ _ _ _ _ => pts_one (pt_cmpR op_gt (pe_callB (r := rLenS K) call_len_seq (by rfl) m3 PySem.boot_len (pa_cons (pv 4) pa_nil)) pe_int (nomark _)))
      (fun _ _ _ _ _ => pe_tup (pa_cons (pv 3) (pa_cons (pv 4) pa_nil)))))
  case right =>
    have h1 := hw.l1
    have h8 := hw.l8
    have h20 := hw.n20
    obtain ⟨kk, hkk⟩ : ∃ kk, kk = List.replicate l [] ++ inner := ⟨_, rfl⟩
    rw [← hkk] at q
    have hkl : kk.length = l + inner.length := by rw [hkk, List.length_append, List.length_replicate]
    have hSm : Sml kk := by
      rw [hkk]
      exact sml_kk hw
    let S (x1 x2 : Option V) : L2.St := [some v, x1, x2, none, none]
    refine q_lstsK (ev_var rfl) hv hw fun p rs H1 e1 hK => ?_
    rw [← hkk] at hK
    have hK := hK.kd
    let pr (i : Nat) : List (Nat × List Nat) := (List.range i).map fun k => (k, upsL kk k)
    have hlenA : EvA (tCons (tCB (rLenS K) (tCons (tVar 1) tNil)) tNil) (S (some (.ref p)) none) H1 [.int (kk.length : Int)] :=
      ea_cons (ev_is (ev_len (K := K) (ev_var rfl) (sq_of hK.at_)) (by rw [List.length_map, hK.len])) ea_nil
    have hC : ∀ Q' : VK, (∀ D acc H3, H1 D = none → Ex H1 H3 → H3 D = some (.lst acc) → PrL (rem H3 D) acc (pr kk.length) → Q' (.ref D) H3) →
        tLc (iRng1 (tCons (tCB (rLenS K) (tCons (tVar 1) tNil)) tNil)) (gName 3) tYes (tTup (tCons (tVar 3) (tCons (tCall (spUps K) [] E0 (tCons (tVar 1) (tCons (tVar 3) tNil))) tNil))) [3] (S (some (.ref p)) none) H1 Q' := fun Q' q' => by
      unfold tLc iRng1
      refine hlenA H1 (Ex.refl H1) _ fun H2 e2 => ?_
      refine ⟨(kk.length : Int), rfl, by omega, by omega, fun D hD => ?_⟩
      rw [Int.toNat_natCast]
      refine lc_range (fun i H' => ∃ acc, Ex H2 H' ∧ H' D = some (.lst acc) ∧ PrL (rem H' D) acc (pr i)) ⟨[], Ex.new hD, upd_same, PrL.nil⟩ (fun i H3 hi hP => ?_) fun H3 hP => ?_
      · obtain ⟨acc, e3, hd, hp⟩ := hP
        refine ⟨rfl, yes_ ?_⟩
        have hacl : acc.length = i := by rw [hp.len]; show ((List.range i).map _).length = i; rw [List.length_map, List.length_range]
        have h0 : V.int (0 + (i : Int)) = nV i := by
          show V.int _ = V.int _
          congr 1
          omega
        rw [h0]
        have hU := el_ups (K := K) (E := E0) (σ := (wipe (S (some (.ref p)) none) [3]).set 3 (some (nV i))) (H := H3) (k := i) (ev_var (i := 1) rfl) (ev_var (i := 3) rfl) (hK.ex (e2.trans e3)) hSm
        refine ⟨nV i, rfl, hU H3 (Ex.refl H3) _ fun lu H4 hlu e4 hl4 => ?_⟩
        refine ⟨by show 2 ≤ sizeLine; decide, fun t ht => ?_⟩
        have hd4 := e4 _ _ hd
        have hd5 := Ex.new (o := .tup [nV i, .ref lu]) ht _ _ hd4
        have hluD : lu ≠ D := fun z => by
          rw [z, hd] at hlu
          cases hlu
        have htD : t ≠ D := fun z => by
          rw [z, hd4] at ht
          cases ht
        have htl : lu ≠ t := fun z => by
          rw [z, ht] at hl4
          cases hl4
        refine ⟨acc, hd5, sz_lt (by omega), acc ++ [.ref t], Ex.mut ((e3.trans e4).trans (Ex.new ht)) hD, upd_same, ?_⟩
        have e5 : Ex (rem H3 D) (rem (upd (upd H4 t (.tup [nV i, .ref lu])) D (.lst (acc ++ [.ref t]))) D) := ((ex_rem e4).trans (ex_rem (Ex.new ht))).trans rem_upd
        have hpr : pr (i + 1) = pr i ++ [(i, upsL kk i)] := by
          show (List.range (i + 1)).map _ = _
          rw [List.range_succ, List.map_append]
          rfl
        rw [hpr]
        refine (hp.ex e5).snoc ⟨t, lu, rfl, ?_, ?_⟩
        · rw [rem_ne htD, upd_ne htD, upd_same]
        · rw [rem_ne hluD, upd_ne hluD, upd_ne htl]
          exact hl4
      obtain ⟨acc, e3, hd, hp⟩ := hP
      exact q' D acc H3 (fresh_back e2 hD) (e2.trans e3) hd hp
    show tSeq (tAsg _ _) _ _ (S (some (.ref p)) none) H1
    refine q_asgX (hC _ fun D acc H3 hD e3 hd hp => ?_)
    have hpD : PrL H3 acc (pr kk.length) := hp.ex rem_ex
    let gq : Nat × List Nat → Bool := fun q => decide ((1 : Int) < ((q.2.length : Nat) : Int))
    have hC2 : ∀ Q' : VK, (∀ D2 ac2 H4, H3 D2 = none → Ex H3 H4 → H4 D2 = some (.lst ac2) → PrL (rem H4 D2) ac2 (((pr kk.length).take acc.length).filter gq) → Q' (.ref D2) H4) →
        tLc (iList K (tVar 2)) (gTup K 2 (gCons (gName 3) (gCons (gName 4) gNil))) (tTest (tOp (rI0 fun i j => V.bl (decide (j < i))) (tCB (rLenS K) (tCons (tVar 4) tNil)) (tC (.int 1)))) (tTup (tCons (tVar 3) (tCons (tVar 4) tNil))) [3, 4] (S (some (.ref p)) (some (.ref D))) H3 Q' := fun Q' q' => by
      refine ⟨.ref D, rfl, D, rfl, ⟨acc, sq_of hd⟩, fun D2 hD2 => ?_⟩
      refine lc_list (K := K) (xs := acc) (fun i H' => ∃ ac2, Ex H3 H' ∧ H' D2 = some (.lst ac2) ∧ ac2.length ≤ i ∧ PrL (rem H' D2) ac2 (((pr kk.length).take i).filter gq)) ⟨[], Ex.new hD2, upd_same, Nat.le_refl _, by rw [List.take_zero]; exact PrL.nil⟩
        (fun i H' _ hP => by obtain ⟨ac2, e, _⟩ := hP; exact sq_of (e _ _ hd)) (fun i x H4 hx hP => ?_) fun H4 hP => ?_
      · obtain ⟨ac2, e4, hd4, hle, hp4⟩ := hP
        have hil := (List.getElem?_eq_some_iff.mp hx).1
        have hal : acc.length = kk.length := by rw [hp.len]; show ((List.range kk.length).map _).length = _; rw [List.length_map, List.length_range]
        obtain ⟨qq, hqq⟩ : ∃ qq, (pr kk.length)[i]? = some qq := by
          rw [hp.len] at hil
          exact ⟨_, List.getElem?_eq_getElem hil⟩
        obtain ⟨t, lu, rfl, ht, hl⟩ := (hpD.at_ i x qq hx hqq).ex e4
        have htk : (pr kk.length).take (i + 1) = (pr kk.length).take i ++ [qq] := by rw [List.take_add_one, hqq]; rfl
        refine ⟨t, [nV qq.1, .ref lu], rfl, st_of ht, rfl, _, _, rfl, _, _, rfl, rfl, rfl, ?_⟩
        have hT : EvT (tTest (tOp (rI0 fun i j => V.bl (decide (j < i))) (tCB (rLenS K) (tCons (tVar 4) tNil)) (tC (.int 1)))) (S (some (.ref p)) (some (.ref D)) |>.set 3 (some (nV qq.1)) |>.set 4 (some (.ref lu))) H4 (gq qq) :=
          et_test (ev_op (ev_is (ev_len (K := K) (ev_var rfl) (sq_of hl)) (by unfold nVs; rw [List.length_map])) ev_c rv_I0)
        refine hT H4 (Ex.refl H4) _ fun H5 e5 => ?_
        have hd5 := e5 _ _ hd4
        cases hg : gq qq with
        | false =>
          refine (if_neg Bool.false_ne_true).mpr ?_
          refine ⟨ac2, e4.trans e5, hd5, by omega, ?_⟩
          rw [htk, List.filter_append, List.filter_cons, hg, if_neg Bool.false_ne_true, List.filter_nil, List.append_nil]
          exact hp4.ex (ex_rem e5)
        | true =>
          refine (if_pos rfl).mpr ?_
          refine ⟨nV qq.1, rfl, .ref lu, rfl, by show 2 ≤ sizeLine; decide, fun t2 ht2 => ?_⟩
          have hl5 := e5 _ _ hl
          have hd6 := Ex.new (o := .tup [nV qq.1, .ref lu]) ht2 _ _ hd5
          have htD : t2 ≠ D2 := fun z => by
            rw [z, hd5] at ht2
            cases ht2
          have htl : lu ≠ t2 := fun z => by
            rw [z, ht2] at hl5
            cases hl5
          have hluD : lu ≠ D2 := fun z => by
            have h3 := (hpD.at_ i _ qq hx hqq)
            obtain ⟨t', lu', r1, r2, r3⟩ := h3
            cases r1
            have r4 := e4 _ _ r2
            rw [ht] at r4
            cases r4
            rw [z, hD2] at r3
            cases r3
          refine ⟨ac2, hd6, sz_lt (by omega), ac2 ++ [.ref t2], Ex.mut ((e4.trans e5).trans (Ex.new ht2)) hD2, upd_same, by rw [List.length_append]; show ac2.length + 1 ≤ i + 1; omega, ?_⟩
          rw [htk, List.filter_append, List.filter_cons, hg, if_pos rfl, List.filter_nil]
          refine (hp4.ex (((ex_rem e5).trans (ex_rem (Ex.new ht2))).trans rem_upd)).snoc ⟨t2, lu, rfl, ?_, ?_⟩
          · rw [rem_ne htD, upd_ne htD, upd_same]
          · rw [rem_ne hluD, upd_ne hluD, upd_ne htl]
            exact hl5
      obtain ⟨ac2, e4, hd4, hle, hp4⟩ := hP
      exact q' D2 ac2 H4 hD2 e4 hd4 hp4
    refine hC2 _ fun D2 ac2 H4 hD2 e4 hd4 hp4 => ?_
    rw [show acc.length = (pr kk.length).length from hp.len, List.take_length] at hp4
    exact q D2 ac2 H4 ((e1.trans e3).trans e4) (fresh_back (e1.trans e3) hD2) hd4 hp4
end
end WR
set_option Elab.async false
set_option linter.all false
set_option maxRecDepth 100000
set_option maxHeartbeats 2000000
namespace WR
open PySem PySem.Spec PyProof.Rows L2 Evl

/-! ### _law_links: the links into mixings -/
def prL (q : Nat × List Nat) : List PyData := q.2.map fun u => .tuple [natD u, natD q.1]
def lnkL (kk : List (List Nat)) : List PyData := (prOf kk).flatMap prL
def spLnks (K : PySem.W.Frag) : Sp := fun vs H Q _ => ∃ v l inner, vs = [v] ∧ Dp K H v (webD l inner) ∧ Raw l inner ∧ ∀ p H', Ex H H' → H p = none → LD K H' p (lnkL (List.replicate l [] ++ inner)) → Q (.ref p) H'
abbrev nLnks : List Str := ["_law_web_here", "_law_found", "_law_kind", "_law_ups_here", "_law_up"]
theorem scLnks : FnScope nLnks ["_law_web_here"] (defScope s_law_links) := ⟨rfl, rfl, rfl, by decide +kernel, rfl, by decide +kernel, by decide +kernel⟩
theorem nl_lnk {ds : List PyData} (h : ∀ d ∈ ds, ∃ a b, d = .tuple [natD a, natD b]) : nlAll ds = true := nlAll_mem fun d hd => by
  obtain ⟨a, b, rfl⟩ := h d hd
  rfl
theorem mem_prs {qs : List (Nat × List Nat)} {d : PyData} (h : d ∈ qs.flatMap prL) : ∃ a b, d = .tuple [natD a, natD b] := by
  obtain ⟨q, _, h2⟩ := List.mem_flatMap.mp h
  obtain ⟨u, _, rfl⟩ := List.mem_map.mp h2
  exact ⟨u, q.1, rfl⟩
theorem prs_len {qs : List (Nat × List Nat)} (h : ∀ q ∈ qs, q.2.length ≤ 28) : (qs.flatMap prL).length ≤ 28 * qs.length := by
  induction qs with
  | nil => exact Nat.le_refl _
  | cons q r ih =>
    have h1 := h q List.mem_cons_self
    have h2 := ih fun x hx => h x (List.mem_cons_of_mem _ hx)
    rw [List.flatMap_cons, List.length_append, List.length_cons]
    have : (prL q).length = q.2.length := List.length_map ..
    omega
section
variable {P : Program} {w : World} {K : PySem.W.Frag} {mg : Str → Option Value} {base : Heap}
theorem ok_llinks {f fM : Addr} {fd fdM : FuncData} (F : Fun K "_law_links" "_law_links" s_law_links f fd)
    (FM : Fun K "_law_mixed" "_law_mixed" s_law_mixed fM fdM) (bM : Binds K fdM ["_law_web_here"] []) (gM : mg "_law_mixed" = some (.ref fM))
    (GM : FnOk P w K mg base CX0 2 fM fdM ["_law_web_here"] (spMixed K)) :
    FnOk P w K mg base CX0 3 f fd ["_law_web_here"] (spLnks K) := by
  refine F.ok scLnks (fun vs H Q E h => ?_) (fun cdv A outer s H vs Q E hr h => ?_)
  · obtain ⟨v, l, inner, rfl, _⟩ := h
    rfl
  obtain ⟨v, l, inner, rfl, hv, hw, q⟩ := h
  refine ⟨_, pss_cons (ps_set (i := 1) scLnks.nd rfl (.inl rfl) (pe_lst pa_nil))
    (pss_cons (ps_for PassesOwn.never rfl (pi_list (pe_call GM hr (by rfl) gM FM.kp bM .nil pass0 (pa_cons (pv 0) pa_nil))) (pg_tup rfl (pgs_cons (pg_name (i := 2) scLnks.nd rfl (.inr rfl)) (pgs_cons (pg_name (i := 3) scLnks.nd rfl (.inl rfl)) pgs_nil)))
      (pss_one (ps_expr (pe_bm PySem.F.plainAttrs_list PySem.F.slot_list_extend PySem.F.type_list_extend mt_extend (pv 1) (pa_cons
        (pe_lc (own := [("_law_up", 4)]) (g := gName 4) (tt := tYes) (te := tTup (tCons (tVar 4) (tCons (tVar 2) tNil))) rfl scLnks.nd (pi_list (pv 3)) (blkOk_by (N := nLnks) (sc := defScope s_law_links) (by decide +kernel))
          (fun _ _ _ _ _ => pg_name (i := 4) scLnks.nd rfl (Or.inl rfl)) (fun _ _ _ _ _ => pts_nil) (fun _ _ _ _ _ => pe_tup (pa_cons (pv 4) (pa_cons (pv 2) pa_nil)))) pa_nil)))))
    (pss_one (ps_ret (pv 1)))), ?_⟩
  obtain ⟨kk, hkk⟩ : ∃ kk, kk = List.replicate l [] ++ inner := ⟨_, rfl⟩
  rw [← hkk] at q
  have h8 := hw.l8
  have h20 := hw.n20
  have hkl : kk.length ≤ 28 := by
    rw [hkk, List.length_append, List.length_replicate]
    omega
  have hpl : ∀ qq ∈ prOf kk, qq.2.length ≤ 28 := fun qq hq => by
    obtain ⟨k, _, rfl⟩ := List.mem_map.mp (List.mem_filter.mp hq).1
    show (upsL kk k).length ≤ 28
    have h := List.length_filter_le (fun u => decide (k ∈ rowAt kk u)) (List.range kk.length)
    rw [List.length_range] at h
    exact Nat.le_trans h hkl
  have hpn : (prOf kk).length ≤ 28 := by
    unfold prOf
    have := List.length_filter_le (fun q : Nat × List Nat => decide ((1 : Int) < ((q.2.length : Nat) : Int))) ((List.range kk.length).map fun k => (k, upsL kk k))
    rw [List.length_map, List.length_range] at this
    omega
  let S (x1 x2 x3 : Option V) : L2.St := [some v, x1, x2, x3, none]
  refine q_asgLD (K := K) (ds := []) (ed_lst eda_nil (by simp)) fun pf H1 hpf e1 hL1 => ?_
  show tSeq (tFor _ _ _) _ _ (S (some (.ref pf)) none none) H1
  refine ⟨v, rfl, v, l, inner, rfl, dp_ex e1 _ hv, hw, fun p xs H2 e2 hp hx hP => ?_⟩
  rw [← hkk] at hP
  have hP2 : PrL H2 xs (prOf kk) := hP.ex rem_ex
  have hL2 := hL1.ex e2
  have hppf : p ≠ pf := fun z => by
    obtain ⟨ys, hy, _⟩ := hL1
    rw [← z, hp] at hy
    cases hy
  have hPf : PrL (rem H2 pf) xs (prOf kk) := ⟨hP2.len, fun i x qq h1 h2 => by
    obtain ⟨t, lu, r1, r2, r3⟩ := hP2.at_ i x qq h1 h2
    obtain ⟨ys, hy, hd⟩ := hL2
    have hy0 : ys = [] := by cases hd; rfl
    refine ⟨t, lu, r1, ?_, ?_⟩
    · rw [rem_ne fun z => ?_]
      · exact r2
      · rw [z, hy] at r2
        cases r2
    · rw [rem_ne fun z => ?_]
      · exact r3
      · rw [z, hy, hy0] at r3
        have hq := (List.mem_filter.mp (List.mem_of_getElem? h2)).2
        have hq := of_decide_eq_true hq
        have r3 := HO.lst.inj (Option.some.inj r3)
        have := congrArg List.length r3
        unfold nVs at this
        rw [List.length_map] at this
        simp at this
        omega⟩
  have hpx : rem H2 pf p = some (.lst xs) := by
    rw [rem_ne hppf]
    exact hx
  refine ⟨p, rfl, ⟨xs, sq_of hx⟩, for_it (walk_list (K := K) (a := p) (xs := xs)) (fun i σ' H' => ∃ x2 x3, σ' = S (some (.ref pf)) x2 x3 ∧ Ex H H' ∧ Ex (rem H2 pf) H' ∧ LD K H' pf (((prOf kk).take i).flatMap prL))
    ⟨none, none, rfl, e1.trans e2, rem_ex, by rw [List.take_zero]; exact hL2⟩ (fun i σ' H' _ h => by
      obtain ⟨_, _, _, _, h, _⟩ := h
      exact sq_of (h _ _ hpx)) (fun i x σ' Hc H' hi h hy => ?_) fun σ' H' h => ?_⟩
  · obtain ⟨rfl, hxi⟩ := hy
    obtain ⟨x2, x3, rfl, p1, p2, p3⟩ := h
    obtain ⟨qq, hqq⟩ : ∃ qq, (prOf kk)[i]? = some qq := by
      rw [hPf.len] at hi
      exact ⟨_, List.getElem?_eq_getElem hi⟩
    obtain ⟨t, lu, rfl, ht, hl⟩ := (hPf.at_ i x qq hxi hqq).ex p2
    have hqm := List.mem_of_getElem? hqq
    refine ⟨t, [nV qq.1, .ref lu], rfl, st_of ht, rfl, _, _, rfl, _, _, rfl, rfl, ?_⟩
    show tDrop _ _ (S (some (.ref pf)) (some (nV qq.1)) (some (.ref lu))) _
    have h1 : (((prOf kk).take i).flatMap prL).length ≤ 28 * ((prOf kk).take i).length := prs_len fun q hq => hpl q (List.mem_of_mem_take hq)
    have h2 : ((prOf kk).take i).length ≤ 28 := by rw [List.length_take]; omega
    have h3 := hpl qq hqm
    have h4 : (prL qq).length = qq.2.length := List.length_map ..
    refine s_extD (K := K) (ds := ((prOf kk).take i).flatMap prL) (es := prL qq) p3 (ev_var rfl) ?_ (by omega) ?_ fun H5 hb5 hL5 => ?_
    · exact en_natMap (K := K) (ks := qq.2) (fun u => .tuple [natD u, natD qq.1]) (src_L (ed_var rfl (.lst (sq_of hl) (dpAll_nat _)))) (by omega) (fun _ => rfl) (fun u H6 e6 hu => ed_tup (eda_cons (ed_i (ev_var rfl)) (eda_cons (ed_i (ev_var rfl)) eda_nil)) (by simp)) fun _ _ => rfl
    · refine nl_lnk fun d hd => ?_
      rcases List.mem_append.mp hd with hd | hd
      · exact mem_prs hd
      · obtain ⟨u, _, rfl⟩ := List.mem_map.mp hd
        exact ⟨u, qq.1, rfl⟩
    · refine ⟨some (nV qq.1), some (.ref lu), rfl, hb5 H p1 hpf, hb5 _ p2 rem_self, ?_⟩
      have e : (some qq).toList.flatMap prL = prL qq := by simp
      rw [List.take_add_one, hqq, List.flatMap_append, e]
      exact hL5
  · obtain ⟨x2, x3, rfl, p1, p2, p3⟩ := h
    rw [hPf.len, List.take_length] at p3
    refine s_ret (ev_var rfl) fun H5 e5 => q pf H5 (p1.trans e5) hpf (p3.ex e5)
end
end WR
set_option Elab.async false
set_option linter.all false
set_option maxRecDepth 100000
set_option maxHeartbeats 2000000
namespace WR
open PySem PySem.Spec PyProof.Rows L2 Evl

/-! ### _law_uppers: the parents in a draft -/
theorem ev_inKl {K : PySem.W.Frag} {σ : L2.St} {H : Hp} {ta te : TE} {k : Nat} {ks : List Nat} {p : Addr} (hk : Ev ta σ H (nV k)) (h : Ev te σ H (.ref p)) (hp : H p = some (.lst (nVs ks))) : Ev (tOp (rIn K false) ta te) σ H (.bl (decide (k ∈ ks))) := fun H1 e Q q =>
  hk H1 e _ fun H2 e2 => h H2 (e.trans e2) _ fun H3 e3 => by
  refine rv_isL (K := K) (x := nV k) (sq_of (((e.trans e2).trans e3) _ _ hp)) rfl (flat_nVs ks) H3 (Ex.refl H3) Q fun H4 e4 => ?_
  rw [inV_nat]
  exact q H4 ((e2.trans e3).trans e4)
def spLOv (K : PySem.W.Frag) : Sp := fun vs H Q _ => ∃ (d : Addr) (es : List Ent) (ks : List Nat) (kd : Nat → List Nat) (k : Nat), vs = [.ref d, nV k] ∧ DrA H d es ∧ gr es = grK ks kd ∧ ks.length ≤ 40 ∧
  ∀ p H', H p = none → Ex H H' → H' p = some (.lst (nVs (upsK ks kd k))) → Q (.ref p) H'
abbrev nLOv : List Str := ["_law_down_here", "_law_kind", "_law_one_here"]
theorem scLOv : FnScope nLOv ["_law_down_here", "_law_kind"] (defScope s_law_uppers) := ⟨rfl, rfl, rfl, by decide +kernel, rfl, by decide +kernel, by decide +kernel⟩
section
variable {P : Program} {w : World} {K : PySem.W.Frag} {mg : Str → Option Value} {base : Heap}
theorem ok_luppers {f : Addr} {fd : FuncData} (F : Fun K "_law_uppers" "_law_uppers" s_law_uppers f fd) :
    FnOk P w K mg base CX0 1 f fd ["_law_down_here", "_law_kind"] (spLOv K) := by
  refine F.ok scLOv (fun vs H Q E h => ?_) (fun cdv A outer s H vs Q E hr h => ?_)
  · obtain ⟨d, es, ks, kd, k, rfl, _⟩ := h
    rfl
  obtain ⟨d, es, ks, kd, k, rfl, hd, hg, hkl, q⟩ := h
  have hu0 := hu_of hr
  refine ⟨_, pss_one (ps_ret (pe_lock (pe_lc (own := [("_law_one_here", 2)]) (g := gName 2) (tt := tTest (tOp (rIn K false) (tVar 1) (tDGet (tVar 0) (tVar 2)))) (te := tVar 2) rfl scLOv.nd (pi_keys (pv 0)) (blkOk_by (N := nLOv) (sc := defScope s_law_uppers) (by decide +kernel))
    (fun _ _ _ _ _ => pg_name (i := 2) scLOv.nd rfl (Or.inl rfl)) (fun _ _ _ _ _ => pts_one (pt_cmpR (r := rIn K false) op_in_seq (pv 1) (pe_dget hu0 (pv 0) (pv 2) (fun _ _ => rfl)) rfl)) (fun _ _ _ _ _ => pv 2)))), ?_⟩
  refine ⟨d, _, hd.dict, trivial, fun od => ?_⟩
  have hrd := en_natFil (K := K) (σ := [some (.ref d), some (nV k), none]) (H := upd H d (.frz od (.dK (DrK es)))) (wi := iKeys (tVar 0)) (j := 2) (vs := [2]) (te := tVar 2) (t := tTest (tOp (rIn K false) (tVar 1) (tDGet (tVar 0) (tVar 2)))) (ks := ks) (fun u => decide (k ∈ kd u)) natD (by
    have h1 := src_keysI (K := K) (σ := [some (.ref d), some (nV k), none]) (td := tVar 0) (od := od) (H := upd H d (.frz od (.dK (DrK es)))) (es := es) (ev_var rfl) upd_same
    rw [gr_keys hg, kI_nat] at h1
    exact h1) (by omega) (fun _ => rfl) (fun u H4 e4 hu => by
    obtain ⟨a, ha, ha1, ha2⟩ := dr_lk hd hg hu e4
    exact et_test (ev_inKl (K := K) (ev_var rfl) (ev_dr (ev_var rfl) (ev_var rfl) (.inr ⟨od, e4 _ _ upd_same⟩) hd.b.kn ha ha1) ha2)) (fun u H4 e4 hu hb => ed_i (ev_var rfl)) (fun u _ _ => rfl)
  refine hrd _ (Ex.refl _) _ fun p xs H4 hp e4 hx hdx => ⟨e4 _ _ upd_same, ?_⟩
  have hxs : xs = nVs (upsK ks kd k) := nats_of (K := K) hdx
  subst hxs
  have hpd : p ≠ d := fun z => by
    rw [z, upd_same] at hp
    cases hp
  rw [upd_ne hpd] at hp
  exact q p _ hp (ex_unlock hd.dict e4) (by rw [upd_ne hpd]; exact hx)
end
end WR
set_option Elab.async false
set_option linter.all false
set_option maxRecDepth 100000
set_option maxHeartbeats 2000000
namespace WR
open PySem PySem.Spec PyProof.Rows L2 Evl

/-! ### _law_struck -/
theorem thin_cut {l u c k : Nat} {W : List (List Nat)} (w : WebP l W) (hu : u < l + W.length) (hc : c ∈ kidsAt l W u) (hk : k < l + W.length) (h : thinB (List.range (l + W.length)) (cutK (kidsAt l W) u c) k = true) : k = u ∨ k = c := by
  refine Classical.byContradiction fun z => ?_
  have z1 : k ≠ u := fun e => z (.inl e)
  have z2 : k ≠ c := fun e => z (.inr e)
  unfold thinB at h
  rw [Bool.and_eq_true, decide_eq_true_iff, decide_eq_true_iff, (dg_web w).pc_cut_ne z2, pc_web] at h
  unfold cutK at h
  rw [if_neg z1] at h
  have hl : l ≤ k := Classical.byContradiction fun y => by
    rw [kidsAt_leaf (by omega)] at h
    exact absurd h.1 (by decide)
  have := w.one k hl hk (by omega)
  omega
theorem val_no {es : List Ent} {k : Int} (h : k ∉ es.map fun e => e.1) : valV (DrK es) (Sum.inl k) = none := by
  induction es with
  | nil => rfl
  | cons x es ih =>
    rw [List.map_cons] at h
    show valV ((Sum.inl x.1, V.ref x.2.1) :: DrK es) (Sum.inl k) = _
    rw [valV_neg (fun z => h (by rw [← Sum.inl.inj z]; exact List.mem_cons_self))]
    exact ih fun z => h (List.mem_cons_of_mem _ z)
theorem ups_pc {ks : List Nat} {K : Nat → List Nat} {x : Nat} : (upsK ks K x).length = pcK ks K x := by
  unfold upsK pcK
  rw [List.countP_eq_length_filter]
theorem sub_no {t b : Nat} {cs : List Nat} (h : t ∉ cs) : cs.map (subN t b) = cs := by
  refine (List.map_congr_left fun x hx => ?_).trans (List.map_id _)
  unfold subN
  rw [if_neg fun z => h (by rw [← z]; exact hx)]
  rfl
/-- len(d.get(k, [])) -/
theorem ev_lenGet {K : PySem.W.Frag} {σ : L2.St} {H : Hp} {td ty : TE} {d : Addr} {es : List Ent} {ks : List Nat} {kd : Nat → List Nat} {x : Nat} (hd : Ev td σ H (.ref d)) (hy : Ev ty σ H (nV x)) (h : DrA H d es) (hg : gr es = grK ks kd) :
    Ev (tCB (rLenS K) (tCons (tDGet2 td ty (tLst tNil)) tNil)) σ H (nV (if x ∈ ks then (kd x).length else 0)) := fun H1 e Q q =>
  hd H1 e _ fun H2 e2 => ⟨d, rfl, .inl ⟨_, .inl ((e.trans e2) _ _ h.dict)⟩, hy H2 (e.trans e2) _ fun H3 e3 => (el_lst ea_nil (by simp) : EvL (tLst tNil) σ H []) H3 ((e.trans e2).trans e3) _ fun p H4 hp e4 hx => by
    have e14 := ((e.trans e2).trans e3).trans e4
    have h4 := h.ex e14
    by_cases z : x ∈ ks
    · obtain ⟨a, ha, ha1, _, ha3⟩ := dr_un h4.b hg z
      refine ⟨some (.ref a.2.1), .inl ⟨DrK es, Sum.inl (x : Int), .inl h4.dict, rfl, (val_dr h4.b.kn ha ha1).symm⟩, a.2.1, nVs (kd x), rfl, Or.inl (sq_of ha3), ?_⟩
      rw [if_pos z] at q
      have e : (V.int ((nVs (kd x)).length : Int)) = nV (kd x).length := by
        unfold nVs
        rw [List.length_map]
        rfl
      rw [e]
      exact q H4 ((e2.trans e3).trans e4)
    · refine ⟨none, .inl ⟨DrK es, Sum.inl (x : Int), .inl h4.dict, rfl, (val_no ?_).symm⟩, p, [], rfl, Or.inl (sq_of hx), ?_⟩
      · rw [gr_keys hg]
        intro y
        obtain ⟨k, hk, hk2⟩ := List.mem_map.mp y
        have hk2 : (k : Int) = (x : Int) := hk2
        have : k = x := by omega
        exact z (this ▸ hk)
      · rw [if_neg z] at q
        exact q H4 ((e2.trans e3).trans e4)⟩
/-- d[k] = a new list -/
theorem s_putDr {K : PySem.W.Frag} {σ : L2.St} {H : Hp} {D : Ends} {te td tk : TE} {d : Addr} {es : List Ent} {ks : List Nat} {kd : Nat → List Nat} {k : Nat} {G : List Nat} (h : EvN K te σ H (natDs G)) (hd : Ev td σ H (.ref d)) (hk : Ev tk σ H (nV k)) (hD : DrA H d es) (hg : gr es = grK ks kd) (hks : k ∈ ks) (hl : ks.length ≤ 1000)
    (c : ∀ H3 p, Ex H H3 → H p = none → DrA (upd H3 d (.dK (DrK (setE es (k : Int) p (G.map fun (c : Nat) => (c : Int)))))) d (setE es (k : Int) p (G.map fun (c : Nat) => (c : Int))) → D.nx σ (upd H3 d (.dK (DrK (setE es (k : Int) p (G.map fun (c : Nat) => (c : Int))))))) : sDPut td tk te D σ H :=
  h H (Ex.refl H) _ fun p xs H1 hp e1 hx hdx => hd H1 e1 _ fun H2 e2 => hk H2 (e1.trans e2) _ fun H3 e3 => by
    have exs := nats_of (K := K) hdx
    subst exs
    have e13 := (e1.trans e2).trans e3
    obtain ⟨x, hx0, hx1, _⟩ := dr_un hD.b hg hks
    refine ⟨d, _, rfl, DPut.k (k := Sum.inl (k : Int)) (e13 _ _ hD.dict) (sz_lt (by rw [List.length_map]; have := gr_len hg; omega)), ?_⟩
    have hA := hD.setE (k := (k : Int)) (p := p) (xs := G.map fun (c : Nat) => (c : Int)) e13 hp (by rw [nvs_map]; exact e3 _ _ (e2 _ _ hx))
    rw [setE_put (xs := G.map fun (c : Nat) => (c : Int)) ⟨x, hx0, hx1⟩]
    exact c H3 p e13 hp hA
theorem setE_no {es : List Ent} {k : Int} {p a : Addr} {xs : List Int} (h : a ∉ es.map fun e => e.2.1) (hp : a ≠ p) : a ∉ (setE es k p xs).map fun e => e.2.1 := fun z => by
  obtain ⟨y, hy, hya⟩ := List.mem_map.mp z
  unfold setE at hy
  obtain ⟨x, hx, rfl⟩ := List.mem_map.mp hy
  by_cases t : x.1 = k
  · rw [if_pos t] at hya
    exact hp hya.symm
  · rw [if_neg t] at hya
    exact h (List.mem_map.mpr ⟨x, hx, hya⟩)
def spLStr (K : PySem.W.Frag) : Sp := fun vs H Q _ => ∃ v l inner u c, vs = [v, nV u, nV c] ∧ Dp K H v (webD l inner) ∧ WebP l inner ∧ u < l + inner.length ∧ c ∈ kidsAt l inner u ∧ 2 ≤ (parsAt l inner c).length ∧
  ∀ r X H', Ex H H' → Dp K H' r (webD l (formI l X)) → StrOut l inner u c X → Q r H'
/-- the form of a draft, told by the law -/
def spLFrm (K : PySem.W.Frag) : Sp := fun vs H Q _ => ∃ (d : Addr) (es : List Ent) (L : Nat) (ks : List Nat) (kd : Nat → List Nat), vs = [.ref d, nV L] ∧ DrA H d es ∧ gr es = grK ks kd ∧ Gd L ks kd ∧ ks.Pairwise (· < ·) ∧ (∀ u ∈ ks, ∀ c ∈ kd u, c < u) ∧ (∀ u ∈ ks, u < 28) ∧
  ∀ r H', Ex H H' → Dp K H' r (webD L (formI L (webO L kd ks))) → Q r H'
abbrev nLSt : List Str := ["_law_web_here", "_law_parent", "_law_child", "_law_down_here", "_law_thin", "_law_kind", "_law_over", "_law_own", "_law_one_here", "_law_other"]
theorem scLSt : FnScope nLSt ["_law_web_here", "_law_parent", "_law_child"] (defScope s_law_struck) := ⟨rfl, rfl, rfl, by decide +kernel, rfl, by decide +kernel, by decide +kernel⟩
section
variable {P : Program} {w : World} {K : PySem.W.Frag} {mg : Str → Option Value} {base : Heap}
theorem ok_lstruck {f fO fU fF : Addr} {fd fdO fdU fdF : FuncData} (F : Fun K "_law_struck" "_law_struck" s_law_struck f fd)
    (FO : Fun K "_law_opened" "_law_opened" s_law_opened fO fdO) (bO : Binds K fdO ["_law_web_here"] []) (gO : mg "_law_opened" = some (.ref fO))
    (FU : Fun K "_law_uppers" "_law_uppers" s_law_uppers fU fdU) (bU : Binds K fdU ["_law_down_here", "_law_kind"] []) (gU : mg "_law_uppers" = some (.ref fU))
    (FF : Fun K "_law_form" "_law_form" s_law_form fF fdF) (bF : Binds K fdF ["_law_down_here", "_law_leaves"] []) (gF : mg "_law_form" = some (.ref fF))
    (m1 : mg "len" = none)
    (GO : FnOk P w K mg base CX0 2 fO fdO ["_law_web_here"] (spDof K))
    (GU : FnOk P w K mg base CX0 1 fU fdU ["_law_down_here", "_law_kind"] (spLOv K))
    (GF : FnOk P w K mg base CX0 30 fF fdF ["_law_down_here", "_law_leaves"] (spLFrm K)) :
    FnOk P w K mg base CX0 31 f fd ["_law_web_here", "_law_parent", "_law_child"] (spLStr K) := by
  refine F.ok scLSt (fun vs H Q E h => ?_) (fun cdv A outer s H vs Q E hr h => ?_)
  · obtain ⟨v, l, inner, u, c, rfl, _⟩ := h
    rfl
  obtain ⟨v, l, inner, u, c, rfl, hv, hW, hu, hc, hc2, q⟩ := h
  have r1 := hr.mono (show 1 ≤ 30 by decide)
  have r2 := hr.mono (show 2 ≤ 30 by decide)
  have hu0 := hu_of r1
  have hun := hr.units
  apply Exists.intro
  apply And.intro
  case left =>
    refine' pss_cons (ps_set (i := 3) scLSt.nd rfl (.inl rfl) (pe_call GO r2 (by rfl) gO FO.kp bO .nil pass0 (pa_cons (pv 0) pa_nil))) ?r0
    case' r0 => skip
    refine' pss_cons (ps_dput hu0 (pv 3) (pv 1) (pe_lc (own := [("_law_one_here", 8)]) (g := gName 8) (tt := tTest (tOp rNe (tVar 8) (tVar 2))) (te := tVar 8) rfl scLSt.nd (pi_list (pe_dget hu0 (pv 3) (pv 1) (fun _ _ => rfl))) (blkOk_by (N := nLSt) (sc := defScope s_law_struck) (by decide +kernel))
      (fun _ _ _ _ _ => pg_name (i := 8) scLSt.nd rfl (Or.inl rfl)) (fun _ _ _ _ _ => pts_one (pt_cmpR op_ne (pv 8) (pv 2) (nomark _))) (fun _ _ _ _ _ => pv 8)) rfl) ?r1
    case' r1 => skip
    refine' pss_cons (ps_set (i := 4) scLSt.nd rfl (.inl rfl) (pe_lst (pa_cons (pv 1) (pa_cons (pv 2) pa_nil)))) ?r2
    case' r2 => skip
    refine' pss_cons (ps_while PassesOwn.never (pt_cmpR (op_neD hun) (pv 4) (pe_lst pa_nil) (nomark _)) ?wb) ?r3
    case' wb =>
      refine' pss_cons (ps_set (i := 5) scLSt.nd rfl (.inr rfl) (pe_bm0 PySem.F.plainAttrs_list PySem.F.slot_list_pop PySem.F.type_list_pop mt_pop (pv 4))) ?w0
      case' w0 => skip
      refine' pss_cons (ps_set (i := 6) scLSt.nd rfl (.inl rfl) (pe_call GU r1 (by rfl) gU FU.kp bU .nil pass0 (pa_cons (pv 3) (pa_cons (pv 5) pa_nil)))) ?w1
      case' w1 => skip
      refine' pss_one (ps_if (pw_and (pt_cmpR op_ge (pv 5) (pe_ix (r := rIxT K) ix_tup (pv 0) pe_int (fun _ _ => rfl)) (nomark _))
        (pw_and (pt_cmpR op_eq (pe_callB (r := rLenS K) call_len_seq (by rfl) m1 PySem.boot_len (pa_cons (pe_dget2 hu0 (pv 3) (pv 5) (pe_lst pa_nil) ⟨rfl, rfl, rfl, rfl⟩) pa_nil)) pe_int (nomark _))
        (pw_and1 (pt_cmpR op_lt (pe_callB (r := rLenS K) call_len_seq (by rfl) m1 PySem.boot_len (pa_cons (pv 6) pa_nil)) pe_int (nomark _))))).pt ?ib pss_nil)
      case' ib =>
        refine' pss_cons (ps_set (i := 7) scLSt.nd rfl (.inr rfl) (pe_ix (r := rIxL K) ix_list (pe_dpop1 (pv 3) (pv 5) ⟨rfl, rfl, rfl, rfl⟩) pe_int (fun _ _ => rfl))) ?i0
        case' i0 => skip
        refine' pss_cons (ps_for PassesOwn.never rfl (pi_list (pv 6)) (pg_name (i := 8) scLSt.nd rfl (.inl rfl))
          (pss_one (ps_dput hu0 (pv 3) (pv 8) (pe_lc (own := [("_law_other", 9)]) (g := gName 9) (tt := tYes) (te := tIf (tTest (tOp rEq (tVar 9) (tVar 5))) (tVar 7) (tVar 9)) rfl scLSt.nd (pi_list (pe_dget hu0 (pv 3) (pv 8) (fun _ _ => rfl))) (blkOk_by (N := nLSt) (sc := defScope s_law_struck) (by decide +kernel))
            (fun _ _ _ _ _ => pg_name (i := 9) scLSt.nd rfl (Or.inl rfl)) (fun _ _ _ _ _ => pts_nil) (fun _ _ _ _ _ => pe_ifExp (pt_cmpR op_eq (pv 9) (pv 5) (nomark _)) (pv 7) (pv 9))) rfl))) ?i1
        case' i1 => skip
        exact pss_one (ps_expr (pe_bm PySem.F.plainAttrs_list PySem.F.slot_list_extend PySem.F.type_list_extend mt_extend (pv 4) (pa_cons (pv 6) pa_nil)))
    case' r3 => skip
    exact pss_one (ps_ret (pe_call GF hr (by rfl) gF FF.kp bF .nil pass0 (pa_cons (pv 3) (pa_cons (pe_ix (r := rIxT K) ix_tup (pv 0) pe_int (fun _ _ => rfl)) pa_nil))))
  case right =>
    let S (x3 x4 x5 x6 x7 x8 : Option V) : L2.St := [some v, some (nV u), some (nV c), x3, x4, x5, x6, x7, x8, none]
    have hw := hW.raw
    have h8 := hw.l8
    have h20 := hw.n20
    obtain ⟨n, en⟩ : ∃ n, n = l + inner.length := ⟨_, rfl⟩
    have huR : u ∈ List.range (l + inner.length) := List.mem_range.mpr hu
    refine ⟨v, rfl, v, l, inner, rfl, hv, hw, fun d es H1 hd hes e1 hD hg => ?_⟩
    dsimp only [gName]
    show tSeq (sDPut _ _ _) _ _ (S (some (.ref d)) none none none none none) H1
    obtain ⟨x0, hx0, hx01, hx02, hx03⟩ := dr_un hD.b hg huR
    refine s_putDr (K := K) (d := d) (k := u) (G := (kidsAt l inner u).erase c) ?_ (ev_var rfl) (ev_var rfl) hD hg huR (by rw [List.length_range]; omega) fun H3 p e3 hp hA => ?_
    · rw [(kids_nodup hW).erase_eq_filter]
      refine en_natFil (K := K) (ks := kidsAt l inner u) (fun y => y != c) natD (src_L (fun H8 e8 Q q => (ev_dr (ev_var rfl) (ev_var rfl) (.inl hD.dict) hD.b.kn hx0 hx01) H8 e8 Q fun H9 e9 => q _ H9 e9 (.lst (sq_of (e9 _ _ (e8 _ _ hx03))) (dpAll_nat _)))) (by have := (dg_web hW).small huR; omega) (fun _ => rfl) (fun y H4 e4 hy => ?_) (fun y H4 e4 hy _ => ed_i (ev_var rfl)) fun _ _ _ => rfl
      refine et_test (ev_is (ev_op (x := nV y) (y := nV c) (ev_var rfl) (ev_var rfl) (rv_ne rfl)) ?_)
      show V.bl (!decide (V.int (y : Int) = V.int (c : Int))) = V.bl (!(y == c))
      congr 2
      rw [Bool.eq_iff_iff, decide_eq_true_iff, beq_iff_eq]
      exact ⟨fun z => by have := V.int.inj z; omega, fun z => by rw [z]⟩
    have hg3 := setE_gr (k := u) (p := p) (G := (kidsAt l inner u).erase c) hg
    have hg3 : gr (setE es (u : Int) p (((kidsAt l inner u).erase c).map fun (c : Nat) => (c : Int))) = grK (List.range (l + inner.length)) (cutK (kidsAt l inner) u c) := hg3
    have hes3 := setE_ad (k := (u : Int)) (xs := ((kidsAt l inner u).erase c).map fun (c : Nat) => (c : Int)) hes (fresh_back e1 hp)
    have e03 : Ex H (upd H3 d (.dK (DrK (setE es (u : Int) p (((kidsAt l inner u).erase c).map fun (c : Nat) => (c : Int)))))) := Ex.mut (e1.trans e3) hd
    generalize upd H3 d (.dK (DrK (setE es (u : Int) p (((kidsAt l inner u).erase c).map fun (c : Nat) => (c : Int))))) = H4 at hA e03 ⊢
    generalize setE es (u : Int) p (((kidsAt l inner u).erase c).map fun (c : Nat) => (c : Int)) = es4 at hA hg3 hes3
    clear hx0 hx01 hx02 hx03 hD hg hes e3 hp
    have D0 : Dg l (List.range (l + inner.length)) (cutK (kidsAt l inner) u c) := (dg_web hW).cut huR hc (by rw [pc_web]; exact hc2)
    dsimp only
    show tSeq (tAsg _ _) _ _ (S (some (.ref d)) none none none none none) H4
    refine q_asgL (i := 4) (xs := nVs [u, c]) (el_lst (ea_cons (ev_var rfl) (ea_cons (ev_var rfl) ea_nil)) (by show 2 ≤ 100000; decide)) fun pt H5 hpt e5 hx5 => ?_
    have hptH : H pt = none := fresh_back e03 hpt
    have hptd : pt ≠ d := fun z => by
      have := hA.dict
      rw [← z, hpt] at this
      cases this
    show tSeq (tWhile _ _) _ _ (S (some (.ref d)) (some (.ref pt)) none none none none) H5
    refine q_while (fun m σ' H' => ∃ es ks kd st x5 x6 x7 x8, σ' = S (some (.ref d)) (some (.ref pt)) x5 x6 x7 x8 ∧ Ex H H' ∧ DrA H' d es ∧ gr es = grK ks kd ∧ (∀ e ∈ es, H e.2.1 = none) ∧ Outs l (List.range (l + inner.length)) (cutK (kidsAt l inner) u c) ks kd ∧ H' pt = some (.lst (nVs st)) ∧
        (pt ∉ es.map fun e => e.2.1) ∧ (∀ k ∈ ks, thinB ks kd k = true → k ∈ st) ∧ 2 * ks.length + st.length ≤ 60 ∧ m = 2 * ks.length + st.length)
      (2 * (List.range (l + inner.length)).length + 2) ⟨es4, _, _, [u, c], none, none, none, none, rfl, e03.trans e5, hA.ex e5, hg3, hes3, .refl, hx5, hA.b.fresh hpt, fun k hk ht => ?_, by rw [List.length_range]; show 2 * (l + inner.length) + 2 ≤ 60; omega, rfl⟩ fun m σ' H' hI => ?_
    · rcases thin_cut hW hu hc (List.mem_range.mp hk) ht with z | z
      · rw [z]
        exact List.mem_cons_self
      · rw [z]
        exact List.mem_cons_of_mem _ List.mem_cons_self
    obtain ⟨es, ks, kd, st, x5, x6, x7, x8, rfl, i1, i2, i3, i4, i5, i6, i7, i8, i9, rfl⟩ := hI
    have D := i5.dg D0
    have hk28 : ks.length ≤ 28 := by
      have := D.n20
      omega
    refine ⟨!st.isEmpty, et_neNil (ev_var rfl) i6, fun hb H6 e6 => ?_, fun hb H6 e6 => ?_⟩
    rotate_left
    · have he : st = [] := by
        cases st with
        | nil => rfl
        | cons _ _ => cases hb
      subst he
      have hnone : ks.find? (thinB ks kd) = none := List.find?_eq_none.mpr fun k hk z => by cases i8 k hk z
      have G := D.gdN hnone
      obtain ⟨ha, hlo⟩ := i5.asc List.pairwise_lt_range fun x hx y hy => (kidsAt_lt hw (mem_cut hy)).2
      have hv6 := dp_ex (i1.trans e6) _ hv
      have hL : Ev (tOp (rIxT K) (tVar 0) (tC (.int 0))) (S (some (.ref d)) (some (.ref pt)) x5 x6 x7 x8) H6 (nV l) := ev_i (K := K) (ed_ixT (n := 0) (d := natD l) (ed_var rfl hv6) (ed_i ev_c) rfl rfl)
      refine ⟨.ref d, rfl, hL H6 (Ex.refl H6) _ fun H8 e8 => ?_⟩
      exact ⟨d, es, l, ks, kd, rfl, i2.ex (e6.trans e8), i3, G, ha, hlo, (fun y hy => by have := List.mem_range.mp ((i5.inv D0).sub.subset hy); omega), fun r H9 e9 hr9 => q r (webO l kd ks) H9 (((i1.trans e6).trans e8).trans e9) hr9 ⟨ks, kd, i5, D, hnone, G.num (G.asc ha hlo)⟩⟩
    have hne0 : st ≠ [] := fun z => by
      rw [z] at hb
      cases hb
    obtain ⟨init, x, rfl⟩ : ∃ init x, st = init ++ [x] := ⟨st.dropLast, st.getLast hne0, (List.dropLast_concat_getLast hne0).symm⟩
    have hstl : (init ++ [x]).length = init.length + 1 := by simp
    refine ⟨fun σ2 H2 => ∃ m', m' < 2 * ks.length + (init ++ [x]).length ∧ ∃ es ks kd st x5 x6 x7 x8, σ2 = S (some (.ref d)) (some (.ref pt)) x5 x6 x7 x8 ∧ Ex H H2 ∧ DrA H2 d es ∧ gr es = grK ks kd ∧ (∀ e ∈ es, H e.2.1 = none) ∧ Outs l (List.range (l + inner.length)) (cutK (kidsAt l inner) u c) ks kd ∧ H2 pt = some (.lst (nVs st)) ∧
        (pt ∉ es.map fun e => e.2.1) ∧ (∀ k ∈ ks, thinB ks kd k = true → k ∈ st) ∧ 2 * ks.length + st.length ≤ 60 ∧ m' = 2 * ks.length + st.length, fun σ2 H2 h => h, ?_⟩
    have i6' := e6 _ _ i6
    rw [nVs_end] at i6'
    refine q_pop (ev_var rfl) i6' fun H7 e7 => ?_
    have j1 : Ex H (upd H7 pt (.lst (nVs init))) := Ex.mut ((i1.trans e6).trans e7) hptH
    have j2 := ((i2.ex e6).ex e7).oth (a := pt) (o := .lst (nVs init)) (Ne.symm hptd) i7
    have j6 : upd H7 pt (.lst (nVs init)) pt = some (.lst (nVs init)) := upd_same
    generalize upd H7 pt (.lst (nVs init)) = H8 at j1 j2 j6 ⊢
    clear i6' i6 i2 i1 e6 e7
    show tSeq (tAsg _ _) _ _ (S (some (.ref d)) (some (.ref pt)) (some (nV x)) x6 x7 x8) H8
    refine ⟨.ref d, rfl, nV x, rfl, d, es, ks, kd, x, rfl, j2, i3, by omega, fun po H9 hpo e9 hx9 => ?_⟩
    have k1 := j1.trans e9
    have k2 := j2.ex e9
    have k6 := e9 _ _ j6
    have hpod : po ≠ d := fun z => by
      have := j2.dict
      rw [← z, hpo] at this
      cases this
    have hpopt : po ≠ pt := fun z => by
      rw [z, j6] at hpo
      cases hpo
    have hpoe : po ∉ es.map fun e => e.2.1 := j2.b.fresh hpo
    dsimp only [gName]
    show tIfS _ _ _ _ (S (some (.ref d)) (some (.ref pt)) (some (nV x)) (some (.ref po)) x7 x8) H9
    have hv9 := dp_ex k1 _ hv
    let lx : Nat := if x ∈ ks then (kd x).length else 0
    have hba : EvT (tTest (tOp (rI0 fun i j => V.bl (decide (j ≤ i))) (tVar 5) (tOp (rIxT K) (tVar 0) (tC (.int 0))))) (S (some (.ref d)) (some (.ref pt)) (some (nV x)) (some (.ref po)) x7 x8) H9 (decide (l ≤ x)) := by
      refine et_test (ev_is (ev_op (x := nV x) (y := nV l) (ev_var rfl) (ev_i (K := K) (ed_ixT (n := 0) (d := natD l) (ed_var rfl hv9) (ed_i ev_c) rfl rfl)) rv_I0) ?_)
      show V.bl (decide ((l : Int) ≤ (x : Int))) = V.bl (decide (l ≤ x))
      congr 1
      exact decide_eq_decide.mpr (by omega)
    have hbb : EvT (tTest (tOp rEq (tCB (rLenS K) (tCons (tDGet2 (tVar 3) (tVar 5) (tLst tNil)) tNil)) (tC (.int 1)))) (S (some (.ref d)) (some (.ref pt)) (some (nV x)) (some (.ref po)) x7 x8) H9 (decide (lx = 1)) := by
      refine et_test (ev_is (ev_op (x := nV lx) (y := .int 1) (ev_lenGet (ev_var rfl) (ev_var rfl) k2 i3) ev_c (rv_eq rfl)) ?_)
      show V.bl (decide (V.int (lx : Int) = V.int 1)) = V.bl (decide (lx = 1))
      congr 1
      exact decide_eq_decide.mpr ⟨fun z => by have := V.int.inj z; omega, fun z => by rw [z]; rfl⟩
    have hbc : EvT (tTest (tOp (rI0 fun i j => V.bl (decide (i < j))) (tCB (rLenS K) (tCons (tVar 6) tNil)) (tC (.int 2)))) (S (some (.ref d)) (some (.ref pt)) (some (nV x)) (some (.ref po)) x7 x8) H9 (decide (pcK ks kd x < 2)) := by
      refine et_test (ev_is (ev_op (x := .int ((nVs (upsK ks kd x)).length : Int)) (y := .int 2) (ev_len (K := K) (ev_var rfl) (sq_of hx9)) ev_c rv_I0) ?_)
      unfold nVs
      rw [List.length_map, ups_pc]
      show V.bl (decide ((pcK ks kd x : Int) < 2)) = V.bl (decide (pcK ks kd x < 2))
      congr 1
      exact decide_eq_decide.mpr (by omega)
    refine s_when (b := decide (l ≤ x) && (decide (lx = 1) && decide (pcK ks kd x < 2))) (et_and hba fun _ => et_and hbb fun _ => hbc) (fun hb H10 e10 => ?_) fun hb H10 e10 => ?_
    rotate_left
    · refine ⟨2 * ks.length + init.length, by rw [hstl]; omega, es, ks, kd, init, some (nV x), some (.ref po), x7, x8, rfl, k1.trans e10, k2.ex e10, i3, i4, i5, e10 _ _ k6, i7, fun k hk ht => ?_, by rw [hstl] at i9; omega, rfl⟩
      rcases List.mem_append.mp (i8 k hk ht) with z | z
      · exact z
      · exfalso
        have z := List.mem_singleton.mp z
        subst z
        unfold thinB at ht
        rw [Bool.and_eq_true, decide_eq_true_iff, decide_eq_true_iff] at ht
        have hlk : l ≤ k := Classical.byContradiction fun y => by
          rw [D.leaf k (by omega)] at ht
          exact absurd ht.1 (by decide)
        have hlx : lx = 1 := by
          show (if k ∈ ks then (kd k).length else 0) = 1
          rw [if_pos hk]
          exact ht.1
        rw [decide_eq_true hlk, decide_eq_true hlx, decide_eq_true ht.2] at hb
        cases hb
    rw [Bool.and_eq_true, Bool.and_eq_true, decide_eq_true_iff, decide_eq_true_iff, decide_eq_true_iff] at hb
    obtain ⟨hLx, hlx, hpc⟩ := hb
    have hxk : x ∈ ks := Classical.byContradiction fun z => by
      have hlx : (if x ∈ ks then (kd x).length else 0) = 1 := hlx
      rw [if_neg z] at hlx
      cases hlx
    have hlx : (kd x).length = 1 := by
      have hlx : (if x ∈ ks then (kd x).length else 0) = 1 := hlx
      rw [if_pos hxk] at hlx
      exact hlx
    obtain ⟨b, hKx⟩ := List.length_eq_one_iff.mp hlx
    have hpc1 : pcK ks kd x ≤ 1 := by omega
    have k2' := k2.ex e10
    obtain ⟨a, ha, ha1, ha2, ha3⟩ := dr_un k2'.b i3 hxk
    refine ⟨.ref d, rfl, d, rfl, .inl ⟨_, .inl k2'.dict⟩, nV x, rfl, DrK es, Sum.inl (x : Int), .ref a.2.1, k2'.dict, rfl, val_dr k2'.b.kn ha ha1, ?_⟩
    rw [dropE_dr]
    have hD7 := k2'.drop (t := (x : Int))
    have hg7 := dropE_gr i3 D.nd (t := x)
    have hes7 : ∀ e ∈ dropE es (x : Int), H e.2.1 = none := fun e he => i4 e (List.mem_filter.mp he).1
    have hpt7 : pt ∉ (dropE es (x : Int)).map fun e => e.2.1 := fun z => by
      obtain ⟨y, hy, hy2⟩ := List.mem_map.mp z
      exact i7 (List.mem_map.mpr ⟨y, (List.mem_filter.mp hy).1, hy2⟩)
    have hpo7 : po ∉ (dropE es (x : Int)).map fun e => e.2.1 := fun z => by
      obtain ⟨y, hy, hy2⟩ := List.mem_map.mp z
      exact hpoe (List.mem_map.mpr ⟨y, (List.mem_filter.mp hy).1, hy2⟩)
    have e07 : Ex H (upd H10 d (.dK (DrK (dropE es (x : Int))))) := Ex.mut (k1.trans e10) hd
    have hx7 : upd H10 d (.dK (DrK (dropE es (x : Int)))) a.2.1 = some (.lst (nVs [b])) := by
      rw [upd_ne fun z => ?_, ha3, hKx]
      rw [z, k2'.dict] at ha3
      cases ha3
    have hp7 : upd H10 d (.dK (DrK (dropE es (x : Int)))) pt = some (.lst (nVs init)) := by
      rw [upd_ne hptd]
      exact e10 _ _ k6
    have ho7 : upd H10 d (.dK (DrK (dropE es (x : Int)))) po = some (.lst (nVs (upsK ks kd x))) := by
      rw [upd_ne hpod]
      exact e10 _ _ hx9
    generalize upd H10 d (.dK (DrK (dropE es (x : Int)))) = H11 at hD7 e07 hx7 hp7 ho7 ⊢
    generalize dropE es (x : Int) = es7 at hD7 hg7 hes7 hpt7 hpo7
    refine rv_ixL (K := K) (v := nV b) (sq_of hx7) (atI_nat (j := 0) (xs := nVs [b]) (v := nV b) rfl) H11 (Ex.refl H11) _ fun H12 e12 => ?_
    dsimp only [gName]
    show tSeq (tFor _ _ _) _ _ (S (some (.ref d)) (some (.ref pt)) (some (nV x)) (some (.ref po)) (some (nV b)) x8) H12
    let FF (i : Nat) (y : Nat) : List Nat := if y ∈ (upsK ks kd x).take i then (kd y).map (subN x b) else kd y
    have hne : (upsK ks kd x).Nodup := D.nd.filter _
    have hksl : (ks.erase x).length + 1 = ks.length := by
      have h1 := List.length_erase_of_mem hxk
      have h2 := List.length_pos_of_mem hxk
      omega
    refine q_forLn (K := K) (j := 8) (a := po) (xs := nVs (upsK ks kd x)) (ev_var rfl) (sq_of (e12 _ _ ho7)) (fun i σ' H' => ∃ es x8, σ' = S (some (.ref d)) (some (.ref pt)) (some (nV x)) (some (.ref po)) (some (nV b)) x8 ∧ Ex H H' ∧ DrA H' d es ∧ gr es = grK (ks.erase x) (FF i) ∧ (∀ e ∈ es, H e.2.1 = none) ∧ H' po = some (.lst (nVs (upsK ks kd x))) ∧ H' pt = some (.lst (nVs init)) ∧ pt ∉ es.map fun e => e.2.1)
      (fun H13 e13 => ⟨es7, x8, rfl, (e07.trans e12).trans e13, (hD7.ex e12).ex e13, ?_, hes7, e13 _ _ (e12 _ _ ho7), e13 _ _ (e12 _ _ hp7), hpt7⟩) (fun i σ' H' _ h => ?_) (fun i y σ' H' hy h => ?_) fun σ' H' h => ?_
    · rw [hg7]
      refine grK_congr fun y _ => ?_
      show kd y = if y ∈ (upsK ks kd x).take 0 then _ else kd y
      rw [List.take_zero, if_neg List.not_mem_nil]
    · obtain ⟨_, _, _, _, _, _, _, h6, _⟩ := h
      exact sq_of h6
    · obtain ⟨es9, x8', rfl, p1, p2, p3, p4, p5, p6, p7⟩ := h
      unfold nVs at hy
      rw [List.getElem?_map] at hy
      obtain ⟨k, hk, rfl⟩ := Option.map_eq_some_iff.mp hy
      obtain ⟨hks0, hxk0⟩ := mem_upsK.mp (List.mem_of_getElem? hk)
      have hkx : k ≠ x := fun z => D.not_self hxk (by rw [z] at hxk0; exact hxk0)
      have hkm : k ∈ ks.erase x := (List.Nodup.mem_erase_iff D.nd).mpr ⟨hkx, hks0⟩
      have hkn : k ∉ (upsK ks kd x).take i := fun hm => by
        obtain ⟨hil, hik⟩ := List.getElem?_eq_some_iff.mp hk
        have nd2 := hne
        rw [← List.take_append_drop i (upsK ks kd x)] at nd2
        refine (List.nodup_append.mp nd2).2.2 _ hm _ ?_ rfl
        rw [List.drop_eq_getElem_cons hil, hik]
        exact List.mem_cons_self
      have hFk : FF i k = kd k := by
        show (if k ∈ (upsK ks kd x).take i then _ else kd k) = kd k
        rw [if_neg hkn]
      obtain ⟨z, hz, hz1, hz2, hz3⟩ := dr_un p2.b p3 hkm
      rw [hFk] at hz3
      have hk28' := D.small hks0
      show sDPut _ _ _ _ (S (some (.ref d)) (some (.ref pt)) (some (nV x)) (some (.ref po)) (some (nV b)) (some (nV k))) H'
      refine s_putDr (K := K) (d := d) (k := k) (G := (kd k).map (subN x b)) ?_ (ev_var rfl) (ev_var rfl) p2 p3 hkm (by omega) fun H3' p' e3' hp' hA' => ?_
      · have e : natDs ((kd k).map (subN x b)) = (kd k).map fun y => natD (subN x b y) := by
          unfold natDs
          rw [List.map_map]
          rfl
        rw [e]
        refine en_natMap (K := K) (ks := kd k) (fun y => natD (subN x b y)) (src_L (fun H8 e8 Q q => (ev_dr (ev_var rfl) (ev_var rfl) (.inl p2.dict) p2.b.kn hz hz1) H8 e8 Q fun H9 e9 => q _ H9 e9 (.lst (sq_of (e9 _ _ (e8 _ _ hz3))) (dpAll_nat _)))) (by omega) (fun _ => rfl) (fun y H1 e1 hy => ?_) fun _ _ => rfl
        refine ed_if (b := decide (y = x)) (et_test (ev_is (ev_op (x := nV y) (y := nV x) (ev_var rfl) (ev_var rfl) (rv_eq rfl)) ?_)) (fun hb => ?_) fun hb => ?_
        · show V.bl (decide (V.int (y : Int) = V.int (x : Int))) = V.bl (decide (y = x))
          congr 1
          exact decide_eq_decide.mpr ⟨fun z => by have := V.int.inj z; omega, fun z => by rw [z]⟩
        · unfold subN
          rw [if_pos (of_decide_eq_true hb)]
          exact ed_i (ev_var rfl)
        · unfold subN
          rw [if_neg (of_decide_eq_false hb)]
          exact ed_i (ev_var rfl)
      · refine ⟨_, some (nV k), rfl, Ex.mut (p1.trans e3') hd, hA', ?_, setE_ad p4 (fresh_back p1 hp'), ?_, ?_, setE_no p7 fun z => ?_⟩
        · rw [setE_gr p3]
          refine grK_congr fun y _ => ?_
          show (if y = k then (kd k).map (subN x b) else if y ∈ (upsK ks kd x).take i then (kd y).map (subN x b) else kd y) = if y ∈ (upsK ks kd x).take (i + 1) then (kd y).map (subN x b) else kd y
          rw [List.take_add_one, hk]
          by_cases z : y = k
          · rw [if_pos z, if_pos (by rw [z]; simp), z]
          · rw [if_neg z]
            by_cases z2 : y ∈ (upsK ks kd x).take i
            · rw [if_pos z2, if_pos (List.mem_append_left _ z2)]
            · rw [if_neg z2, if_neg (by rw [List.mem_append, Option.toList_some, List.mem_singleton]; exact fun t => t.elim z2 z)]
        · rw [upd_ne hpod]
          exact e3' _ _ p5
        · rw [upd_ne hptd]
          exact e3' _ _ p6
        · rw [← z, p6] at hp'
          cases hp'
    · obtain ⟨es9, x8', rfl, p1, p2, p3, p4, p5, p6, p7⟩ := h
      have hg9 : gr es9 = grK (ks.erase x) (outK kd x b) := by
        rw [p3]
        refine grK_congr fun y hy => ?_
        have hy0 := List.mem_of_mem_erase hy
        show (if y ∈ (upsK ks kd x).take (nVs (upsK ks kd x)).length then (kd y).map (subN x b) else kd y) = (kd y).map (subN x b)
        have e : (nVs (upsK ks kd x)).length = (upsK ks kd x).length := by
          unfold nVs
          rw [List.length_map]
        rw [e, List.take_length]
        by_cases z : y ∈ upsK ks kd x
        · rw [if_pos z]
        · rw [if_neg z, sub_no fun t => z (mem_upsK.mpr ⟨hy0, t⟩)]
      have hupl : (upsK ks kd x).length ≤ 1 := by
        rw [ups_pc]
        exact hpc1
      refine s_extend (K := K) (xs := nVs init) (ys := nVs (upsK ks kd x)) (ev_var rfl) (ev_var rfl) p6 p5 (by unfold nVs; rw [List.length_map, List.length_map]; rw [hstl] at i9; omega) fun H14 e14 => ?_
      have eapp : nVs init ++ nVs (upsK ks kd x) = nVs (init ++ upsK ks kd x) := by
        unfold nVs
        rw [List.map_append]
      rw [eapp]
      refine ⟨2 * (ks.erase x).length + (init ++ upsK ks kd x).length, by rw [List.length_append, hstl]; omega, es9, ks.erase x, outK kd x b, init ++ upsK ks kd x, some (nV x), some (.ref po), some (nV b), x8', rfl, Ex.mut (p1.trans e14) hptH, (p2.ex e14).oth (Ne.symm hptd) p7, hg9, p4, .step i5 hxk hLx hKx hpc1, upd_same, p7, fun k hk ht => ?_, by rw [List.length_append]; rw [hstl] at i9; omega, rfl⟩
      obtain ⟨hkx, hk0⟩ := (List.Nodup.mem_erase_iff D.nd).mp hk
      rw [thin_out D hxk hLx hKx hpc1 hk] at ht
      rcases List.mem_append.mp (i8 k hk0 ht) with z | z
      · exact List.mem_append_left _ z
      · exact absurd (List.mem_singleton.mp z) hkx
end
end WR
set_option Elab.async false
set_option linter.all false
set_option maxRecDepth 100000
set_option maxHeartbeats 2000000
namespace WR
open PySem PySem.Spec PyProof.Rows L2 Evl

/-! ### _law_row: a kind's row in a draft, a recursion -/
def rowW (L : Nat) (K : Nat → List Nat) (k : Nat) : List Int := (List.range L).map fun x => way K x k
/-- a draft's kinds in ascending order, children lower -/
structure Da (L : Nat) (ks : List Nat) (K : Nat → List Nat) : Prop where
  l8 : L ≤ 8
  cl : ∀ u ∈ ks, ∀ c ∈ K u, c ∈ ks ∧ c < u
  lf : ∀ k, k < L → K k = []
  few : ∀ u ∈ ks, (K u).length ≤ 40
def spLRw (K : PySem.W.Frag) (n : Nat) : Sp := fun vs H Q _ => ∃ (d : Addr) (es : List Ent) (L : Nat) (ks : List Nat) (kd : Nat → List Nat) (k : Nat), vs = [.ref d, nV L, nV k] ∧ DrA H d es ∧ gr es = grK ks kd ∧ Da L ks kd ∧ k ∈ ks ∧ k < n ∧
  ∀ r H', Ex H H' → Dp K H' r (tupI (rowW L kd k)) → Q r H'
abbrev nLRw : List Str := ["_law_down_here", "_law_leaves", "_law_kind", "_law_some", "_law_child", "_law_leaf", "_law_row_here"]
theorem scLRw : FnScope nLRw ["_law_down_here", "_law_leaves", "_law_kind"] (defScope s_law_row) := ⟨rfl, rfl, rfl, by decide +kernel, rfl, by decide +kernel, by decide +kernel⟩
abbrev scLRwI : Scope := { kind := ScopeKind.function, names := [(Str.ofString ".0", NameKind.local), (Str.ofString "_law_leaf", NameKind.cell), (Str.ofString "sum", NameKind.globalImplicit), (Str.ofString "_law_some", NameKind.cell)], isGenerator := false, isCoroutine := false, more := [] }
abbrev rIntW : List V → Hp → VK → Prop := fun xs H Q => (∃ i, xs = [.int i] ∧ Q (.int i) H) ∨ ∃ k, xs = [.bl k] ∧ Q (.int (if k then 1 else 0)) H
theorem way_low {kf : Nat → List Nat} {x k : Nat} (h : kf k = []) : way kf x k = if x = k then 1 else 0 := by
  rw [way_rec (fun c hc => by rw [h] at hc; cases hc), h]
  by_cases z : k = x
  · rw [if_pos z, if_pos z.symm]
    rfl
  · rw [if_neg z, if_neg fun y => z y.symm]
    rfl
section
variable {P : Program} {w : World} {K : PySem.W.Frag} {mg : Str → Option Value} {base : Heap}
theorem lrw_all {f : Addr} {fd : FuncData} (F : Fun K "_law_row" "_law_row" s_law_row f fd) (bT : Binds K fd ["_law_down_here", "_law_leaves", "_law_kind"] []) (gT : mg "_law_row" = some (.ref f))
    (m1 : mg "range" = none) (m2 : mg "tuple" = none) (m3 : mg "sum" = none) (m4 : mg "int" = none) (n : Nat) :
    FnOk P w K mg base CX0 (n + 1) f fd ["_law_down_here", "_law_leaves", "_law_kind"] (spLRw K n) := by
  induction n with
  | zero =>
    refine F.ok scLRw (fun vs H Q E h => ?_) (fun cdv Ar outer s H vs Q E hr h => ?_)
    · obtain ⟨d, es, L, ks, kd, k, rfl, _⟩ := h
      rfl
    · obtain ⟨d, es, L, ks, kd, k, rfl, _, _, _, _, hk, _⟩ := h
      exact absurd hk (Nat.not_lt_zero _)
  | succ n ih =>
    refine F.ok scLRw (fun vs H Q E h => ?_) (fun cdv Ar outer s H vs Q E hr h => ?_)
    · obtain ⟨d, es, L, ks, kd, k, rfl, _⟩ := h
      rfl
    obtain ⟨d, es, L, ks, kd, k, rfl, hd, hg, A, hk, hkn, q⟩ := h
    have r1 := hr.mono (show 1 ≤ n + 1 by omega)
    have hu0 := hu_of r1
    refine ⟨_, pss_cons (ps_if (pt_cmpR op_lt (pv 2) (pv 1) (nomark _)) (pss_one (ps_ret (pe_callTy call_tuple_of (by rfl) m2 (by decide +kernel) (pa_cons
        (pe_lc (own := [("_law_leaf", 5)]) (g := gName 5) (tt := tYes) (te := tCB rIntW (tCons (tOp rEq (tVar 5) (tVar 2)) tNil)) rfl scLRw.nd (pi_range1 (by rfl) m1 (pa_cons (pv 1) pa_nil)) (blkOk_by (N := nLRw) (sc := defScope s_law_row) (by decide +kernel))
          (fun _ _ _ _ _ => pg_name (i := 5) scLRw.nd rfl (Or.inl rfl)) (fun _ _ _ _ _ => pts_nil) (fun _ _ _ _ _ => pe_callTy (r := rIntW) call_int1 (by rfl) m4 (by decide +kernel) (pa_cons (pe_cmpR op_eq (pv 5) (pv 2) (nomark _)) pa_nil))) pa_nil)))) pss_nil)
      (pss_cons (ps_set (i := 3) scLRw.nd rfl (.inr rfl) (pe_lc (own := [("_law_child", 4)]) (g := gName 4) (tt := tYes) (te := tCall (spLRw K n) [] E0 (tCons (tVar 0) (tCons (tVar 1) (tCons (tVar 4) tNil)))) rfl scLRw.nd (pi_list (pe_dget hu0 (pv 0) (pv 2) (fun _ _ => rfl))) (blkOk_by (N := nLRw) (sc := defScope s_law_row) (by decide +kernel))
        (fun _ _ _ _ _ => pg_name (i := 4) scLRw.nd rfl (Or.inl rfl)) (fun _ _ _ _ _ => pts_nil) (fun _ _ _ _ _ => pe_call ih hr (by rfl) gT F.kp bT .nil pass0 (pa_cons (pv 0) (pa_cons (pv 1) (pa_cons (pv 4) pa_nil))))))
      (pss_one (ps_ret (pe_callTy call_tuple_of (by rfl) m2 (by decide +kernel) (pa_cons
        (pe_lc (own := [("_law_leaf", 5)]) (g := gName 5) (tt := tYes) (te := tCB (rSum K) (tCons (tLc (iList K (tVar 3)) (gName 6) tYes (tOp (rIxT K) (tVar 6) (tVar 5)) [6]) tNil)) rfl scLRw.nd (pi_range1 (by rfl) m1 (pa_cons (pv 1) pa_nil)) (blkOk_by (N := nLRw) (sc := defScope s_law_row) (by decide +kernel))
          (fun _ _ _ _ _ => pg_name (i := 5) scLRw.nd rfl (Or.inr rfl)) (fun _ _ _ _ _ => pts_nil) (fun _ _ _ _ _ => pe_callB (cr_sum rfl) (by rfl) m3 (by decide +kernel) (pa_cons
            (pe_lc (own := [("_law_row_here", 6)]) (g := gName 6) (tt := tYes) (te := tOp (rIxT K) (tVar 6) (tVar 5)) rfl scLRw.nd (pi_list (pv 3)) (blkOk_by (N := nLRw) (sc := scLRwI) (by decide +kernel))
              (fun _ _ _ _ _ => pg_name (i := 6) scLRw.nd rfl (Or.inl rfl)) (fun _ _ _ _ _ => pts_nil) (fun _ _ _ _ _ => pe_ix (r := rIxT K) ix_tup (pv 6) (pv 5) (fun _ _ => rfl))) pa_nil))) pa_nil))))), ?_⟩
    let S (x3 : Option V) : L2.St := [some (.ref d), some (nV L), some (nV k), x3, none, none, none]
    have h8 := A.l8
    have hlen := A.few k hk
    have hT : ∀ {H1 : Hp}, Ex H H1 → EvT (tTest (tOp (rI0 fun i j => V.bl (decide (i < j))) (tVar 2) (tVar 1))) (S none) H1 (decide (k < L)) := fun {H1} e1 => by
      refine et_test (ev_is (ev_op (x := nV k) (y := nV L) (ev_var rfl) (ev_var rfl) rv_I0) ?_)
      show V.bl (decide ((k : Int) < (L : Int))) = V.bl (decide (k < L))
      congr 1
      exact decide_eq_decide.mpr (by omega)
    refine q_when (b := decide (k < L)) (hT (Ex.refl H)) (fun hb H1 e1 => ?_) fun hb H1 e1 => ?_
    · have hb := of_decide_eq_true hb
      refine s_retD (K := K) (d := tupI (rowW L kd k)) ?_ fun r H2 e2 hr2 => q r H2 (e1.trans e2) hr2
      have er : tupI (rowW L kd k) = .tuple ((List.range L).map fun x => PyData.int (if x = k then 1 else 0)) := by
        unfold tupI rowW
        rw [List.map_map]
        congr 1
        refine List.map_congr_left fun x _ => ?_
        show PyData.int (way kd x k) = _
        rw [way_low (A.lf k hb)]
      rw [er]
      refine ed_tupN (en_natMap (K := K) (ks := List.range L) (fun x => PyData.int (if x = k then 1 else 0)) (src_rng (n := L) (ea_cons (ev_var rfl) ea_nil) (by omega)) (by rw [List.length_range]; omega) (fun _ => rfl) (fun x H2 e2 hx => ?_) fun _ _ => rfl)
      refine ed_i (ev_is (ev_intB (b := decide ((x : Int) = (k : Int))) (ev_is (ev_op (x := nV x) (y := nV k) (ev_var rfl) (ev_var rfl) (rv_eq rfl)) ?_)) ?_)
      · show V.bl (decide (V.int (x : Int) = V.int (k : Int))) = V.bl (decide ((x : Int) = (k : Int)))
        congr 1
        exact decide_eq_decide.mpr ⟨fun z => V.int.inj z, fun z => by rw [z]⟩
      · by_cases z : x = k
        · rw [if_pos z, decide_eq_true (by omega)]
          rfl
        · rw [if_neg z, decide_eq_false (by omega)]
          rfl
    · have hb := of_decide_eq_false hb
      have hd1 := hd.ex e1
      obtain ⟨a, ha, ha1, _, ha3⟩ := dr_un hd1.b hg hk
      have hS := en_natMap (K := K) (σ := S none) (H := H1) (j := 4) (vs := [4]) (te := tCall (spLRw K n) [] E0 (tCons (tVar 0) (tCons (tVar 1) (tCons (tVar 4) tNil)))) (wi := iList K (tDGet (tVar 0) (tVar 2))) (ks := kd k) (fun c => tupI (rowW L kd c))
        (src_L (fun H8 e8 Q q => (ev_dr (ev_var rfl) (ev_var rfl) (.inl hd1.dict) hd1.b.kn ha ha1) H8 e8 Q fun H9 e9 => q _ H9 e9 (.lst (sq_of (e9 _ _ (e8 _ _ ha3))) (dpAll_nat _)))) (by omega) (fun _ => rfl) (fun c H2 e2 hc => by
          obtain ⟨hc1, hc2⟩ := A.cl k hk c hc
          exact fun H3 e3 Q3 q3 => ⟨.ref d, rfl, nV L, rfl, nV c, rfl, d, es, L, ks, kd, c, rfl, hd1.ex (e2.trans e3), hg, A, hc1, by omega, fun r H4 e4 hr4 => q3 r H4 e4 hr4⟩) (fun c _ => nl_tupI _)
      refine q_asgN (K := K) (i := 3) hS fun p xs H2 hp e2 hx hdx => ?_
      show tRet _ _ (S (some (.ref p))) H2
      refine s_retD (K := K) (d := tupI (rowW L kd k)) ?_ fun r H3 e3 hr3 => q r H3 ((e1.trans e2).trans e3) hr3
      have er : tupI (rowW L kd k) = .tuple ((List.range L).map fun x => PyData.int (((kd k).map fun c => way kd x c).sum)) := by
        unfold tupI rowW
        rw [List.map_map]
        congr 1
        refine List.map_congr_left fun x hx => ?_
        have hx := List.mem_range.mp hx
        show PyData.int (way kd x k) = _
        rw [way_rec fun c hc => (A.cl k hk c hc).2, if_neg (by omega), Int.add_zero]
      rw [er]
      refine ed_tupN (en_natMap (K := K) (ks := List.range L) (fun x => PyData.int (((kd k).map fun c => way kd x c).sum)) (src_rng (n := L) (ea_cons (ev_var rfl) ea_nil) (by omega)) (by rw [List.length_range]; omega) (fun _ => rfl) (fun x H3 e3 hxr => ?_) fun _ _ => rfl)
      have hxL := List.mem_range.mp hxr
      refine ed_i (ev_sumI (K := K) ?_)
      rw [List.map_map]
      refine en_dMap (K := K) (α := Nat) (ks := kd k) (fun c => tupI (rowW L kd c)) (fun c => PyData.int (way kd x c)) (src_L (ed_var rfl (.lst (sq_of (e3 _ _ hx)) (dpAll_ex e3 _ hdx)))) (by omega) (fun _ => rfl) (fun c y H4 e4 hc hy => ?_) fun _ _ => rfl
      refine ed_ixT (n := x) (d := .int (way kd x c)) (ed_var rfl hy) (ed_i (ev_var rfl)) rfl ?_
      unfold rowW
      rw [List.map_map, List.getElem?_map, List.getElem?_range hxL]
      rfl
theorem ok_lrow {f : Addr} {fd : FuncData} (F : Fun K "_law_row" "_law_row" s_law_row f fd)
    (FT : Fun K "_law_row" "_law_row" s_law_row f fd) (bT : Binds K fd ["_law_down_here", "_law_leaves", "_law_kind"] []) (gT : mg "_law_row" = some (.ref f))
    (m1 : mg "range" = none) (m2 : mg "tuple" = none) (m3 : mg "sum" = none) (m4 : mg "int" = none) :
    FnOk P w K mg base CX0 29 f fd ["_law_down_here", "_law_leaves", "_law_kind"] (spLRw K 28) := by
  exact lrw_all F bT gT m1 m2 m3 m4 28
end
end WR
set_option Elab.async false
set_option linter.all false
set_option maxRecDepth 100000
set_option maxHeartbeats 1000000
namespace WR
open PySem PySem.Spec PyProof.Rows L2 Evl

/-! ### a draft in ascending order and its web: places for kinds -/
section
variable {L : Nat} {ks : List Nat} {K : Nat → List Nat} (G : Gd L ks K) (ha : ks.Pairwise (· < ·)) (hl : ∀ u ∈ ks, ∀ c ∈ K u, c < u)
include G ha hl
theorem asc_web : WebP L (webO L K ks) := (G.num (G.asc ha hl)).drawn.web G.gen.l1 G.l8
omit hl in
theorem asc_split : ks = List.range L ++ ks.drop L := by
  refine List.ext_getElem? fun i => ?_
  by_cases z : i < L
  · rw [G.lf i z, List.getElem?_append_left (by rw [List.length_range]; exact z), List.getElem?_range z]
  · rw [List.getElem?_append_right (by rw [List.length_range]; omega), List.length_range, List.getElem?_drop, show L + (i - L) = i by omega]
theorem asc_len : L + (webO L K ks).length = ks.length := by
  have := congrArg List.length (asc_split G ha)
  rw [List.length_append, List.length_range] at this
  unfold webO
  rw [List.length_map]
  omega
/-- a kind's children by their places -/
theorem asc_kids {k : Nat} (hk : k ∈ ks) : (kidsAt L (webO L K ks) (plc k ks)).Perm ((K k).map fun c => plc c ks) := by
  by_cases z : k < L
  · rw [G.leafP z, kidsAt_leaf z, (G.nil hk).mpr z]
    exact List.Perm.refl _
  · have hp : ¬ plc k ks < L := fun y => by
      have h1 := G.lf (plc k ks) y
      rw [plc_get hk] at h1
      have := Option.some.inj h1
      omega
    have hat : kidsAt L (webO L K ks) (plc k ks) = itemOf K ks k := by
      unfold kidsAt webO
      rw [if_neg hp, List.getD_eq_getElem?_getD, List.getElem?_map, List.getElem?_drop, show L + (plc k ks - L) = plc k ks by omega, plc_get hk]
      rfl
    rw [hat]
    have h := srtN_perm ((K k).map fun c => plc c ks)
    unfold srtN at h
    rw [List.map_map] at h
    exact h
/-- ways -/
theorem asc_way {x : Nat} (hx : x < L) : ∀ {k : Nat}, k ∈ ks → way K x k = way (kidsAt L (webO L K ks)) x (plc k ks) := fun {k} => by
  have W := asc_web G ha hl
  induction k using Nat.strongRecOn with
  | _ k ih =>
    intro hk
    rw [way_rec (hl k hk), way_rec (hdN W (plc k ks)), sum_permI ((asc_kids G ha hl hk).map _), List.map_map]
    congr 1
    · congr 1
      exact List.map_congr_left fun c hc => ih c (hl k hk c hc) (G.cl k hk c hc)
    · by_cases z : k = x
      · rw [if_pos z, if_pos (by rw [z]; exact G.leafP hx)]
      · rw [if_neg z, if_neg fun y => z ?_]
        have h1 := plc_get hk
        rw [y, G.lf x hx] at h1
        exact (Option.some.inj h1).symm
theorem asc_row {k : Nat} (hk : k ∈ ks) : rowW L K k = rowI L (webO L K ks) (plc k ks) := by
  unfold rowW rowI
  exact List.map_congr_left fun x hx => asc_way G ha hl (List.mem_range.mp hx) hk
/-- parents -/
theorem asc_pars {k : Nat} (hk : k ∈ ks) : (upsK ks K k).length = (parsAt L (webO L K ks) (plc k ks)).length := by
  have hg : (List.range ks.length).map (fun j => ks.getD j 0) = ks := all_get ks
  unfold upsK parsAt
  rw [asc_len G ha hl, ← List.countP_eq_length_filter, ← List.countP_eq_length_filter]
  conv => lhs; rw [← hg]
  rw [List.countP_map]
  refine List.countP_congr fun j hj => ?_
  have hj := List.mem_range.mp hj
  obtain ⟨u, hu⟩ : ∃ u, ks[j]? = some u := ⟨_, List.getElem?_eq_getElem hj⟩
  have hus := List.mem_of_getElem? hu
  have hgu : ks.getD j 0 = u := by
    rw [List.getD_eq_getElem?_getD, hu]
    rfl
  have hpu : plc u ks = j := plc_at G.nd hu
  rw [Function.comp_apply, decide_eq_true_iff, decide_eq_true_iff, hgu, ← hpu, (asc_kids G ha hl hus).mem_iff, List.mem_map]
  constructor
  · intro h
    exact ⟨k, h, rfl⟩
  · rintro ⟨c, hc, hcp⟩
    rw [← plc_inj (G.cl u hus c hc) hk hcp]
    exact hc
end
end WR
set_option Elab.async false
set_option linter.all false
set_option maxRecDepth 100000
set_option maxHeartbeats 1000000
namespace WR
open PySem PySem.Spec PyProof.Rows L2 Evl

/-! ### the order of a draft's kinds by rows is the form's -/
def flagW (ks : List Nat) (K : Nat → List Nat) (k : Nat) : Bool := decide (1 < (upsK ks K k).length)
def encW (L : Nat) (ks : List Nat) (K : Nat → List Nat) (k : Nat) : PyData := .tuple [tupI (rowW L K k), .bool (flagW ks K k), natD k]
def codW (L : Nat) (ks : List Nat) (K : Nat → List Nat) (k : Nat) : List Int := (rowW L K k ++ [if flagW ks K k = true then 1 else 0]) ++ [(k : Int)]
theorem rowW_len {L k : Nat} {K : Nat → List Nat} : (rowW L K k).length = L := by unfold rowW; rw [List.length_map, List.length_range]
theorem codW_inj {L : Nat} {ks : List Nat} {K : Nat → List Nat} {a b : Nat} (h : codW L ks K a = codW L ks K b) : a = b := by
  unfold codW at h
  have := (List.append_inj' h rfl).2
  injection this with h1 _
  omega
theorem encW_lt {L : Nat} {ks : List Nat} {K : Nat → List Nat} (a b : Nat) : PySem.W.dataLt (encW L ks K a) (encW L ks K b) = HT.lexLt (codW L ks K a) (codW L ks K b) := by
  unfold encW codW
  rw [PySem.W.dataLt_tuple, PySem.W.dataLt_cons (alike_tupI _ _), PySem.W.dataLt_cons (by rfl), PySem.W.dataLt_cons (by rfl), eqv_tupI, eqv_nat, dataLt_tupI, lt_nat, PySem.W.dataLt_bool, lex_snoc (by rw [List.length_append, List.length_append, rowW_len, rowW_len]; rfl), lex_snoc (by rw [rowW_len, rowW_len])]
  have hb : PyData.eqv (.bool (flagW ks K a)) (.bool (flagW ks K b)) = decide (flagW ks K a = flagW ks K b) := by
    simp only [PyData.eqv]
    cases flagW ks K a <;> cases flagW ks K b <;> rfl
  have hn := (PySem.W.dataLt_tuple [] []).symm.trans (dataLt_tupI [] [])
  rw [show HT.lexLt ([] : List Int) [] = false from rfl] at hn
  rw [hb, hn]
  by_cases z : rowW L K a = rowW L K b
  · rw [decide_eq_true z, if_pos rfl, z, if_pos rfl]
    by_cases y : flagW ks K a = flagW ks K b
    · rw [decide_eq_true y, if_pos rfl, y, if_pos rfl]
      by_cases x : a = b
      · rw [x]
        simp
      · rw [decide_eq_false x]
        rfl
    · rw [decide_eq_false y]
      have hne : ¬ (rowW L K b ++ [if flagW ks K a = true then (1 : Int) else 0] = rowW L K b ++ [if flagW ks K b = true then (1 : Int) else 0]) := fun h => by
        have h2 := (List.append_inj' h rfl).2
        injection h2 with h3 _
        cases e1 : flagW ks K a <;> cases e2 : flagW ks K b <;> rw [e1, e2] at h3 y <;> first | exact y rfl | exact absurd h3 (by decide)
      rw [if_neg hne]
      cases e1 : flagW ks K a <;> cases e2 : flagW ks K b <;> rw [e1, e2] at y <;> first | exact absurd rfl y | rfl
  · rw [decide_eq_false z, if_neg z]
    have hne : ¬ (rowW L K a ++ [if flagW ks K a = true then (1 : Int) else 0] = rowW L K b ++ [if flagW ks K b = true then (1 : Int) else 0]) := fun h => z (List.append_inj' h rfl).1
    rw [if_neg hne]
    rfl
/-- the form's order, by cod2 -/
theorem ordI_two {l : Nat} {inner : List (List Nat)} (W : WebP l inner) : (ordI l inner).Pairwise fun a b => HT.lexLt (cod2 l inner a) (cod2 l inner b) = true := by
  have h1 := (sort_nat (enc2_lt (l := l) (inner := inner)) (fun _ _ => cod2_inj) ((List.range inner.length).map (l + ·))).1.2
  rw [ord_law W] at h1
  refine (h1.and (ordI_nd (l := l) (inner := inner))).imp fun {a b} h => ?_
  cases e : HT.lexLt (cod2 l inner a) (cod2 l inner b) with
  | true => rfl
  | false => exact absurd (cod2_inj (lex_total e h.1)) h.2
section
variable {L : Nat} {ks : List Nat} {K : Nat → List Nat} (G : Gd L ks K) (ha : ks.Pairwise (· < ·)) (hl : ∀ u ∈ ks, ∀ c ∈ K u, c < u)
include G ha hl
theorem asc_at {j : Nat} (hj : j < L + (webO L K ks).length) : ks[j]? = some (ks.getD j 0) ∧ ks.getD j 0 ∈ ks ∧ plc (ks.getD j 0) ks = j := by
  rw [asc_len G ha hl] at hj
  have h1 : ks[j]? = some (ks.getD j 0) := by
    rw [List.getD_eq_getElem?_getD, List.getElem?_eq_getElem hj]
    rfl
  exact ⟨h1, List.mem_of_getElem? h1, plc_at G.nd h1⟩
theorem asc_order : (ks.drop L).mergeSort (PySem.W.dataLe false (encW L ks K)) = (ordI L (webO L K ks)).map fun j => ks.getD j 0 := by
  have W := asc_web G ha hl
  have hn := asc_len G ha hl
  refine (sort_nat (encW_lt (L := L) (ks := ks) (K := K)) (fun _ _ => codW_inj) _).2 _ ?_ ?_
  · have h1 : (ks.drop L) = ((List.range (webO L K ks).length).map (L + ·)).map fun j => ks.getD j 0 := by
      rw [List.map_map]
      refine List.ext_getElem? fun i => ?_
      rw [List.getElem?_drop, List.getElem?_map]
      by_cases z : i < (webO L K ks).length
      · rw [List.getElem?_range z]
        exact (asc_at G ha hl (by omega)).1
      · rw [List.getElem?_eq_none (by omega), List.getElem?_eq_none (by rw [List.length_range]; omega)]
        rfl
    rw [h1]
    exact (ordI_perm (l := L) (inner := webO L K ks)).symm.map _
  · refine List.pairwise_map.mpr ((ordI_two W).imp_of_mem fun {a b} h1 h2 hab => ?_)
    obtain ⟨_, m1, p1⟩ := asc_at G ha hl (mem_ordI.mp h1).2
    obtain ⟨_, m2, p2⟩ := asc_at G ha hl (mem_ordI.mp h2).2
    have c : ∀ {j : Nat}, ks.getD j 0 ∈ ks → plc (ks.getD j 0) ks = j → rowW L K (ks.getD j 0) = rowI L (webO L K ks) j ∧ flagW ks K (ks.getD j 0) = flagN L (webO L K ks) j := fun {j} m p => by
      refine ⟨by rw [asc_row G ha hl m, p], ?_⟩
      unfold flagW flagN
      rw [asc_pars G ha hl m, p]
    obtain ⟨r1, f1⟩ := c m1 p1
    obtain ⟨r2, f2⟩ := c m2 p2
    unfold codW
    unfold cod2 at hab
    rw [r1, r2, f1, f2]
    rw [lex_snoc (by rw [List.length_append, List.length_append, rowI_len, rowI_len]; rfl)] at hab ⊢
    by_cases z : rowI L (webO L K ks) a ++ [if flagN L (webO L K ks) a = true then (1 : Int) else 0] = rowI L (webO L K ks) b ++ [if flagN L (webO L K ks) b = true then (1 : Int) else 0]
    · rw [if_pos z] at hab ⊢
      have hab := of_decide_eq_true hab
      have hlt : a < b := by omega
      have := plc_before (R := fun a b => a < b) (fun a b h1 h2 => by omega) ha m1 m2
      refine decide_eq_true ?_
      have h3 : ks.getD a 0 < ks.getD b 0 := by
        rcases Nat.lt_trichotomy (ks.getD a 0) (ks.getD b 0) with y | y | y
        · exact y
        · rw [y, p2] at p1
          omega
        · have h4 := plc_before (R := fun a b => a < b) (fun a b h1 h2 => by omega) ha m2 m1 y
          rw [p1, p2] at h4
          omega
      omega
    · rw [if_neg z] at hab ⊢
      exact hab
/-- the law's order tells the form -/
theorem asc_form : ((ordI L (webO L K ks)).map fun j => ks.getD j 0).map (itemOf K (List.range L ++ (ordI L (webO L K ks)).map fun j => ks.getD j 0)) = formI L (webO L K ks) := by
  have W := asc_web G ha hl
  have hn := asc_len G ha hl
  let g : Nat → Nat := fun j => ks.getD j 0
  have hod : List.range L ++ (ordI L (webO L K ks)).map g = (odL L (webO L K ks)).map g := by
    unfold odL
    rw [List.map_append]
    congr 1
    refine ((List.map_congr_left fun k hk => ?_).trans (List.map_id _)).symm
    have hk := List.mem_range.mp hk
    show ks.getD k 0 = k
    rw [List.getD_eq_getElem?_getD, G.lf k hk]
    rfl
  have hin : ∀ j, j ∈ odL L (webO L K ks) ↔ j < L + (webO L K ks).length := fun j => by
    unfold odL
    rw [List.mem_append, List.mem_range, mem_ordI]
    omega
  have hnd : ((odL L (webO L K ks)).map g).Nodup := List.pairwise_map.mpr ((odL_nd (l := L) (inner := webO L K ks)).imp_of_mem fun {a b} h1 h2 hne z => by
    have p1 := (asc_at G ha hl ((hin a).mp h1)).2.2
    have p2 := (asc_at G ha hl ((hin b).mp h2)).2.2
    have z : ks.getD a 0 = ks.getD b 0 := z
    rw [z, p2] at p1
    exact hne p1.symm)
  show ((ordI L (webO L K ks)).map g).map (itemOf K (List.range L ++ (ordI L (webO L K ks)).map g)) = _
  rw [hod, List.map_map]
  unfold formI
  refine List.map_congr_left fun j hj => ?_
  have hjn := (mem_ordI.mp hj).2
  obtain ⟨_, hm, hp⟩ := asc_at G ha hl hjn
  show itemOf K ((odL L (webO L K ks)).map g) (g j) = itemOf (kidsAt L (webO L K ks)) (odL L (webO L K ks)) j
  unfold itemOf
  congr 1
  have hperm := asc_kids G ha hl hm
  rw [hp] at hperm
  have h1 : ((K (g j)).map fun c => ((plc c ((odL L (webO L K ks)).map g) : Nat) : Int)).Perm ((kidsAt L (webO L K ks) j).map fun c => ((plc c (odL L (webO L K ks)) : Nat) : Int)) := by
    refine List.Perm.trans ?_ (hperm.symm.map fun c => ((plc c (odL L (webO L K ks)) : Nat) : Int))
    rw [List.map_map]
    refine List.Perm.of_eq (List.map_congr_left fun c hc => ?_)
    have hcs := G.cl _ hm c hc
    have hcl : plc c ks < L + (webO L K ks).length := by
      have := plc_lt hcs
      omega
    have hgc : g (plc c ks) = c := by
      show ks.getD (plc c ks) 0 = c
      rw [List.getD_eq_getElem?_getD, plc_get hcs]
      rfl
    show ((plc c ((odL L (webO L K ks)).map g) : Nat) : Int) = ((plc (plc c ks) (odL L (webO L K ks)) : Nat) : Int)
    congr 1
    conv => lhs; rw [← hgc]
    exact plc_mapI (f := g) hnd ((hin _).mpr hcl)
  exact List.Perm.eq_of_pairwise (fun a b _ _ (x : a ≤ b) (y : b ≤ a) => Int.le_antisymm x y) (sortI_sorted _) (sortI_sorted _) ((sortI_perm _).trans (h1.trans (sortI_perm _).symm))
end
end WR
set_option Elab.async false
set_option linter.all false
set_option maxRecDepth 100000
set_option maxHeartbeats 2000000
namespace WR
open PySem PySem.Spec PyProof.Rows L2 Evl

/-! ### _law_form of a draft -/
/-- [.. for targets in data]: any target -/
theorem en_dMapG {K : PySem.W.Frag} {σ : L2.St} {H : Hp} {te : TE} {wi : TI} {g : TG} {vs : List Nat} {α : Type} {ks : List α} (A B : α → PyData) (h : Src K wi σ H (ks.map A)) (hl : ks.length ≤ 40000)
    (hv : ∀ k x H1, Ex H H1 → k ∈ ks → Dp K H1 x (A k) → ∃ σ2 : L2.St, (∀ R : L2.St → Hp → Prop, R σ2 H1 → g x (wipe σ vs) H1 R) ∧ wipe σ2 vs = wipe σ vs ∧ EvD K te σ2 H1 (B k)) (hg : ∀ k ∈ ks, nl (B k) = true) :
    EvN K (tLc wi g tYes te vs) σ H (ks.map B) := fun H1 e Q q => h H1 e _ fun J H2 G e2 hg' w Dl hD => by
  refine lc_it w (fun m H' => Ex H2 H' ∧ ∃ acc, H' Dl = some (.lst acc) ∧ DpAll K H' acc ((ks.take m).map B)) ⟨Ex.new hD, [], upd_same, by simpa using DpAll.nil⟩ (fun m H' _ p => hg' H' p.1) (fun m x H' H'' hm p hy => ?_) (fun H' p => ?_)
  · obtain ⟨rfl, d, hd, hx⟩ := hy
    obtain ⟨p1, acc, p2, p3⟩ := p
    rw [List.getElem?_map] at hd
    obtain ⟨k, hk, rfl⟩ := Option.map_eq_some_iff.mp hd
    have hml := (List.getElem?_eq_some_iff.mp hk).1
    have e3 : Ex H _ := (e.trans e2).trans p1
    obtain ⟨σ2, hR, hw, hE⟩ := hv k x _ e3 (List.mem_of_getElem? hk) hx
    refine hR _ ⟨hw, yes_ ?_⟩
    refine hE _ (Ex.refl _) _ fun y H4 e4 hyr => ⟨acc, e4 _ _ p2, sz_lt ?_, Ex.mut (p1.trans e4) hD, _, upd_same, ?_⟩
    · rw [dpAll_len p3, List.length_map, List.length_take]
      omega
    · have htk : (ks.take (m + 1)).map B = (ks.take m).map B ++ [B k] := by
        rw [List.take_add_one, hk, List.map_append]
        rfl
      rw [htk]
      have hall : nlAll ((ks.take m).map B) = true := nlAll_mem fun r' hr' => by
        obtain ⟨c, h1, rfl⟩ := List.mem_map.mp hr'
        exact hg c (List.mem_of_mem_take h1)
      exact dpAll_snoc (dpAll_updL (e4 _ _ p2) _ hall (dpAll_ex e4 _ p3)) (dp_updL (e4 _ _ p2) _ (hg k (List.mem_of_getElem? hk)) hyr)
  · obtain ⟨p1, acc, p2, p3⟩ := p
    rw [List.length_map, List.take_length] at p3
    exact q Dl acc H' (fresh_back e2 hD) (e2.trans p1) p2 p3
theorem q_forLG {K : PySem.W.Frag} {σ : L2.St} {H : Hp} {te : TE} {tu tz : TS} {D : Ends} {g : TG} {p : Addr} {xs : List V} (h : Ev te σ H (.ref p)) (hp : H p = some (.lst xs)) (Pv : Nat → L2.St → Hp → Prop) (h0 : ∀ H1, Ex H H1 → Pv 0 σ H1) (hl : ∀ m σ' H', Pv m σ' H' → H' p = some (.lst xs))
    (hs : ∀ m x σ' H', xs[m]? = some x → Pv m σ' H' → g x σ' H' fun σ2 H2 => tu { D with nx := Pv (m + 1), ct := Pv (m + 1), bk := tz D } σ2 H2) (hd : ∀ σ' H', Pv xs.length σ' H' → tz D σ' H') :
    tSeq (tFor (iList K te) g tu) tz D σ H :=
  h H (Ex.refl H) _ fun H1 e1 => ⟨p, rfl, ⟨xs, sq_of (e1 _ _ hp)⟩, for_it (walk_list (K := K) (a := p) (xs := xs)) (D := { D with nx := tz D }) Pv (h0 H1 e1) (fun m σ' H' _ P => sq_of (hl m σ' H' P)) (fun m x σ' Hc H' hm P hy => by
    obtain ⟨rfl, hx⟩ := hy
    exact hs m x σ' H' hx P) fun σ' H' P => hd σ' H' P⟩
theorem encW_tri {K : PySem.W.Frag} {H : Hp} {x : V} {L : Nat} {ks : List Nat} {kd : Nat → List Nat} {k : Nat} (h : Dp K H x (encW L ks kd k)) : ∃ a x1 x2, x = .ref a ∧ SqT K H a [x1, x2, nV k] := by
  obtain ⟨a, xs, rfl, hs, hd⟩ := dp_tup h
  cases hd with
  | cons h1 hd =>
    cases hd with
    | cons h2 hd =>
      cases hd with
      | cons h3 hd =>
        cases hd
        cases dp_int h3
        exact ⟨a, _, _, rfl, hs⟩
theorem encW_ok {L : Nat} {ks : List Nat} {kd : Nat → List Nat} : EncOk (encW L ks kd) := by
  refine ⟨fun a b => ?_, fun a => ⟨_, _, rfl⟩, fun a => ?_⟩
  · unfold encW
    unfold natD
    simp only [PySem.W.alike, PySem.W.alikeAll, alike_tupI, Bool.true_and, Bool.and_true]
  · have := depth_tupI (rowW L kd a)
    unfold encW
    unfold natD
    simp only [PyData.depth, PyData.depthAll]
    omega
abbrev rTupW (K : PySem.W.Frag) : List V → Hp → VK → Prop := fun xs H Q => ∃ p ys, xs = [.ref p] ∧ ((SqL K H p ys ∧ ∀ l, H l = none → Q (.ref l) (upd H l (.tup ys))) ∨ (SqT K H p ys ∧ Q (.ref p) H))
abbrev nLFm : List Str := ["_law_down_here", "_law_leaves", "_law_inner", "_law_order", "_law_numbers", "_law_row_here", "_law_is_mixed", "_law_kind", "_law_leaf", "_law_child"]
theorem scLFm : FnScope nLFm ["_law_down_here", "_law_leaves"] (defScope s_law_form) := ⟨rfl, rfl, rfl, by decide +kernel, rfl, by decide +kernel, by decide +kernel⟩
abbrev scLFmI : Scope := { kind := ScopeKind.function, names := [(Str.ofString ".0", NameKind.local), (Str.ofString "_law_row_here", NameKind.local), (Str.ofString "_law_is_mixed", NameKind.local), (Str.ofString "_law_kind", NameKind.local), (Str.ofString "tuple", NameKind.globalImplicit), (Str.ofString "sorted", NameKind.globalImplicit), (Str.ofString "_law_down_here", NameKind.cell), (Str.ofString "_law_numbers", NameKind.cell)], isGenerator := false, isCoroutine := false, more := [] }
section
variable {P : Program} {w : World} {K : PySem.W.Frag} {mg : Str → Option Value} {base : Heap}
theorem ok_lform {f fR fU : Addr} {fd fdR fdU : FuncData} (F : Fun K "_law_form" "_law_form" s_law_form f fd)
    (FR : Fun K "_law_row" "_law_row" s_law_row fR fdR) (bR : Binds K fdR ["_law_down_here", "_law_leaves", "_law_kind"] []) (gR : mg "_law_row" = some (.ref fR))
    (FU : Fun K "_law_uppers" "_law_uppers" s_law_uppers fU fdU) (bU : Binds K fdU ["_law_down_here", "_law_kind"] []) (gU : mg "_law_uppers" = some (.ref fU))
    (m1 : mg "range" = none) (m2 : mg "tuple" = none) (m3 : mg "len" = none) (m4 : mg "sorted" = none) (m5 : mg "dict" = none)
    (GR : FnOk P w K mg base CX0 29 fR fdR ["_law_down_here", "_law_leaves", "_law_kind"] (spLRw K 28))
    (GU : FnOk P w K mg base CX0 1 fU fdU ["_law_down_here", "_law_kind"] (spLOv K)) :
    FnOk P w K mg base CX0 30 f fd ["_law_down_here", "_law_leaves"] (spLFrm K) := by
  refine F.ok scLFm (fun vs H Q E h => ?_) (fun cdv A outer s H vs Q E hr h => ?_)
  · obtain ⟨d, es, L, ks, kd, rfl, _⟩ := h
    rfl
  obtain ⟨d, es, L, ks, kd, rfl, hd, hg, G, ha, hlo, h28, q⟩ := h
  have r1 := hr.mono (show 1 ≤ 29 by decide)
  have hu0 := hu_of r1
  have hu := hr.units
  apply Exists.intro
  apply And.intro
  case left =>
    refine' pss_cons (ps_lock (ps_setLc (i := 2) (own := [("_law_kind", 7)]) (g := gName 7) (tt := tTest (tOp (rI0 fun i j => .bl (decide (j ≤ i))) (tVar 7) (tVar 1))) (te := tVar 7) rfl scLFm.nd rfl rfl (sw_true rfl rfl rfl (by decide +kernel)) (pi_keys (pv 0)) (blkOk_by (N := nLFm) (sc := defScope s_law_form) (by decide +kernel))
      (fun _ _ _ _ _ => pg_name (i := 7) scLFm.nd rfl (Or.inl rfl)) (fun _ _ _ _ _ => pts_one (pt_cmpR op_ge (pv 7) (pv 1) (nomark _))) (fun _ _ _ _ _ => pv 7))) ?r0
    case' r0 => skip
    refine' pss_cons (ps_set (i := 3) scLFm.nd rfl (.inl rfl) (pe_callB (cr_sortN hu) (by rfl) m4 (by decide +kernel) (pa_cons (pe_lc (own := [("_law_kind", 7)]) (g := gName 7) (tt := tYes)
      (te := tTup (tCons (tCall (spLRw K 28) [] E0 (tCons (tVar 0) (tCons (tVar 1) (tCons (tVar 7) tNil)))) (tCons (tOp (rI0 fun i j => .bl (decide (j < i))) (tCB (rLenS K) (tCons (tCall (spLOv K) [] E0 (tCons (tVar 0) (tCons (tVar 7) tNil))) tNil)) (tC (.int 1))) (tCons (tVar 7) tNil)))) rfl scLFm.nd
      (pi_list (pv 2)) (blkOk_by (N := nLFm) (sc := defScope s_law_form) (by decide +kernel))
      (fun _ _ _ _ _ => pg_name (i := 7) scLFm.nd rfl (Or.inl rfl)) (fun _ _ _ _ _ => pts_nil) (fun _ _ _ _ _ => pe_tup (pa_cons (pe_call GR hr (by rfl) gR FR.kp bR .nil pass0 (pa_cons (pv 0) (pa_cons (pv 1) (pa_cons (pv 7) pa_nil)))) (pa_cons (pe_cmpR op_gt (pe_callB (r := rLenS K) call_len_seq (by rfl) m3 PySem.boot_len (pa_cons (pe_call GU r1 (by rfl) gU FU.kp bU .nil pass0 (pa_cons (pv 0) (pa_cons (pv 7) pa_nil))) pa_nil)) pe_int (nomark _)) (pa_cons (pv 7) pa_nil))))) pa_nil))) ?r1
    case' r1 => skip
    refine' pss_cons (ps_set (i := 4) scLFm.nd rfl (.inr rfl) (pe_callTy (r := rDictP K) (call_dictP rfl) (by rfl) m5 (by decide +kernel) (pa_cons (pe_lc (own := [("_law_leaf", 8)]) (g := gName 8) (tt := tYes) (te := tTup (tCons (tVar 8) (tCons (tVar 8) tNil))) rfl scLFm.nd
      (pi_range1 (by rfl) m1 (pa_cons (pv 1) pa_nil)) (blkOk_by (N := nLFm) (sc := defScope s_law_form) (by decide +kernel))
      (fun _ _ _ _ _ => pg_name (i := 8) scLFm.nd rfl (Or.inl rfl)) (fun _ _ _ _ _ => pts_nil) (fun _ _ _ _ _ => pe_tup (pa_cons (pv 8) (pa_cons (pv 8) pa_nil)))) pa_nil))) ?r2
    case' r2 => skip
    refine' pss_cons (ps_for PassesOwn.never rfl (pi_list (pv 3)) (pg_tup rfl (pgs_cons (pg_name (i := 5) scLFm.nd rfl (.inl rfl)) (pgs_cons (pg_name (i := 6) scLFm.nd rfl (.inl rfl)) (pgs_cons (pg_name (i := 7) scLFm.nd rfl (.inl rfl)) pgs_nil)))) (pss_one (ps_dput hu0 (pv 4) (pv 7) (pe_callB call_lenD (by rfl) m3 PySem.boot_len (pa_cons (pv 4) pa_nil)) rfl))) ?r3
    case' r3 => skip
    exact pss_one (ps_ret (pe_tup (pa_cons (pv 1) (pa_cons (pe_callTy (r := rTupW K) call_tuple_of (by rfl) m2 (by decide +kernel) (pa_cons
      (pe_lc (own := [("_law_row_here", 5), ("_law_is_mixed", 6), ("_law_kind", 7)]) (g := gTup K 3 (gCons (gName 5) (gCons (gName 6) (gCons (gName 7) gNil)))) (tt := tYes) (te := tCB (rTupW K) (tCons (tCB (rSortedA K) (tCons (tLc (iList K (tDGet (tVar 0) (tVar 7))) (gName 9) tYes (tDGet (tVar 4) (tVar 9)) [9]) tNil)) tNil)) rfl scLFm.nd
        (pi_list (pv 3)) (blkOk_by (N := nLFm) (sc := defScope s_law_form) (by decide +kernel))
        (fun _ _ _ _ _ => pg_tup rfl (pgs_cons (pg_name (i := 5) scLFm.nd rfl (Or.inl rfl)) (pgs_cons (pg_name (i := 6) scLFm.nd rfl (Or.inl rfl)) (pgs_cons (pg_name (i := 7) scLFm.nd rfl (Or.inl rfl)) pgs_nil)))) (fun _ _ _ _ _ => pts_nil) (fun _ _ _ _ _ => pe_callTy call_tuple_of (by rfl) m2 (by decide +kernel) (pa_cons (pe_callB cr_sortedA (by rfl) m4 (by decide +kernel) (pa_cons
          (pe_lc (own := [("_law_child", 9)]) (g := gName 9) (tt := tYes) (te := tDGet (tVar 4) (tVar 9)) rfl scLFm.nd
            (pi_list (pe_dget hu0 (pv 0) (pv 7) (fun _ _ => rfl))) (blkOk_by (N := nLFm) (sc := scLFmI) (by decide +kernel))
            (fun _ _ _ _ _ => pg_name (i := 9) scLFm.nd rfl (Or.inl rfl)) (fun _ _ _ _ _ => pts_nil) (fun _ _ _ _ _ => pe_dget hu0 (pv 4) (pv 9) (fun _ _ => rfl))) pa_nil)) pa_nil))) pa_nil)) pa_nil))))
  case right =>
    let S (x2 x3 x4 x5 x6 x7 : Option V) : L2.St := [some (.ref d), some (nV L), x2, x3, x4, x5, x6, x7, none, none]
    have h8 := G.l8
    have hkl : ks.length ≤ 28 := by
      have := G.n20
      omega
    have hspl := asc_split G ha
    have hlow : ∀ k ∈ ks.drop L, L ≤ k := fun k hk => Classical.byContradiction fun z => by
      have hn := G.nd
      rw [hspl] at hn
      exact (List.nodup_append.mp hn).2.2 k (List.mem_range.mpr (by omega)) k hk rfl
    have hfil : (ks.filter fun k => decide (L ≤ k)) = ks.drop L := by
      have e1 : (List.range L).filter (fun k => decide (L ≤ k)) = [] := List.filter_eq_nil_iff.mpr fun k hk => by
        rw [decide_eq_true_iff]
        have := List.mem_range.mp hk
        omega
      have e2 : (ks.drop L).filter (fun k => decide (L ≤ k)) = ks.drop L := List.filter_eq_self.mpr fun k hk => decide_eq_true (hlow k hk)
      conv => lhs; rw [hspl]
      rw [List.filter_append, e1, e2, List.nil_append]
    have hfew : ∀ u ∈ ks, (kd u).length ≤ 28 := fun k hk => by
      have h1 := nodup_len ks.length ((kd k).map fun c => plc c ks) (List.pairwise_map.mpr ((G.knd hk).imp_of_mem fun {a b} ha hb h z => h (plc_inj (G.cl k hk a ha) (G.cl k hk b hb) z))) fun c hc => by
        obtain ⟨y, hy, rfl⟩ := List.mem_map.mp hc
        exact plc_lt (G.cl k hk y hy)
      rw [List.length_map] at h1
      omega
    have A' : Da L ks kd := ⟨h8, fun u hu c hc => ⟨G.cl u hu c hc, hlo u hu c hc⟩, fun k hk => (G.nil (G.leafM hk)).mpr hk, fun u hu => by have := hfew u hu; omega⟩
    -- the kinds that are no leaves
    refine ⟨d, _, hd.dict, trivial, fun od => ?_⟩
    have hrd := en_natFil (K := K) (σ := S none none none none none none) (H := upd H d (.frz od (.dK (DrK es)))) (wi := iKeys (tVar 0)) (j := 7) (vs := [7]) (te := tVar 7) (t := tTest (tOp (rI0 fun i j => .bl (decide (j ≤ i))) (tVar 7) (tVar 1))) (ks := ks) (fun u => decide (L ≤ u)) natD (by
      have h1 := src_keysI (K := K) (σ := S none none none none none none) (td := tVar 0) (od := od) (H := upd H d (.frz od (.dK (DrK es)))) (es := es) (ev_var rfl) upd_same
      rw [gr_keys hg, kI_nat] at h1
      exact h1) (by omega) (fun _ => rfl) (fun u H4 e4 hu => by
      refine et_test (ev_is (ev_op (x := nV u) (y := nV L) (ev_var rfl) (ev_var rfl) rv_I0) ?_)
      show V.bl (decide ((L : Int) ≤ (u : Int))) = V.bl (decide (L ≤ u))
      congr 1
      exact decide_eq_decide.mpr (by omega)) (fun u H4 e4 hu hb => ed_i (ev_var rfl)) (fun u _ _ => rfl)
    rw [hfil] at hrd
    refine hrd _ (Ex.refl _) _ fun p xs H1 hp e1 hx hdx => ⟨e1 _ _ upd_same, ?_⟩
    have hxs : xs = nVs (ks.drop L) := nats_of (K := K) hdx
    subst hxs
    have hpd : p ≠ d := fun z => by
      rw [z, upd_same] at hp
      cases hp
    have e2 := ex_unlock hd.dict e1
    have hx2 : upd H1 d (.dK (DrK es)) p = some (.lst (nVs (ks.drop L))) := by
      rw [upd_ne hpd]
      exact hx
    generalize upd H1 d (.dK (DrK es)) = H2 at e2 hx2 ⊢
    clear hrd hdx hx e1
    dsimp only
    show tSeq (tAsg _ _) _ _ (S (some (.ref p)) none none none none none) H2
    -- their order
    obtain ⟨od, hodE⟩ : ∃ od, od = (ks.drop L).mergeSort (PySem.W.dataLe false (encW L ks kd)) := ⟨_, rfl⟩
    have hodp : od.Perm (ks.drop L) := by
      rw [hodE]
      exact (sort_nat (encW_lt (L := L) (ks := ks) (K := kd)) (fun _ _ => codW_inj) _).1.1
    have hodn : od.Nodup := hodp.nodup_iff.mpr (G.nd.sublist (List.drop_sublist _ _))
    have hodk : ∀ k ∈ od, k ∈ ks := fun k hk => List.mem_of_mem_drop (hodp.mem_iff.mp hk)
    have hodl : od.length ≤ 28 := by
      rw [hodp.length_eq, List.length_drop]
      omega
    refine q_asgLD (K := K) (ds := od.map (encW L ks kd)) ?_ fun po H3 hpo e3 hL => ?_
    · rw [hodE]
      refine en_sortN encW_ok (ed_n ?_) (by rw [List.length_drop]; omega)
      refine en_natMap (K := K) (ks := ks.drop L) (encW L ks kd) (src_L (ed_var rfl (.lst (sq_of hx2) (dpAll_nat _)))) (by rw [List.length_drop]; omega) (fun _ => rfl) (fun k H4 e4 hk => ?_) fun k _ => ?_
      · have hks := List.mem_of_mem_drop hk
        have hd4 := hd.ex (e2.trans e4)
        have hups : EvL (tCall (spLOv K) [] E0 (tCons (tVar 0) (tCons (tVar 7) tNil))) ((wipe (S (some (.ref p)) none none none none none) [7]).set 7 (some (nV k))) H4 (nVs (upsK ks kd k)) := fun H5 e5 Q5 q5 => ⟨.ref d, rfl, nV k, rfl, d, es, ks, kd, k, rfl, hd4.ex e5, hg, by omega, fun po H6 hpo e6 hx6 => q5 po H6 hpo e6 hx6⟩
        refine ed_tup (ds := [tupI (rowW L kd k), .bool (flagW ks kd k), natD k]) (eda_cons (fun H5 e5 Q5 q5 => ⟨.ref d, rfl, nV L, rfl, nV k, rfl, d, es, L, ks, kd, k, rfl, hd4.ex e5, hg, A', hks, h28 k hks, fun r H6 e6 hr6 => q5 r H6 e6 hr6⟩) (eda_cons (ed_b (ev_is (ev_op (x := nV (upsK ks kd k).length) (y := .int 1) (ev_lenL (K := K) hups) ev_c rv_I0) ?_)) (eda_cons (ed_i (ev_var rfl)) eda_nil))) (by simp)
        show V.bl (decide ((1 : Int) < ((upsK ks kd k).length : Int))) = V.bl (flagW ks kd k)
        unfold flagW
        congr 1
        exact decide_eq_decide.mpr (by omega)
      · show (nl (tupI _) && (true && (true && true))) = true
        rw [nl_tupI]
        rfl
    obtain ⟨xo, hxo, hxd⟩ := hL
    have hxl : xo.length = od.length := by rw [dpAll_len hxd, List.length_map]
    -- the numbers
    show tSeq _ _ _ (S (some (.ref p)) (some (.ref po)) none none none none) H3
    refine q_asgDD (K := K) (n := L) (g := natD) ?_ fun d2 H4 hd2 e4 hD4 => ?_
    · exact en_natMap (K := K) (ks := List.range L) (fun k => .tuple [natD k, natD k]) (src_rng (n := L) (ea_cons (ev_var rfl) ea_nil) (by omega)) (by rw [List.length_range]; omega) (fun _ => rfl) (fun c H5 e5 hc =>
        ed_tup (ds := [natD c, natD c]) (eda_cons (ed_i (ev_var rfl)) (eda_cons (ed_i (ev_var rfl)) eda_nil)) (by simp)) fun _ _ => rfl
    obtain ⟨vs4, hv4, hn4⟩ := hD4
    have hn4 : DpAll K H4 vs4 (natDs (List.range L)) := hn4
    rw [nats_of hn4, dVs_nats] at hv4
    have hd2H : H3 d2 = none := hd2
    have e03 := e2.trans e3
    show tSeq (tFor _ _ _) _ _ (S (some (.ref p)) (some (.ref po)) (some (.ref d2)) none none none) H4
    refine q_forLG (K := K) (p := po) (xs := xo) (ev_var rfl) (e4 _ _ hxo) (fun m σ' H' => ∃ x5 x6 x7 : Option V, σ' = S (some (.ref p)) (some (.ref po)) (some (.ref d2)) x5 x6 x7 ∧ Ex H3 H' ∧ H' d2 = some (.dK (dNs 0 (List.range L ++ od.take m))))
      (fun H5 e5 => ⟨none, none, none, rfl, e4.trans e5, by rw [List.take_zero, List.append_nil]; exact e5 _ _ hv4⟩) (fun m σ' H' hP => by obtain ⟨_, _, _, _, h, _⟩ := hP; exact h _ _ hxo) (fun m x σ' H' hx hP => ?_) fun σ' H' hP => ?_
    · obtain ⟨x5, x6, x7, rfl, e6, hd6⟩ := hP
      obtain ⟨dx, hdx, hxx⟩ := dpAll_at (dpAll_ex e6 _ hxd) hx
      rw [List.getElem?_map] at hdx
      obtain ⟨k, hk, rfl⟩ := Option.map_eq_some_iff.mp hdx
      obtain ⟨a, y1, y2, rfl, hs⟩ := encW_tri hxx
      have hkm := List.mem_of_getElem? hk
      have hnot : k ∉ List.range L ++ od.take m := fun z => by
        rcases List.mem_append.mp z with z | z
        · have := List.mem_range.mp z
          have := hlow k (hodp.mem_iff.mp hkm)
          omega
        · obtain ⟨hil, hik⟩ := List.getElem?_eq_some_iff.mp hk
          have nd2 := hodn
          rw [← List.take_append_drop m od] at nd2
          refine (List.nodup_append.mp nd2).2.2 _ z _ ?_ rfl
          rw [List.drop_eq_getElem_cons hil, hik]
          exact List.mem_cons_self
      have hzl : (List.range L ++ od.take m).length ≤ 1000 := by
        rw [List.length_append, List.length_range, List.length_take]
        omega
      refine ⟨a, _, rfl, hs, rfl, _, _, rfl, _, _, rfl, _, _, rfl, rfl, ?_⟩
      show sDPut _ _ _ _ (S (some (.ref p)) (some (.ref po)) (some (.ref d2)) (some y1) (some y2) (some (nV k))) _
      refine s_dputK (k := (k : Int)) (v := nV (List.range L ++ od.take m).length) (ev_is (ev_lenDk (ev_var rfl) hd6) (by rw [dNs_len])) (ev_var rfl) (ev_var rfl) hd6 (by rw [dNs_len]; omega) fun H7 e7 => ⟨some y1, some y2, some (nV k), rfl, Ex.mut (e6.trans e7) hd2H, ?_⟩
      rw [upd_same, dNs_put hnot, List.append_assoc, List.take_add_one, hk]
      rfl
    obtain ⟨x5, x6, x7, rfl, e6, hd6⟩ := hP
    rw [hxl, List.take_length] at hd6
    have hxd6 := dpAll_ex e6 _ hxd
    have hxo6 := e6 _ _ hxo
    have e06 := e03.trans e6
    show tRet _ _ (S (some (.ref p)) (some (.ref po)) (some (.ref d2)) x5 x6 x7) H'
    have hform : (formI L (webO L kd ks)).map kidsD = od.map fun k => kidsD (itemOf kd (List.range L ++ od) k) := by
      have h1 := asc_form G ha hlo
      rw [← asc_order G ha hlo, ← hodE] at h1
      rw [← h1, List.map_map]
      rfl
    refine s_retD (K := K) (d := webD L (formI L (webO L kd ks))) (ed_tup (ds := [natD L, .tuple ((formI L (webO L kd ks)).map kidsD)]) (eda_cons (ed_i (ev_var rfl)) (eda_cons (ed_tupL (ed_n ?_)) eda_nil)) (by simp)) fun r H7 e7 hr7 => q r H7 (e06.trans e7) hr7
    rw [hform]
    refine en_dMapG (K := K) (encW L ks kd) (fun k => kidsD (itemOf kd (List.range L ++ od) k)) (src_L (ds := od.map (encW L ks kd)) (ed_var rfl (.lst (sq_of hxo6) hxd6))) (by omega) (fun k x H7 e7 hk hx => ?_) fun _ _ => nl_kidsD _
    obtain ⟨a, y1, y2, rfl, hs⟩ := encW_tri hx
    have hks := hodk k hk
    have hlen := hfew k hks
    refine ⟨S (some (.ref p)) (some (.ref po)) (some (.ref d2)) (some y1) (some y2) (some (nV k)), fun R hR => ⟨a, _, rfl, hs, rfl, _, _, rfl, _, _, rfl, _, _, rfl, rfl, hR⟩, rfl, ?_⟩
    rw [← item_kids]
    refine ed_tupL (ed_n (en_sortedL (K := K) (ns := (kd k).map fun c => ((plc c (List.range L ++ od) : Nat) : Int)) (ed_n ?_) (by rw [List.length_map]; omega)))
    rw [List.map_map]
    have hd7 := hd.ex (e06.trans e7)
    obtain ⟨b, hb, hb1, _, hb3⟩ := dr_un hd7.b hg hks
    refine en_natMap (K := K) (ks := kd k) (fun c => natD (plc c (List.range L ++ od))) (src_L (fun H8 e8 Q q => (ev_dr (ev_var rfl) (ev_var rfl) (.inl hd7.dict) hd7.b.kn hb hb1) H8 e8 Q fun H9 e9 => q _ H9 e9 (.lst (sq_of (e9 _ _ (e8 _ _ hb3))) (dpAll_nat _)))) (by omega) (fun _ => rfl) (fun c H8 e8 hc => ?_) fun _ _ => rfl
    have hco : c ∈ List.range L ++ od := by
      have h1 := G.cl k hks c hc
      rw [hspl] at h1
      rcases List.mem_append.mp h1 with h | h
      · exact List.mem_append_left _ h
      · exact List.mem_append_right _ (hodp.mem_iff.mpr h)
    refine ed_i (ev_dgetK (d := d2) (k := (c : Int)) (ev_var rfl) (ev_var rfl) ((e7.trans e8) _ _ hd6) ?_)
    rw [dNs_val, if_pos hco, Nat.zero_add]
    rfl
end
end WR
set_option Elab.async false
set_option linter.all false
set_option maxRecDepth 100000
set_option maxHeartbeats 2000000
namespace PySem
open Sem (wp)
open AutoSeq1 (wpAny_loadPart')
section
variable {prog : Program} {w : World} {A : Around} {s : Shared} {E : Value → Shared → Prop}
/-- an enumerate object whose first tuple T was handed out and stands elsewhere -/
abbrev IsEnumO (h : Heap) (e it : Addr) (i : Int) (T : Addr) (b : Bool) (old : Value) : Prop :=
  h.get? e = some { cls := .type "enumerate", dict := none, data := .fields #[rawInt T, .bool b, .ref it, rawInt i, .none, old], slots := #[] }
theorem wpAny_loadIfAliveE {M : Model} {a : Addr} {Q : Option Obj → Shared → Prop} (h : Q (s.heap.get? a) s) : wpAny M A (loadIfAlive a) Q E s := fun _ _ _ => by
  unfold loadIfAlive
  simp only [Sem.wp]
  exact h
theorem enum_out_item {e it l T : Addr} {i : Nat} {items : Array Value} {x old : Value} {b : Bool} {oT : Obj} {Q : Value → Shared → Prop}
    (he : IsEnumO s.heap e it i T b old) (hit : s.heap.IsListIter it l i) (hl : s.heap.IsList l items) (hx : items[i]? = some x) (hne : e ≠ it) (hT : s.heap.get? T = some oT) (hTe : T ≠ e) (hTi : T ≠ it)
    (hQ : ∀ h', IsEnumO h' e it ((i : Int) + 1) T true old → h'.IsListIter it l (i + 1) →
      h'.get? s.heap.objs.size = some { cls := .type "tuple", data := .seq #[.int i s.toks, x] } → h'.objs.size = s.heap.objs.size + 1 →
      (∀ b o, b ≠ e → b ≠ it → s.heap.get? b = some o → h'.get? b = some o) → Q (.ref s.heap.objs.size) { s with heap := h', toks := s.toks + 1 }) :
    wpAny (model prog w) A (Builtin.«enumerate.__next__» ⟨[.ref e], []⟩) (fun fin s' => ∃ v, fin = .done (.ret v) ∧ Q v s') E s := by
  obtain ⟨hp, g, d, tk, os⟩ := s
  show wpAny _ _ (field (.ref e) 2 >>= _) _ _ _
  refine wpAny_bind (wpAny_field he rfl (x := .ref it) rfl ?_)
  refine wpAny_bind (wpAny_nextOf_list_item hit hl hx fun h₁ hit₁ hs₁ => ?_)
  replace hs₁ : Heap.SameBut it hp h₁ := hs₁
  have he₁ : IsEnumO h₁ e it i T b old := (hs₁.2 e hne).trans he
  show wpAny _ _ (field (.ref e) 3 >>= _) _ _ ⟨h₁, g, d, tk, os⟩
  refine wpAny_bind (wpAny_field he₁ rfl (x := rawInt i) rfl ?_)
  show wpAny _ _ (field (.ref e) 4 >>= _) _ _ ⟨h₁, g, d, tk, os⟩
  refine wpAny_bind (wpAny_field he₁ rfl (x := .none) rfl ?_)
  show wpAny _ _ (mkInt i >>= _) _ _ ⟨h₁, g, d, tk, os⟩
  refine wpAny_bind (wpAny_mkInt ?_)
  show wpAny _ _ (setField (.ref e) 3 (rawInt ((i : Int) + 1)) >>= _) _ _ ⟨h₁, g, d, tk + 1, os⟩
  refine wpAny_bind (wpAny_setField_rec he₁ (by simp) fun h₂ he₂ hs₂ => ?_)
  replace hs₂ : Heap.SameBut e h₁ h₂ := hs₂
  replace he₂ : IsEnumO h₂ e it ((i : Int) + 1) T b old := he₂
  show wpAny _ _ (setField (.ref e) 4 .none >>= _) _ _ ⟨h₂, g, d, tk + 1, os⟩
  refine wpAny_bind (wpAny_setField_rec he₂ (by simp) fun h₃ he₃ hs₃ => ?_)
  replace hs₃ : Heap.SameBut e h₂ h₃ := hs₃
  replace he₃ : IsEnumO h₃ e it ((i : Int) + 1) T b old := he₃
  show wpAny _ _ (newTuple [.int i tk, x] >>= _) _ _ ⟨h₃, g, d, tk + 1, os⟩
  refine wpAny_bind (wpAny_newTuple ?_)
  have he₄ : IsEnumO (h₃.push { cls := .type "tuple", data := .seq #[.int i tk, x] }) e it ((i : Int) + 1) T b old := Heap.get?_push_of_some _ he₃
  generalize hh₄ : h₃.push { cls := .type "tuple", data := .seq #[.int i tk, x] } = h₄ at he₄
  have hsz : h₃.objs.size = hp.objs.size := by rw [hs₃.1, hs₂.1, hs₁.1]
  have hel : e < hp.objs.size := Heap.lt_size he
  have ht₄ : h₄.get? hp.objs.size = some { cls := .type "tuple", data := .seq #[.int i tk, x] } := by rw [← hh₄, ← hsz]; exact Heap.get?_push_size _ rfl
  have hz₄ : h₄.objs.size = hp.objs.size + 1 := by rw [← hh₄, Heap.size_push, hsz]
  have hk₄ : ∀ b o, b ≠ e → b ≠ it → hp.get? b = some o → h₄.get? b = some o := fun b o hbe hbi hb => by
    rw [← hh₄]; exact Heap.get?_push_of_some _ (hs₃.extBut b o hbe (hs₂.extBut b o hbe (hs₁.extBut b o hbi hb)))
  have hit₄ : h₄.IsListIter it l (i + 1) := by
    rw [← hh₄]; obtain ⟨o, ho, r⟩ := (hit₁.extBut hs₂.extBut (Ne.symm hne)).extBut hs₃.extBut (Ne.symm hne); exact ⟨o, Heap.get?_push_of_some _ ho, r⟩
  have hT₄ : h₄.get? T = some oT := hk₄ T oT hTe hTi hT
  show wpAny _ _ (Builtin.SmallTypes.ownedTupleIsFree (.ref e) >>= _) _ _ ⟨h₄, g, d, tk + 1, os⟩
  rw [hsz]
  clear hh₄ he₃ hs₃ he₂ hs₂ he₁ hs₁ hit₁ hsz h₃ h₂ h₁
  refine wpAny_bind ?_
  unfold Builtin.SmallTypes.ownedTupleIsFree
  refine wpAny_bind (wpAny_field he₄ rfl (x := rawInt T) rfl ?_)
  show wpAny _ _ (loadIfAlive T >>= _) _ _ _
  refine wpAny_bind (wpAny_loadIfAliveE ?_)
  show wpAny _ _ (if (h₄.get? T).isNone = true then _ else _) _ _ ⟨h₄, g, d, tk + 1, os⟩
  rw [hT₄, if_neg (fun z => Bool.noConfusion z)]
  refine wpAny_bind (wpAny_field he₄ rfl (x := .bool b) rfl ?_)
  have fin : ∀ h₅, IsEnumO h₅ e it ((i : Int) + 1) T true old → (∀ b o, b ≠ e → h₄.get? b = some o → h₅.get? b = some o) → h₅.objs.size = h₄.objs.size → Q (.ref hp.objs.size) ⟨h₅, g, d, tk + 1, os⟩ := fun h₅ he₅ hk₅ hz₅ => by
    refine hQ h₅ he₅ ?_ (hk₅ _ _ (Nat.ne_of_gt hel) ht₄) (by rw [hz₅, hz₄]) fun b o hbe hbi hb => hk₅ b o hbe (hk₄ b o hbe hbi hb)
    obtain ⟨o, ho, r⟩ := hit₄
    exact ⟨o, hk₅ it o (Ne.symm hne) ho, r⟩
  cases b with
  | true =>
    rw [if_neg (by decide)]
    refine wpAny_pure ?_
    rw [if_neg (by decide)]
    exact wpAny_pure ⟨_, rfl, fin h₄ he₄ (fun _ _ _ z => z) rfl⟩
  | false =>
    rw [if_pos (by decide)]
    refine wpAny_bind (wpAny_setField_rec he₄ (by simp) fun h₅ he₅ hs₅ => ?_)
    replace hs₅ : Heap.SameBut e h₄ h₅ := hs₅
    replace he₅ : IsEnumO h₅ e it ((i : Int) + 1) T true old := he₅
    refine wpAny_pure ?_
    rw [if_neg (by decide)]
    exact wpAny_pure ⟨_, rfl, fin h₅ he₅ (fun b o hb z => hs₅.extBut b o hb z) hs₅.1⟩
theorem wpAny_pyNext_out_item {e it l T : Addr} {i : Nat} {items : Array Value} {x old : Value} {b : Bool} {oT : Obj} {Q : Option Value → Shared → Prop}
    (he : IsEnumO s.heap e it i T b old) (hit : s.heap.IsListIter it l i) (hl : s.heap.IsList l items) (hx : items[i]? = some x) (hne : e ≠ it) (hT : s.heap.get? T = some oT) (hTe : T ≠ e) (hTi : T ≠ it)
    (hQ : ∀ h', IsEnumO h' e it ((i : Int) + 1) T true old → h'.IsListIter it l (i + 1) →
      h'.get? s.heap.objs.size = some { cls := .type "tuple", data := .seq #[.int i s.toks, x] } → h'.objs.size = s.heap.objs.size + 1 →
      (∀ b o, b ≠ e → b ≠ it → s.heap.get? b = some o → h'.get? b = some o) → Q (some (.ref s.heap.objs.size)) { s with heap := h', toks := s.toks + 1 }) :
    wpAny (model prog w) A (pyNext (.ref e)) Q E s := by
  have hTy : s.TypeIs (.ref e) "enumerate" := ⟨_, he, rfl⟩
  unfold pyNext
  exact wpAny_bind (wpAny_attempt (wpAny_callSpecial?_slot (name := Str.ofString "__next__") hTy F.slot_enumerate_next
    (wpAny_call_entry F.slot_enumerate_next hTy F.entry_enumerate_next
      (enum_out_item he hit hl hx hne hT hTe hTi fun h' a b c d k => wpAny_pure (hQ h' a b c d k)) (F.args_enumerate_next_1 _))))
theorem wpAny_pyNext_out_end {e it l T : Addr} {i : Nat} {items : Array Value} {old : Value} {b : Bool} {Q : Option Value → Shared → Prop} (hh : A.handled = none)
    (he : IsEnumO s.heap e it i T b old) (hit : s.heap.IsListIter it l i) (hl : s.heap.IsList l items) (hx : items[i]? = none)
    (hQ : ∀ h', Heap.ExtBut it s.heap h' → Q none { s with heap := h' }) : wpAny (model prog w) A (pyNext (.ref e)) Q E s := by
  have hT : s.TypeIs (.ref e) "enumerate" := ⟨_, he, rfl⟩
  unfold pyNext
  refine wpAny_bind (wpAny_attempt (wpAny_callSpecial?_slot (name := Str.ofString "__next__") hT F.slot_enumerate_next
    (wpAny_call_entry F.slot_enumerate_next hT F.entry_enumerate_next ?_ (F.args_enumerate_next_1 _))))
  show wpAny _ _ (field (.ref e) 2 >>= _) _ _ _
  refine wpAny_bind (wpAny_field he rfl (x := .ref it) rfl ?_)
  refine wpAny_bind (wpAny_nextOf_list_end hh hit hl hx fun h' x he' hx' => ?_)
  obtain ⟨o, ho, hc⟩ := hx'
  refine wpAny_bind (wpAny_isInstance (T := "StopIteration") (b := true) ⟨o, ho, hc⟩ isSubtype_stop ?_)
  exact wpAny_pure (hQ _ he')
end
end PySem
set_option Elab.async false
set_option linter.all false
set_option maxRecDepth 100000
set_option maxHeartbeats 2000000
namespace WR
open PySem PySem.Spec PyProof.Rows L2 Evl

/-! ### list(enumerate(a list)) -/
def EnSt (h : Heap) (e it : Addr) (i : Nat) (ts : List Addr) : Prop := (i = 0 ∧ ∃ old, IsEnum h e it ((0 : Nat) : Int) old) ∨ ∃ T b old, T ∈ ts ∧ IsEnumO h e it (i : Int) T b old
section
variable {X : Cx} {pins : List (Addr × Obj)} {σ : L2.St} {a q e it : Addr} {xs : List V} {A1 : Around}
/-- the pairs made so far -/
def EnTs (H : Hp) (xs : List V) (ts : List Addr) : Prop := ∀ (j : Nat) (t : Addr), ts[j]? = some t → ∃ x, xs[j]? = some x ∧ H t = some (.tup [.int (j : Int), x])
theorem enl_loop {H0 : Hp} {Rs : Result → Shared → Prop} (hh : A1.in1.in1.handled = none) (hne : e ≠ it) (hz : xs.length ≤ sizeLine) (hq0 : H0 q = none) (ha0 : SqL X.K H0 a xs)
    (hdone : ∀ ts H s, Inv X pins σ H s → Ex H0 H → H q = some (.lst (ts.map V.ref)) → ts.length = xs.length → EnTs H xs ts → (∀ t ∈ ts, H0 t = none) → Rs (.ok (.ret .none)) s) :
    ∀ (m i : Nat) (ts : List Addr) (H : Hp) (s : Shared), m + i = xs.length → ts.length = i → Inv X pins σ H s → Ex H0 H → H q = some (.lst (ts.map V.ref)) → EnTs H xs ts → (∀ t ∈ ts, H0 t = none) → EnSt s.heap e it i ts → s.heap.IsListIter it a i → FpOk X pins H e → FpOk X pins H it →
      codeAny (model X.prog X.w) A1.in1 (.builtin "list.extend.loop" ⟨[.ref q, .ref e, .none], []⟩) Rs s := by
  intro m
  induction m with
  | zero =>
    intro i ts H s hm hts I ex hq ht hn st hit fe fi
    refine codeAny_builtin PySem.F.entry_extend_loop ?_
    rw [Around.under_plainId PySem.F.plain_extend_loop _]
    show wpAny _ A1.in1.in1 (pyNext (.ref e) >>= _) _ _ s
    obtain ⟨its, rv, p, hzz⟩ := I.list (ex_l ex ha0)
    have hl := rv.length
    obtain ⟨g0, g1, g2, g3, g4, g5⟩ := fi
    have key : ∀ h' : Heap, Heap.ExtBut it s.heap h' → wpAny (model X.prog X.w) A1.in1.in1 ((pure (Fin.done (.ret .none)) : Sem Fin)) (fun fin s' => match fin with | .done f => Rs (.ok f) s' | .again c' => c'.quiet = true ∧ codeAny (model X.prog X.w) A1.in1 c' Rs s') (fun e s' => Rs (.error e) s') { s with heap := h' } := fun h' eb => by
      refine wpAny_pure ?_
      exact hdone ts H _ (I.turned (t' := s.toks) (fun b o hb z => eb b o hb z) g0 g1 g3 g4 g5) ex hq (by omega) ht hn
    rcases st with ⟨hi0, old, he⟩ | ⟨T, b, old, hT, he⟩
    · subst hi0
      exact wpAny_bind (wpAny_pyNext_enum_end hh he hit p.isList (by rw [List.getElem?_toArray]; exact List.getElem?_eq_none (by omega)) fun h' eb => key h' eb)
    · exact wpAny_bind (wpAny_pyNext_out_end hh he hit p.isList (by simp; omega) fun h' eb => key h' eb)
  | succ m ih =>
    intro i ts H s hm hts I ex hq ht hn st hit fe fi
    refine codeAny_builtin PySem.F.entry_extend_loop ?_
    rw [Around.under_plainId PySem.F.plain_extend_loop _]
    show wpAny _ A1.in1.in1 (pyNext (.ref e) >>= _) _ _ s
    obtain ⟨its, rv, p, hzz⟩ := I.list (ex_l ex ha0)
    obtain ⟨x, hx⟩ : ∃ x, xs[i]? = some x := ⟨_, List.getElem?_eq_getElem (by omega)⟩
    obtain ⟨u, hu, ru⟩ := rv.get hx
    have fresh : H s.heap.objs.size = none := I.hok.fresh (Nat.le_refl _)
    have qe : q ≠ e := fun z => by
      rw [z, fe.1] at hq
      cases hq
    have qi : q ≠ it := fun z => by
      rw [z, fi.1] at hq
      cases hq
    have hel : e < s.heap.objs.size := by
      rcases st with ⟨_, old, he⟩ | ⟨T, b, old, _, he⟩
      · exact Heap.lt_size he
      · exact Heap.lt_size he
    have hil : it < s.heap.objs.size := by obtain ⟨_, z, _⟩ := hit; exact Heap.lt_size z
    have hqT : q ≠ s.heap.objs.size := fun z => by
      rw [z, fresh] at hq
      cases hq
    -- behind the item
    have step : ∀ (h' : Heap) (T0 : Addr) (b : Bool) (old : Value), T0 ∈ ts ++ [s.heap.objs.size] → IsEnumO h' e it ((i : Int) + 1) T0 b old → h'.IsListIter it a (i + 1) →
        h'.get? s.heap.objs.size = some { cls := .type "tuple", data := .seq #[.int i s.toks, u] } → h'.objs.size = s.heap.objs.size + 1 → (∀ b o, b ≠ e → b ≠ it → s.heap.get? b = some o → h'.get? b = some o) →
        wpAny (model X.prog X.w) A1.in1.in1 (updateSeq q (·.push (.ref s.heap.objs.size)) >>= fun _ => again (.builtin "list.extend.loop" ⟨[.ref q, .ref e, .none], []⟩)) (fun fin s' => match fin with | .done f => Rs (.ok f) s' | .again c' => c'.quiet = true ∧ codeAny (model X.prog X.w) A1.in1 c' Rs s') (fun e s' => Rs (.error e) s') { s with heap := h', toks := s.toks + 1 } := fun h' T0 b old hT0 ho hit' hT hsz hk => by
      have new : ObjOk X.prog X.w (upd H s.heap.objs.size (.tup [.int (i : Nat), x])) h' s.heap.objs.size (.tup [.int (i : Nat), x]) :=
        ⟨by show 2 ≤ sizeLine; decide, [.int i s.toks, u], .cons ⟨_, rfl⟩ (.cons ru .nil), ⟨_, hT, rfl, _, rfl⟩⟩
      have I1 : Inv X pins σ (upd H s.heap.objs.size (.tup [.int (i : Nat), x])) { s with heap := h', toks := s.toks + 1 } :=
        I.turnedNew (ch := [e, it]) (fun b ob hb z => hk b ob (fun y => hb (by simp [y])) (fun y => hb (by simp [y])) z) (fun b hb => by
          have hb : b = e ∨ b = it := by simpa using hb
          rcases hb with hb | hb
          · rw [hb]; exact fe
          · rw [hb]; exact fi) (Nat.le_refl _) new
      have hq1 : upd H s.heap.objs.size (.tup [.int (i : Nat), x]) q = some (.lst (ts.map V.ref)) := by
        rw [upd_ne hqT]
        exact hq
      obtain ⟨z, its2, k, r2, hl2, e2⟩ := I1.lstM hq1
      rw [List.length_map] at hl2
      refine wpAny_bind (wpAny_updateSeq e2 rfl (wpAny_pure ⟨plainId_quiet PySem.F.plain_extend_loop _, ?_⟩) (by rw [List.size_toArray]; omega) (by show (its2.toArray.push _).size ≤ sizeLine + 1; rw [Array.size_push, List.size_toArray]; omega))
      have I2 := I1.lset (f := fun a => a.push (Value.ref s.heap.objs.size)) (its := its2) (its' := its2 ++ [Value.ref s.heap.objs.size]) (t' := s.toks + 1) (ys := ts.map V.ref ++ [V.ref s.heap.objs.size]) hq1 e2 (by simp) (r2.append (Paired.cons (show RelV (V.ref s.heap.objs.size) (Value.ref s.heap.objs.size) from rfl) .nil)) (by rw [List.length_append, List.length_singleton, List.length_map]; omega)
      have eq2 : ts.map V.ref ++ [V.ref s.heap.objs.size] = (ts ++ [s.heap.objs.size]).map V.ref := by
        rw [List.map_append]
        rfl
      rw [eq2] at I2
      have hkeep : ∀ {t : Addr} {o : HO}, t ≠ q → t ≠ s.heap.objs.size → H t = some o → upd (upd H s.heap.objs.size (.tup [.int (i : Nat), x])) q (.lst ((ts ++ [s.heap.objs.size]).map V.ref)) t = some o := fun {t o} h1 h2 h3 => by
        rw [upd_ne h1, upd_ne h2]
        exact h3
      have hne2 : ∀ {t : Addr} {ys : List V}, H t = some (.tup ys) → t ≠ q ∧ t ≠ s.heap.objs.size := fun {t ys} h3 => by
        refine ⟨fun y => ?_, fun y => ?_⟩
        · rw [y, hq] at h3
          cases h3
        · rw [y, fresh] at h3
          cases h3
      have fp : ∀ {b : Addr}, FpOk X pins H b → b ≠ q → b < s.heap.objs.size → FpOk X pins (upd (upd H s.heap.objs.size (.tup [.int (i : Nat), x])) q (.lst ((ts ++ [s.heap.objs.size]).map V.ref))) b := fun {b} f h1 h2 => ⟨by rw [upd_ne h1, upd_ne (Nat.ne_of_lt h2)]; exact f.1, f.2⟩
      refine ih (i + 1) (ts ++ [s.heap.objs.size]) _ _ (by omega) (by rw [List.length_append, hts]; rfl) I2 ?_ upd_same ?_ ?_ ?_ ?_ (fp fe (Ne.symm qe) hel) (fp fi (Ne.symm qi) hil)
      · exact Ex.mut (Ex.mut ex (fresh_back ex fresh)) hq0
      · intro j t hj
        rw [List.getElem?_append] at hj
        by_cases zj : j < ts.length
        · rw [if_pos zj] at hj
          obtain ⟨y, hy, hyt⟩ := ht j t hj
          obtain ⟨h1, h2⟩ := hne2 hyt
          exact ⟨y, hy, hkeep h1 h2 hyt⟩
        · rw [if_neg zj] at hj
          have hj0 : j - ts.length = 0 := by
            have := (List.getElem?_eq_some_iff.mp hj).1
            simp only [List.length_cons, List.length_nil] at this
            omega
          rw [hj0] at hj
          cases hj
          have hji : j = i := by omega
          rw [hji]
          exact ⟨x, hx, by rw [upd_ne (Ne.symm hqT), upd_same]⟩
      · intro t htm
        rcases List.mem_append.mp htm with h | h
        · exact hn t h
        · rw [List.mem_singleton.mp h]
          exact fresh_back ex fresh
      · refine .inr ⟨T0, b, old, hT0, ?_⟩
        have := (Heap.get?_update_other (h := h') (Obj.mapSeq (·.push (Value.ref s.heap.objs.size))) (Ne.symm (Ne.symm qe))).trans ho
        rw [show ((i + 1 : Nat) : Int) = (i : Int) + 1 by omega]
        exact this
      · obtain ⟨o, ho2, r⟩ := hit'
        exact ⟨o, (Heap.get?_update_other (h := h') _ qi).trans ho2, r⟩
    rcases st with ⟨hi0, old, he⟩ | ⟨T, b, old, hT, he⟩
    · subst hi0
      exact wpAny_bind (wpAny_pyNext_enum_item he hit p.isList (x := u) (by simpa using hu) hne fun h' ho hit' hT hsz hk => step h' _ false u (by simp) ho hit' hT hsz hk)
    · obtain ⟨j, hj⟩ := List.mem_iff_getElem?.mp hT
      obtain ⟨y, hy, hyt⟩ := ht j T hj
      obtain ⟨_, us, _, oT, hoT, _⟩ := I.hok T _ hyt
      exact wpAny_bind (wpAny_pyNext_out_item he hit p.isList (x := u) (by simpa using hu) hne hoT (fun z => by rw [z, fe.1] at hyt; cases hyt) (fun z => by rw [z, fi.1] at hyt; cases hyt) fun h' ho hit' hT2 hsz hk => step h' T true old (List.mem_append_left _ hT) ho hit' hT2 hsz hk)
end
end WR
set_option Elab.async false
set_option linter.all false
set_option maxRecDepth 100000
set_option maxHeartbeats 2000000
namespace WR
open PySem PySem.Spec PyProof.Rows L2 Evl

/-! ### list(enumerate(e)), the rule -/
theorem nolen_en : typeLookup (.type "enumerate") "__len__" = pure none := by rw [typeLookup_type, builtinLookup_eq_fast]; kernel_rfl
theorem nohint_en : typeLookup (.type "enumerate") "__length_hint__" = pure none := by rw [typeLookup_type, builtinLookup_eq_fast]; kernel_rfl
def tLEnum (K : PySem.W.Frag) (ta : TA) : TE := fun σ H Q => ta σ H fun vs H1 => ∃ a xs, vs = [.ref a] ∧ SqL K H1 a xs ∧ xs.length ≤ sizeLine ∧
  ∀ q ts H', H1 q = none → (∀ t ∈ ts, H1 t = none) → Ex H1 H' → H' q = some (.lst (ts.map V.ref)) → ts.length = xs.length → EnTs H' xs ts → Q (.ref q) H'
section
variable {X : Cx} {e : Expr} {ta : TA} {p p2 pos pos2 : Pos}
theorem pe_listEnum (hc : X.calm = true) (ha : PA X [e] ta) (hg : Gl X "list") (hm : X.mg "list" = none) (hv : bootBuiltins "list" = some (.type "list")) (hg2 : Gl X "enumerate") (hm2 : X.mg "enumerate" = none)
    (hs2 : starEach [e] X.env = [(false, eval e X.env)] := by rfl) (hs : starEach [.Call (.Name "enumerate" p2) [e] [] pos2] X.env = (false, eval (.Call (.Name "enumerate" p2) [e] [] pos2) X.env) :: starEach [] X.env := by rfl) :
    PE X (.Call (.Name "list" p) [.Call (.Name "enumerate" p2) [e] [] pos2] [] pos) (tLEnum X.K ta) := by
  refine ⟨fun pins s σ H Q I hq => ?_⟩
  refine wpAny_Call_Name_kw (ld_blt I hg hm hv ?_)
  refine PyProof.Rows.callWith_type1 ?_ hs rfl
  rw [hs]
  show wpAny _ _ (spliced ((false, eval (.Call (.Name "enumerate" p2) [e] [] pos2) X.env) :: backTo pos (starEach [] X.env))) _ _ s
  refine Calls.spliced_cons ?_
  refine Call_ (ld_blt I hg2 hm2 boot_enumerate (PyProof.Rows.callWith_type1 (thn (ha.run pos2 pins s σ H _ I hq) fun us s1 ⟨vs, H1, I1, r1, q1⟩ => ?_) hs2 rfl))
  obtain ⟨a, xs, ex, hxs, hz, q⟩ := q1
  subst ex
  cases r1 with
  | cons r rr =>
    cases rr
    cases r
    obtain ⟨its, rv, p', hzz⟩ := I1.list hxs
    refine call_enumerate_list p'.isList fun h' he hit hsz hk => ?_
    have I2 : Inv X pins σ H1 { s1 with heap := h' } := I1.kept (t' := s1.toks) hk
    have fpe : ∀ b, s1.heap.objs.size ≤ b → FpOk X pins H1 b := fun b hb => I1.fpOk hb (I1.hok.fresh hb)
    refine Calls.spliced_nil ?_
    refine callType_codes (Q₁ := fun obj s₁ => obj = .ref h'.objs.size ∧ s₁ = { ({ s1 with heap := h' } : Shared) with heap := h'.push { cls := .type "list", data := .seq #[] } }) PySem.F.called_list (PySem.F.typeCall_list_1 _) PySem.F.entry_list_init
      (code_list_new _ ⟨rfl, rfl⟩) fun obj s₁ h₁ => ?_
    obtain ⟨rfl, rfl⟩ := h₁
    have hS : (h'.push { cls := .type "list", data := .seq #[] }).get? h'.objs.size = some { cls := .type "list", data := .seq #[] } := Heap.get?_push_size _ rfl
    refine ⟨⟨_, hS, rfl⟩, PySem.F.args_list_init_2 _ _, ?_⟩
    have fr : H1 h'.objs.size = none := I2.hok.fresh (Nat.le_refl _)
    have I3 : Inv X pins σ (upd H1 h'.objs.size (.lst [])) { s1 with heap := h'.push { cls := .type "list", data := .seq #[] } } := I2.lnew (its := []) (t' := s1.toks) .nil (Nat.zero_le _)
    show wpAny _ _ (do let old ← Builtin.List.listItems (.ref h'.objs.size); Builtin.List.listUpdate (.ref h'.objs.size) (fun _ => #[]); letGo old.toList.reverse; Builtin.List.listExtendWith (.ref h'.objs.size) (.ref (s1.heap.objs.size + 1)) .none) _ _ _
    refine wpAny_bind ?_
    unfold Builtin.List.listItems
    refine wpAny_bind (wpAny_seqItems hS rfl (wpAny_pure ?_))
    show wpAny _ _ (updateSeq h'.objs.size (fun _ => #[]) >>= fun _ => letGo (#[] : Array Value).toList.reverse >>= fun _ => Builtin.List.listExtendWith (.ref h'.objs.size) (.ref (s1.heap.objs.size + 1)) .none) _ _ _
    refine wpAny_bind (wpAny_updateSeq hS rfl ?_)
    have I4 := I3.lset (f := fun _ => #[]) (its := []) (its' := []) (ys := []) (t' := s1.toks) upd_same hS rfl .nil (Nat.zero_le _)
    rw [upd_upd] at I4
    refine wpAny_bind (wpAny_letGo ?_)
    have hqe : h'.objs.size ≠ s1.heap.objs.size + 1 := by
      show (h'.objs.size : Nat) ≠ s1.heap.objs.size + 1
      omega
    have hqi : h'.objs.size ≠ s1.heap.objs.size := by
      show (h'.objs.size : Nat) ≠ s1.heap.objs.size
      omega
    have oth : ∀ b o, b ≠ h'.objs.size → h'.get? b = some o → ((h'.push { cls := .type "list", data := .seq #[] }).update h'.objs.size (Obj.mapSeq fun _ => #[])).get? b = some o := fun b o hb z => (Heap.get?_update_other _ _ (Ne.symm hb)).trans (Heap.get?_push_of_some _ z)
    have hTy0 : ∀ h4 : Heap, (∀ b o, b ≠ h'.objs.size → h'.get? b = some o → h4.get? b = some o) → IsEnum h4 (s1.heap.objs.size + 1) s1.heap.objs.size ((0 : Nat) : Int) .none ∧ h4.IsListIter s1.heap.objs.size a 0 := fun h4 ho => by
      obtain ⟨o, ho2, r⟩ := hit
      exact ⟨ho _ _ (Ne.symm hqe) he, o, ho _ o (Ne.symm hqi) ho2, r⟩
    generalize hh4 : (h'.push { cls := .type "list", data := .seq #[] }).update h'.objs.size (Obj.mapSeq fun _ => #[]) = h4 at I4 oth
    show wpAny _ _ (Builtin.List.listExtendWith (.ref h'.objs.size) (.ref (s1.heap.objs.size + 1)) .none) _ _ ({ s1 with heap := h4 } : Shared)
    obtain ⟨he4, hit4⟩ := hTy0 h4 oth
    have hT4 : ({ s1 with heap := h4 } : Shared).TypeIs (.ref (s1.heap.objs.size + 1)) "enumerate" := ⟨_, he4, rfl⟩
    unfold Builtin.List.listExtendWith
    refine wpAny_bind (wpAny_typeOf hT4 ?_)
    have h1 : Builtin.List.listSameRef (.ref h'.objs.size) (.ref (s1.heap.objs.size + 1)) = false := by simp [Builtin.List.listSameRef, hqe]
    have h2 : (Value.type "enumerate" == Value.type "list") = false := by decide
    have h3 : (Value.type "enumerate" == Value.type "tuple") = false := by decide
    simp only [h1, h2, h3, Bool.or_false, Bool.false_eq_true, if_false]
    refine wpAny_bind (wpAny_pyIter_enum he4 ?_)
    refine wpAny_bind (wpAny_holding ?_)
    unfold Builtin.List.listLengthHint
    refine wpAny_bind (wpAny_specialOf hT4 nolen_en ?_)
    show wpAny _ _ (specialOf (Value.ref (s1.heap.objs.size + 1)) (Str.ofString "__length_hint__") >>= _) _ _ _
    refine wpAny_bind (wpAny_specialOf hT4 nohint_en ?_)
    refine wpAny_pure ?_
    show wpAny _ _ (rule "list.extend.makes-room" >>= fun _ => Builtin.List.listTouch (.ref h'.objs.size) >>= fun _ =>
      again (.builtin "list.extend.loop" ⟨[.ref h'.objs.size, .ref (s1.heap.objs.size + 1), .none], []⟩)) _ _ _
    refine wpAny_bind (wpAny_rule ?_)
    refine wpAny_bind ?_
    show wpAny _ _ (updateSeq h'.objs.size (·.push .none) >>= fun _ => updateSeq h'.objs.size (·.pop)) _ _ _
    obtain ⟨z5, its5, k5, r5, hl5, e5⟩ := I4.lstM upd_same
    cases r5
    refine wpAny_bind (wpAny_updateSeq e5 rfl ?_)
    have I5 := I4.lset (f := (·.push Value.none)) (its' := [Value.none]) (ys := [.non]) (t' := s1.toks) upd_same e5 (by simp) (.cons rfl .nil) (by rw [List.length_singleton, sizeLine_eq]; decide)
    rw [upd_upd] at I5
    obtain ⟨z6, its6, k6, r6, hl6, e6⟩ := I5.lstM upd_same
    obtain ⟨u6, rfl, ru6⟩ := r6.one
    refine wpAny_updateSeq e6 rfl ?_ (by show 1 ≤ sizeLine; rw [sizeLine_eq]; decide) (by show 0 ≤ sizeLine + 1; exact Nat.zero_le _)
    have I6 := I5.lset (f := (·.pop)) (its := [u6]) (its' := []) (ys := []) (t' := s1.toks) upd_same e6 (by rfl) .nil (Nat.zero_le _)
    rw [upd_upd] at I6
    have oth6 : ∀ b o, b ≠ h'.objs.size → h'.get? b = some o → ((h4.update h'.objs.size (Obj.mapSeq (·.push Value.none))).update h'.objs.size (Obj.mapSeq (·.pop))).get? b = some o := fun b o hb y => (Heap.get?_update_other _ _ (Ne.symm hb)).trans ((Heap.get?_update_other _ _ (Ne.symm hb)).trans (oth b o hb y))
    obtain ⟨he6, hit6⟩ := hTy0 _ oth6
    have fp6 : ∀ b, s1.heap.objs.size ≤ b → b ≠ h'.objs.size → FpOk X pins (upd H1 h'.objs.size (.lst [])) b := fun b hb hne => by
      have f := fpe b hb
      exact ⟨by rw [upd_ne hne]; exact f.1, f.2⟩
    refine wpAny_pure ⟨plainId_quiet PySem.F.plain_extend_loop _, ?_⟩
    exact enl_loop (X := X) (A1 := X.A) (pins := pins) (σ := σ) (a := a) (q := h'.objs.size) (e := s1.heap.objs.size + 1) (it := s1.heap.objs.size) (xs := xs) (H0 := H1) (Rs := wants (fun r s₂ => r = .none ∧ EP X pins σ Q (.ref h'.objs.size) s₂) X.xe) (I.ok.hd hc) (Nat.succ_ne_self _) hz fr hxs
      (fun ts H s' I' ex hq' hl ht hn => ⟨rfl, .ref h'.objs.size, H, I', rfl, q _ ts H fr hn ex hq' hl ht⟩)
      xs.length 0 [] _ _ (by omega) rfl I6 (Ex.new fr) upd_same (fun j t hj => by simp at hj) (fun t ht => by cases ht) (.inl ⟨rfl, .none, he6⟩) hit6 (fp6 _ (Nat.le_succ _) (Ne.symm hqe)) (fp6 _ (Nat.le_refl _) (Ne.symm hqi))
end
end WR
set_option Elab.async false
set_option linter.all false
set_option maxRecDepth 100000
set_option maxHeartbeats 2000000
namespace WR
open PySem PySem.Spec PyProof.Rows L2 Evl

/-! ### _law_opened: a web's draft by the law -/
theorem paired_ix2 {α β : Type} {F : α → β → Prop} : ∀ {xs : List α} {ys : List β}, xs.length = ys.length → (∀ (i : Nat) x y, xs[i]? = some x → ys[i]? = some y → F x y) → Paired F xs ys
  | [], [], _, _ => .nil
  | [], _ :: _, h, _ => by cases h
  | _ :: _, [], h, _ => by cases h
  | x :: xs, y :: ys, h, k => .cons (k 0 x y rfl rfl) (paired_ix2 (Nat.succ.inj h) fun i a b h1 h2 => k (i + 1) a b h1 h2)
theorem merge_dr : ∀ {es acc : List Ent}, ((acc ++ es).map fun e => e.1).Nodup → mergeK (DrK acc) (DrK es) = DrK (acc ++ es)
  | [], acc, _ => by
    rw [List.append_nil]
    rfl
  | e :: es, acc, h => by
    have hn : ∀ x ∈ acc, x.1 ≠ e.1 := fun x hx z => by
      rw [List.map_append, List.map_cons] at h
      exact (List.nodup_append.mp h).2.2 x.1 (List.mem_map.mpr ⟨x, hx, rfl⟩) e.1 List.mem_cons_self z
    have h2 : putK (DrK acc) (Sum.inl e.1) (V.ref e.2.1) = DrK (acc ++ [e]) := by
      rw [put_new hn]
      unfold DrK
      rw [List.map_append]
      rfl
    have ih := merge_dr (es := es) (acc := acc ++ [e]) (by rw [List.append_assoc]; exact h)
    rw [List.append_assoc] at ih
    show mergeK (putK (DrK acc) (Sum.inl e.1) (V.ref e.2.1)) (DrK es) = _
    rw [h2]
    exact ih
theorem scLOp : FnScope ["_law_web_here"] ["_law_web_here"] (defScope s_law_opened) := ⟨rfl, rfl, rfl, by decide +kernel, rfl, by decide +kernel, by decide +kernel⟩
section
variable {P : Program} {w : World} {K : PySem.W.Frag} {mg : Str → Option Value} {base : Heap}
theorem ok_lopened {f fL : Addr} {fd fdL : FuncData} (F : Fun K "_law_opened" "_law_opened" s_law_opened f fd)
    (FL : Fun K "_law_lists" "_law_lists" sLists fL fdL) (bL : Binds K fdL ["_law_web_here"] []) (gL : mg "_law_lists" = some (.ref fL))
    (m1 : mg "list" = none) (m2 : mg "enumerate" = none) (m3 : mg "dict" = none)
    (GL : FnOk P w K mg base CX0 1 fL fdL ["_law_web_here"] (spListsK K)) :
    FnOk P w K mg base CX0 2 f fd ["_law_web_here"] (spDof K) := by
  refine F.ok scLOp (fun vs H Q E h => ?_) (fun cdv A outer s H vs Q E hr h => ?_)
  · obtain ⟨v, l, inner, rfl, _⟩ := h
    rfl
  obtain ⟨v, l, inner, rfl, hv, hw, q⟩ := h
  refine ⟨_, pss_one (ps_ret (pe_callTy (r := rDictP K) (call_dictP rfl) (by rfl) m3 (by decide +kernel) (pa_cons (pe_listEnum rfl (pa_cons (pe_call GL hr (by rfl) gL FL.kp bL .nil pass0 (pa_cons (pv 0) pa_nil)) pa_nil) (by rfl) m1 (by decide +kernel) (by rfl) m2) pa_nil))), ?_⟩
  have h8 := hw.l8
  have h20 := hw.n20
  refine ⟨v, rfl, v, l, inner, rfl, hv, hw, fun p rs H1 e1 hK => ?_⟩
  have hkl : (List.replicate l [] ++ inner).length = l + inner.length := by rw [List.length_append, List.length_replicate]
  have hrl : rs.length = l + inner.length := by rw [hK.kd.len, hkl]
  refine ⟨p, rs.map V.ref, rfl, sq_of hK.kd.at_, sz_of (by rw [List.length_map, hrl]; omega), fun q0 ts H2 hq0 hts e2 hx2 htl hEn => ?_⟩
  rw [List.length_map, hrl] at htl
  let es : List Ent := (List.range (l + inner.length)).map fun (i : Nat) => ((i : Int), rs.getD i 0, (kidsAt l inner i).map fun (c : Nat) => (c : Int))
  have hel : es.length = l + inner.length := by
    show ((List.range (l + inner.length)).map _).length = _
    rw [List.length_map, List.length_range]
  have hat : ∀ i, i < l + inner.length → rs[i]? = some (rs.getD i 0) := fun i hi => by
    rw [List.getD_eq_getElem?_getD, List.getElem?_eq_getElem (by omega)]
    rfl
  have hke : (es.map fun e => e.1) = kI (List.range (l + inner.length)) := by
    show ((List.range (l + inner.length)).map _).map _ = _
    rw [List.map_map]
    rfl
  have had : (es.map fun e => e.2.1) = rs := by
    show ((List.range (l + inner.length)).map _).map _ = _
    rw [List.map_map, ← hrl]
    exact all_get rs
  have hkn : (es.map fun e => e.1).Nodup := by
    rw [hke]
    exact kI_nd List.nodup_range
  refine ⟨q0, ts, DrK es, rfl, sq_of hx2, paired_ix2 (by rw [htl, List.length_map, hel]) fun i t kv hi hkv => ?_, fun d hd => ?_⟩
  · obtain ⟨x, hx, hxt⟩ := hEn i t hi
    have hil : i < l + inner.length := by
      have := (List.getElem?_eq_some_iff.mp hi).1
      omega
    have hkv : ((es).map fun e => ((Sum.inl e.1 : Key), V.ref e.2.1))[i]? = some kv := hkv
    rw [List.getElem?_map, List.getElem?_map, List.getElem?_range hil] at hkv
    cases hkv
    rw [List.getElem?_map, hat i hil] at hx
    cases hx
    exact st_of hxt
  · have e3 := Ex.new (o := .dK (mergeK [] (DrK es))) hd
    have hmg : mergeK [] (DrK es) = DrK es := merge_dr (acc := []) hkn
    refine q d es _ (fresh_back (e1.trans e2) hd) (fun e he => hK.br _ (by rw [← had]; exact List.mem_map.mpr ⟨e, he, rfl⟩)) ((e1.trans e2).trans e3) ⟨by rw [upd_same, hmg], ⟨fun e he => ?_, by rw [had]; exact hK.kd.nd, hkn⟩⟩ ?_
    · obtain ⟨i, hi, rfl⟩ := List.mem_map.mp he
      have hi := List.mem_range.mp hi
      refine e3 _ _ (e2 _ _ ?_)
      show H1 (rs.getD i 0) = some (.lst (((kidsAt l inner i).map fun (c : Nat) => (c : Int)).map V.int))
      rw [nvs_map]
      refine hK.kd.row i _ _ (hat i hi) ?_
      have h1 := rowAt_get (kk := kkOf l inner) (u := i) (by rw [kkOf_len]; exact hi)
      rw [rowAt_kk] at h1
      exact h1
    · show ((List.range (l + inner.length)).map _).map _ = _
      rw [List.map_map]
      rfl
end
end WR
set_option Elab.async false
set_option linter.all false
set_option maxRecDepth 100000
set_option maxHeartbeats 2000000
namespace WR
open PySem PySem.Spec PyProof.Rows L2 Evl

/-! ### the law k54 -/
abbrev nLaw : List Str := ["_law_script", "_law_deck_here", "_law_turn", "_law_web_here", "_law_held", "_law_parent", "_law_child", "_law_due"]
theorem scLaw : FnScope nLaw ["_law_script"] (defScope sLaw) := ⟨rfl, rfl, rfl, by decide +kernel, rfl, by decide +kernel, by decide +kernel⟩
def spLaw (K : PySem.W.Frag) : Sp := fun vs H Q _ => ∃ (a : Addr) (ns : List Int), vs = [.ref a] ∧ SqL K H a (ns.map V.int) ∧ ns.length ≤ 63 ∧ ∀ H', Q (.bl true) H'
theorem calmS {P : Program} {w : World} {K : PySem.W.Frag} {mg : Str → Option Value} {base : Heap} {k : Nat} {f : Addr} {fd : FuncData} {ps : List Str} {sp : Sp} (F : FnOk P w K mg base (L2.CX P w) k f fd ps sp) : FnOk P w K mg base CX0 k f fd ps (fun vs H Q _ => sp vs H Q fun _ _ _ => False) :=
  ⟨fun vs H Q E h => F.len vs H Q _ h, fun A outer s H args us vs Q E hr he hb hv hs => codeAny_mono (F.run A outer s H args us vs Q _ hr he hb hv hs) fun r s' h => by
    cases r with
    | ok fl => cases fl <;> exact h
    | error e =>
      obtain ⟨_, _, _, _, _, _, _, _, _, _, _, _, no⟩ := h
      exact no.elim⟩
/-- for .. in a list that a call makes -/
theorem q_forLnk {K : PySem.W.Frag} {σ : L2.St} {H : Hp} {te : TE} {tu tz : TS} {D : Ends} {g : TG} {ds : List PyData} (h : ∀ Q' : VK, (∀ p xs H4, Ex H H4 → H4 p = some (.lst xs) → DpAll K H4 xs ds → Q' (.ref p) H4) → te σ H Q')
    (k : ∀ p xs H1, Ex H H1 → H1 p = some (.lst xs) → DpAll K H1 xs ds → ∃ Pv : Nat → L2.St → Hp → Prop, Pv 0 σ H1 ∧ (∀ m σ' H', Pv m σ' H' → H' p = some (.lst xs)) ∧
      (∀ m x σ' H', xs[m]? = some x → Pv m σ' H' → g x σ' H' fun σ2 H2 => tu { D with nx := Pv (m + 1), ct := Pv (m + 1), bk := tz D } σ2 H2) ∧ ∀ σ' H', Pv xs.length σ' H' → tz D σ' H') :
    tSeq (tFor (iList K te) g tu) tz D σ H :=
  h _ fun p xs H1 e1 hx hd => by
    obtain ⟨Pv, h0, hl, hs, he⟩ := k p xs H1 e1 hx hd
    exact ⟨p, rfl, ⟨xs, sq_of hx⟩, for_it (walk_list (K := K) (a := p) (xs := xs)) (D := { D with nx := tz D }) Pv h0 (fun m σ' H' _ P => sq_of (hl m σ' H' P)) (fun m x σ' Hc H' hm P hy => by
      obtain ⟨rfl, hx⟩ := hy
      exact hs m x σ' H' hx P) he⟩
/-- the links into mixings, as pairs -/
theorem lnk_pair {l : Nat} {inner : List (List Nat)} {i : Nat} {d : PyData} (h : (lnkL (kkOf l inner))[i]? = some d) : ∃ u c, d = .tuple [natD u, natD c] ∧ u < l + inner.length ∧ c ∈ kidsAt l inner u ∧ 2 ≤ (parsAt l inner c).length := by
  have hm := List.mem_of_getElem? h
  obtain ⟨q, hq, h2⟩ := List.mem_flatMap.mp hm
  obtain ⟨u, hu, rfl⟩ := List.mem_map.mp h2
  obtain ⟨h3, h4⟩ := List.mem_filter.mp hq
  obtain ⟨k, hk, rfl⟩ := List.mem_map.mp h3
  have h4 := of_decide_eq_true h4
  have hu : u ∈ upsL (kkOf l inner) k := hu
  have h4 : (1 : Int) < (((upsL (kkOf l inner) k).length : Nat) : Int) := h4
  rw [ups_kk] at hu h4
  have h5 : 2 ≤ (parsAt l inner k).length := by omega
  exact ⟨u, k, rfl, (mem_pars.mp hu).1, (mem_pars.mp hu).2, h5⟩
section
variable {P : Program} {w : World} {K : PySem.W.Frag} {mg : Str → Option Value} {base : Heap}
theorem runs_law {C f fD fW fL fT fS : Addr} {fd fdD fdW fdL fdT fdS : FuncData} (F : Fun K "law" "law" sLaw f fd)
    (FD : Fun K "_law_deck" "_law_deck" sDeck fD fdD) (bD : Binds K fdD ["_law_script"] []) (gD : mg "_law_deck" = some (.ref fD))
    (FW : Fun K "_law_web" "_law_web" sLWeb fW fdW) (bW : Binds K fdW ["_law_deck_here", "_law_most", "_law_mixes"] []) (gW : mg "_law_web" = some (.ref fW))
    (FL : Fun K "_law_links" "_law_links" s_law_links fL fdL) (bL : Binds K fdL ["_law_web_here"] []) (gL : mg "_law_links" = some (.ref fL))
    (FT : Fun K "_law_struck" "_law_struck" s_law_struck fT fdT) (bT : Binds K fdT ["_law_web_here", "_law_parent", "_law_child"] []) (gT : mg "_law_struck" = some (.ref fT))
    (FS : Fun K "struck" "struck" s_struck fS fdS) (bS : Binds K fdS ["web", "parent", "child"] []) (gS : mg "struck" = some (.ref fS))
    (m1 : mg "range" = none) (m2 : mg "repr" = none)
    (GD : FnOk P w K mg base CX0 1 fD fdD ["_law_script"] (spDeck K))
    (GW : FnOk P w K mg base CX0 5 fW fdW ["_law_deck_here", "_law_most", "_law_mixes"] (spLWeb K))
    (GL : FnOk P w K mg base CX0 3 fL fdL ["_law_web_here"] (spLnks K))
    (GT : FnOk P w K mg base CX0 31 fT fdT ["_law_web_here", "_law_parent", "_law_child"] (spLStr K))
    (GS : FnOk P w K mg base (L2.CX P w) 6 fS fdS ["web", "parent", "child"] (spStrX K C)) :
    RunsG P w K mg base f fd "_law_script" (spLaw K) := by
  refine runsG_of (k := 31) F scLaw ⟨rfl, by decide, by decide⟩ fun cdv s H v Q hr h => ?_
  obtain ⟨a, ns, ev, hS, hlen, q⟩ := h
  cases ev
  have r1 := hr.mono (show 1 ≤ 31 by decide)
  have r3 := hr.mono (show 3 ≤ 31 by decide)
  have r5 := hr.mono (show 5 ≤ 31 by decide)
  have r6 := hr.mono (show 6 ≤ 31 by decide)
  have hu := hr.units
  apply Exists.intro
  apply And.intro
  case left =>
    refine' pss_cons (ps_set (i := 1) scLaw.nd rfl (.inl rfl) (pe_call GD r1 (by rfl) gD FD.kp bD .nil pass0 (pa_cons (pv 0) pa_nil))) ?r0
    case' r0 => skip
    refine' pss_cons (ps_for PassesOwn.never rfl (pi_range1 (by rfl) m1 (pa_cons pe_int pa_nil)) (pg_name (i := 2) scLaw.nd rfl (.inl rfl)) ?b0) ?r1
    case' b0 =>
      refine' pss_cons (ps_set (i := 3) scLaw.nd rfl (.inl rfl) (pe_call GW r5 (by rfl) gW FW.kp bW .nil pass0 (pa_cons (pv 1) (pa_cons pe_int (pa_cons pe_int pa_nil))))) ?b1
      case' b1 => skip
      refine' pss_cons (ps_set (i := 4) scLaw.nd rfl (.inl rfl) (pe_callB (call_reprA rfl hu) (by rfl) m2 (by decide +kernel) (pa_cons (pv 3) pa_nil))) ?b2
      case' b2 => skip
      refine' pss_cons (ps_for PassesOwn.never rfl (pi_list (pe_call GL r3 (by rfl) gL FL.kp bL .nil pass0 (pa_cons (pv 3) pa_nil))) (pg_tup rfl (pgs_cons (pg_name (i := 5) scLaw.nd rfl (.inl rfl)) (pgs_cons (pg_name (i := 6) scLaw.nd rfl (.inl rfl)) pgs_nil)))
        (pss_cons (ps_set (i := 7) scLaw.nd rfl (.inl rfl) (pe_call GT hr (by rfl) gT FT.kp bT .nil pass0 (pa_cons (pv 3) (pa_cons (pv 5) (pa_cons (pv 6) pa_nil)))))
        (pss_one (ps_if (pt_cmpR op_ne (pe_callB (call_reprA rfl hu) (by rfl) m2 (by decide +kernel) (pa_cons (pe_lst (pa_cons (pe_call (calmS GS) r6 (by rfl) gS FS.kp bS .nil pass0 (pa_cons (pv 3) (pa_cons (pv 5) (pa_cons (pv 6) pa_nil)))) (pa_cons (pe_call (calmS GS) r6 (by rfl) gS FS.kp bS .nil pass0 (pa_cons (pv 3) (pa_cons (pv 5) (pa_cons (pv 6) pa_nil)))) pa_nil))) pa_nil))
          (pe_callB (call_reprA rfl hu) (by rfl) m2 (by decide +kernel) (pa_cons (pe_lst (pa_cons (pv 7) (pa_cons (pv 7) pa_nil))) pa_nil)) (nomark _)) (pss_one (ps_ret pe_bl)) pss_nil)))) ?b3
      case' b3 => skip
      exact pss_one (ps_if (pt_cmpR op_ne (pe_callB (call_reprA rfl hu) (by rfl) m2 (by decide +kernel) (pa_cons (pv 3) pa_nil)) (pv 4) (nomark _)) (pss_one (ps_ret pe_bl)) pss_nil)
    case' r1 => skip
    exact pss_one (ps_ret pe_bl)
  case right =>
    refine q_deck (K := K) (ev_var rfl) hS hlen fun dk Lk H1 hdk _ e1 hD => ?_
    let S (x2 x3 x4 x5 x6 x7 : Option V) : L2.St := [some (.ref a), some (.ref dk), x2, x3, x4, x5, x6, x7]
    show tSeq (tFor _ _ _) _ _ (S none none none none none none) H1
    refine q_forR1 (n := 6) (ea_cons ev_c ea_nil) (by decide) (fun i σ' H' => (∃ x2 x3 x4 x5 x6 x7, σ' = S x2 x3 x4 x5 x6 x7) ∧ Dk H' dk Lk ns (300 * i)) (fun H2 e2 => ⟨⟨_, _, _, _, _, _, rfl⟩, by simpa using hD.ex e2⟩) (fun i σ' H' hi hP => ?_) fun σ' H' hP => ?_
    · obtain ⟨⟨x2, x3, x4, x5, x6, x7, rfl⟩, hD⟩ := hP
      show tSeq _ _ _ (S (some (.int (i : Int))) x3 x4 x5 x6 x7) H'
      refine q_lweb (mo := 8) (ev_var rfl) ev_c hD (by omega) (by decide) (by decide) (lweb_c (mx := 6) hD (by decide)) fun H2 v l inner hB hl1 hl8 hv hdr => ?_
      have W := hdr.web hl1 hl8
      have hw := W.raw
      have h20 := hw.n20
      clear hdr
      show tSeq (tAsg _ _) _ _ (S (some (.int (i : Int))) (some v) x4 x5 x6 x7) H2
      refine q_asg (i := 4) (v := .str (webD l inner).shown) (ev_repr (K := K) (ed_var rfl hv) ((sm_web hw).ok (by decide) (by decide))) fun H3 e3 => ?_
      have hv3 := dp_ex e3 _ hv
      show tSeq (tFor _ _ _) _ _ (S (some (.int (i : Int))) (some v) (some (.str (webD l inner).shown)) x5 x6 x7) H3
      have hLnk : ∀ Q' : VK, (∀ p xs H4, Ex H3 H4 → H4 p = some (.lst xs) → DpAll K H4 xs (lnkL (kkOf l inner)) → Q' (.ref p) H4) → tCall (spLnks K) [] E0 (tCons (tVar 3) tNil) (S (some (.int (i : Int))) (some v) (some (.str (webD l inner).shown)) x5 x6 x7) H3 Q' := fun Q' q' =>
        ⟨v, rfl, v, l, inner, rfl, hv3, hw, fun p H4 e4 _ hL => by
          obtain ⟨xs, hx, hdx⟩ := hL
          exact q' p xs H4 e4 hx hdx⟩
      refine q_forLnk (K := K) hLnk fun p xs H4 e4 hx4 hd4 => ?_
      refine ⟨fun m σ' H' => (∃ x5 x6 x7, σ' = S (some (.int (i : Int))) (some v) (some (.str (webD l inner).shown)) x5 x6 x7) ∧ Ex H4 H', ⟨⟨_, _, _, rfl⟩, Ex.refl H4⟩, fun m σ' H' hI => hI.2 _ _ hx4, fun m x σ' H' hxm hI => ?_, fun σ' H' hI => ?_⟩
      · obtain ⟨⟨y5, y6, y7, rfl⟩, e5⟩ := hI
        obtain ⟨dx, hdx, hxx⟩ := dpAll_at (dpAll_ex e5 _ hd4) hxm
        obtain ⟨u, c, rfl, hun, hc, hc2⟩ := lnk_pair hdx
        obtain ⟨b, xs', rfl, hs, hds⟩ := dp_tup hxx
        cases hds with
        | cons h1 hds =>
          cases hds with
          | cons h2 hds =>
            cases hds
            cases dp_int h1
            cases dp_int h2
            refine ⟨b, _, rfl, hs, rfl, _, _, rfl, _, _, rfl, rfl, ?_⟩
            have hv5 := dp_ex (e4.trans e5) _ hv3
            have hcn : c < l + inner.length := (kidsAt_lt hw hc).1
            show tSeq (tAsg _ _) _ _ (S (some (.int (i : Int))) (some v) (some (.str (webD l inner).shown)) (some (nV u)) (some (nV c)) y7) H'
            refine ⟨v, rfl, nV u, rfl, nV c, rfl, v, l, inner, u, c, rfl, hv5, W, hun, hc, hc2, fun r X H6 e6 hr6 hX => ?_⟩
            dsimp only [gName]
            show tIfS _ _ _ _ (S (some (.int (i : Int))) (some v) (some (.str (webD l inner).shown)) (some (nV u)) (some (nV c)) (some r)) H6
            have hv6 := dp_ex e6 _ hv5
            have hWX : WebP l X := by
              obtain ⟨_, _, _, _, _, m⟩ := hX
              exact m.drawn.web hl1 hl8
            have hcall : EvD K (tCall (fun vs H Q _ => spStrX K C vs H Q fun _ _ _ => False) [] E0 (tCons (tVar 3) (tCons (tVar 5) (tCons (tVar 6) tNil)))) (S (some (.int (i : Int))) (some v) (some (.str (webD l inner).shown)) (some (nV u)) (some (nV c)) (some r)) H6 (webD l (formI l X)) := fun H7 e7 Q7 q7 =>
              ⟨v, rfl, nV u, rfl, nV c, rfl, v, l, inner, u, c, rfl, dp_ex e7 _ hv6, W, hun, hcn, fun _ r2 Y H8 e8 hr8 hY => q7 r2 H8 e8 (by rw [strOut_form W hun hc hc2 hX hY]; exact hr8), fun hno => absurd ⟨hc, hc2⟩ hno⟩
            have hok : okR (.list [webD l (formI l X), webD l (formI l X)]) = true := by
              have h1 := sm_web (form_web hWX).raw
              exact ((sm_all (w := _) (dp := _) (ds := [webD l (formI l X), webD l (formI l X)]) (fun d hd => by
                simp only [List.mem_cons, List.not_mem_nil, or_false, or_self] at hd
                rw [hd]
                exact h1)).lst).ok (by show 2 * (60000 + 1) ≤ 250000; decide) (by decide)
            refine s_when (b := false) (et_reprNe (K := K) (ed_n (ed_lst (eda_cons hcall (eda_cons hcall eda_nil)) (by simp))) (ed_n (ed_lst (eda_cons (ed_var rfl hr6) (eda_cons (ed_var rfl hr6) eda_nil)) (by simp))) hok) (fun z => by cases z) fun _ H9 e9 => ?_
            exact ⟨⟨_, _, _, rfl⟩, (e5.trans e6).trans e9⟩
      · obtain ⟨⟨y5, y6, y7, rfl⟩, e5⟩ := hI
        have e35 := e4.trans e5
        show tIfS _ _ _ _ (S (some (.int (i : Int))) (some v) (some (.str (webD l inner).shown)) y5 y6 y7) H'
        refine s_when (b := false) (et_test (ev_is (ev_op (ev_repr (K := K) (ed_var rfl (dp_ex e35 _ hv3)) ((sm_web hw).ok (by decide) (by decide))) (ev_var rfl) (rv_ne rfl)) (by rw [decide_eq_true rfl]; rfl))) (fun z => by cases z) fun _ H6 e6 => ?_
        exact ⟨⟨_, _, _, _, _, _, rfl⟩, ((hB.more ((e3.trans e35).trans e6)).wk (show (300 * i : Int) + 137 ≤ 300 * ((i + 1 : Nat) : Int) by omega)).deck⟩
    · obtain ⟨⟨x2, x3, x4, x5, x6, x7, rfl⟩, hD⟩ := hP
      exact s_ret (v := .bl true) ev_c fun H3 _ => q H3
end
end WR
set_option Elab.async false
set_option linter.all false
set_option maxRecDepth 100000
set_option maxHeartbeats 4000000
namespace WR
open PySem PySem.Spec PyProof.Rows L2 Evl
/-! ### what the top has written -/
theorem all_mk {l : PySem.W.OpenLaw} {w : World} {K : PySem.W.Frag} {h : Heap} {mg : Str → Option Value} {fa : Addr} (X : K.In h) (G : h.Ns mainGlobals mg) (hfa : mg "law" = some (.ref fa))
    {f1 : Addr} {od1 an1 : Option Addr} {sl1 : Array (Option Value)} {oc1 kV1 dc1 pm1 cd1 ct1 : Value}
    (a1 : PySem.W.nsIn K mainGlobals "is_integer" = some (some (.ref f1)))
    (l1 : K.lookup f1 = some ⟨oc1, od1, .func (PySem.W.fnOf "is_integer" "is_integer" (defArgs sIsInt) (defBody sIsInt) (defScope sIsInt) .none kV1 dc1 pm1 an1 cd1 ct1), sl1⟩)
    (c1 : PySem.W.codeIn K cd1 "is_integer" = true) (k1 : PySem.W.keepIn K (.ref f1) = true)
    {f2 : Addr} {od2 an2 : Option Addr} {sl2 : Array (Option Value)} {oc2 kV2 dc2 pm2 cd2 ct2 : Value}
    (a2 : PySem.W.nsIn K mainGlobals "is_between" = some (some (.ref f2)))
    (l2 : K.lookup f2 = some ⟨oc2, od2, .func (PySem.W.fnOf "is_between" "is_between" (defArgs sBetw) (defBody sBetw) (defScope sBetw) .none kV2 dc2 pm2 an2 cd2 ct2), sl2⟩)
    (c2 : PySem.W.codeIn K cd2 "is_between" = true) (k2 : PySem.W.keepIn K (.ref f2) = true)
    {f3 : Addr} {od3 an3 : Option Addr} {sl3 : Array (Option Value)} {oc3 kV3 dc3 pm3 cd3 ct3 : Value}
    (a3 : PySem.W.nsIn K mainGlobals "root" = some (some (.ref f3)))
    (l3 : K.lookup f3 = some ⟨oc3, od3, .func (PySem.W.fnOf "root" "root" (defArgs sRoot) (defBody sRoot) (defScope sRoot) .none kV3 dc3 pm3 an3 cd3 ct3), sl3⟩)
    (c3 : PySem.W.codeIn K cd3 "root" = true) (k3 : PySem.W.keepIn K (.ref f3) = true)
    {f4 : Addr} {od4 an4 : Option Addr} {sl4 : Array (Option Value)} {oc4 kV4 dc4 pm4 cd4 ct4 : Value}
    (a4 : PySem.W.nsIn K mainGlobals "children" = some (some (.ref f4)))
    (l4 : K.lookup f4 = some ⟨oc4, od4, .func (PySem.W.fnOf "children" "children" (defArgs sKids) (defBody sKids) (defScope sKids) .none kV4 dc4 pm4 an4 cd4 ct4), sl4⟩)
    (c4 : PySem.W.codeIn K cd4 "children" = true) (k4 : PySem.W.keepIn K (.ref f4) = true)
    {f5 : Addr} {od5 an5 : Option Addr} {sl5 : Array (Option Value)} {oc5 kV5 dc5 pm5 cd5 ct5 : Value}
    (a5 : PySem.W.nsIn K mainGlobals "parents" = some (some (.ref f5)))
    (l5 : K.lookup f5 = some ⟨oc5, od5, .func (PySem.W.fnOf "parents" "parents" (defArgs sPar) (defBody sPar) (defScope sPar) .none kV5 dc5 pm5 an5 cd5 ct5), sl5⟩)
    (c5 : PySem.W.codeIn K cd5 "parents" = true) (k5 : PySem.W.keepIn K (.ref f5) = true)
    {f6 : Addr} {od6 an6 : Option Addr} {sl6 : Array (Option Value)} {oc6 kV6 dc6 pm6 cd6 ct6 : Value}
    (a6 : PySem.W.nsIn K mainGlobals "is_mixing" = some (some (.ref f6)))
    (l6 : K.lookup f6 = some ⟨oc6, od6, .func (PySem.W.fnOf "is_mixing" "is_mixing" (defArgs sIsMix) (defBody sIsMix) (defScope sIsMix) .none kV6 dc6 pm6 an6 cd6 ct6), sl6⟩)
    (c6 : PySem.W.codeIn K cd6 "is_mixing" = true) (k6 : PySem.W.keepIn K (.ref f6) = true)
    {f7 : Addr} {od7 an7 : Option Addr} {sl7 : Array (Option Value)} {oc7 kV7 dc7 pm7 cd7 ct7 : Value}
    (a7 : PySem.W.nsIn K mainGlobals "rows_of" = some (some (.ref f7)))
    (l7 : K.lookup f7 = some ⟨oc7, od7, .func (PySem.W.fnOf "rows_of" "rows_of" (defArgs sRowsOf) (defBody sRowsOf) (defScope sRowsOf) .none kV7 dc7 pm7 an7 cd7 ct7), sl7⟩)
    (c7 : PySem.W.codeIn K cd7 "rows_of" = true) (k7 : PySem.W.keepIn K (.ref f7) = true)
    {f8 : Addr} {od8 an8 : Option Addr} {sl8 : Array (Option Value)} {oc8 kV8 dc8 pm8 cd8 ct8 : Value}
    (a8 : PySem.W.nsIn K mainGlobals "leaf_row" = some (some (.ref f8)))
    (l8 : K.lookup f8 = some ⟨oc8, od8, .func (PySem.W.fnOf "leaf_row" "leaf_row" (defArgs sLeafRow) (defBody sLeafRow) (defScope sLeafRow) .none kV8 dc8 pm8 an8 cd8 ct8), sl8⟩)
    (c8 : PySem.W.codeIn K cd8 "leaf_row" = true) (k8 : PySem.W.keepIn K (.ref f8) = true)
    {f9 : Addr} {od9 an9 : Option Addr} {sl9 : Array (Option Value)} {oc9 kV9 dc9 pm9 cd9 ct9 : Value}
    (a9 : PySem.W.nsIn K mainGlobals "form" = some (some (.ref f9)))
    (l9 : K.lookup f9 = some ⟨oc9, od9, .func (PySem.W.fnOf "form" "form" (defArgs s_form) (defBody s_form) (defScope s_form) .none kV9 dc9 pm9 an9 cd9 ct9), sl9⟩)
    (c9 : PySem.W.codeIn K cd9 "form" = true) (k9 : PySem.W.keepIn K (.ref f9) = true)
    {f10 : Addr} {od10 an10 : Option Addr} {sl10 : Array (Option Value)} {oc10 kV10 dc10 pm10 cd10 ct10 : Value}
    (a10 : PySem.W.nsIn K mainGlobals "in_row_order" = some (some (.ref f10)))
    (l10 : K.lookup f10 = some ⟨oc10, od10, .func (PySem.W.fnOf "in_row_order" "in_row_order" (defArgs s_in_row_order) (defBody s_in_row_order) (defScope s_in_row_order) .none kV10 dc10 pm10 an10 cd10 ct10), sl10⟩)
    (c10 : PySem.W.codeIn K cd10 "in_row_order" = true) (k10 : PySem.W.keepIn K (.ref f10) = true)
    {f11 : Addr} {od11 an11 : Option Addr} {sl11 : Array (Option Value)} {oc11 kV11 dc11 pm11 cd11 ct11 : Value}
    (a11 : PySem.W.nsIn K mainGlobals "with_numbers" = some (some (.ref f11)))
    (l11 : K.lookup f11 = some ⟨oc11, od11, .func (PySem.W.fnOf "with_numbers" "with_numbers" (defArgs s_with_numbers) (defBody s_with_numbers) (defScope s_with_numbers) .none kV11 dc11 pm11 an11 cd11 ct11), sl11⟩)
    (c11 : PySem.W.codeIn K cd11 "with_numbers" = true) (k11 : PySem.W.keepIn K (.ref f11) = true)
    {f12 : Addr} {od12 an12 : Option Addr} {sl12 : Array (Option Value)} {oc12 kV12 dc12 pm12 cd12 ct12 : Value}
    (a12 : PySem.W.nsIn K mainGlobals "draft_of" = some (some (.ref f12)))
    (l12 : K.lookup f12 = some ⟨oc12, od12, .func (PySem.W.fnOf "draft_of" "draft_of" (defArgs s_draft_of) (defBody s_draft_of) (defScope s_draft_of) .none kV12 dc12 pm12 an12 cd12 ct12), sl12⟩)
    (c12 : PySem.W.codeIn K cd12 "draft_of" = true) (k12 : PySem.W.keepIn K (.ref f12) = true)
    {f13 : Addr} {od13 an13 : Option Addr} {sl13 : Array (Option Value)} {oc13 kV13 dc13 pm13 cd13 ct13 : Value}
    (a13 : PySem.W.nsIn K mainGlobals "web_of_draft" = some (some (.ref f13)))
    (l13 : K.lookup f13 = some ⟨oc13, od13, .func (PySem.W.fnOf "web_of_draft" "web_of_draft" (defArgs s_web_of_draft) (defBody s_web_of_draft) (defScope s_web_of_draft) .none kV13 dc13 pm13 an13 cd13 ct13), sl13⟩)
    (c13 : PySem.W.codeIn K cd13 "web_of_draft" = true) (k13 : PySem.W.keepIn K (.ref f13) = true)
    {f14 : Addr} {od14 an14 : Option Addr} {sl14 : Array (Option Value)} {oc14 kV14 dc14 pm14 cd14 ct14 : Value}
    (a14 : PySem.W.nsIn K mainGlobals "upward" = some (some (.ref f14)))
    (l14 : K.lookup f14 = some ⟨oc14, od14, .func (PySem.W.fnOf "upward" "upward" (defArgs s_upward) (defBody s_upward) (defScope s_upward) .none kV14 dc14 pm14 an14 cd14 ct14), sl14⟩)
    (c14 : PySem.W.codeIn K cd14 "upward" = true) (k14 : PySem.W.keepIn K (.ref f14) = true)
    {f15 : Addr} {od15 an15 : Option Addr} {sl15 : Array (Option Value)} {oc15 kV15 dc15 pm15 cd15 ct15 : Value}
    (a15 : PySem.W.nsIn K mainGlobals "struck" = some (some (.ref f15)))
    (l15 : K.lookup f15 = some ⟨oc15, od15, .func (PySem.W.fnOf "struck" "struck" (defArgs s_struck) (defBody s_struck) (defScope s_struck) .none kV15 dc15 pm15 an15 cd15 ct15), sl15⟩)
    (c15 : PySem.W.codeIn K cd15 "struck" = true) (k15 : PySem.W.keepIn K (.ref f15) = true)
    {f16 : Addr} {od16 an16 : Option Addr} {sl16 : Array (Option Value)} {oc16 kV16 dc16 pm16 cd16 ct16 : Value}
    (a16 : PySem.W.nsIn K mainGlobals "is_link" = some (some (.ref f16)))
    (l16 : K.lookup f16 = some ⟨oc16, od16, .func (PySem.W.fnOf "is_link" "is_link" (defArgs s_is_link) (defBody s_is_link) (defScope s_is_link) .none kV16 dc16 pm16 an16 cd16 ct16), sl16⟩)
    (c16 : PySem.W.codeIn K cd16 "is_link" = true) (k16 : PySem.W.keepIn K (.ref f16) = true)
    {f17 : Addr} {od17 an17 : Option Addr} {sl17 : Array (Option Value)} {oc17 kV17 dc17 pm17 cd17 ct17 : Value}
    (a17 : PySem.W.nsIn K mainGlobals "thin_kind" = some (some (.ref f17)))
    (l17 : K.lookup f17 = some ⟨oc17, od17, .func (PySem.W.fnOf "thin_kind" "thin_kind" (defArgs s_thin_kind) (defBody s_thin_kind) (defScope s_thin_kind) .none kV17 dc17 pm17 an17 cd17 ct17), sl17⟩)
    (c17 : PySem.W.codeIn K cd17 "thin_kind" = true) (k17 : PySem.W.keepIn K (.ref f17) = true)
    {f18 : Addr} {od18 an18 : Option Addr} {sl18 : Array (Option Value)} {oc18 kV18 dc18 pm18 cd18 ct18 : Value}
    (a18 : PySem.W.nsIn K mainGlobals "put_for_child" = some (some (.ref f18)))
    (l18 : K.lookup f18 = some ⟨oc18, od18, .func (PySem.W.fnOf "put_for_child" "put_for_child" (defArgs s_put_for_child) (defBody s_put_for_child) (defScope s_put_for_child) .none kV18 dc18 pm18 an18 cd18 ct18), sl18⟩)
    (c18 : PySem.W.codeIn K cd18 "put_for_child" = true) (k18 : PySem.W.keepIn K (.ref f18) = true)
    {f19 : Addr} {od19 an19 : Option Addr} {sl19 : Array (Option Value)} {oc19 kV19 dc19 pm19 cd19 ct19 : Value}
    (a19 : PySem.W.nsIn K mainGlobals "_law_deck" = some (some (.ref f19)))
    (l19 : K.lookup f19 = some ⟨oc19, od19, .func (PySem.W.fnOf "_law_deck" "_law_deck" (defArgs sDeck) (defBody sDeck) (defScope sDeck) .none kV19 dc19 pm19 an19 cd19 ct19), sl19⟩)
    (c19 : PySem.W.codeIn K cd19 "_law_deck" = true) (k19 : PySem.W.keepIn K (.ref f19) = true)
    {f20 : Addr} {od20 an20 : Option Addr} {sl20 : Array (Option Value)} {oc20 kV20 dc20 pm20 cd20 ct20 : Value}
    (a20 : PySem.W.nsIn K mainGlobals "_law_draw" = some (some (.ref f20)))
    (l20 : K.lookup f20 = some ⟨oc20, od20, .func (PySem.W.fnOf "_law_draw" "_law_draw" (defArgs sDraw) (defBody sDraw) (defScope sDraw) .none kV20 dc20 pm20 an20 cd20 ct20), sl20⟩)
    (c20 : PySem.W.codeIn K cd20 "_law_draw" = true) (k20 : PySem.W.keepIn K (.ref f20) = true)
    {f21 : Addr} {od21 an21 : Option Addr} {sl21 : Array (Option Value)} {oc21 kV21 dc21 pm21 cd21 ct21 : Value}
    (a21 : PySem.W.nsIn K mainGlobals "_law_one" = some (some (.ref f21)))
    (l21 : K.lookup f21 = some ⟨oc21, od21, .func (PySem.W.fnOf "_law_one" "_law_one" (defArgs sOne) (defBody sOne) (defScope sOne) .none kV21 dc21 pm21 an21 cd21 ct21), sl21⟩)
    (c21 : PySem.W.codeIn K cd21 "_law_one" = true) (k21 : PySem.W.keepIn K (.ref f21) = true)
    {f22 : Addr} {od22 an22 : Option Addr} {sl22 : Array (Option Value)} {oc22 kV22 dc22 pm22 cd22 ct22 : Value}
    (a22 : PySem.W.nsIn K mainGlobals "_law_tree" = some (some (.ref f22)))
    (l22 : K.lookup f22 = some ⟨oc22, od22, .func (PySem.W.fnOf "_law_tree" "_law_tree" (defArgs sLTree) (defBody sLTree) (defScope sLTree) .none kV22 dc22 pm22 an22 cd22 ct22), sl22⟩)
    (c22 : PySem.W.codeIn K cd22 "_law_tree" = true) (k22 : PySem.W.keepIn K (.ref f22) = true)
    {f23 : Addr} {od23 an23 : Option Addr} {sl23 : Array (Option Value)} {oc23 kV23 dc23 pm23 cd23 ct23 : Value}
    (a23 : PySem.W.nsIn K mainGlobals "_law_ups" = some (some (.ref f23)))
    (l23 : K.lookup f23 = some ⟨oc23, od23, .func (PySem.W.fnOf "_law_ups" "_law_ups" (defArgs sUps) (defBody sUps) (defScope sUps) .none kV23 dc23 pm23 an23 cd23 ct23), sl23⟩)
    (c23 : PySem.W.codeIn K cd23 "_law_ups" = true) (k23 : PySem.W.keepIn K (.ref f23) = true)
    {f24 : Addr} {od24 an24 : Option Addr} {sl24 : Array (Option Value)} {oc24 kV24 dc24 pm24 cd24 ct24 : Value}
    (a24 : PySem.W.nsIn K mainGlobals "_law_down" = some (some (.ref f24)))
    (l24 : K.lookup f24 = some ⟨oc24, od24, .func (PySem.W.fnOf "_law_down" "_law_down" (defArgs sDown) (defBody sDown) (defScope sDown) .none kV24 dc24 pm24 an24 cd24 ct24), sl24⟩)
    (c24 : PySem.W.codeIn K cd24 "_law_down" = true) (k24 : PySem.W.keepIn K (.ref f24) = true)
    {f25 : Addr} {od25 an25 : Option Addr} {sl25 : Array (Option Value)} {oc25 kV25 dc25 pm25 cd25 ct25 : Value}
    (a25 : PySem.W.nsIn K mainGlobals "_law_mix" = some (some (.ref f25)))
    (l25 : K.lookup f25 = some ⟨oc25, od25, .func (PySem.W.fnOf "_law_mix" "_law_mix" (defArgs sLMix) (defBody sLMix) (defScope sLMix) .none kV25 dc25 pm25 an25 cd25 ct25), sl25⟩)
    (c25 : PySem.W.codeIn K cd25 "_law_mix" = true) (k25 : PySem.W.keepIn K (.ref f25) = true)
    {f26 : Addr} {od26 an26 : Option Addr} {sl26 : Array (Option Value)} {oc26 kV26 dc26 pm26 cd26 ct26 : Value}
    (a26 : PySem.W.nsIn K mainGlobals "_law_numbered" = some (some (.ref f26)))
    (l26 : K.lookup f26 = some ⟨oc26, od26, .func (PySem.W.fnOf "_law_numbered" "_law_numbered" (defArgs sNumb) (defBody sNumb) (defScope sNumb) .none kV26 dc26 pm26 an26 cd26 ct26), sl26⟩)
    (c26 : PySem.W.codeIn K cd26 "_law_numbered" = true) (k26 : PySem.W.keepIn K (.ref f26) = true)
    {f27 : Addr} {od27 an27 : Option Addr} {sl27 : Array (Option Value)} {oc27 kV27 dc27 pm27 cd27 ct27 : Value}
    (a27 : PySem.W.nsIn K mainGlobals "_law_kids" = some (some (.ref f27)))
    (l27 : K.lookup f27 = some ⟨oc27, od27, .func (PySem.W.fnOf "_law_kids" "_law_kids" (defArgs sLKids) (defBody sLKids) (defScope sLKids) .none kV27 dc27 pm27 an27 cd27 ct27), sl27⟩)
    (c27 : PySem.W.codeIn K cd27 "_law_kids" = true) (k27 : PySem.W.keepIn K (.ref f27) = true)
    {f28 : Addr} {od28 an28 : Option Addr} {sl28 : Array (Option Value)} {oc28 kV28 dc28 pm28 cd28 ct28 : Value}
    (a28 : PySem.W.nsIn K mainGlobals "_law_web" = some (some (.ref f28)))
    (l28 : K.lookup f28 = some ⟨oc28, od28, .func (PySem.W.fnOf "_law_web" "_law_web" (defArgs sLWeb) (defBody sLWeb) (defScope sLWeb) .none kV28 dc28 pm28 an28 cd28 ct28), sl28⟩)
    (c28 : PySem.W.codeIn K cd28 "_law_web" = true) (k28 : PySem.W.keepIn K (.ref f28) = true)
    {f29 : Addr} {od29 an29 : Option Addr} {sl29 : Array (Option Value)} {oc29 kV29 dc29 pm29 cd29 ct29 : Value}
    (a29 : PySem.W.nsIn K mainGlobals "_law_lists" = some (some (.ref f29)))
    (l29 : K.lookup f29 = some ⟨oc29, od29, .func (PySem.W.fnOf "_law_lists" "_law_lists" (defArgs sLists) (defBody sLists) (defScope sLists) .none kV29 dc29 pm29 an29 cd29 ct29), sl29⟩)
    (c29 : PySem.W.codeIn K cd29 "_law_lists" = true) (k29 : PySem.W.keepIn K (.ref f29) = true)
    {f30 : Addr} {od30 an30 : Option Addr} {sl30 : Array (Option Value)} {oc30 kV30 dc30 pm30 cd30 ct30 : Value}
    (a30 : PySem.W.nsIn K mainGlobals "_law_mixed" = some (some (.ref f30)))
    (l30 : K.lookup f30 = some ⟨oc30, od30, .func (PySem.W.fnOf "_law_mixed" "_law_mixed" (defArgs s_law_mixed) (defBody s_law_mixed) (defScope s_law_mixed) .none kV30 dc30 pm30 an30 cd30 ct30), sl30⟩)
    (c30 : PySem.W.codeIn K cd30 "_law_mixed" = true) (k30 : PySem.W.keepIn K (.ref f30) = true)
    {f31 : Addr} {od31 an31 : Option Addr} {sl31 : Array (Option Value)} {oc31 kV31 dc31 pm31 cd31 ct31 : Value}
    (a31 : PySem.W.nsIn K mainGlobals "_law_opened" = some (some (.ref f31)))
    (l31 : K.lookup f31 = some ⟨oc31, od31, .func (PySem.W.fnOf "_law_opened" "_law_opened" (defArgs s_law_opened) (defBody s_law_opened) (defScope s_law_opened) .none kV31 dc31 pm31 an31 cd31 ct31), sl31⟩)
    (c31 : PySem.W.codeIn K cd31 "_law_opened" = true) (k31 : PySem.W.keepIn K (.ref f31) = true)
    {f32 : Addr} {od32 an32 : Option Addr} {sl32 : Array (Option Value)} {oc32 kV32 dc32 pm32 cd32 ct32 : Value}
    (a32 : PySem.W.nsIn K mainGlobals "_law_uppers" = some (some (.ref f32)))
    (l32 : K.lookup f32 = some ⟨oc32, od32, .func (PySem.W.fnOf "_law_uppers" "_law_uppers" (defArgs s_law_uppers) (defBody s_law_uppers) (defScope s_law_uppers) .none kV32 dc32 pm32 an32 cd32 ct32), sl32⟩)
    (c32 : PySem.W.codeIn K cd32 "_law_uppers" = true) (k32 : PySem.W.keepIn K (.ref f32) = true)
    {f33 : Addr} {od33 an33 : Option Addr} {sl33 : Array (Option Value)} {oc33 kV33 dc33 pm33 cd33 ct33 : Value}
    (a33 : PySem.W.nsIn K mainGlobals "_law_row" = some (some (.ref f33)))
    (l33 : K.lookup f33 = some ⟨oc33, od33, .func (PySem.W.fnOf "_law_row" "_law_row" (defArgs s_law_row) (defBody s_law_row) (defScope s_law_row) .none kV33 dc33 pm33 an33 cd33 ct33), sl33⟩)
    (c33 : PySem.W.codeIn K cd33 "_law_row" = true) (k33 : PySem.W.keepIn K (.ref f33) = true)
    {f34 : Addr} {od34 an34 : Option Addr} {sl34 : Array (Option Value)} {oc34 kV34 dc34 pm34 cd34 ct34 : Value}
    (a34 : PySem.W.nsIn K mainGlobals "_law_form" = some (some (.ref f34)))
    (l34 : K.lookup f34 = some ⟨oc34, od34, .func (PySem.W.fnOf "_law_form" "_law_form" (defArgs s_law_form) (defBody s_law_form) (defScope s_law_form) .none kV34 dc34 pm34 an34 cd34 ct34), sl34⟩)
    (c34 : PySem.W.codeIn K cd34 "_law_form" = true) (k34 : PySem.W.keepIn K (.ref f34) = true)
    {f35 : Addr} {od35 an35 : Option Addr} {sl35 : Array (Option Value)} {oc35 kV35 dc35 pm35 cd35 ct35 : Value}
    (a35 : PySem.W.nsIn K mainGlobals "_law_struck" = some (some (.ref f35)))
    (l35 : K.lookup f35 = some ⟨oc35, od35, .func (PySem.W.fnOf "_law_struck" "_law_struck" (defArgs s_law_struck) (defBody s_law_struck) (defScope s_law_struck) .none kV35 dc35 pm35 an35 cd35 ct35), sl35⟩)
    (c35 : PySem.W.codeIn K cd35 "_law_struck" = true) (k35 : PySem.W.keepIn K (.ref f35) = true)
    {f36 : Addr} {od36 an36 : Option Addr} {sl36 : Array (Option Value)} {oc36 kV36 dc36 pm36 cd36 ct36 : Value}
    (a36 : PySem.W.nsIn K mainGlobals "_law_links" = some (some (.ref f36)))
    (l36 : K.lookup f36 = some ⟨oc36, od36, .func (PySem.W.fnOf "_law_links" "_law_links" (defArgs s_law_links) (defBody s_law_links) (defScope s_law_links) .none kV36 dc36 pm36 an36 cd36 ct36), sl36⟩)
    (c36 : PySem.W.codeIn K cd36 "_law_links" = true) (k36 : PySem.W.keepIn K (.ref f36) = true)
    {f37 : Addr} {od37 an37 : Option Addr} {sl37 : Array (Option Value)} {oc37 kV37 dc37 pm37 cd37 ct37 : Value}
    (a37 : PySem.W.nsIn K mainGlobals "law" = some (some (.ref f37)))
    (l37 : K.lookup f37 = some ⟨oc37, od37, .func (PySem.W.fnOf "law" "law" (defArgs sLaw) (defBody sLaw) (defScope sLaw) .none kV37 dc37 pm37 an37 cd37 ct37), sl37⟩)
    (c37 : PySem.W.codeIn K cd37 "law" = true) (k37 : PySem.W.keepIn K (.ref f37) = true)
    (z1 : PySem.W.nsIn K mainGlobals "list" = some none)
    (z2 : PySem.W.nsIn K mainGlobals "int" = some none)
    (z3 : PySem.W.nsIn K mainGlobals "abs" = some none)
    (z4 : PySem.W.nsIn K mainGlobals "len" = some none)
    (z5 : PySem.W.nsIn K mainGlobals "range" = some none)
    (z6 : PySem.W.nsIn K mainGlobals "min" = some none)
    (z7 : PySem.W.nsIn K mainGlobals "dict" = some none)
    (z8 : PySem.W.nsIn K mainGlobals "tuple" = some none)
    (z9 : PySem.W.nsIn K mainGlobals "sorted" = some none)
    (z10 : PySem.W.nsIn K mainGlobals "enumerate" = some none)
    (z11 : PySem.W.nsIn K mainGlobals "sum" = some none)
    (z12 : PySem.W.nsIn K mainGlobals "isinstance" = some none)
    (z13 : PySem.W.nsIn K mainGlobals "bool" = some none)
    (z14 : PySem.W.nsIn K mainGlobals "repr" = some none)
    {C WE0 fI : Addr} {nm0 q0 : Str} {N0 : Addr} {bs0 : List Value} {sn0 : List Str} {sub0 : List Value} {ab0 : Bool} {col0 : Option Bool} {dd0 : Option Addr} {mm0 mm1 mm2 mm3 mm5 : Option Value} {odI anI : Option Addr} {slI : Array (Option Value)} {ocI kVI dcI pmI cdI ctI : Value}
    (xA : PySem.W.nsIn K mainGlobals "NoLink" = some (some (.ref C))) (xW : PySem.W.nsIn K mainGlobals "WebError" = some (some (.ref WE0)))
    (xL : K.lookup C = some (PySem.excClassObj nm0 q0 C N0 bs0 [.ref WE0, .type "ValueError", .type "Exception", .type "BaseException", .type "object"] true sn0 sub0 ab0 col0 dd0 mm0 mm1 mm2 mm3 mm5 "ValueError.__new__"))
    (xs : PySem.W.findIn K (.ref C) "__setattr__" = some (some (.builtin "object.__setattr__"))) (xg : PySem.W.findIn K (.ref C) "__getattribute__" = some (some (.builtin "BaseException.__getattribute__"))) (xh : PySem.W.findIn K (.ref C) "__getattr__" = some none) (xn : PySem.W.findIn K (.ref C) "parent" = some none) (xm : PySem.W.findIn K (.ref C) "child" = some none)
    (xi : PySem.W.findIn K (.ref C) "__init__" = some (some (.ref fI))) (xt : PySem.W.typeIn K (.ref fI) = some (.type "function"))
    (xl : K.lookup fI = some ⟨ocI, odI, .func (PySem.W.fnOf "__init__" "NoLink.__init__" (defArgs sKinit) (defBody sKinit) (defScope sKinit) .none kVI dcI pmI anI cdI ctI), slI⟩) (xc : PySem.W.codeIn K cdI "NoLink.__init__" = true) (xk : PySem.W.keepIn K (.ref fI) = true)
    (yk : PySem.W.keepIn K (.ref C) = true) (ye : PySem.W.subIn K (.ref C) (.type "BaseException") = some true) (yt : PySem.W.typeIn K (.ref C) = some (.type "type")) (yh : PySem.W.hasDictIn K C = true) (yi : PySem.W.isClsIn K C = true) (yS : PySem.W.subIn K (.ref C) (.ref C) = some true)
    (wa : PySem.W.findIn K (.ref C) "__class__" = some (some (.builtin "object.__class__"))) (wn : PySem.W.specialIn K (.builtin "object.__class__") "__get__" = some (some (.builtin "getset_descriptor.__get__"))) (wt : PySem.W.takesIn K (.builtin "object.__class__") = some true) (wm : PySem.W.mroIn K C (.type "object") = some true)
    (wk : PySem.W.kitOne K (.ref C) (.ref WE0) = some true) (wv : PySem.W.kitOne K (.ref C) (.type "ValueError") = some true)
    : ∃ fd : FuncData, (∀ (s : Shared) (u : Value), BindsTo s fd ⟨[u], []⟩ [("_law_script", u)]) ∧ ∀ base : Heap, K.In base → base.Ns mainGlobals mg → RunsG l.prog w K mg base fa fd "_law_script" (spLaw K) := by
  have qO : OexC K C := ⟨⟨nm0, q0, N0, bs0, _, sn0, sub0, ab0, col0, dd0, mm0, mm1, mm2, mm3, mm5, xL, by first | rfl | (simp [PySem.HandSPX.refsVE])⟩, xs, ye, yt, yk⟩
  have qgE := PySem.W.mg_of X G xW
  have qgC := PySem.W.mg_of X G xA
  have FPI := fun_mk (st := sKinit) xl xc xk
  have bPI := FPI.binds (ps := ["self", "parent", "child"]) fun _ _ _ _ _ _ us hl => match us, hl with | [_, _, _], _ => rfl
  have e := hfa.symm.trans (PySem.W.mg_of X G a37)
  cases e
  have F1 := fun_mk (st := sIsInt) l1 c1 k1
  have b1 := F1.binds (ps := ["value"]) fun _ _ _ _ _ _ us hl => match us, hl with | [_], _ => rfl
  have g1 := PySem.W.mg_of X G a1
  have F2 := fun_mk (st := sBetw) l2 c2 k2
  have b2 := F2.binds (ps := ["value", "low", "high"]) fun _ _ _ _ _ _ us hl => match us, hl with | [_, _, _], _ => rfl
  have g2 := PySem.W.mg_of X G a2
  have F3 := fun_mk (st := sRoot) l3 c3 k3
  have b3 := F3.binds (ps := ["web"]) fun _ _ _ _ _ _ us hl => match us, hl with | [_], _ => rfl
  have g3 := PySem.W.mg_of X G a3
  have F4 := fun_mk (st := sKids) l4 c4 k4
  have b4 := F4.binds (ps := ["web", "kind"]) fun _ _ _ _ _ _ us hl => match us, hl with | [_, _], _ => rfl
  have g4 := PySem.W.mg_of X G a4
  have F5 := fun_mk (st := sPar) l5 c5 k5
  have b5 := F5.binds (ps := ["web", "kind"]) fun _ _ _ _ _ _ us hl => match us, hl with | [_, _], _ => rfl
  have g5 := PySem.W.mg_of X G a5
  have F6 := fun_mk (st := sIsMix) l6 c6 k6
  have b6 := F6.binds (ps := ["web", "kind"]) fun _ _ _ _ _ _ us hl => match us, hl with | [_, _], _ => rfl
  have g6 := PySem.W.mg_of X G a6
  have F7 := fun_mk (st := sRowsOf) l7 c7 k7
  have b7 := F7.binds (ps := ["web"]) fun _ _ _ _ _ _ us hl => match us, hl with | [_], _ => rfl
  have g7 := PySem.W.mg_of X G a7
  have F8 := fun_mk (st := sLeafRow) l8 c8 k8
  have b8 := F8.binds (ps := ["leaves", "leaf"]) fun _ _ _ _ _ _ us hl => match us, hl with | [_, _], _ => rfl
  have g8 := PySem.W.mg_of X G a8
  have F9 := fun_mk (st := s_form) l9 c9 k9
  have b9 := F9.binds (ps := ["web"]) fun _ _ _ _ _ _ us hl => match us, hl with | [_], _ => rfl
  have g9 := PySem.W.mg_of X G a9
  have F10 := fun_mk (st := s_in_row_order) l10 c10 k10
  have b10 := F10.binds (ps := ["web"]) fun _ _ _ _ _ _ us hl => match us, hl with | [_], _ => rfl
  have g10 := PySem.W.mg_of X G a10
  have F11 := fun_mk (st := s_with_numbers) l11 c11 k11
  have b11 := F11.binds (ps := ["item", "numbers"]) fun _ _ _ _ _ _ us hl => match us, hl with | [_, _], _ => rfl
  have g11 := PySem.W.mg_of X G a11
  have F12 := fun_mk (st := s_draft_of) l12 c12 k12
  have b12 := F12.binds (ps := ["web"]) fun _ _ _ _ _ _ us hl => match us, hl with | [_], _ => rfl
  have g12 := PySem.W.mg_of X G a12
  have F13 := fun_mk (st := s_web_of_draft) l13 c13 k13
  have b13 := F13.binds (ps := ["draft"]) fun _ _ _ _ _ _ us hl => match us, hl with | [_], _ => rfl
  have g13 := PySem.W.mg_of X G a13
  have F14 := fun_mk (st := s_upward) l14 c14 k14
  have b14 := F14.binds (ps := ["draft"]) fun _ _ _ _ _ _ us hl => match us, hl with | [_], _ => rfl
  have g14 := PySem.W.mg_of X G a14
  have F15 := fun_mk (st := s_struck) l15 c15 k15
  have b15 := F15.binds (ps := ["web", "parent", "child"]) fun _ _ _ _ _ _ us hl => match us, hl with | [_, _, _], _ => rfl
  have g15 := PySem.W.mg_of X G a15
  have F16 := fun_mk (st := s_is_link) l16 c16 k16
  have b16 := F16.binds (ps := ["web", "parent", "child"]) fun _ _ _ _ _ _ us hl => match us, hl with | [_, _, _], _ => rfl
  have g16 := PySem.W.mg_of X G a16
  have F17 := fun_mk (st := s_thin_kind) l17 c17 k17
  have b17 := F17.binds (ps := ["draft"]) fun _ _ _ _ _ _ us hl => match us, hl with | [_], _ => rfl
  have g17 := PySem.W.mg_of X G a17
  have F18 := fun_mk (st := s_put_for_child) l18 c18 k18
  have b18 := F18.binds (ps := ["draft", "kind", "child", "other"]) fun _ _ _ _ _ _ us hl => match us, hl with | [_, _, _, _], _ => rfl
  have g18 := PySem.W.mg_of X G a18
  have F19 := fun_mk (st := sDeck) l19 c19 k19
  have b19 := F19.binds (ps := ["_law_script"]) fun _ _ _ _ _ _ us hl => match us, hl with | [_], _ => rfl
  have g19 := PySem.W.mg_of X G a19
  have F20 := fun_mk (st := sDraw) l20 c20 k20
  have b20 := F20.binds (ps := ["_law_deck_here", "_law_many"]) fun _ _ _ _ _ _ us hl => match us, hl with | [_, _], _ => rfl
  have g20 := PySem.W.mg_of X G a20
  have F21 := fun_mk (st := sOne) l21 c21 k21
  have b21 := F21.binds (ps := ["_law_deck_here", "_law_items"]) fun _ _ _ _ _ _ us hl => match us, hl with | [_, _], _ => rfl
  have g21 := PySem.W.mg_of X G a21
  have F22 := fun_mk (st := sLTree) l22 c22 k22
  have b22 := F22.binds (ps := ["_law_deck_here", "_law_leaves"]) fun _ _ _ _ _ _ us hl => match us, hl with | [_, _], _ => rfl
  have g22 := PySem.W.mg_of X G a22
  have F23 := fun_mk (st := sUps) l23 c23 k23
  have b23 := F23.binds (ps := ["_law_kids_here", "_law_kind"]) fun _ _ _ _ _ _ us hl => match us, hl with | [_, _], _ => rfl
  have g23 := PySem.W.mg_of X G a23
  have F24 := fun_mk (st := sDown) l24 c24 k24
  have b24 := F24.binds (ps := ["_law_kids_here", "_law_kind"]) fun _ _ _ _ _ _ us hl => match us, hl with | [_, _], _ => rfl
  have g24 := PySem.W.mg_of X G a24
  have F25 := fun_mk (st := sLMix) l25 c25 k25
  have b25 := F25.binds (ps := ["_law_deck_here", "_law_kids_here"]) fun _ _ _ _ _ _ us hl => match us, hl with | [_, _], _ => rfl
  have g25 := PySem.W.mg_of X G a25
  have F26 := fun_mk (st := sNumb) l26 c26 k26
  have b26 := F26.binds (ps := ["_law_deck_here", "_law_kids_here", "_law_leaves"]) fun _ _ _ _ _ _ us hl => match us, hl with | [_, _, _], _ => rfl
  have g26 := PySem.W.mg_of X G a26
  have F27 := fun_mk (st := sLKids) l27 c27 k27
  have b27 := F27.binds (ps := ["_law_deck_here", "_law_leaves", "_law_mixes"]) fun _ _ _ _ _ _ us hl => match us, hl with | [_, _, _], _ => rfl
  have g27 := PySem.W.mg_of X G a27
  have F28 := fun_mk (st := sLWeb) l28 c28 k28
  have b28 := F28.binds (ps := ["_law_deck_here", "_law_most", "_law_mixes"]) fun _ _ _ _ _ _ us hl => match us, hl with | [_, _, _], _ => rfl
  have g28 := PySem.W.mg_of X G a28
  have F29 := fun_mk (st := sLists) l29 c29 k29
  have b29 := F29.binds (ps := ["_law_web_here"]) fun _ _ _ _ _ _ us hl => match us, hl with | [_], _ => rfl
  have g29 := PySem.W.mg_of X G a29
  have F30 := fun_mk (st := s_law_mixed) l30 c30 k30
  have b30 := F30.binds (ps := ["_law_web_here"]) fun _ _ _ _ _ _ us hl => match us, hl with | [_], _ => rfl
  have g30 := PySem.W.mg_of X G a30
  have F31 := fun_mk (st := s_law_opened) l31 c31 k31
  have b31 := F31.binds (ps := ["_law_web_here"]) fun _ _ _ _ _ _ us hl => match us, hl with | [_], _ => rfl
  have g31 := PySem.W.mg_of X G a31
  have F32 := fun_mk (st := s_law_uppers) l32 c32 k32
  have b32 := F32.binds (ps := ["_law_down_here", "_law_kind"]) fun _ _ _ _ _ _ us hl => match us, hl with | [_, _], _ => rfl
  have g32 := PySem.W.mg_of X G a32
  have F33 := fun_mk (st := s_law_row) l33 c33 k33
  have b33 := F33.binds (ps := ["_law_down_here", "_law_leaves", "_law_kind"]) fun _ _ _ _ _ _ us hl => match us, hl with | [_, _, _], _ => rfl
  have g33 := PySem.W.mg_of X G a33
  have F34 := fun_mk (st := s_law_form) l34 c34 k34
  have b34 := F34.binds (ps := ["_law_down_here", "_law_leaves"]) fun _ _ _ _ _ _ us hl => match us, hl with | [_, _], _ => rfl
  have g34 := PySem.W.mg_of X G a34
  have F35 := fun_mk (st := s_law_struck) l35 c35 k35
  have b35 := F35.binds (ps := ["_law_web_here", "_law_parent", "_law_child"]) fun _ _ _ _ _ _ us hl => match us, hl with | [_, _, _], _ => rfl
  have g35 := PySem.W.mg_of X G a35
  have F36 := fun_mk (st := s_law_links) l36 c36 k36
  have b36 := F36.binds (ps := ["_law_web_here"]) fun _ _ _ _ _ _ us hl => match us, hl with | [_], _ => rfl
  have g36 := PySem.W.mg_of X G a36
  have F37 := fun_mk (st := sLaw) l37 c37 k37
  have q_list := PySem.W.mg_none_of X G z1
  have q_int := PySem.W.mg_none_of X G z2
  have q_abs := PySem.W.mg_none_of X G z3
  have q_len := PySem.W.mg_none_of X G z4
  have q_range := PySem.W.mg_none_of X G z5
  have q_min := PySem.W.mg_none_of X G z6
  have q_dict := PySem.W.mg_none_of X G z7
  have q_tuple := PySem.W.mg_none_of X G z8
  have q_sorted := PySem.W.mg_none_of X G z9
  have q_enumerate := PySem.W.mg_none_of X G z10
  have q_sum := PySem.W.mg_none_of X G z11
  have q_isinstance := PySem.W.mg_none_of X G z12
  have q_bool := PySem.W.mg_none_of X G z13
  have q_repr := PySem.W.mg_none_of X G z14
  refine ⟨PySem.W.fnOf "law" "law" (defArgs sLaw) (defBody sLaw) (defScope sLaw) .none kV37 dc37 pm37 an37 cd37 ct37, fun s v => .of_eq rfl, fun base _ _ => ?_⟩
  have GPI := ok_kinit (P := l.prog) (w := w) (mg := mg) (base := base) FPI qO xn xm
  have G19 := ok_deck (P := l.prog) (w := w) (mg := mg) (base := base) F19 q_list
  have G20 := ok_draw (P := l.prog) (w := w) (mg := mg) (base := base) F20 q_int q_abs q_len
  have G21 := ok_one (P := l.prog) (w := w) (mg := mg) (base := base) F21 F20 b20 g20 q_len G20
  have G22 := ok_tree (P := l.prog) (w := w) (mg := mg) (base := base) F22 F20 b20 g20 F21 b21 g21 q_range q_list q_len q_min G20 G21
  have G23 := ok_ups (P := l.prog) (w := w) (mg := mg) (base := base) F23 q_range q_len
  have G24 := ok_down (P := l.prog) (w := w) (mg := mg) (base := base) F24
  have G25 := ok_mix (P := l.prog) (w := w) (mg := mg) (base := base) F25 F20 b20 g20 F21 b21 g21 F23 b23 g23 F24 b24 g24 q_range q_len G20 G21 G23 G24
  have G27 := ok_lkids (P := l.prog) (w := w) (mg := mg) (base := base) F27 F20 b20 g20 F22 b22 g22 F25 b25 g25 q_range q_len G20 G22 G25
  have G26 := ok_numb (P := l.prog) (w := w) (mg := mg) (base := base) F26 F21 b21 g21 q_range q_list q_len q_dict q_tuple q_sorted G21
  have G28 := ok_lweb (P := l.prog) (w := w) (mg := mg) (base := base) F28 F20 b20 g20 F27 b27 g27 F26 b26 g26 G20 G27 G26
  have G29 := ok_listsK (P := l.prog) (w := w) (mg := mg) (base := base) F29 q_range q_list
  have G30 := ok_lmixed (P := l.prog) (w := w) (mg := mg) (base := base) F30 F29 b29 g29 F23 b23 g23 q_range q_len G29 G23
  have G36 := ok_llinks (P := l.prog) (w := w) (mg := mg) (base := base) F36 F30 b30 g30 G30
  have G31 := ok_lopened (P := l.prog) (w := w) (mg := mg) (base := base) F31 F29 b29 g29 q_list q_enumerate q_dict G29
  have G32 := ok_luppers (P := l.prog) (w := w) (mg := mg) (base := base) F32
  have G33 := ok_lrow (P := l.prog) (w := w) (mg := mg) (base := base) F33 F33 b33 g33 q_range q_tuple q_sum q_int
  have G34 := ok_lform (P := l.prog) (w := w) (mg := mg) (base := base) F34 F33 b33 g33 F32 b32 g32 q_range q_tuple q_len q_sorted q_dict G33 G32
  have G35 := ok_lstruck (P := l.prog) (w := w) (mg := mg) (base := base) F35 F31 b31 g31 F32 b32 g32 F34 b34 g34 q_len G31 G32 G34
  have G1 := ok_isInt (P := l.prog) (w := w) (mg := mg) (base := base) F1 q_isinstance q_int q_bool
  have G2 := ok_betw (P := l.prog) (w := w) (mg := mg) (base := base) F2 F1 b1 g1 G1
  have G3 := ok_root (P := l.prog) (w := w) (mg := mg) (base := base) F3 q_len
  have G4 := ok_kids (P := l.prog) (w := w) (mg := mg) (base := base) F4
  have G16 := ok_islink (P := l.prog) (w := w) (mg := mg) (base := base) F16 F2 b2 g2 F3 b3 g3 F4 b4 g4 G2 G3 G4
  have G5 := ok_par (P := l.prog) (w := w) (mg := mg) (base := base) F5 F3 b3 g3 F4 b4 g4 q_range q_tuple G3 G4
  have G6 := ok_ismix (P := l.prog) (w := w) (mg := mg) (base := base) F6 F5 b5 g5 q_len G5
  have G12 := ok_draftof (P := l.prog) (w := w) (mg := mg) (base := base) F12 F3 b3 g3 F4 b4 g4 q_range q_list G3 G4
  have G17 := ok_thin (P := l.prog) (w := w) (mg := mg) (base := base) F17 q_len
  have G18 := ok_pfc (P := l.prog) (w := w) (mg := mg) (base := base) F18
  have G14 := ok_upward (P := l.prog) (w := w) (mg := mg) (base := base) F14 q_len
  have G8 := ok_leafrow (P := l.prog) (w := w) (mg := mg) (base := base) F8 q_range q_tuple
  have G7 := ok_rowsof (P := l.prog) (w := w) (mg := mg) (base := base) F7 F8 b8 g8 q_range q_tuple q_sum G8
  have G10 := ok_iro (P := l.prog) (w := w) (mg := mg) (base := base) F10 F7 b7 g7 q_range q_len q_sorted G7
  have G11 := ok_with (P := l.prog) (w := w) (mg := mg) (base := base) F11 q_tuple q_sorted
  have G9 := ok_form (P := l.prog) (w := w) (mg := mg) (base := base) F9 F10 b10 g10 F3 b3 g3 F4 b4 g4 F11 b11 g11 q_range q_list q_enumerate q_tuple G10 G3 G4 G11
  have G13 := ok_wod (P := l.prog) (w := w) (mg := mg) (base := base) F13 F14 b14 g14 F9 b9 g9 q_len q_enumerate q_tuple q_sorted G14 G9
  have G15X := ok_struck (P := l.prog) (w := w) (mg := mg) (base := base) F15 F16 b16 g16 F6 b6 g6 F12 b12 g12 F17 b17 g17 F18 b18 g18 F13 b13 g13 qO xi xt bPI qgC q_list GPI G16 G6 G12 G17 G18 G13
  exact runs_law F37 F19 b19 g19 F28 b28 g28 F36 b36 g36 F35 b35 g35 F15 b15 g15 q_range q_repr G19 G28 G36 G35 G15X
end WR
open PySem PySem.W PyProof.Rows
set_option maxHeartbeats 0 in
theorem PySem.Challenge.cw_wayrows_k54_links_struck_holds : PySem.Challenge.rw_wayrows_k54_links_struck.Holds := by
  w_on; o_law; k_head; (case hw => w_witness2)
  k_fill
  refine WR.walk_ofG (l := PySem.Challenge.rw_wayrows_k54_links_struck) (n := 63) (x := "_law_script") (sp := WR.spLaw) rfl (by decide) rfl (fun w h Y => PySem.W.kIn_of Y) ?F (fun _ _ a ns hl _ hS => ⟨a, ns, rfl, hS, hl, fun _ => rfl⟩)
  case F =>
    intro w mg fa h KX G hmg
    refine' WR.all_mk KX G hmg ?a1 ?l1 ?c1 ?k1 ?a2 ?l2 ?c2 ?k2 ?a3 ?l3 ?c3 ?k3 ?a4 ?l4 ?c4 ?k4 ?a5 ?l5 ?c5 ?k5 ?a6 ?l6 ?c6 ?k6 ?a7 ?l7 ?c7 ?k7 ?a8 ?l8 ?c8 ?k8 ?a9 ?l9 ?c9 ?k9 ?a10 ?l10 ?c10 ?k10 ?a11 ?l11 ?c11 ?k11 ?a12 ?l12 ?c12 ?k12 ?a13 ?l13 ?c13 ?k13 ?a14 ?l14 ?c14 ?k14 ?a15 ?l15 ?c15 ?k15 ?a16 ?l16 ?c16 ?k16 ?a17 ?l17 ?c17 ?k17 ?a18 ?l18 ?c18 ?k18 ?a19 ?l19 ?c19 ?k19 ?a20 ?l20 ?c20 ?k20 ?a21 ?l21 ?c21 ?k21 ?a22 ?l22 ?c22 ?k22 ?a23 ?l23 ?c23 ?k23 ?a24 ?l24 ?c24 ?k24 ?a25 ?l25 ?c25 ?k25 ?a26 ?l26 ?c26 ?k26 ?a27 ?l27 ?c27 ?k27 ?a28 ?l28 ?c28 ?k28 ?a29 ?l29 ?c29 ?k29 ?a30 ?l30 ?c30 ?k30 ?a31 ?l31 ?c31 ?k31 ?a32 ?l32 ?c32 ?k32 ?a33 ?l33 ?c33 ?k33 ?a34 ?l34 ?c34 ?k34 ?a35 ?l35 ?c35 ?k35 ?a36 ?l36 ?c36 ?k36 ?a37 ?l37 ?c37 ?k37 ?z1 ?z2 ?z3 ?z4 ?z5 ?z6 ?z7 ?z8 ?z9 ?z10 ?z11 ?z12 ?z13 ?z14 ?xA ?xW ?xL ?xs ?xg ?xh ?xn ?xm ?xi ?xt ?xl ?xc ?xk ?yk ?ye ?yt ?yh ?yi ?yS ?wa ?wn ?wt ?wm ?wk ?wv
    (case a1 => k_is)
    (case l1 => k_is)
    (case c1 => k_is)
    (case k1 => k_is)
    (case a2 => k_is)
    (case l2 => k_is)
    (case c2 => k_is)
    (case k2 => k_is)
    (case a3 => k_is)
    (case l3 => k_is)
    (case c3 => k_is)
    (case k3 => k_is)
    (case a4 => k_is)
    (case l4 => k_is)
    (case c4 => k_is)
    (case k4 => k_is)
    (case a5 => k_is)
    (case l5 => k_is)
    (case c5 => k_is)
    (case k5 => k_is)
    (case a6 => k_is)
    (case l6 => k_is)
    (case c6 => k_is)
    (case k6 => k_is)
    (case a7 => k_is)
    (case l7 => k_is)
    (case c7 => k_is)
    (case k7 => k_is)
    (case a8 => k_is)
    (case l8 => k_is)
    (case c8 => k_is)
    (case k8 => k_is)
    (case a9 => k_is)
    (case l9 => k_is)
    (case c9 => k_is)
    (case k9 => k_is)
    (case a10 => k_is)
    (case l10 => k_is)
    (case c10 => k_is)
    (case k10 => k_is)
    (case a11 => k_is)
    (case l11 => k_is)
    (case c11 => k_is)
    (case k11 => k_is)
    (case a12 => k_is)
    (case l12 => k_is)
    (case c12 => k_is)
    (case k12 => k_is)
    (case a13 => k_is)
    (case l13 => k_is)
    (case c13 => k_is)
    (case k13 => k_is)
    (case a14 => k_is)
    (case l14 => k_is)
    (case c14 => k_is)
    (case k14 => k_is)
    (case a15 => k_is)
    (case l15 => k_is)
    (case c15 => k_is)
    (case k15 => k_is)
    (case a16 => k_is)
    (case l16 => k_is)
    (case c16 => k_is)
    (case k16 => k_is)
    (case a17 => k_is)
    (case l17 => k_is)
    (case c17 => k_is)
    (case k17 => k_is)
    (case a18 => k_is)
    (case l18 => k_is)
    (case c18 => k_is)
    (case k18 => k_is)
    (case a19 => k_is)
    (case l19 => k_is)
    (case c19 => k_is)
    (case k19 => k_is)
    (case a20 => k_is)
    (case l20 => k_is)
    (case c20 => k_is)
    (case k20 => k_is)
    (case a21 => k_is)
    (case l21 => k_is)
    (case c21 => k_is)
    (case k21 => k_is)
    (case a22 => k_is)
    (case l22 => k_is)
    (case c22 => k_is)
    (case k22 => k_is)
    (case a23 => k_is)
    (case l23 => k_is)
    (case c23 => k_is)
    (case k23 => k_is)
    (case a24 => k_is)
    (case l24 => k_is)
    (case c24 => k_is)
    (case k24 => k_is)
    (case a25 => k_is)
    (case l25 => k_is)
    (case c25 => k_is)
    (case k25 => k_is)
    (case a26 => k_is)
    (case l26 => k_is)
    (case c26 => k_is)
    (case k26 => k_is)
    (case a27 => k_is)
    (case l27 => k_is)
    (case c27 => k_is)
    (case k27 => k_is)
    (case a28 => k_is)
    (case l28 => k_is)
    (case c28 => k_is)
    (case k28 => k_is)
    (case a29 => k_is)
    (case l29 => k_is)
    (case c29 => k_is)
    (case k29 => k_is)
    (case a30 => k_is)
    (case l30 => k_is)
    (case c30 => k_is)
    (case k30 => k_is)
    (case a31 => k_is)
    (case l31 => k_is)
    (case c31 => k_is)
    (case k31 => k_is)
    (case a32 => k_is)
    (case l32 => k_is)
    (case c32 => k_is)
    (case k32 => k_is)
    (case a33 => k_is)
    (case l33 => k_is)
    (case c33 => k_is)
    (case k33 => k_is)
    (case a34 => k_is)
    (case l34 => k_is)
    (case c34 => k_is)
    (case k34 => k_is)
    (case a35 => k_is)
    (case l35 => k_is)
    (case c35 => k_is)
    (case k35 => k_is)
    (case a36 => k_is)
    (case l36 => k_is)
    (case c36 => k_is)
    (case k36 => k_is)
    (case a37 => k_is)
    (case l37 => k_is)
    (case c37 => k_is)
    (case k37 => k_is)
    (case z1 => k_is)
    (case z2 => k_is)
    (case z3 => k_is)
    (case z4 => k_is)
    (case z5 => k_is)
    (case z6 => k_is)
    (case z7 => k_is)
    (case z8 => k_is)
    (case z9 => k_is)
    (case z10 => k_is)
    (case z11 => k_is)
    (case z12 => k_is)
    (case z13 => k_is)
    (case z14 => k_is)
    (case xA => k_is)
    (case xW => k_is)
    (case xL => k_is)
    (case xs => k_is)
    (case xg => k_is)
    (case xh => k_is)
    (case xn => k_is)
    (case xm => k_is)
    (case xi => k_is)
    (case xt => k_is)
    (case xl => k_is)
    (case xc => k_is)
    (case xk => k_is)
    (case yk => k_is)
    (case ye => k_is)
    (case yt => k_is)
    (case yh => k_is)
    (case yi => k_is)
    (case yS => first | rfl | k_is)
    (case wa => k_is)
    (case wn => k_is)
    (case wt => k_is)
    (case wm => k_is)
    (case wk => first | rfl | k_is)
    (case wv => first | rfl | k_is)
